import Derived.ProofKit
import Derived.Deep.Strs
import Derived.Lib.SmallJoins
import Derived.Test.YtjjggefmmeminabGreatJMt
namespace Go.Proofs.YtjjggefmmeminabGreat
open Go.ChangeShapes Go.WideShapes Go.ChangeAt Go.RowKit Go.Deep
theorem Tryz.own:ownKnob Tryz.prog.godebug=none:=by kernel_rfl
theorem Tryz.laidOut:laidOutB Tryz.prog=true:=by kernel_rfl
theorem Tryz.cells113:Tryz.prog.cellsOf 113=3:=by kernel_rfl
theorem Tryz.cells96:Tryz.prog.cellsOf 96=2:=by kernel_rfl
theorem Tryz.cells9:Tryz.prog.cellsOf 9=1:=by kernel_rfl
theorem Tryz.cells3:Tryz.prog.cellsOf 3=1:=by kernel_rfl
theorem Tryz.cells94:Tryz.prog.cellsOf 94=1:=by kernel_rfl
theorem UR{a:List Value}(h:a.length=2):∃c0 c1,a = [c0,c1]:=by
 match a,h with
 | [c0,c1],_=>exact⟨c0,c1,rfl⟩
theorem Nk{a:List Value}(h:a.length=3):∃c0 c1 c2,a = [c0,c1,c2]:=by
 match a,h with
 | [c0,c1,c2],_=>exact⟨c0,c1,c2,rfl⟩
section
variable {H:Type} {enc:TypeId × Value->H} {w:World} {base:Nat} {spare:Nat->Bool} {held:Bool}
theorem P6{a:Nat}{b:List Value}{x:DataW H × List MemPlace}(h:DataW.trod enc Tryz.prog w base spare held a 113 b=some x) :
  ∃f:LField,b = [.string f.name,.int .i64 f.kind,.string f.type]/\BY f.name/\BY f.type/\(Lit.int .i64 f.kind).wf=true:=by
 obtain⟨l,n,o,m,-,c,h0,h1,h2⟩:=trod_struct3 Tryz.underlying113 h;rw[Tryz.cells113]at c;obtain⟨c0,c1,c2,rfl⟩:=Nk c
 focus
  simp[Tryz.cells9,Tryz.cells3]at h0 h1 h2;obtain⟨s0,d,-,e⟩:=Ba Tryz.underlying9 h0;obtain⟨k,e1,-,g⟩:=DataW.trod_int Tryz.underlying3 h1;obtain⟨i,e2,-,j⟩:=Ba Tryz.underlying9 h2;simp at d e1 e2;exact⟨⟨s0,k,i⟩,by simp[d,e1,e2],e,j,g⟩
theorem F5{α:Type}(d:α){t e k:Nat}(E:Tryz.prog.underlying t=some (.slice e))(hc:Tryz.prog.cellsOf e=k)(hk:0<k)(f:α->List Value)(c:α->Prop)(s:∀{g:Nat} {u:List Value} {x:DataW H × List MemPlace},DataW.trod enc Tryz.prog w base spare held g e u=some x->∃y:α,u=f y/\c y){g:Nat}{u:List Value}{x:DataW H × List MemPlace}(h:DataW.trod enc Tryz.prog w base spare held g t u=some x) :
  ∃(a:Option Addr) (n cap:Nat) (F:Nat->α),u = [.slice a n cap]/\n<=cap/\n<=maxLen/\∀i,i<n->∃b o,a=some ⟨b,o,none⟩/\(∀j,j<k->w.cell? ⟨b,o+i*k+j,none⟩=(f (F i))[j]?)/\c (F i):=by
 rcases open_slice E h with⟨rfl,-⟩|⟨a,len,cap,m,n,D,L,rfl,-,B,G,z,-,hx⟩
 ·exact⟨none,0,0,λ_=>d,rfl,Aj _,Ai _,λi hi=>absurd hi (Ak _)⟩
 ·have I:len<=m:=by rw[z];split<;>omega
  rw[hc]at hx
  haveI:Inhabited α:=⟨d⟩
  obtain⟨F,hF⟩:=choose_lt (α:=α) (n:=len) (p:=λi y=>w.cells? base (a.add (i*k)) k=some (f y)/\c y) (λi hi=>by
   obtain⟨cs',h1,h2⟩:=hx i (by omega);obtain⟨y,rfl,J⟩:=s h2;exact⟨y,h1,J⟩)
  refine⟨some a,len,cap,F,rfl,B,Am B G,λi hi=>?_⟩;obtain⟨b,o,v⟩:=a;obtain⟨h1,h2⟩:=hF i hi;obtain⟨-,C,q⟩:=World.cells?_some h1;have r:v=none:=by
   obtain⟨-,A,l⟩:=World.cells?_some (hF 0 (by omega)).1;have h3:=l 0 hk;rw[AU (by omega)]at h3;simpa[Addr.add] using World.cell?_spot h3
  subst r;refine⟨b,o,rfl,λj K=>?_,h2⟩;rw[<-q j K,add_plain,add_plain]
theorem Nh{c:Nat}{d:List Value}{x:DataW H × List MemPlace}(h:DataW.trod enc Tryz.prog w base spare held c 94 d=some x) :
  ∃(a:Option Addr) (n cap:Nat) (F:Nat->LField),d = [.slice a n cap]/\n<=cap/\Cl w a n F:=by
 obtain⟨a,n,cap,F,rfl,e,g,hF⟩:=F5 ⟨ByteArray.empty,0,ByteArray.empty⟩ Tryz.underlying94 Tryz.cells113 (by decide) (λf:LField=>[.string f.name,.int .i64 f.kind,.string f.type]) (λf=>BY f.name/\BY f.type/\(Lit.int .i64 f.kind).wf=true) (λh=>P6 h) h;refine⟨a,n,cap,F,rfl,e,g,λi hi=>?_⟩;obtain⟨b,o,ha,hc,hg⟩:=hF i hi;exact⟨b,o,ha,by simpa using hc 0 (by decide),by simpa using hc 1 (by decide),by simpa using hc 2 (by decide),hg⟩
theorem RJ{b:Nat}{c:List Value}{x:DataW H × List MemPlace}(h:DataW.trod enc Tryz.prog w base spare held b 96 c=some x) :
  ∃t:LType,c = [.string t.name,.slice t.fa t.nf t.fcap]/\t.nf<=t.fcap/\BY t.name/\Cl w t.fa t.nf t.F:=by
 obtain⟨k,l,m,-,d,h0,h1⟩:=trod_struct2 Tryz.underlying96 h;rw[Tryz.cells96]at d;obtain⟨c0,c1,rfl⟩:=UR d
 focus
  simp[Tryz.cells9,Tryz.cells94]at h0 h1;obtain⟨s0,e,-,g⟩:=Ba Tryz.underlying9 h0;obtain⟨a,n,cap,F,e1,i,j⟩:=Nh h1;simp at e e1;exact⟨⟨s0,a,n,cap,F⟩,by simp[e,e1],i,g,j⟩
end
end Go.Proofs.YtjjggefmmeminabGreat
namespace Go.Proofs.YtjjggefmmeminabGreat
open Go.ChangeShapes Go.WideShapes Go.ChangeAt Go.RowKit Go.Deep
theorem Tryz.cells120:Tryz.prog.cellsOf 120=3:=by kernel_rfl
theorem Tryz.cells88:Tryz.prog.cellsOf 88=3:=by kernel_rfl
theorem Tryz.cells86:Tryz.prog.cellsOf 86=1:=by kernel_rfl
theorem Tryz.cells65:Tryz.prog.cellsOf 65=1:=by kernel_rfl
section
variable {H:Type} {enc:TypeId × Value->H} {w:World} {base:Nat} {spare:Nat->Bool} {held:Bool}
theorem Pb{c:Nat}{d:List Value}{x:DataW H × List MemPlace}(h:DataW.trod enc Tryz.prog w base spare held c 77 d=some x) :
  ∃(a:Option Addr) (n cap:Nat) (T:Nat->LType),d = [.slice a n cap]/\n<=cap/\Cs w a n T:=by
 obtain⟨a,n,cap,T,rfl,e,g,j⟩:=F5 ⟨ByteArray.empty,none,0,0,λ_=>⟨ByteArray.empty,0,ByteArray.empty⟩⟩ Tryz.underlying77 Tryz.cells96 (by decide) (λt:LType=>[.string t.name,.slice t.fa t.nf t.fcap]) (λt=>t.nf<=t.fcap/\BY t.name/\Cl w t.fa t.nf t.F) (λh=>RJ h) h;refine⟨a,n,cap,T,rfl,e,g,λi hi=>?_⟩;obtain⟨b,o,ha,hc,hg⟩:=j i hi;exact⟨b,o,ha,by simpa using hc 0 (by decide),by simpa using hc 1 (by decide),hg⟩
theorem Sp{a:Nat}{b:List Value}{x:DataW H × List MemPlace}(h:DataW.trod enc Tryz.prog w base spare held a 9 b=some x) :
  ∃s:ByteArray,b = [.string s]/\BY s:=by
 obtain⟨s,e,-,q⟩:=Ba Tryz.underlying9 h;exact⟨s,e,q⟩
theorem QQ{c:Nat}{d:List Value}{x:DataW H × List MemPlace}(h:DataW.trod enc Tryz.prog w base spare held c 65 d=some x) :
  ∃(a:Option Addr) (n cap:Nat) (K:Nat->ByteArray),d = [.slice a n cap]/\n<=cap/\CF w a n K:=by
 obtain⟨a,n,cap,K,rfl,e,g,j⟩:=F5 ByteArray.empty Tryz.underlying65 Tryz.cells9 (by decide) (λs:ByteArray=>[.string s]) (λs=>BY s) (λh=>Sp h) h;refine⟨a,n,cap,K,rfl,e,g,λi hi=>?_⟩;obtain⟨b,o,ha,hc,hg⟩:=j i hi;exact⟨b,o,ha,by simpa using hc 0 (by decide),hg⟩
theorem S2{b:Nat}{c:List Value}{x:DataW H × List MemPlace}(h:DataW.trod enc Tryz.prog w base spare held b 120 c=some x) :
  ∃v:LVal,c = [.string v.field,.string v.text,.slice v.ka v.nk v.kcap]/\v.nk<=v.kcap/\BY v.field/\BY v.text/\CF w v.ka v.nk v.K:=by
 obtain⟨l,o,p,m,-,d,h0,h1,h2⟩:=trod_struct3 Tryz.underlying120 h;rw[Tryz.cells120]at d;obtain⟨c0,c1,c2,rfl⟩:=Nk d
 focus
  simp[Tryz.cells9,Tryz.cells65]at h0 h1 h2;obtain⟨s0,e,-,g⟩:=Ba Tryz.underlying9 h0;obtain⟨s1,e1,-,i⟩:=Ba Tryz.underlying9 h1;obtain⟨a,n,cap,K,e2,j,k⟩:=QQ h2;simp at e e1 e2;exact⟨⟨s0,s1,a,n,cap,K⟩,by simp[e,e1,e2],j,g,i,k⟩
theorem QO{c:Nat}{d:List Value}{x:DataW H × List MemPlace}(h:DataW.trod enc Tryz.prog w base spare held c 86 d=some x) :
  ∃(a:Option Addr) (n cap:Nat) (V:Nat->LVal),d = [.slice a n cap]/\n<=cap/\Ec w a n V:=by
 obtain⟨a,n,cap,V,rfl,e,g,j⟩:=F5 ⟨ByteArray.empty,ByteArray.empty,none,0,0,λ_=>ByteArray.empty⟩ Tryz.underlying86 Tryz.cells120 (by decide) (λv:LVal=>[.string v.field,.string v.text,.slice v.ka v.nk v.kcap]) (λv=>v.nk<=v.kcap/\BY v.field/\BY v.text/\CF w v.ka v.nk v.K) (λh=>S2 h) h;refine⟨a,n,cap,V,rfl,e,g,λi hi=>?_⟩;obtain⟨b,o,ha,hc,hg⟩:=j i hi;exact⟨b,o,ha,by simpa using hc 0 (by decide),by simpa using hc 1 (by decide),by simpa using hc 2 (by decide),hg⟩
theorem OM{b:Nat}{c:List Value}{x:DataW H × List MemPlace}(h:DataW.trod enc Tryz.prog w base spare held b 88 c=some x) :
  ∃x:LThing,c = [.string x.type,.string x.key,.slice x.va x.nv x.vcap]/\x.nv<=x.vcap/\BY x.type/\BY x.key/\Ec w x.va x.nv x.V:=by
 obtain⟨l,o,p,m,-,d,h0,h1,h2⟩:=trod_struct3 Tryz.underlying88 h;rw[Tryz.cells88]at d;obtain⟨c0,c1,c2,rfl⟩:=Nk d
 focus
  simp[Tryz.cells9,Tryz.cells86]at h0 h1 h2;obtain⟨s0,e,-,g⟩:=Ba Tryz.underlying9 h0;obtain⟨s1,e1,-,i⟩:=Ba Tryz.underlying9 h1;obtain⟨a,n,cap,V,e2,j,k⟩:=QO h2;simp at e e1 e2;exact⟨⟨s0,s1,a,n,cap,V⟩,by simp[e,e1,e2],j,g,i,k⟩
theorem Nn{c:Nat}{d:List Value}{x:DataW H × List MemPlace}(h:DataW.trod enc Tryz.prog w base spare held c 79 d=some x) :
  ∃(a:Option Addr) (n cap:Nat) (X:Nat->LThing),d = [.slice a n cap]/\n<=cap/\CZ w a n X:=by
 obtain⟨a,n,cap,X,rfl,e,g,j⟩:=F5 ⟨ByteArray.empty,ByteArray.empty,none,0,0,λ_=>⟨ByteArray.empty,ByteArray.empty,none,0,0,λ_=>ByteArray.empty⟩⟩ Tryz.underlying79 Tryz.cells88 (by decide) (λx:LThing=>[.string x.type,.string x.key,.slice x.va x.nv x.vcap]) (λx=>x.nv<=x.vcap/\BY x.type/\BY x.key/\Ec w x.va x.nv x.V) (λh=>OM h) h;refine⟨a,n,cap,X,rfl,e,g,λi hi=>?_⟩;obtain⟨b,o,ha,hc,hg⟩:=j i hi;exact⟨b,o,ha,by simpa using hc 0 (by decide),by simpa using hc 1 (by decide),by simpa using hc 2 (by decide),hg⟩
end
end Go.Proofs.YtjjggefmmeminabGreat
namespace Go.Proofs.YtjjggefmmeminabGreat
open Go.ChangeShapes Go.WideShapes Go.ChangeAt Go.RowKit Go.Deep
theorem Tryz.cells160:Tryz.prog.cellsOf 160=4:=by kernel_rfl
theorem U0{a:List Value}(h:a.length=4):∃c0 c1 c2 c3,a = [c0,c1,c2,c3]:=by
 match a,h with
 | [c0,c1,c2,c3],_=>exact⟨c0,c1,c2,c3,rfl⟩
section
variable {H:Type} {enc:TypeId × Value->H} {w:World} {base:Nat} {spare:Nat->Bool} {held:Bool}
theorem OA{a:Nat}{b:List Value}{x:DataW H × List MemPlace}(h:DataW.trod enc Tryz.prog w base spare held a 160 b=some x) :
  ∃c:PChange,b = [.int .i64 c.kind,.string c.type,.string c.field,.string c.to]/\BY c.type/\BY c.field/\BY c.to:=by
 obtain⟨o,p,q,r,m,-,d,h0,h1,h2,h3⟩:=Go.Joins.trod_struct4 Tryz.underlying160 h;rw[Tryz.cells160]at d;obtain⟨c0,c1,c2,c3,rfl⟩:=U0 d;simp[Tryz.cells9,Tryz.cells3]at h0 h1 h2 h3;obtain⟨k,e,-,s⟩:=DataW.trod_int Tryz.underlying3 h0;obtain⟨s1,e1,-,g⟩:=Ba Tryz.underlying9 h1;obtain⟨i,e2,-,j⟩:=Ba Tryz.underlying9 h2;obtain⟨l,e3,-,n⟩:=Ba Tryz.underlying9 h3;simp at e e1 e2 e3;exact⟨⟨k,s1,i,l⟩,by simp[e,e1,e2,e3],g,j,n⟩
theorem Mn{d:Nat}{e:List Value}{x:DataW H × List MemPlace}(h:DataW.trod enc Tryz.prog w base spare held d 78 e=some x) :
  ∃(a:Option Addr) (n cap:Nat) (C:Nat->PChange),e = [.slice a n cap]/\n<=cap/\EI w a n C:=by
 obtain⟨a,n,cap,C,rfl,g,j,k⟩:=F5 ⟨0,ByteArray.empty,ByteArray.empty,ByteArray.empty⟩ Tryz.underlying78 Tryz.cells160 (by decide) (λc:PChange=>[.int .i64 c.kind,.string c.type,.string c.field,.string c.to]) (λc=>BY c.type/\BY c.field/\BY c.to) (λh=>OA h) h;refine⟨a,n,cap,C,rfl,g,j,λi hi=>?_⟩;obtain⟨b,o,ha,hc,hg⟩:=k i hi;exact⟨b,o,ha,by simpa using hc 0 (by decide),by simpa using hc 1 (by decide),by simpa using hc 2 (by decide),by simpa using hc 3 (by decide),hg⟩
end
end Go.Proofs.YtjjggefmmeminabGreat
namespace Go.Proofs.YtjjggefmmeminabGreat
open Go.ChangeShapes Go.WideShapes Go.ChangeAt Go.RowKit Go.Deep
theorem Tryz.cells81:Tryz.prog.cellsOf 81=3:=by kernel_rfl
theorem Tryz.cells77:Tryz.prog.cellsOf 77=1:=by kernel_rfl
theorem Tryz.cells78:Tryz.prog.cellsOf 78=1:=by kernel_rfl
theorem Tryz.cells79:Tryz.prog.cellsOf 79=1:=by kernel_rfl
section
variable {H:Type} {enc:TypeId × Value->H} {w:World} {base:Nat} {spare:Nat->Bool} {held:Bool}
theorem MO{a:Nat}{b:List Value}{x:DataW H × List MemPlace}(h:DataW.trod enc Tryz.prog w base spare held a 81 b=some x) :
  ∃s:LServ,b = [.slice s.ta s.nt s.tcap,.slice s.ca s.nc s.ccap,.slice s.xa s.nx s.xcap]/\ServOk w s:=by
 obtain⟨u,v,y,m,-,c,h0,h1,h2⟩:=trod_struct3 Tryz.underlying81 h;rw[Tryz.cells81]at c;obtain⟨c0,c1,c2,rfl⟩:=Nk c;simp[Tryz.cells77,Tryz.cells78,Tryz.cells79]at h0 h1 h2;obtain⟨e,g,d0,T,d,i,j⟩:=Pb h0;obtain⟨k,n1,l,C,e1,-,n⟩:=Mn h1;obtain⟨o,n2,p,X,e2,q,r⟩:=Nn h2;simp at d e1 e2;exact⟨⟨e,g,d0,T,k,n1,l,C,o,n2,p,X⟩,by simp[d,e1,e2],j,n,r,i,q⟩
theorem Lj{c:Nat}{d:List Value}{x:DataW H × List MemPlace}(h:DataW.trod enc Tryz.prog w base spare held c 22 d=some x) :
  ∃(a:Option Addr) (n cap:Nat) (V:Nat->LServ),d = [.slice a n cap]/\n<=cap/\Dc w a n V:=by
 obtain⟨a,n,cap,V,rfl,e,g,j⟩:=F5 (⟨none,0,0,λ_=>⟨ByteArray.empty,none,0,0,λ_=>⟨ByteArray.empty,0,ByteArray.empty⟩⟩,none,0,0,λ_=>⟨0,ByteArray.empty,ByteArray.empty,ByteArray.empty⟩,none,0,0,λ_=>⟨ByteArray.empty,ByteArray.empty,none,0,0,λ_=>⟨ByteArray.empty,ByteArray.empty,none,0,0,λ_=>ByteArray.empty⟩⟩⟩:LServ) Tryz.underlying22 Tryz.cells81 (by decide) (λs:LServ=>[.slice s.ta s.nt s.tcap,.slice s.ca s.nc s.ccap,.slice s.xa s.nx s.xcap]) (λs=>ServOk w s) (λh=>MO h) h;refine⟨a,n,cap,V,rfl,e,g,λi hi=>?_⟩;obtain⟨b,o,ha,hc,hg⟩:=j i hi;exact⟨b,o,ha,by simpa using hc 0 (by decide),by simpa using hc 1 (by decide),by simpa using hc 2 (by decide),hg⟩
end
end Go.Proofs.YtjjggefmmeminabGreat
