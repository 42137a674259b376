import Derived.Test.YtjjggefmmeminacGreatJBase
import Derived.Test.YtjjggefmmeminacGreatRows
import Derived.ProofKit
import Derived.Deep.Strs
import Derived.Test.YtjjggefmmeminacGreatChSee
import Derived.Lib.SmallJoins
import Derived.Test.YtjjggefmmeminacGreatJMt
namespace Go.Proofs.YtjjggefmmeminacGreat
open Go.ChangeShapes Go.WideShapes Go.ChangeAt Go.RowKit Go.Deep
theorem Tryz.own:ownKnob Tryz.prog.godebug=none:=by kernel_rfl
theorem Tryz.laidOut:laidOutB Tryz.prog=true:=by kernel_rfl
theorem Tryz.cells66:Tryz.prog.cellsOf 66=3:=by kernel_rfl
theorem Tryz.cells70:Tryz.prog.cellsOf 70=2:=by kernel_rfl
theorem Tryz.cells9:Tryz.prog.cellsOf 9=1:=by kernel_rfl
theorem Tryz.cells3:Tryz.prog.cellsOf 3=1:=by kernel_rfl
theorem Tryz.cells68:Tryz.prog.cellsOf 68=1:=by kernel_rfl
theorem list2 {cs:List Value} (h:cs.length=2):∃ c0 c1,cs = [c0,c1]:=by
 match cs,h with
 | [c0,c1],_=>exact ⟨c0,c1,rfl⟩
theorem list3 {cs:List Value} (h:cs.length=3):∃ c0 c1 c2,cs = [c0,c1,c2]:=by
 match cs,h with
 | [c0,c1,c2],_=>exact ⟨c0,c1,c2,rfl⟩
section
variable {H:Type} {enc:TypeId × Value→H} {w:World} {base:Nat} {spare:Nat→Bool} {held:Bool}
theorem open_field {fuel:Nat} {cs:List Value} {x:DataW H × List MemPlace} (h:DataW.trod enc Tryz.prog w base spare held fuel 66 cs=some x) :
  ∃ f:LField,cs = [.string f.name,.int .i64 f.kind,.string f.type]∧Small f.name∧Small f.type∧(Lit.int .i64 f.kind).wf=true:=by
 obtain ⟨y0,y1,y2,m,-,hl,h0,h1,h2⟩:=trod_struct3 Tryz.underlying66 h
 rw [Tryz.cells66] at hl
 obtain ⟨c0,c1,c2,rfl⟩:=list3 hl
 focus
  simp [Tryz.cells9,Tryz.cells3] at h0 h1 h2
  obtain ⟨s0,e0,-,q0⟩:=DataW.trod_string Tryz.underlying9 h0
  obtain ⟨k,e1,-,q1⟩:=DataW.trod_int Tryz.underlying3 h1
  obtain ⟨s2,e2,-,q2⟩:=DataW.trod_string Tryz.underlying9 h2
  simp at e0 e1 e2
  exact ⟨⟨s0,k,s2⟩,by simp [e0,e1,e2],q0,q2,q1⟩
theorem open_els {α:Type} (d:α) {t e k:Nat} (ht:Tryz.prog.underlying t=some (.slice e)) (hc:Tryz.prog.cellsOf e=k) (hk:0 < k) (f:α→List Value) (good:α→Prop)
  (each:∀ {fuel:Nat} {cs:List Value} {x:DataW H × List MemPlace},DataW.trod enc Tryz.prog w base spare held fuel e cs=some x→∃ y:α,cs=f y∧good y)
  {fuel:Nat} {cs:List Value} {x:DataW H × List MemPlace} (h:DataW.trod enc Tryz.prog w base spare held fuel t cs=some x) :
  ∃ (a:Option Addr) (n cap:Nat) (F:Nat→α),cs = [.slice a n cap]∧n≤cap∧n≤maxLen∧∀ i,i < n→∃ b o,a=some ⟨b,o,none⟩∧(∀ j,j < k→w.cell? ⟨b,o + i * k + j,none⟩=(f (F i))[j]?)∧good (F i):=by
 rcases open_slice ht h with ⟨rfl,-⟩ | ⟨a,len,cap,m,n,D,Pl,rfl,-,hl,hm,hmm,-,hx⟩
 ·exact ⟨none,0,0,fun _=>d,rfl,Nat.le_refl _,Nat.zero_le _,fun i hi=>absurd hi (Nat.not_lt_zero _)⟩
 ·have hlm:len≤m:=by rw [hmm]; split <;> omega
  rw [hc] at hx
  haveI:Inhabited α:=⟨d⟩
  obtain ⟨F,hF⟩:=choose_lt (α:=α) (n:=len) (p:=fun i y=>w.cells? base (a.add (i * k)) k=some (f y)∧good y) (fun i hi=>by
   obtain ⟨cs',h1,h2⟩:=hx i (by omega)
   obtain ⟨y,rfl,hy⟩:=each h2
   exact ⟨y,h1,hy⟩)
  refine ⟨some a,len,cap,F,rfl,hl,Nat.le_trans hl hm,fun i hi=>?_⟩
  obtain ⟨b,o,spot⟩:=a
  obtain ⟨h1,h2⟩:=hF i hi
  obtain ⟨-,hlen,hcell⟩:=World.cells?_some h1
  have hspot:spot=none:=by
   obtain ⟨-,hlen0,hcell0⟩:=World.cells?_some (hF 0 (by omega)).1
   have h3:=hcell0 0 hk
   rw [List.getElem?_eq_getElem (by omega)] at h3
   simpa [Addr.add] using World.cell?_spot h3
  subst hspot
  refine ⟨b,o,rfl,fun j hj=>?_,h2⟩
  rw [← hcell j hj,add_plain,add_plain]
theorem open_fields {fuel:Nat} {cs:List Value} {x:DataW H × List MemPlace} (h:DataW.trod enc Tryz.prog w base spare held fuel 68 cs=some x) :
  ∃ (a:Option Addr) (n cap:Nat) (F:Nat→LField),cs = [.slice a n cap]∧n≤cap∧FieldsAt w a n F:=by
 obtain ⟨a,n,cap,F,rfl,hl,hm,hF⟩:=open_els ⟨ByteArray.empty,0,ByteArray.empty⟩ Tryz.underlying68 Tryz.cells66 (by decide) (fun f:LField=>[.string f.name,.int .i64 f.kind,.string f.type]) (fun f=>Small f.name∧Small f.type∧(Lit.int .i64 f.kind).wf=true) (fun h=>open_field h) h
 refine ⟨a,n,cap,F,rfl,hl,hm,fun i hi=>?_⟩
 obtain ⟨b,o,ha,hc,hg⟩:=hF i hi
 exact ⟨b,o,ha,by simpa using hc 0 (by decide),by simpa using hc 1 (by decide),by simpa using hc 2 (by decide),hg⟩
theorem open_type {fuel:Nat} {cs:List Value} {x:DataW H × List MemPlace} (h:DataW.trod enc Tryz.prog w base spare held fuel 70 cs=some x) :
  ∃ t:LType,cs = [.string t.name,.slice t.fa t.nf t.fcap]∧t.nf≤t.fcap∧Small t.name∧FieldsAt w t.fa t.nf t.F:=by
 obtain ⟨y0,y1,m,-,hl,h0,h1⟩:=trod_struct2 Tryz.underlying70 h
 rw [Tryz.cells70] at hl
 obtain ⟨c0,c1,rfl⟩:=list2 hl
 focus
  simp [Tryz.cells9,Tryz.cells68] at h0 h1
  obtain ⟨s0,e0,-,q0⟩:=DataW.trod_string Tryz.underlying9 h0
  obtain ⟨a,n,cap,F,e1,q1,q2⟩:=open_fields h1
  simp at e0 e1
  exact ⟨⟨s0,a,n,cap,F⟩,by simp [e0,e1],q1,q0,q2⟩
end
end Go.Proofs.YtjjggefmmeminacGreat
namespace Go.Proofs.YtjjggefmmeminacGreat
open Go.ChangeShapes Go.WideShapes Go.ChangeAt Go.RowKit Go.Deep
theorem Tryz.cells59:Tryz.prog.cellsOf 59=3:=by kernel_rfl
theorem Tryz.cells62:Tryz.prog.cellsOf 62=3:=by kernel_rfl
theorem Tryz.cells60:Tryz.prog.cellsOf 60=1:=by kernel_rfl
theorem Tryz.cells33:Tryz.prog.cellsOf 33=1:=by kernel_rfl
section
variable {H:Type} {enc:TypeId × Value→H} {w:World} {base:Nat} {spare:Nat→Bool} {held:Bool}
theorem open_types {fuel:Nat} {cs:List Value} {x:DataW H × List MemPlace} (h:DataW.trod enc Tryz.prog w base spare held fuel 36 cs=some x) :
  ∃ (a:Option Addr) (n cap:Nat) (T:Nat→LType),cs = [.slice a n cap]∧n≤cap∧TypesAt w a n T:=by
 obtain ⟨a,n,cap,T,rfl,hl,hm,hT⟩:=open_els ⟨ByteArray.empty,none,0,0,fun _=>⟨ByteArray.empty,0,ByteArray.empty⟩⟩ Tryz.underlying36 Tryz.cells70 (by decide) (fun t:LType=>[.string t.name,.slice t.fa t.nf t.fcap]) (fun t=>t.nf≤t.fcap∧Small t.name∧FieldsAt w t.fa t.nf t.F) (fun h=>open_type h) h
 refine ⟨a,n,cap,T,rfl,hl,hm,fun i hi=>?_⟩
 obtain ⟨b,o,ha,hc,hg⟩:=hT i hi
 exact ⟨b,o,ha,by simpa using hc 0 (by decide),by simpa using hc 1 (by decide),hg⟩
theorem open_key {fuel:Nat} {cs:List Value} {x:DataW H × List MemPlace} (h:DataW.trod enc Tryz.prog w base spare held fuel 9 cs=some x) :
  ∃ s:ByteArray,cs = [.string s]∧Small s:=by
 obtain ⟨s,e,-,q⟩:=DataW.trod_string Tryz.underlying9 h
 exact ⟨s,e,q⟩
theorem open_keys {fuel:Nat} {cs:List Value} {x:DataW H × List MemPlace} (h:DataW.trod enc Tryz.prog w base spare held fuel 33 cs=some x) :
  ∃ (a:Option Addr) (n cap:Nat) (K:Nat→ByteArray),cs = [.slice a n cap]∧n≤cap∧KeysAt w a n K:=by
 obtain ⟨a,n,cap,K,rfl,hl,hm,hK⟩:=open_els ByteArray.empty Tryz.underlying33 Tryz.cells9 (by decide) (fun s:ByteArray=>[.string s]) (fun s=>Small s) (fun h=>open_key h) h
 refine ⟨a,n,cap,K,rfl,hl,hm,fun i hi=>?_⟩
 obtain ⟨b,o,ha,hc,hg⟩:=hK i hi
 exact ⟨b,o,ha,by simpa using hc 0 (by decide),hg⟩
theorem open_val {fuel:Nat} {cs:List Value} {x:DataW H × List MemPlace} (h:DataW.trod enc Tryz.prog w base spare held fuel 59 cs=some x) :
  ∃ v:LVal,cs = [.string v.field,.string v.text,.slice v.ka v.nk v.kcap]∧v.nk≤v.kcap∧Small v.field∧Small v.text∧KeysAt w v.ka v.nk v.K:=by
 obtain ⟨y0,y1,y2,m,-,hl,h0,h1,h2⟩:=trod_struct3 Tryz.underlying59 h
 rw [Tryz.cells59] at hl
 obtain ⟨c0,c1,c2,rfl⟩:=list3 hl
 focus
  simp [Tryz.cells9,Tryz.cells33] at h0 h1 h2
  obtain ⟨s0,e0,-,q0⟩:=DataW.trod_string Tryz.underlying9 h0
  obtain ⟨s1,e1,-,q1⟩:=DataW.trod_string Tryz.underlying9 h1
  obtain ⟨a,n,cap,K,e2,q2,q3⟩:=open_keys h2
  simp at e0 e1 e2
  exact ⟨⟨s0,s1,a,n,cap,K⟩,by simp [e0,e1,e2],q2,q0,q1,q3⟩
theorem open_vals {fuel:Nat} {cs:List Value} {x:DataW H × List MemPlace} (h:DataW.trod enc Tryz.prog w base spare held fuel 60 cs=some x) :
  ∃ (a:Option Addr) (n cap:Nat) (V:Nat→LVal),cs = [.slice a n cap]∧n≤cap∧ValsAt w a n V:=by
 obtain ⟨a,n,cap,V,rfl,hl,hm,hV⟩:=open_els ⟨ByteArray.empty,ByteArray.empty,none,0,0,fun _=>ByteArray.empty⟩ Tryz.underlying60 Tryz.cells59 (by decide) (fun v:LVal=>[.string v.field,.string v.text,.slice v.ka v.nk v.kcap]) (fun v=>v.nk≤v.kcap∧Small v.field∧Small v.text∧KeysAt w v.ka v.nk v.K) (fun h=>open_val h) h
 refine ⟨a,n,cap,V,rfl,hl,hm,fun i hi=>?_⟩
 obtain ⟨b,o,ha,hc,hg⟩:=hV i hi
 exact ⟨b,o,ha,by simpa using hc 0 (by decide),by simpa using hc 1 (by decide),by simpa using hc 2 (by decide),hg⟩
theorem open_thing {fuel:Nat} {cs:List Value} {x:DataW H × List MemPlace} (h:DataW.trod enc Tryz.prog w base spare held fuel 62 cs=some x) :
  ∃ x:LThing,cs = [.string x.type,.string x.key,.slice x.va x.nv x.vcap]∧x.nv≤x.vcap∧Small x.type∧Small x.key∧ValsAt w x.va x.nv x.V:=by
 obtain ⟨y0,y1,y2,m,-,hl,h0,h1,h2⟩:=trod_struct3 Tryz.underlying62 h
 rw [Tryz.cells62] at hl
 obtain ⟨c0,c1,c2,rfl⟩:=list3 hl
 focus
  simp [Tryz.cells9,Tryz.cells60] at h0 h1 h2
  obtain ⟨s0,e0,-,q0⟩:=DataW.trod_string Tryz.underlying9 h0
  obtain ⟨s1,e1,-,q1⟩:=DataW.trod_string Tryz.underlying9 h1
  obtain ⟨a,n,cap,V,e2,q2,q3⟩:=open_vals h2
  simp at e0 e1 e2
  exact ⟨⟨s0,s1,a,n,cap,V⟩,by simp [e0,e1,e2],q2,q0,q1,q3⟩
theorem open_things {fuel:Nat} {cs:List Value} {x:DataW H × List MemPlace} (h:DataW.trod enc Tryz.prog w base spare held fuel 38 cs=some x) :
  ∃ (a:Option Addr) (n cap:Nat) (X:Nat→LThing),cs = [.slice a n cap]∧n≤cap∧ThingsAt w a n X:=by
 obtain ⟨a,n,cap,X,rfl,hl,hm,hX⟩:=open_els ⟨ByteArray.empty,ByteArray.empty,none,0,0,fun _=>⟨ByteArray.empty,ByteArray.empty,none,0,0,fun _=>ByteArray.empty⟩⟩ Tryz.underlying38 Tryz.cells62 (by decide) (fun x:LThing=>[.string x.type,.string x.key,.slice x.va x.nv x.vcap]) (fun x=>x.nv≤x.vcap∧Small x.type∧Small x.key∧ValsAt w x.va x.nv x.V) (fun h=>open_thing h) h
 refine ⟨a,n,cap,X,rfl,hl,hm,fun i hi=>?_⟩
 obtain ⟨b,o,ha,hc,hg⟩:=hX i hi
 exact ⟨b,o,ha,by simpa using hc 0 (by decide),by simpa using hc 1 (by decide),by simpa using hc 2 (by decide),hg⟩
end
end Go.Proofs.YtjjggefmmeminacGreat
namespace Go.Proofs.YtjjggefmmeminacGreat
open Go.ChangeShapes Go.WideShapes Go.ChangeAt Go.RowKit Go.Deep
theorem Tryz.cells72:Tryz.prog.cellsOf 72=4:=by kernel_rfl
theorem list4 {cs:List Value} (h:cs.length=4):∃ c0 c1 c2 c3,cs = [c0,c1,c2,c3]:=by
 match cs,h with
 | [c0,c1,c2,c3],_=>exact ⟨c0,c1,c2,c3,rfl⟩
section
variable {H:Type} {enc:TypeId × Value→H} {w:World} {base:Nat} {spare:Nat→Bool} {held:Bool}
theorem open_change {fuel:Nat} {cs:List Value} {x:DataW H × List MemPlace} (h:DataW.trod enc Tryz.prog w base spare held fuel 72 cs=some x) :
  ∃ c:PChange,cs = [.int .i64 c.kind,.string c.type,.string c.field,.string c.to]∧Small c.type∧Small c.field∧Small c.to:=by
 obtain ⟨y0,y1,y2,y3,m,-,hl,h0,h1,h2,h3⟩:=Go.Joins.trod_struct4 Tryz.underlying72 h
 rw [Tryz.cells72] at hl
 obtain ⟨c0,c1,c2,c3,rfl⟩:=list4 hl
 simp [Tryz.cells9,Tryz.cells3] at h0 h1 h2 h3
 obtain ⟨k,e0,-,q0⟩:=DataW.trod_int Tryz.underlying3 h0
 obtain ⟨s1,e1,-,q1⟩:=DataW.trod_string Tryz.underlying9 h1
 obtain ⟨s2,e2,-,q2⟩:=DataW.trod_string Tryz.underlying9 h2
 obtain ⟨s3,e3,-,q3⟩:=DataW.trod_string Tryz.underlying9 h3
 simp at e0 e1 e2 e3
 exact ⟨⟨k,s1,s2,s3⟩,by simp [e0,e1,e2,e3],q1,q2,q3⟩
theorem open_changes {fuel:Nat} {cs:List Value} {x:DataW H × List MemPlace} (h:DataW.trod enc Tryz.prog w base spare held fuel 37 cs=some x) :
  ∃ (a:Option Addr) (n cap:Nat) (C:Nat→PChange),cs = [.slice a n cap]∧n≤cap∧ChangesAt w a n C:=by
 obtain ⟨a,n,cap,C,rfl,hl,hm,hC⟩:=open_els ⟨0,ByteArray.empty,ByteArray.empty,ByteArray.empty⟩ Tryz.underlying37 Tryz.cells72 (by decide) (fun c:PChange=>[.int .i64 c.kind,.string c.type,.string c.field,.string c.to]) (fun c=>Small c.type∧Small c.field∧Small c.to) (fun h=>open_change h) h
 refine ⟨a,n,cap,C,rfl,hl,hm,fun i hi=>?_⟩
 obtain ⟨b,o,ha,hc,hg⟩:=hC i hi
 exact ⟨b,o,ha,by simpa using hc 0 (by decide),by simpa using hc 1 (by decide),by simpa using hc 2 (by decide),by simpa using hc 3 (by decide),hg⟩
end
end Go.Proofs.YtjjggefmmeminacGreat
namespace Go.Proofs.YtjjggefmmeminacGreat
open Go.ChangeShapes Go.WideShapes Go.ChangeAt Go.RowKit Go.Deep
theorem Tryz.cells40:Tryz.prog.cellsOf 40=3:=by kernel_rfl
theorem Tryz.cells36:Tryz.prog.cellsOf 36=1:=by kernel_rfl
theorem Tryz.cells37:Tryz.prog.cellsOf 37=1:=by kernel_rfl
theorem Tryz.cells38:Tryz.prog.cellsOf 38=1:=by kernel_rfl
section
variable {H:Type} {enc:TypeId × Value→H} {w:World} {base:Nat} {spare:Nat→Bool} {held:Bool}
theorem open_service {fuel:Nat} {cs:List Value} {x:DataW H × List MemPlace} (h:DataW.trod enc Tryz.prog w base spare held fuel 40 cs=some x) :
  ∃ s:LServ,cs = [.slice s.ta s.nt s.tcap,.slice s.ca s.nc s.ccap,.slice s.xa s.nx s.xcap]∧ServOk w s:=by
 obtain ⟨y0,y1,y2,m,-,hl,h0,h1,h2⟩:=trod_struct3 Tryz.underlying40 h
 rw [Tryz.cells40] at hl
 obtain ⟨c0,c1,c2,rfl⟩:=list3 hl
 simp [Tryz.cells36,Tryz.cells37,Tryz.cells38] at h0 h1 h2
 obtain ⟨a0,n0,d0,T,e0,q0,r0⟩:=open_types h0
 obtain ⟨a1,n1,d1,C,e1,-,r1⟩:=open_changes h1
 obtain ⟨a2,n2,d2,X,e2,q2,r2⟩:=open_things h2
 simp at e0 e1 e2
 exact ⟨⟨a0,n0,d0,T,a1,n1,d1,C,a2,n2,d2,X⟩,by simp [e0,e1,e2],r0,r1,r2,q0,q2⟩
theorem open_services {fuel:Nat} {cs:List Value} {x:DataW H × List MemPlace} (h:DataW.trod enc Tryz.prog w base spare held fuel 22 cs=some x) :
  ∃ (a:Option Addr) (n cap:Nat) (V:Nat→LServ),cs = [.slice a n cap]∧n≤cap∧ServsAt w a n V:=by
 obtain ⟨a,n,cap,V,rfl,hl,hm,hV⟩:=open_els (⟨none,0,0,fun _=>⟨ByteArray.empty,none,0,0,fun _=>⟨ByteArray.empty,0,ByteArray.empty⟩⟩,none,0,0,fun _=>⟨0,ByteArray.empty,ByteArray.empty,ByteArray.empty⟩,none,0,0,fun _=>⟨ByteArray.empty,ByteArray.empty,none,0,0,fun _=>⟨ByteArray.empty,ByteArray.empty,none,0,0,fun _=>ByteArray.empty⟩⟩⟩:LServ) Tryz.underlying22 Tryz.cells40 (by decide) (fun s:LServ=>[.slice s.ta s.nt s.tcap,.slice s.ca s.nc s.ccap,.slice s.xa s.nx s.xcap]) (fun s=>ServOk w s) (fun h=>open_service h) h
 refine ⟨a,n,cap,V,rfl,hl,hm,fun i hi=>?_⟩
 obtain ⟨b,o,ha,hc,hg⟩:=hV i hi
 exact ⟨b,o,ha,by simpa using hc 0 (by decide),by simpa using hc 1 (by decide),by simpa using hc 2 (by decide),hg⟩
end
end Go.Proofs.YtjjggefmmeminacGreat
