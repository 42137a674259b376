import Derived.Test.YtjjggefmmeminabGreatRmWrong
import Derived.Test.YtjjggefmmeminabGreatRfTypes
set_option maxRecDepth 100000
set_option maxHeartbeats 4000000
namespace Go.Proofs.YtjjggefmmeminabGreat
open Go.RowKit Go.Sort
def GV (name:ByteArray):List Value:=[.string name,.slice none 0 0,.slice none 0 0,.slice none 0 0]
def K0 (B:Nat) (x:Value) (w:World):Prop := ∃g,x= .slice (some ⟨g,0,none⟩) 0 0/\B<=g/\w.heap[g]? = some (.cells #[] 99 (0,0))
def Tu (B:Nat) (name:ByteArray) (x:Value) (w:World):Prop := ∃b,x= .slice (some ⟨b,0,none⟩) 1 1/\B<=b/\w.heap[b]? = some (.cells #[.string name,.slice none 0 0,.slice none 0 0,.slice none 0 0] 99 (0,0))
def Hr (B m:Nat) (f:Nat->Value) (x:Value) (w:World):Prop:=B9 w B 99 4 x m f
theorem K0.kept{B:Nat}{x:Value}{w w':World}(h:K0 B x w)(hb:Below w.heap.size w w'):K0 B x w':=let ⟨g,e,hg,ho⟩:=h;⟨g,e,hg,(hb.block _ (Ag ho)).trans ho⟩
theorem Tu.kept{B:Nat}{name:ByteArray}{x:Value}{w w':World}(h:Tu B name x w)(hb:Below w.heap.size w w'):Tu B name x w':=let ⟨g,e,hg,ho⟩:=h;⟨g,e,hg,(hb.block _ (Ag ho)).trans ho⟩
theorem Tu.grown{B g:Nat}{name:ByteArray}{x:Value}{w w':World}{c:Array Value}(h:Tu B name x w)(hg:w.grownBy w' (some g))(ho:w.heap[g]? = some (.cells c 99 (0,0)))(hc:c = #[]):Tu B name x w':=by
 obtain⟨b,e,hb,a⟩:=h;exact⟨b,e,hb,(hg.block b (Ag a) (λd=>by cases d;rw[a,hc]at ho;simp at ho)).trans a⟩
theorem P2{w:World}{B g:Nat}(hb:B<=g)(h:w.heap[g]? = some (.cells #[] 99 (0,0))):B9 w B 99 4 (.slice (some ⟨g,0,none⟩) 0 0) 0 (λ_=>undef) :=
 ⟨by simp,.inr ⟨g,0,#[],rfl,hb,h,Aj _,Ai _,rfl,by simp⟩⟩
def NQ (k:Nat):Nat:=if k=0 then 4 else if k=4 then 10 else if k=9 then 10 else if k=10 then 14 else 99
def rA (B bt n p:Nat) (v a b:Value) (name:ByteArray) (f:Nat->Value) (_:Nat->Bool) (k:Nat) (x:Value) (w:World):Prop:=match k with
 | 0=>K0 B x w
 | 1=>x=v
 | 2=>x= .int .i64 (p:Int)
 | 3=>x=a
 | 4=>Hr B p f x w
 | 5=>x= .pointer (some ⟨bt,0,none⟩)
 | 6=>x= .string name
 | 7=>x= .agg #[.string name,.slice none 0 0]
 | 8=>x= .agg #[.string name,.slice none 0 0,.slice none 0 0,.slice none 0 0]
 | 9=>Tu B name x w
 | 10=>Hr B (p+1) (C4 f p (GV name)) x w
 | 11=>x=v
 | 12=>x= .int .i64 (p:Int)
 | 13=>x=b
 | 14=>Hr B (n+1) (C4 f p (GV name)) x w
 | 15=>Hr B (n+1) (C4 f p (GV name)) x w
 | _=>True
theorem EJ{B bt n p:Nat}{v b c:Value}{name:ByteArray}{f : Nat->Value}{L d:Nat->Bool}(k:Nat){x:Value}{w w':World}(a:rA B bt n p v b c name f L k x w)(hb:Below w.heap.size w w'):rA B bt n p v b c name f d k x w':=by
 unfold rA at *;split
 ·exact a.kept hb
 ·exact a
 ·exact a
 ·exact a
 ·exact B9.kept a hb
 ·exact a
 ·exact a
 ·exact a
 ·exact a
 ·exact a.kept hb
 ·exact B9.kept a hb
 ·exact a
 ·exact a
 ·exact a
 ·exact B9.kept a hb
 ·exact B9.kept a hb
 ·trivial
theorem PO{B bt n p:Nat}{v d e:Value}{name:ByteArray}{f : Nat->Value}{L g:Nat->Bool}(k:Nat){x:Value}{w w':World}(a:rA B bt n p v d e name f L k x w)(h0:k=0->K0 B x w->K0 B x w')(h4:k=4->Hr B p f x w->Hr B p f x w')(h:k=9->Tu B name x w->Tu B name x w')(c:k=10->Hr B (p+1) (C4 f p (GV name)) x w->Hr B (p+1) (C4 f p (GV name)) x w')(b:k=14\/k=15->Hr B (n+1) (C4 f p (GV name)) x w->Hr B (n+1) (C4 f p (GV name)) x w'):rA B bt n p v d e name f g k x w':=by
 unfold rA at *;split
 ·exact h0 rfl a
 ·exact a
 ·exact a
 ·exact a
 ·exact h4 rfl a
 ·exact a
 ·exact a
 ·exact a
 ·exact a
 ·exact h rfl a
 ·exact c rfl a
 ·exact a
 ·exact a
 ·exact a
 ·exact b (.inl rfl) a
 ·exact b (.inr rfl) a
 ·trivial
theorem PR(f:Nat->Value)(p:Nat)(name:ByteArray):(List.range ((p+1)*4)).map (C4 f p (GV name))=(List.range (p*4)).map f++GV name:=by
 apply BH;intro q;unfold C4
 by_cases c1:q<p*4
 ·rw[Bt (by simpa using c1)]
  simp[c1,show q<(p+1)*4 by omega]
 ·rw[BJ (by simp;omega)]
  simp only[A6,Bu]
  by_cases c2:q<(p+1)*4
  ·have a:q - p*4<(GV name).length:=by show q - p*4<4;omega
   rw[AV,AQ c2,AU a];simp[c1,show q<p*4+4 by omega,List.getD,a]
  ·rw[Bg (by simp;omega),Bg (by show 4<=_;omega)]
theorem Po(f:Nat->Value){p n:Nat}(name:ByteArray)(h:p<=n):(List.range ((n+1)*4)).map (C4 f p (GV name))=(List.range ((p+1)*4)).map (C4 f p (GV name))++(List.range ((n - p)*4)).map (λq=>f (p*4+q)):=by
 apply BH;intro q
 by_cases c1:q<(p+1)*4
 ·rw[Bt (by simpa using c1)]
  simp[c1,show q<(n+1)*4 by omega]
 ·rw[BJ (by simp;omega)]
  simp only[A6,Bu]
  by_cases c2:q<(n+1)*4
  ·rw[AV,AQ c2,AV,AQ (by omega)]
   unfold C4;simp only[BC,show ¬q<p*4 by omega,show ¬q<p*4+4 by omega,Bd];congr 2;omega
  ·rw[Bg (by simp;omega),Bg (by simp;omega)]
theorem QT{w:World}{v:Value}{n p:Nat}{f : Nat->Value}(h:B9 w 0 99 4 v n f)(A:p<=n)(hn:n<=1000):∃k r l x,
  (∀(s:Nat->Value) (c:World) (o:Oper),o.op=Op.slice 37 (.tmp 85) none (some (.tmp 86)) none->s 85=v->s 86= .int .i64 (p:Int)->(execOp (BV s) o).run Tryz.prog c= .ok (.value (.slice k p r)) c) /\
  (∀(s:Nat->Value) (c:World) (o:Oper),o.op=Op.slice 37 (.tmp 95) (some (.tmp 96)) none none->s 95=v->s 96= .int .i64 (p:Int)->(execOp (BV s) o).run Tryz.prog c= .ok (.value (.slice l (n - p) x)) c) /\
  (∀w',Below w.heap.size w w'->(∀d,k=some d->∀j u,((List.range (p*4)).map f)[j]? = some u->w'.cell? (d.add j)=some u)/\(∀d,l=some d->∀j u,((List.range ((n - p)*4)).map (λq=>f (p*4+q)))[j]? = some u->w'.cell? (d.add j)=some u))/\(k=none->p=0)/\(l=none->n - p=0):=by
 rcases h.shape with⟨rfl,rfl⟩|⟨g,cap,rfl,-,hc,y⟩
 ·have m:p=0:=by omega
  subst m;refine⟨none,0,none,0,λs c o ho e1 e2=>?_,λs c o ho e1 e2=>?_,λw' _=>⟨λd h=>(by cases h),λd h=>(by cases h)⟩,λ_=>rfl,λ_=>rfl⟩
  ·have f1:BV s (.tmp 85)=_:=e1
   have e:BV s (.tmp 86)=_:=e2;simp only[execOp,ho,f1,e,BC,Option.map_none];go_simp
  ·have f1:BV s (.tmp 95)=_:=e1
   have e:BV s (.tmp 96)=_:=e2;simp only[execOp,ho,f1,e,BC,Option.map_none];go_simp
 ·have B:(0:Int)<=(p:Int):=by omega
  have C:(p:Int)<=(n:Int):=by omega
  have D:(p:Int)<=(cap:Int):=by omega
  have E:p<=cap:=by omega
  by_cases z:cap=p
  ·refine⟨some ⟨g,0,none⟩,cap,some ⟨g,0,none⟩,cap - p,λs c o ho e1 e2=>?_,λs c o ho e1 e2=>?_,λw' hb=>⟨λd a j u b=>?_,λd a j u b=>?_⟩,λa=>(by cases a),λa=>(by cases a)⟩
   ·have f1:BV s (.tmp 85)=_:=e1
    have e:BV s (.tmp 86)=_:=e2;simp only[execOp,ho,f1,e,BC,Option.map_none];go_simp
   ·have f1:BV s (.tmp 95)=_:=e1
    have e:BV s (.tmp 96)=_:=e2;simp only[execOp,ho,f1,e,BC,Option.map_none];go_simp
   ·cases a
    have i:j<p*4:=by have:=(List.getElem?_eq_some_iff.1 b).1;simpa using this
    rw[AV,AQ i]at b;rw[AO,AL];exact(BR hb (h.cell (j:=j) (by omega))).trans b
   ·have i:j<(n - p)*4:=by have:=(List.getElem?_eq_some_iff.1 b).1;simpa using this
    omega
  ·refine⟨some ⟨g,0,none⟩,cap,some ⟨g,p*4,none⟩,cap - p,λs c o ho e1 e2=>?_,λs c o ho e1 e2=>?_,λw' hb=>⟨λd a j u b=>?_,λd a j u b=>?_⟩,λa=>(by cases a),λa=>(by cases a)⟩
   ·have f1:BV s (.tmp 85)=_:=e1
    have e:BV s (.tmp 86)=_:=e2;simp only[execOp,ho,f1,e,BC,Option.map_none];go_simp
   ·have f1:BV s (.tmp 95)=_:=e1
    have e:BV s (.tmp 96)=_:=e2;simp only[execOp,ho,f1,e,BC,Option.map_none];go_simp
   ·cases a
    have i:j<p*4:=by have:=(List.getElem?_eq_some_iff.1 b).1;simpa using this
    rw[AV,AQ i]at b;rw[AO,AL];exact(BR hb (h.cell (j:=j) (by omega))).trans b
   ·cases a
    have i:j<(n - p)*4:=by have:=(List.getElem?_eq_some_iff.1 b).1;simpa using this
    rw[AV,AQ i]at b;rw[AO];exact(BR hb (h.cell (j:=p*4+j) (by omega))).trans b
structure TyAt (w:World) (bs:Nat) (s:LServ) (a2 a3:Option Addr) (j:Nat) (A:Option Addr) (Cp:Nat) (S:PSeen):Prop where
 box:w.heap[bs]? = some (.cells #[.slice s.ta s.nt s.tcap,.slice s.ca s.nc s.ccap,.slice s.xa s.nx s.xcap] 81 (0,0))
 own:∃b o,s.ta=some ⟨b,o,none⟩/\w.cell? ⟨b,o+j*2,none⟩=some (.string S.own)
 typ:∃g,a2=some ⟨g,0,none⟩/\w.cell? ⟨g,j*2,none⟩=some (.string S.name)/\w.cell? ⟨g,j*2+1,none⟩=some (.slice A S.nf Cp)
 fld:Cl w A S.nf S.F
 txt:∃g o c,a3=some ⟨g,0,none⟩/\w.cell? ⟨g,j,none⟩=some (.slice o S.nf c)/\CF w o S.nf S.O
theorem UM{B w':World}{d w:Nat}{s:LServ}{G H:Option Addr}{c2 c3:Nat}{A:Nat->Option Addr}{y:Nat->Nat}{z:Nat->Value}{txt:Nat->Nat->ByteArray}(C:w<=d)(n:B.heap[w]? = some (.cells #[.slice s.ta s.nt s.tcap,.slice s.ca s.nc s.ccap,.slice s.xa s.nx s.xcap] 81 (0,0)))(L:Cs w' s.ta s.nt s.T)(a:Rel s.nt s.T (B7 s) txt)(p:∀i,i<s.nt->Kq (B7 s i))(M:B9 B d 96 2 (.slice G s.nt c2) s.nt (DL (Is s.nt s.T txt A y)))(N:∀i,i<s.nt->B9 B d 113 3 (.slice (A i) (Cx s.T txt i).length (y i)) (Cx s.T txt i).length (B2 (λq=>Hx s.nt s.T txt i ((Cx s.T txt i).getD q 0))))(P:B9 B d 65 1 (.slice H s.nt c3) s.nt z)(Q:∀i,i<s.nt->B9 B d 9 1 (z i) (Cx s.T txt i).length (B3 (λq=>((s.T i).F ((Cx s.T txt i).getD q 0)).name)))(hk:∀b,w<=b->b<B.heap.size->w'.heap[b]? = B.heap[b]?):∀j,j<s.nt->TyAt w' w s G H j (A j) (y j) (B7 s j):=λj h=>by
 have l:∀{e size m:Nat} {u:Value} {f : Nat->Value},B9 B d e size u m f->B9 w' d e size u m f:=λD=>D.at λk x=>hk k (Am C (D.lt x).1) (D.lt x).2;have v:=a.nf j h;have hgd:=p j h;refine⟨(hk w (Aj _) (Ag n)).trans n,?_,?_,?_,?_⟩
 ·obtain⟨b,o,e,c,-⟩:=L.2 j h
  exact⟨b,o,e,by rw[a.own j h];exact c⟩
 ·have r:=l M
  rcases r.shape with⟨-,h0⟩|⟨g,cap,hv,-,-,-⟩
  ·omega
  cases hv;refine⟨g,rfl,?_,?_⟩
  ·rw[r.cell (j:=j*2) (by omega)]
   unfold DL;rw[Af (by omega),show j*2 / 2=j by omega,a.name j h];rfl
  ·rw[r.cell (j:=j*2+1) (by omega)]
   unfold DL;rw[Ae (by omega),show (j*2+1) / 2=j by omega,v];rfl
 ·have r:=l (N j h)
  rw[<-v]at r;have R:B9 w' d 113 3 (.slice (A j) (B7 s j).nf (y j)) (B7 s j).nf (B2 (B7 s j).F):=r.congr λq hq=>by
   have e:=a.F j h (q / 3) (by omega);unfold B2;rw[e]
  obtain⟨I,J,E,-,hF⟩:=R.fieldsAt hgd.2.2.1 hgd.2.2.2.1;cases E;exact hF
 ·have r:=l P
  rcases r.shape with⟨-,h0⟩|⟨g,cap,hv,-,-,-⟩
  ·omega
  cases hv;have K:=l (Q j h);rw[<-v]at K;have S:B9 w' d 9 1 (z j) (B7 s j).nf (B3 (B7 s j).O):=K.congr λq hq=>by
   have e:=a.O j h q (by omega);unfold B3;rw[e]
  obtain⟨I,J,E,-,U⟩:=S.keysAt hgd.2.2.1 hgd.2.2.2.2;exact⟨g,I,J,rfl,by rw[r.cell (j:=j) (by omega),E],U⟩
theorem GY{s:ByteArray}(h:Cb s=true):BY s:=by
 by_cases a:12<s.size
 ·unfold Cb at h;simp[a]at h
 ·unfold BY maxLen;omega
theorem Rm{w:World}{s:LServ}(hs:ServOk w s)(h:(JV s).1=0):∀i,i<s.nt->Kq (B7 s i):=λi hi=>by
 have d:=Dn h;have b:DB s.nt (B7 s):=D2 d s.nc;have a:Rel s.nt s.T (B7 s) (II s.nt (Cj s.nt s.T) (Co s.T) s.C s.nc):=J0 (C:=s.C) d s.nc;have hf:=b.fld i hi;obtain⟨_,_,_,_,_,_,l,hF⟩:=hs.types.2 i hi;have p:(B7 s i).nf<=10:=hf.few;refine⟨GY (b.nam i hi),by rw[a.own i hi];exact l,by unfold maxLen;omega,λj c=>?_,λj c=>?_⟩
 ·refine⟨GY (hf.nam j c),?_,?_⟩
  ·rcases hf.fit j c with⟨-,h2⟩|⟨-,k,hk,e⟩
   ·have h3:((B7 s i).F j).type.size=0:=h2
    unfold BY;rw[h3];exact Ai _
   ·have h3:=GY (b.nam k hk)
    have q:(B7 s k).name=((B7 s i).F j).type:=e;rw[<-q];exact h3
  ·rcases hf.fit j c with⟨h1,-⟩|⟨h1,-⟩
   ·have h2:((B7 s i).F j).kind=1:=h1
    rw[h2];rfl
   ·have h2:((B7 s i).F j).kind=2\/((B7 s i).F j).kind=3:=h1
    rcases h2 with h2|h2<;>rw[h2]<;>rfl
 ·have r:=a.O i hi j c
  have m:(B7 s i).O j=((s.T i).F ((Cx s.T (II s.nt (Cj s.nt s.T) (Co s.T) s.C s.nc) i).getD j 0)).name:=r;rw[m];have g:=a.nf i hi;have n:j<(Cx s.T (II s.nt (Cj s.nt s.T) (Co s.T) s.C s.nc) i).length:=by rw[<-g];exact c
  obtain⟨_,_,_,_,_,_,o,_⟩:=hF.2 _ (Ky n).1;exact o
end Go.Proofs.YtjjggefmmeminabGreat
namespace Go.Proofs.YtjjggefmmeminabGreat
open Go.RowKit Go.Sort Go.PlainAid
def U3:List Oper:=[
 ⟨some 149,.move (.tmp 15),50,"ref.go:313",#[],none⟩,
 ⟨some 150,.move (.tmp 15),50,"ref.go:313",#[],none⟩,
 ⟨some 151,.nilCheck (.tmp 150),0,"ref.go:313",#[⟨1,.data⟩],none⟩,
 ⟨some 152,.fieldAddr 99 (.tmp 151) 1,0,"ref.go:313",#[⟨2,.data⟩],none⟩,
 ⟨some 153,.load 97 (.tmp 152),97,"ref.go:313",#[⟨3,.data⟩],none⟩,
 ⟨some 154,.move (.tmp 6),3,"ref.go:313",#[],none⟩,
 ⟨some 155,.fieldAddr 81 (.tmp 7) 0,0,"ref.go:313",#[],none⟩,
 ⟨some 156,.load 77 (.tmp 155),77,"ref.go:313",#[⟨6,.data⟩],none⟩,
 ⟨some 157,.move (.tmp 12),3,"ref.go:313",#[],none⟩,
 ⟨some 158,.indexAddr 77 (.tmp 156) (.tmp 157),0,"ref.go:313",#[⟨7,.data⟩,⟨8,.data⟩],none⟩,
 ⟨some 159,.fieldAddr 96 (.tmp 158) 0,0,"ref.go:313",#[⟨9,.data⟩],none⟩,
 ⟨some 160,.load 9 (.tmp 159),9,"ref.go:313",#[⟨10,.data⟩],none⟩,
 ⟨some 161,.move (.tmp 11),105,"ref.go:313",#[],none⟩,
 ⟨some 162,.move (.tmp 12),3,"ref.go:313",#[],none⟩,
 ⟨some 163,.indexAddr 105 (.tmp 161) (.tmp 162),0,"ref.go:313",#[⟨12,.data⟩,⟨13,.data⟩],none⟩,
 ⟨some 164,.load 65 (.tmp 163),65,"ref.go:313",#[⟨14,.data⟩],none⟩,
 ⟨some 165,.move (.tmp 16),3,"ref.go:313",#[],none⟩,
 ⟨some 166,.indexAddr 65 (.tmp 164) (.tmp 165),0,"ref.go:313",#[⟨15,.data⟩,⟨16,.data⟩],none⟩,
 ⟨some 167,.load 9 (.tmp 166),9,"ref.go:313",#[⟨17,.data⟩],none⟩,
 ⟨some 168,.build 92 #[(0,.tmp 154),(1,.tmp 160),(2,.tmp 167)],92,"ref.go:313",#[⟨5,.data⟩,⟨11,.data⟩,⟨18,.data⟩],none⟩,
 ⟨some 169,.buildSlice 97 1 #[(0,.tmp 168)],97,"ref.go:313",#[⟨19,.data⟩],none⟩,
 ⟨some 170,.call { callee := Callee.builtin Builtin.append,args := #[.tmp 153,.tmp 169],argTypes := #[97,97] },97,"ref.go:313",#[⟨4,.data⟩,⟨20,.data⟩],none⟩,
 ⟨some 171,.nilCheck (.tmp 149),0,"ref.go:313",#[⟨0,.data⟩,⟨0,.phase⟩,⟨1,.phase⟩,⟨2,.phase⟩,⟨3,.phase⟩,⟨4,.phase⟩,⟨5,.phase⟩,⟨6,.phase⟩,⟨7,.phase⟩,⟨8,.phase⟩,⟨9,.phase⟩,⟨10,.phase⟩,⟨11,.phase⟩,⟨12,.phase⟩,⟨13,.phase⟩,⟨14,.phase⟩,⟨15,.phase⟩,⟨16,.phase⟩,⟨17,.phase⟩,⟨18,.phase⟩,⟨19,.phase⟩,⟨20,.phase⟩,⟨21,.phase⟩],none⟩,
 ⟨some 172,.fieldAddr 99 (.tmp 171) 1,0,"ref.go:313",#[⟨22,.data⟩,⟨0,.phase⟩,⟨1,.phase⟩,⟨2,.phase⟩,⟨3,.phase⟩,⟨4,.phase⟩,⟨5,.phase⟩,⟨6,.phase⟩,⟨7,.phase⟩,⟨8,.phase⟩,⟨9,.phase⟩,⟨10,.phase⟩,⟨11,.phase⟩,⟨12,.phase⟩,⟨13,.phase⟩,⟨14,.phase⟩,⟨15,.phase⟩,⟨16,.phase⟩,⟨17,.phase⟩,⟨18,.phase⟩,⟨19,.phase⟩,⟨20,.phase⟩,⟨21,.phase⟩],none⟩,
 ⟨none,.store 97 (.tmp 172) (.tmp 170),0,"ref.go:313",#[⟨23,.data⟩,⟨21,.data⟩,⟨21,.chain⟩,⟨0,.phase⟩,⟨1,.phase⟩,⟨2,.phase⟩,⟨3,.phase⟩,⟨4,.phase⟩,⟨5,.phase⟩,⟨6,.phase⟩,⟨7,.phase⟩,⟨8,.phase⟩,⟨9,.phase⟩,⟨10,.phase⟩,⟨11,.phase⟩,⟨12,.phase⟩,⟨13,.phase⟩,⟨14,.phase⟩,⟨15,.phase⟩,⟨16,.phase⟩,⟨17,.phase⟩,⟨18,.phase⟩,⟨19,.phase⟩,⟨20,.phase⟩,⟨21,.phase⟩],none⟩]
def QH (k:Nat):Nat:=if k=20 then 21 else if k=21 then 24 else 99
def UG (b:World) (n:Nat) (c a:List Value) (old v:Value) (w:World):Prop := ∃X,Below b.heap.size b X/\w.ownsRow 0 92 3 v (n+1) (c++a)/\X.grownBy w old.ownBlock/\(v.ownBlock=old.ownBlock\/v.ownBlock=some X.heap.size)
def oA (d:World) (gj o2 n:Nat) (e a:List Value) (old:Value) (c:List Value) (_:Nat->Bool) (k:Nat) (x:Value) (w:World):Prop :=
 if k=20 then ∃b,x= .slice (some ⟨b,0,none⟩) 1 1/\w.heap[b]? = some (.cells a.toArray 92 (0,0)) else
 if k=21 then UG d n e a old x w else
 if k=24 then ∃w' g,UG d n e a old g w'/\w=w'.setCell ⟨gj,o2,none⟩ g else x=c.getD k undef
theorem MI{c:World}{gj o2 n:Nat}{d a:List Value}{old:Value}{b:List Value}{L e:Nat->Bool}{k:Nat}{x:Value}{w w':World}(h0:k≠20)(h1:k≠21)(h2:k≠24)(h:oA c gj o2 n d a old b L k x w):oA c gj o2 n d a old b e k x w':=by
 unfold oA at *;rw[Ae h0,Ae h1,Ae h2] at *;exact h
theorem Lp{Q:Exit->Act->World->Prop}{M:Act}{D:World}{gj tt n H U ob oo m J E P to5 k3 R S q nf tc:Nat}{k:Int}{b2:Option Addr}{g C:ByteArray}{f : Nat->Value}{V:TypeInfo}(oi:Tryz.prog.info? 92=some V)(oz0:V.zero=some (.agg #[.int .i64 0,.string ⟨#[]⟩,.string ⟨#[]⟩]))(oz1:V.size=3)(oz2:V.bytes=40)(hsz : [149,150,151,152,153,154,155,156,157,158,159,160,161,162,163,164,165,166,167,168,169,170,171,172].all (λd=>decide (d<M.tmps.size))=true)(W:B4 M 15= .pointer (some ⟨gj,tt*4,none⟩))(s6:B4 M 6= .int .i64 k)(s7:B4 M 7= .pointer (some ⟨U,0,none⟩))(X:B4 M 12= .int .i64 (m:Int))(s11:B4 M 11= .slice (some ⟨P,to5,none⟩) J k3)(s16:B4 M 16= .int .i64 (q:Int))(hmt:m<J)(hqf:q<nf)(hn:n<=1000)(hR:B9 D 0 92 3 (.slice b2 n H) n f)(c2:D.cell? ⟨gj,tt*4+2,none⟩=some (.slice b2 n H))(cs:D.cell? ⟨U,0,none⟩=some (.slice (some ⟨ob,oo,none⟩) J E))(co:D.cell? ⟨ob,oo+m*2,none⟩=some (.string g))(ct:D.cell? ⟨P,to5+m,none⟩=some (.slice (some ⟨R,S,none⟩) nf tc))(cq:D.cell? ⟨R,S+q,none⟩=some (.string C))(hst:∀K w',UG D n ((List.range (n*3)).map f) [.int .i64 k,.string g,.string C] (.slice b2 n H) K w'->(∃u,w'.cell? ⟨gj,tt*4+2,none⟩=some u)/\w'.frozen? ⟨gj,tt*4+2,none⟩=false)(hQ:∀s w' K,UG D n ((List.range (n*3)).map f) [.int .i64 k,.string g,.string C] (.slice b2 n H) K w'->Q .normal (Cn M s [149,150,151,152,153,154,155,156,157,158,159,160,161,162,163,164,165,166,167,168,169,170,171,172]) (w'.setCell ⟨gj,tt*4+2,none⟩ K)) :
  (Code.region 26 U3.toArray true).wp Tryz.prog Q M D:=by
 have hm1:(m:Int)<(J:Int):=by omega
 have hm0:(0:Int)<=(m:Int):=by omega
 have hq1:(q:Int)<(nf:Int):=by omega
 have hq0:(0:Int)<=(q:Int):=by omega
 refine Cq (by kernel_rfl) (by kernel_rfl) [149,150,151,152,153,154,155,156,157,158,159,160,161,162,163,164,165,166,167,168,169,170,171,172] (by kernel_rfl) hsz (by kernel_rfl) QH (oA D gj (tt*4+2) n ((List.range (n*3)).map f) [.int .i64 k,.string g,.string C] (.slice b2 n H) [Value.pointer (some ⟨gj,tt*4,none⟩),Value.pointer (some ⟨gj,tt*4,none⟩),Value.pointer (some ⟨gj,tt*4,none⟩),Value.pointer (some ⟨gj,tt*4+2,none⟩),.slice b2 n H,.int .i64 k,Value.pointer (some ⟨U,0,none⟩),.slice (some ⟨ob,oo,none⟩) J E,.int .i64 (m:Int),Value.pointer (some ⟨ob,oo+m*2,none⟩),Value.pointer (some ⟨ob,oo+m*2,none⟩),.string g,.slice (some ⟨P,to5,none⟩) J k3,.int .i64 (m:Int),Value.pointer (some ⟨P,to5+m,none⟩),.slice (some ⟨R,S,none⟩) nf tc,.int .i64 (q:Int),Value.pointer (some ⟨R,S+q,none⟩),.string C,.agg #[.int .i64 k,.string g,.string C],undef,undef,Value.pointer (some ⟨gj,tt*4,none⟩),Value.pointer (some ⟨gj,tt*4+2,none⟩)]) (λL _ w=>L 21=false->Below D.heap.size D w) (λ_=>(Aq _ _).drew) ?_ ?_
 ·intro L p r i o x hL z y hF c T ha
  have l:L 99=false:=by
   cases h:L 99 with
   |false=>rfl
   |true=>exact absurd (hL 99 h) (by decide)
  have a:∀j,j≠21->DJ L j 21=false->L 21=false:=λj hj h=>by
   unfold DJ at h;simpa[Ne.symm hj] using h
  have u4:L 21=true->L 4=true:=λh=>z 21 _ h rfl ⟨4,.data⟩ (by simp) rfl;have I:L 21=true->L 20=true:=λh=>z 21 _ h rfl ⟨20,.data⟩ (by simp) rfl;have N:L 20=true->L 19=true:=λh=>z 20 _ h rfl ⟨19,.data⟩ (by simp) rfl;have Y:L 19=true->L 11=true:=λh=>z 19 _ h rfl ⟨11,.data⟩ (by simp) rfl;have Z:L 19=true->L 18=true:=λh=>z 19 _ h rfl ⟨18,.data⟩ (by simp) rfl;have u10:L 11=true->L 10=true:=λh=>z 11 _ h rfl ⟨10,.data⟩ (by simp) rfl;have u9:L 10=true->L 9=true:=λh=>z 10 _ h rfl ⟨9,.data⟩ (by simp) rfl;have u7:L 9=true->L 7=true:=λh=>z 9 _ h rfl ⟨7,.data⟩ (by simp) rfl;have u17:L 18=true->L 17=true:=λh=>z 18 _ h rfl ⟨17,.data⟩ (by simp) rfl;have u15:L 17=true->L 15=true:=λh=>z 17 _ h rfl ⟨15,.data⟩ (by simp) rfl;have aa:L 24=true->L 21=true:=λh=>z 24 _ h rfl ⟨21,.data⟩ (by simp) rfl;have B:∀j,(L 21=true->L j=true)->L j=false->L 21=false:=λj hj h=>by
   cases A:L 21 with
   |false=>rfl
   |true=>rw[hj A]at h;cases h
  obtain _|i:=i
  ·obtain rfl:=Ab c
   have e1:p 15=Value.pointer (some ⟨gj,tt*4,none⟩):=(hF 15 (by decide)).trans W;exact BU (v:=p 15) (w':=r) rfl ⟨λh=>x (a 0 (by decide) h),e1,λk _ _ _ h=>h⟩
  obtain _|i:=i
  ·obtain rfl:=Ab c
   have e1:p 15=Value.pointer (some ⟨gj,tt*4,none⟩):=(hF 15 (by decide)).trans W;exact BU (v:=p 15) (w':=r) rfl ⟨λh=>x (a 1 (by decide) h),e1,λk _ _ _ h=>h⟩
  obtain _|i:=i
  ·obtain rfl:=Ab c
   have e1:p 150=Value.pointer (some ⟨gj,tt*4,none⟩):=y 1 (ha ⟨1,.data⟩ (by simp) rfl) l;refine BU (v:=Value.pointer (some ⟨gj,tt*4,none⟩)) (w':=r) ?_ ⟨λh=>x (a 2 (by decide) h),rfl,λk _ _ _ h=>h⟩;simp only[execOp,BV,e1];go_simp
  obtain _|i:=i
  ·obtain rfl:=Ab c
   have e1:p 151=Value.pointer (some ⟨gj,tt*4,none⟩):=y 2 (ha ⟨2,.data⟩ (by simp) rfl) l;refine BU (v:=Value.pointer (some ⟨gj,tt*4+2,none⟩)) (w':=r) ?_ ⟨λh=>x (a 3 (by decide) h),rfl,λk _ _ _ h=>h⟩;simp only[execOp,BV,e1];go_simp
  obtain _|i:=i
  ·obtain rfl:=Ab c
   have e1:p 152=Value.pointer (some ⟨gj,tt*4+2,none⟩):=y 3 (ha ⟨3,.data⟩ (by simp) rfl) l;have cz:=BR (x (B 4 (u4) T)) c2;refine BU (v:=.slice b2 n H) (w':=r) ?_ ⟨λh=>x (a 4 (by decide) h),rfl,λk _ _ _ h=>h⟩;simp only[execOp,BV,e1];go_simp
  obtain _|i:=i
  ·obtain rfl:=Ab c
   have e1:p 6= .int .i64 k:=(hF 6 (by decide)).trans s6;exact BU (v:=p 6) (w':=r) rfl ⟨λh=>x (a 5 (by decide) h),e1,λk _ _ _ h=>h⟩
  obtain _|i:=i
  ·obtain rfl:=Ab c
   have e1:p 7=Value.pointer (some ⟨U,0,none⟩):=(hF 7 (by decide)).trans s7;refine BU (v:=Value.pointer (some ⟨U,0,none⟩)) (w':=r) ?_ ⟨λh=>x (a 6 (by decide) h),rfl,λk _ _ _ h=>h⟩;simp only[execOp,BV,e1];go_simp
  obtain _|i:=i
  ·obtain rfl:=Ab c
   have e1:p 155=Value.pointer (some ⟨U,0,none⟩):=y 6 (ha ⟨6,.data⟩ (by simp) rfl) l;have cz:=BR (x (B 7 (λh=>u7 (u9 (u10 (Y (N (I h)))))) T)) cs;refine BU (v:=.slice (some ⟨ob,oo,none⟩) J E) (w':=r) ?_ ⟨λh=>x (a 7 (by decide) h),rfl,λk _ _ _ h=>h⟩;simp only[execOp,BV,e1];go_simp
  obtain _|i:=i
  ·obtain rfl:=Ab c
   have e1:p 12= .int .i64 (m:Int):=(hF 12 (by decide)).trans X;exact BU (v:=p 12) (w':=r) rfl ⟨λh=>x (a 8 (by decide) h),e1,λk _ _ _ h=>h⟩
  obtain _|i:=i
  ·obtain rfl:=Ab c
   have e1:p 156= .slice (some ⟨ob,oo,none⟩) J E:=y 7 (ha ⟨7,.data⟩ (by simp) rfl) l;have e2:p 157= .int .i64 (m:Int):=y 8 (ha ⟨8,.data⟩ (by simp) rfl) l;refine BU (v:=Value.pointer (some ⟨ob,oo+m*2,none⟩)) (w':=r) ?_ ⟨λh=>x (a 9 (by decide) h),rfl,λk _ _ _ h=>h⟩;simp only[execOp,BV,e1,e2];go_simp
  obtain _|i:=i
  ·obtain rfl:=Ab c
   have e1:p 158=Value.pointer (some ⟨ob,oo+m*2,none⟩):=y 9 (ha ⟨9,.data⟩ (by simp) rfl) l;refine BU (v:=Value.pointer (some ⟨ob,oo+m*2,none⟩)) (w':=r) ?_ ⟨λh=>x (a 10 (by decide) h),rfl,λk _ _ _ h=>h⟩;simp only[execOp,BV,e1];go_simp
  obtain _|i:=i
  ·obtain rfl:=Ab c
   have e1:p 159=Value.pointer (some ⟨ob,oo+m*2,none⟩):=y 10 (ha ⟨10,.data⟩ (by simp) rfl) l;have cz:=BR (x (B 11 (λh=>Y (N (I h))) T)) co;refine BU (v:=.string g) (w':=r) ?_ ⟨λh=>x (a 11 (by decide) h),rfl,λk _ _ _ h=>h⟩;simp only[execOp,BV,e1];go_simp
  obtain _|i:=i
  ·obtain rfl:=Ab c
   have e1:p 11= .slice (some ⟨P,to5,none⟩) J k3:=(hF 11 (by decide)).trans s11;exact BU (v:=p 11) (w':=r) rfl ⟨λh=>x (a 12 (by decide) h),e1,λk _ _ _ h=>h⟩
  obtain _|i:=i
  ·obtain rfl:=Ab c
   have e1:p 12= .int .i64 (m:Int):=(hF 12 (by decide)).trans X;exact BU (v:=p 12) (w':=r) rfl ⟨λh=>x (a 13 (by decide) h),e1,λk _ _ _ h=>h⟩
  obtain _|i:=i
  ·obtain rfl:=Ab c
   have e1:p 161= .slice (some ⟨P,to5,none⟩) J k3:=y 12 (ha ⟨12,.data⟩ (by simp) rfl) l;have e2:p 162= .int .i64 (m:Int):=y 13 (ha ⟨13,.data⟩ (by simp) rfl) l;refine BU (v:=Value.pointer (some ⟨P,to5+m,none⟩)) (w':=r) ?_ ⟨λh=>x (a 14 (by decide) h),rfl,λk _ _ _ h=>h⟩;simp only[execOp,BV,e1,e2];go_simp
  obtain _|i:=i
  ·obtain rfl:=Ab c
   have e1:p 163=Value.pointer (some ⟨P,to5+m,none⟩):=y 14 (ha ⟨14,.data⟩ (by simp) rfl) l;have cz:=BR (x (B 15 (λh=>u15 (u17 (Z (N (I h))))) T)) ct;refine BU (v:=.slice (some ⟨R,S,none⟩) nf tc) (w':=r) ?_ ⟨λh=>x (a 15 (by decide) h),rfl,λk _ _ _ h=>h⟩;simp only[execOp,BV,e1];go_simp
  obtain _|i:=i
  ·obtain rfl:=Ab c
   have e1:p 16= .int .i64 (q:Int):=(hF 16 (by decide)).trans s16;exact BU (v:=p 16) (w':=r) rfl ⟨λh=>x (a 16 (by decide) h),e1,λk _ _ _ h=>h⟩
  obtain _|i:=i
  ·obtain rfl:=Ab c
   have e1:p 164= .slice (some ⟨R,S,none⟩) nf tc:=y 15 (ha ⟨15,.data⟩ (by simp) rfl) l;have e2:p 165= .int .i64 (q:Int):=y 16 (ha ⟨16,.data⟩ (by simp) rfl) l;refine BU (v:=Value.pointer (some ⟨R,S+q,none⟩)) (w':=r) ?_ ⟨λh=>x (a 17 (by decide) h),rfl,λk _ _ _ h=>h⟩;simp only[execOp,BV,e1,e2];go_simp
  obtain _|i:=i
  ·obtain rfl:=Ab c
   have e1:p 166=Value.pointer (some ⟨R,S+q,none⟩):=y 17 (ha ⟨17,.data⟩ (by simp) rfl) l;have cz:=BR (x (B 18 (λh=>Z (N (I h))) T)) cq;refine BU (v:=.string C) (w':=r) ?_ ⟨λh=>x (a 18 (by decide) h),rfl,λk _ _ _ h=>h⟩;simp only[execOp,BV,e1];go_simp
  obtain _|i:=i
  ·obtain rfl:=Ab c
   have e1:p 154= .int .i64 k:=y 5 (ha ⟨5,.data⟩ (by simp) rfl) l;have e2:p 160= .string g:=y 11 (ha ⟨11,.data⟩ (by simp) rfl) l;have e3:p 167= .string C:=y 18 (ha ⟨18,.data⟩ (by simp) rfl) l;refine BU (v:=.agg #[.int .i64 k,.string g,.string C]) (w':=r) ?_ ⟨λh=>x (a 19 (by decide) h),rfl,λk _ _ _ h=>h⟩;simp only[execOp,AJ,AG,AI,BV,e1,e2,e3];go_simp
  obtain _|i:=i
  ·obtain rfl:=Ab c
   have e1:p 168= .agg #[.int .i64 k,.string g,.string C]:=y 19 (ha ⟨19,.data⟩ (by simp) rfl) l;have A:=B 20 I T;have hB:=x A;have hb:=BW r (Obj.cells #[.int .i64 k,.string g,.string C] 92);refine BU (v:=.slice (some ⟨r.heap.size,0,none⟩) 1 1) (w':=r.alloc (.cells #[.int .i64 k,.string g,.string C] 92)) ?_ ⟨λ_=>hB.trans (hb.mono hB.size),⟨r.heap.size,rfl,Ap _ _⟩,λk hk G _ h=>MI hk (λe=>by subst e;rw[A]at G;cases G) (λe=>by subst e;rw[aa G]at A;cases A) h⟩;simp only[execOp,AJ,AG,AI,BV,e1];go_simp
  obtain _|i:=i
  ·obtain rfl:=Ab c
   have F:L 21=false:=T;have hB:=x F;have e1:p 153= .slice b2 n H:=y 4 (ha ⟨4,.data⟩ (by simp) rfl) l;obtain⟨b,e2,hbo⟩:∃b,p 169= .slice (some ⟨b,0,none⟩) 1 1/\r.heap[b]? = some (.cells #[.int .i64 k,.string g,.string C] 92 (0,0)):=y 20 (ha ⟨20,.data⟩ (by simp) rfl) F;refine Ek (.tmp 153) (.tmp 169) 97 rfl 0 92 V _ 3 40 Tryz.underlying97 oi oz0 oz1 oz2 rfl (by decide) (.slice b2 n H) n _ e1 (hR.kept hB) (some ⟨b,0,none⟩) 1 1 [.int .i64 k,.string g,.string C] e2 rfl (IQ hbo) (λh=>by cases h) (by intro u hu;simp at hu;rcases hu with rfl|rfl|rfl<;>rfl) (by unfold maxLen;omega) (by omega) (Ai _) ?_
   intro K w' ab hgr hvb;refine⟨λh=>(by unfold DJ at h;simp at h),⟨r,hB,ab,hgr,hvb⟩,λk hk G O h=>MI (λe=>?_) hk (λe=>by subst e;rw[aa G]at F;cases F) h⟩;subst e;exact absurd O (by unfold Fc DJ QH;simp)
  obtain _|i:=i
  ·obtain rfl:=Ab c
   have e1:p 149=Value.pointer (some ⟨gj,tt*4,none⟩):=y 0 (ha ⟨0,.data⟩ (by simp) rfl) l;refine BU (v:=Value.pointer (some ⟨gj,tt*4,none⟩)) (w':=r) ?_ ⟨λh=>x (a 22 (by decide) h),rfl,λk _ _ _ h=>h⟩;simp only[execOp,BV,e1];go_simp
  obtain _|i:=i
  ·obtain rfl:=Ab c
   have e1:p 171=Value.pointer (some ⟨gj,tt*4,none⟩):=y 22 (ha ⟨22,.data⟩ (by simp) rfl) l;refine BU (v:=Value.pointer (some ⟨gj,tt*4+2,none⟩)) (w':=r) ?_ ⟨λh=>x (a 23 (by decide) h),rfl,λk _ _ _ h=>h⟩;simp only[execOp,BV,e1];go_simp
  obtain _|i:=i
  ·obtain rfl:=Ab c
   have A:L 21=true:=ha ⟨21,.data⟩ (by simp) rfl;have e1:p 172=Value.pointer (some ⟨gj,tt*4+2,none⟩):=y 23 (ha ⟨23,.data⟩ (by simp) rfl) l;have hr:UG D n ((List.range (n*3)).map f) [.int .i64 k,.string g,.string C] (.slice b2 n H) (p 170) r:=y 21 A T;obtain⟨⟨u,hu⟩,hfz⟩:=hst _ _ hr;obtain⟨va,vc,e2⟩:∃va vc,p 170= .slice va (n+1) vc:=let ⟨_,_,h,_⟩:=hr;Fw h;refine CV (w':=r.setCell ⟨gj,tt*4+2,none⟩ (p 170)) ?_ ⟨λh=>(by unfold DJ at h;rw[A]at h;simp at h),⟨r,p 170,hr,rfl⟩,λk hk G O h=>MI (λe=>?_) (λe=>?_) hk h⟩
   ·rw[e2]
    simp only[execOp,BV,e1,e2];go_simp
   ·subst e
    exact absurd O (by unfold Fc DJ QH;rw[show (if (20:Nat)=20 then 21 else if (20:Nat)=21 then 24 else 99)=21 from rfl,A];simp)
   ·subst e
    exact absurd O (by unfold Fc DJ QH;simp)
  ·exfalso
   have hlen:i+25<25:=(List.getElem?_eq_some_iff.1 c).1;omega
 ·intro L p r x hL hall y
  have l:L 99=false:=by
   cases h:L 99 with
   |false=>rfl
   |true=>exact absurd (hL 99 h) (by decide)
  obtain⟨w',K,hr,e⟩:∃w' K,UG D n ((List.range (n*3)).map f) [.int .i64 k,.string g,.string C] (.slice b2 n H) K w'/\r=w'.setCell ⟨gj,tt*4+2,none⟩ K:=y 24 (hall 24 (by decide)) l;rw[e];exact hQ p w' K hr
theorem TF(a:Nat)(k:Int)(U:World)(x0:U.cell? ⟨a,0,none⟩=some (.int .i64 0))(x1:U.cell? ⟨a,1,none⟩=some (.int .i64 0))(z0:U.frozen? ⟨a,0,none⟩=false)(z1:U.frozen? ⟨a,1,none⟩=false){v0 v1 v2 v4 v5 v7 v8 v9 aG aH aI aJ aK aL aM aN aO aP aQ aR aS aT aU aV aW aX aY aZ a0 a1 a2 a3 a4 a5 a6 a7 a8 a9 ba bb bc bd be bf bg bh bi bj bk bl bm bn bo bp bq br bs bt bu bv bw bx bz bA bB bC bD bE bF bG bH bI bJ bK bL bM bN bO bP bQ bR bS bT bU bV bW bX bY bZ b0 b1 b2 b3 b4 b5 b6 b7 b8 b c d g h i j l m n o p q r s u v w x y z A B C D E F G H I J K L M N O P Q R S T V W X Y Z aa ab ac ad ae af ag ah ai aj ak al am an ao ap aq ar zzq au av aw ax ay az aA aB aC aD aE aF:Value} :
  Code.wp Tryz.prog (Code.cond (Operand.tmp 134) ((Code.region 24 #[⟨some 135, Op.move (Operand.tmp 6), 3, "ref.go:310", #[{ on := 2, ground := Ground.gcOnly Departure.lateStores }], none⟩, ⟨some 136, Op.build 39 #[(0, Operand.const (Value.int IntKind.i64 6)), (1, Operand.tmp 135)], 39, "ref.go:310", #[⟨0, .data⟩, { on := 2, ground := Ground.gcOnly Departure.lateStores }], none⟩, ⟨some 2, Op.assign (Operand.const (Value.slice none 0 0)), 37, "ref.go:310", #[{ on := 0, ground := Ground.textOnly Departure.lateStores }, { on := 1, ground := Ground.textOnly Departure.lateStores }], none⟩, ⟨none, Op.store 39 (Operand.tmp 3) (Operand.tmp 136), 0, "ref.go:310", #[⟨1, .data⟩, ⟨2, .chain⟩, ⟨0, .phase⟩, ⟨1, .phase⟩, ⟨2, .phase⟩], none⟩] false).seq Code.ret) Code.skip) (λe a' w' => e = Exit.ret /\ a'.defers = [] /\ a'.tmps.getD 2 undef= .slice none 0 0 /\ a'.tmps.getD 3 undef= .pointer (some ⟨a, 0, none⟩) /\ w' = (U.setCell ⟨a, 0, none⟩ (.int .i64 6)).setCell ⟨a, 1, none⟩ (.int .i64 k)) ⟨#[v0, v1, v2, .pointer (some ⟨a, 0, none⟩), v4, v5, .int .i64 k, v7, v8, v9, aG, aH, aI, aJ, aK, aL, aM, aN, aO, aP, aQ, aR, aS, aT, aU, aV, aW, aX, aY, aZ, a0, a1, a2, a3, a4, a5, a6, a7, a8, a9, ba, bb, bc, bd, be, bf, bg, bh, bi, bj, bk, bl, bm, bn, bo, bp, bq, br, bs, bt, bu, bv, bw, bx, bz, bA, bB, bC, bD, bE, bF, bG, bH, bI, bJ, bK, bL, bM, bN, bO, bP, bQ, bR, bS, bT, bU, bV, bW, bX, bY, bZ, b0, b1, b2, b3, b4, b5, b6, b7, b8, b, c, d, g, h, i, j, l, m, n, o, p, q, r, s, u, v, w, x, y, z, A, B, C, D, E, F, G, H, I, J, K, L, M, .bool true, N, O, P, Q, R, S, T, V, W, X, Y, Z, aa, ab, ac, ad, ae, af, ag, ah, ai, aj, ak, al, am, an, ao, ap, aq, ar, zzq, au, av, aw, ax, ay, az, aA, aB, aC, aD, aE, aF], []⟩ U := by
 go_wp2_with fail
end Go.Proofs.YtjjggefmmeminabGreat
namespace Go.Proofs.YtjjggefmmeminabGreat
noncomputable def KI (n:Nat):Code:=(Tryz.f17.body.bind (DW n)).getD .skip
noncomputable def Us (n:Nat):Code:=(Tryz.f17.body.bind (Ie n)).getD .skip
end Go.Proofs.YtjjggefmmeminabGreat
