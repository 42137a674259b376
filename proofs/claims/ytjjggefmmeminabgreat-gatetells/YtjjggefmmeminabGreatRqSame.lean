import Derived.Test.YtjjggefmmeminabGreatJGq
import Derived.Deep.CutRange
set_option maxRecDepth 100000
set_option maxHeartbeats 4000000
namespace Go.Proofs.YtjjggefmmeminabGreat
open Go.RowKit
theorem KK{P:Program}{id:Nat}{l:List Oper}{Q:Exit->Act->World->Prop}{c:Act}{O:World}(S:P.follows .mixedOrders=true)(hb:GL .any l.toArray=true)(D:List Nat)(T:l.all (λo=>match o.dst with|some d=>D.contains d|none=>true)=true)(K:D.all (λd=>decide (d<c.tmps.size))=true)(J:(Nat->Bool)->(Nat->Value)->World->Prop)(h0:J (λ_=>false) (B4 c) O.drew)(p:∀L s w i o g b,J L s w->(∀j,j∉D->s j=B4 c j)->l[i]? = some o->L i=false->(∀e∈o.after,Region.binds .any e=true->L e.on=true)->o.guard=some (g,b)->∃d,(l[g]?).bind Oper.dst=some d/\d∈D/\s d= .bool b)(y:∀L s w i o,J L s w->(∀j,j∉D->s j=B4 c j)->l[i]? = some o->L i=false->(∀e∈o.after,Region.binds .any e=true->L e.on=true)->Eb P o s w (J (λj=>decide (j=i)||L j)))(z:∀L s w,J L s w->(∀i,i<l.length->L i=true)->Q .normal (Cn c s D) w):(Code.region id l.toArray true).wp P Q c O:=by
 have m:∀d∈D,d<c.tmps.size:=λd A=>by simpa using List.all_eq_true.1 K d A
 refine wp_region_any S ?_;refine LQ hb (λL a w=>a.tmps.size=c.tmps.size/\a.defers=c.defers/\(∀j,j∉D->B4 a j=B4 c j)/\J L (B4 a) w) ?_ ?_ _ _ _ _ (by simp) ?_ ?_
 ·rintro L a w i o ⟨E,M,C,H⟩ ho R ha
  have B:l[i]? = some o:=by simpa using ho
  have F:o∈l:=BP B;have hg:=List.all_eq_true.1 T o F;have u:∀d,o.dst=some d->d∈D:=λd A=>by have:=hg;rw[A]at this;simpa using this
  have x:∀v,B4 (a.put o.dst v)=ED (B4 a) o.dst v:=λv=>Ja a o.dst v λj q=>by rw[E];exact m j (u j q)
  have k:∀v w',J (λj=>decide (j=i)||L j) (ED (B4 a) o.dst v) w'->(λ(L:Nat->Bool) (a:Act) (w:World)=>a.tmps.size=c.tmps.size/\a.defers=c.defers/\(∀j,j∉D->B4 a j=B4 c j)/\J L (B4 a) w) (λj=>decide (j=i)||L j) (a.put o.dst v) w':=λv w' N=>by
   refine⟨?_,?_,λj q=>?_,by rw[x];exact N⟩
   ·cases o.dst<;>simp[Act.put,E]
   ·cases o.dst<;>simp[Act.put,M]
   ·rw[x]
    cases A:o.dst with
    |none=>exact C j q
    |some d =>
     show (if j=d then v else B4 a j)=_
     rw[Ae (λe=>q (by rw[e];exact u d A))];exact C j q
  have hs:=y L (B4 a) w i o H C B R ha;have U:Region.wanted o (yielded l.toArray a.tmps)=true:=by
   unfold Region.wanted
   cases hgd:o.guard with
   |none=>rfl
   |some V =>
    obtain⟨g,b⟩:=V;obtain⟨d,h1,h2,h3⟩:=p L (B4 a) w i o g b H C B R ha hgd;have A:d<a.tmps.size:=by rw[E];exact m d h2
    have h4:a.tmps[d]? = some (.bool b):=by
     have I:B4 a d= .bool b:=h3;unfold B4 at I;rw[AX]at I;rw[BD A]at I ⊢;simpa using I
    have W:yielded l.toArray a.tmps g=some b:=by
     unfold yielded;have X:(l.toArray[g]?).bind (·.dst)=some d:=by simpa using h1
     rw[X];simp[h4]
    simp[W]
  unfold wpOp;simp only[ho,U,BK];left;unfold Oper.wp;rw[K2];unfold Eb at hs;generalize (execOp (BV (B4 a)) o).run P w=r at hs
  cases r with
  |ok n w' =>
   cases n with
   | value v=>exact k v w' hs
   | skip=>exact k undef w' hs
   | enter f args =>
    refine Calls.mono hs λe w'' h=>?_;obtain⟨v,rfl,N⟩:=h;exact k v w'' N
   | _=>exact hs.elim
  | _=>exact hs.elim
 ·rintro L a w ⟨E,M,C,H⟩ G
  have e:a=Cn c (B4 a) D:=by
   obtain⟨Y,Z⟩:=G3 (B4 a) D c;refine Qz (E.trans Y.symm) (M.trans Z.symm) λj=>?_;rw[GI _ _ _ m]
   by_cases q:j∈D
   ·rw[Af q]
   ·rw[Ae q];exact C j q
  rw[e];exact z L (B4 a) w H λi hi=>G i (by simpa using hi)
 ·refine Am (List.length_filter_le _ _) (by simp)
 ·refine⟨rfl,rfl,λ_ _=>rfl,?_⟩
  have e:(λj=>(Array.replicate l.toArray.size false).getD j false)=λ_=>false:=by
   funext j;simp only[AX,Array.getElem?_replicate];split<;>rfl
  rw[e];exact h0
theorem Lk{P:Program}{id:Nat}{l:List Oper}{Q:Exit->Act->World->Prop}{y:Act}{S:World}(V:P.follows .mixedOrders=true)(hb:GL .any l.toArray=true)(D:List Nat)(W:l.all (λo=>match o.dst with|some d=>D.contains d|none=>true)=true)(I:D.all (λd=>decide (d<y.tmps.size))=true)(ho:MG l=true)(a:Nat->Nat)(A:(Nat->Bool)->Nat->Value->World->Prop)(G:(Nat->Bool)->(Nat->Value)->World->Prop)(X:G (λ_=>false) (B4 y) S.drew)(h:∀(L:Nat->Bool) (s:Nat->Value) (w:World) (i:Nat) (o:Oper) (g:Nat) (b:Bool),G L s w->(∀k,L k=true->k<l.length)->(∀k,L k=true->Fc a L k->A L k (D7 l s k) w)->l[i]? = some o->(∀e∈o.after,Region.binds .any e=true->L e.on=true)->o.guard=some (g,b)->∃d,(l[g]?).bind Oper.dst=some d/\d∈D/\s d= .bool b)(n:∀L s w i o,G L s w->(∀k,L k=true->k<l.length)->(∀k o,L k=true->l[k]? = some o->∀e∈o.after,Region.binds .any e=true->L e.on=true)->(∀k,L k=true->Fc a L k->A L k (D7 l s k) w)->(∀j,j∉D->s j=B4 y j)->l[i]? = some o->L i=false->(∀e∈o.after,Region.binds .any e=true->L e.on=true) ->
   Eb P o s w (λT w'=>G (DJ L i) T w'/\A (DJ L i) i (D7 l T i) w'/\∀k,k≠i->L k=true->Fc a (DJ L i) k->A L k (D7 l s k) w->A (DJ L i) k (D7 l s k) w'))(p:∀L s w,G L s w->(∀k,L k=true->k<l.length)->(∀i,i<l.length->L i=true)->(∀k,L k=true->Fc a L k->A L k (D7 l s k) w)->Q .normal (Cn y s D) w):(Code.region id l.toArray true).wp P Q y S:=by
 refine KK V hb D W I (λL s w=>G L s w/\(∀k,L k=true->k<l.length)/\(∀k o,L k=true->l[k]? = some o->∀e∈o.after,Region.binds .any e=true->L e.on=true)/\∀k,L k=true->Fc a L k->A L k (D7 l s k) w) ⟨X,λk hk=>(by cases hk),λk _ hk=>(by cases hk),λk hk=>(by cases hk)⟩ (λL s w i o g b ⟨z,q,_,x⟩ _ hi _ ha hgd=>h L s w i o g b z q x hi ha hgd) ?_ ?_
 ·rintro L s w i o ⟨z,q,J,x⟩ hf hi Y ha
  refine(n L s w i o z q J x hf hi Y ha).mono λv w' Z=>?_;obtain⟨r0,r1,r2⟩:=Z;have B:i<l.length:=(List.getElem?_eq_some_iff.1 hi).1;refine⟨r0,λk hk=>?_,λk o' hk r e he C=>?_,λk hk u=>?_⟩
  ·by_cases e:k=i
   ·rw[e];exact B
   ·exact q k (by simpa[e] using hk)
  ·by_cases U:k=i
   ·subst U
    rw[hi]at r;cases r;show (decide (e.on=k)||L e.on)=true;rw[ha e he C];simp
   ·have c:L k=true:=by simpa[U] using hk
    show (decide (e.on=i)||L e.on)=true;rw[J k o' c r e he C];simp
  ·by_cases e:k=i
   ·subst e;exact r1
   ·have c:L k=true:=by simpa[e] using hk
    have E:Fc a L k:=by
     unfold Fc at u ⊢;have m:(decide (a k=i)||L (a k))=false:=u;rw[Bool.or_eq_false_iff]at m;exact m.2
    have F:D7 l (ED s o.dst v) k=D7 l s k:=by
     unfold D7
     cases K:I0 l k with
     |none=>rfl
     |some d =>
      cases M:o.dst with
      |none=>rfl
      |some N =>
       show (if d=N then v else s d)=s d
       have O:d≠N:=by
        unfold MG at ho;rw[BQ]at ho;have h1:=ho k (by simpa using q k c);rw[BQ]at h1;have h2:=h1 i (by simpa using B);have R:I0 l i=some N:=by unfold I0;rw[hi];exact M
        rw[K,R]at h2;simpa[e] using h2
       rw[Ae O]
    rw[F];exact r2 k e c u (x k c E)
 ·rintro L s w ⟨z,q,J,x⟩ H
  exact p L s w z q H x
end Go.Proofs.YtjjggefmmeminabGreat
namespace Go.Proofs.YtjjggefmmeminabGreat
open Go.RowKit Go.Sort
theorem Ib(a b:Option Addr)(n c d:Nat)(K:Nat->ByteArray)(w:World)(l:CF w a n K)(hB:CF w b n K) :
  Calls Tryz.prog 25 #[.slice a n c,.slice b n d] w λe w'=>e= .returned (.bool true)/\Below w.heap.size w w':=by
 have hn:n<=9223372036854775807:=l.1;have o:Hid (CF w a n K):=l;have p:Hid (CF w b n K):=hB;clear l hB
 go_enter Tryz.func25,Tryz.ntmps25
 go_wp2_with fail
 go_loopw [13] (λi wr => ∃k:Nat,k<=n/\i= .int .i64 k/\Below w.heap.size w wr) (λi _=>n - (intOf i).toNat)
 case atStart=>exact⟨0,Ai _,rfl,Aq _ _⟩
 case round =>
  obtain⟨k,hk,rfl,g⟩:=hrel
  by_cases h:k<n
  ·obtain⟨r,s,rfl,u,-⟩:=(o.out.kept g).2 k h
   obtain⟨b2,o2,rfl,v,-⟩:=(p.out.kept g).2 k h;have m:(k:Int)<(n:Int):=by omega
   have q:(0:Int)<=(k:Int):=by omega
   have j:Hid (Below w.heap.size w wr):=g;clear g
   go_wp2_with fail
   go_quiet (fail)
   go_wp2_with fail
   go_roundw
   case rel=>exact⟨k+1,by omega,by go_num,j.out.trans ((Cz wr _).mono j.out.size)⟩
   case measure=>simp[intOf];omega
  ·have j:Hid (Below w.heap.size w wr):=g
   clear g
   go_wp2_with fail
   go_ret;exact⟨rfl,j.out⟩
def OS:List Oper:=[
 ⟨some 16,.move (.tmp 0),32,"ref.go:476",#[],none⟩,
 ⟨some 17,.move (.tmp 5),3,"ref.go:476",#[],none⟩,
 ⟨some 18,.indexAddr 32 (.tmp 16) (.tmp 17),0,"ref.go:476",#[⟨0,.data⟩,⟨1,.data⟩],none⟩,
 ⟨some 19,.fieldAddr 68 (.tmp 18) 0,0,"ref.go:476",#[⟨2,.data⟩],none⟩,
 ⟨some 20,.load 3 (.tmp 19),3,"ref.go:476",#[⟨3,.data⟩],none⟩,
 ⟨some 21,.move (.tmp 1),32,"ref.go:476",#[],none⟩,
 ⟨some 22,.move (.tmp 5),3,"ref.go:476",#[],none⟩,
 ⟨some 23,.indexAddr 32 (.tmp 21) (.tmp 22),0,"ref.go:476",#[⟨5,.data⟩,⟨6,.data⟩],none⟩,
 ⟨some 24,.fieldAddr 68 (.tmp 23) 0,0,"ref.go:476",#[⟨7,.data⟩],none⟩,
 ⟨some 25,.load 3 (.tmp 24),3,"ref.go:476",#[⟨8,.data⟩],none⟩,
 ⟨some 26,.binOp .neq 3 (.tmp 20) (.tmp 25) 3,4,"ref.go:476",#[⟨4,.data⟩,⟨9,.data⟩],none⟩,
 ⟨some 27,.move (.tmp 26),4,"ref.go:476",#[⟨10,.data⟩],none⟩,
 { dst := some 28, op := Op.move (Operand.tmp 0), type := 32, pos := "ref.go:476", after := #[⟨11, .guard⟩], guard := some (11, false) },
 { dst := some 29, op := Op.move (Operand.tmp 5), type := 3, pos := "ref.go:476", after := #[⟨11, .guard⟩], guard := some (11, false) },
 { dst := some 30, op := Op.indexAddr 32 (Operand.tmp 28) (Operand.tmp 29), type := 0, pos := "ref.go:476", after := #[⟨12, .data⟩, ⟨13, .data⟩, ⟨11, .guard⟩], guard := some (11, false) },
 { dst := some 31, op := Op.fieldAddr 68 (Operand.tmp 30) 1, type := 0, pos := "ref.go:476", after := #[⟨14, .data⟩, ⟨11, .guard⟩], guard := some (11, false) },
 { dst := some 32, op := Op.load 9 (Operand.tmp 31), type := 9, pos := "ref.go:476", after := #[⟨15, .data⟩, ⟨11, .guard⟩], guard := some (11, false) },
 { dst := some 33, op := Op.move (Operand.tmp 1), type := 32, pos := "ref.go:476", after := #[⟨11, .guard⟩], guard := some (11, false) },
 { dst := some 34, op := Op.move (Operand.tmp 5), type := 3, pos := "ref.go:476", after := #[⟨11, .guard⟩], guard := some (11, false) },
 { dst := some 35, op := Op.indexAddr 32 (Operand.tmp 33) (Operand.tmp 34), type := 0, pos := "ref.go:476", after := #[⟨17, .data⟩, ⟨18, .data⟩, ⟨11, .guard⟩], guard := some (11, false) },
 { dst := some 36, op := Op.fieldAddr 68 (Operand.tmp 35) 1, type := 0, pos := "ref.go:476", after := #[⟨19, .data⟩, ⟨11, .guard⟩], guard := some (11, false) },
 { dst := some 37, op := Op.load 9 (Operand.tmp 36), type := 9, pos := "ref.go:476", after := #[⟨20, .data⟩, ⟨11, .guard⟩], guard := some (11, false) },
 { dst := some 38, op := Op.binOp BinOp.neq 9 (Operand.tmp 32) (Operand.tmp 37) 9, type := 4, pos := "ref.go:476", after := #[⟨16, .data⟩, ⟨21, .data⟩, ⟨11, .guard⟩], guard := some (11, false) },
 ⟨some 39,.pick (.tmp 27) (.const (.bool true)) (.tmp 38),4,"ref.go:476",#[⟨11,.data⟩,⟨22,.data⟩],none⟩,
 ⟨some 40,.move (.tmp 39),4,"ref.go:476",#[⟨23,.data⟩,⟨11,.chain⟩],none⟩,
 { dst := some 41, op := Op.move (Operand.tmp 0), type := 32, pos := "ref.go:476", after := #[⟨24, .guard⟩], guard := some (24, false) },
 { dst := some 42, op := Op.move (Operand.tmp 5), type := 3, pos := "ref.go:476", after := #[⟨24, .guard⟩], guard := some (24, false) },
 { dst := some 43, op := Op.indexAddr 32 (Operand.tmp 41) (Operand.tmp 42), type := 0, pos := "ref.go:476", after := #[⟨25, .data⟩, ⟨26, .data⟩, ⟨24, .guard⟩], guard := some (24, false) },
 { dst := some 44, op := Op.fieldAddr 68 (Operand.tmp 43) 2, type := 0, pos := "ref.go:476", after := #[⟨27, .data⟩, ⟨24, .guard⟩], guard := some (24, false) },
 { dst := some 45, op := Op.load 65 (Operand.tmp 44), type := 65, pos := "ref.go:476", after := #[⟨28, .data⟩, ⟨24, .guard⟩], guard := some (24, false) },
 { dst := some 46, op := Op.move (Operand.tmp 1), type := 32, pos := "ref.go:476", after := #[⟨24, .guard⟩], guard := some (24, false) },
 { dst := some 47, op := Op.move (Operand.tmp 5), type := 3, pos := "ref.go:476", after := #[⟨24, .guard⟩], guard := some (24, false) },
 { dst := some 48, op := Op.indexAddr 32 (Operand.tmp 46) (Operand.tmp 47), type := 0, pos := "ref.go:476", after := #[⟨30, .data⟩, ⟨31, .data⟩, ⟨24, .guard⟩], guard := some (24, false) },
 { dst := some 49, op := Op.fieldAddr 68 (Operand.tmp 48) 2, type := 0, pos := "ref.go:476", after := #[⟨32, .data⟩, ⟨24, .guard⟩], guard := some (24, false) },
 { dst := some 50, op := Op.load 65 (Operand.tmp 49), type := 65, pos := "ref.go:476", after := #[⟨33, .data⟩, ⟨24, .guard⟩], guard := some (24, false) },
 { dst := some 51, op := Op.call { callee := Callee.value (Operand.func 25), args := #[Operand.tmp 45, Operand.tmp 50], argTypes := #[65, 65] }, type := 4, pos := "ref.go:476", after := #[⟨29, .data⟩, ⟨34, .data⟩, ⟨24, .chain⟩, ⟨24, .guard⟩], guard := some (24, false) },
 { dst := some 52, op := Op.unOp UnOp.not 4 (Operand.tmp 51), type := 4, pos := "ref.go:476", after := #[⟨35, .data⟩, ⟨24, .guard⟩], guard := some (24, false) },
 ⟨some 53,.pick (.tmp 40) (.const (.bool true)) (.tmp 52),4,"ref.go:476",#[⟨24,.data⟩,⟨36,.data⟩],none⟩,
 ⟨some 54,.move (.tmp 53),4,"ref.go:476",#[⟨37,.data⟩,⟨35,.chain⟩],none⟩,
 { dst := some 55, op := Op.move (Operand.tmp 0), type := 32, pos := "ref.go:476", after := #[⟨38, .guard⟩], guard := some (38, false) },
 { dst := some 56, op := Op.move (Operand.tmp 5), type := 3, pos := "ref.go:476", after := #[⟨38, .guard⟩], guard := some (38, false) },
 { dst := some 57, op := Op.indexAddr 32 (Operand.tmp 55) (Operand.tmp 56), type := 0, pos := "ref.go:476", after := #[⟨39, .data⟩, ⟨40, .data⟩, ⟨38, .guard⟩], guard := some (38, false) },
 { dst := some 58, op := Op.fieldAddr 68 (Operand.tmp 57) 3, type := 0, pos := "ref.go:476", after := #[⟨41, .data⟩, ⟨38, .guard⟩], guard := some (38, false) },
 { dst := some 59, op := Op.load 65 (Operand.tmp 58), type := 65, pos := "ref.go:476", after := #[⟨42, .data⟩, ⟨38, .guard⟩], guard := some (38, false) },
 { dst := some 60, op := Op.move (Operand.tmp 1), type := 32, pos := "ref.go:476", after := #[⟨38, .guard⟩], guard := some (38, false) },
 { dst := some 61, op := Op.move (Operand.tmp 5), type := 3, pos := "ref.go:476", after := #[⟨38, .guard⟩], guard := some (38, false) },
 { dst := some 62, op := Op.indexAddr 32 (Operand.tmp 60) (Operand.tmp 61), type := 0, pos := "ref.go:476", after := #[⟨44, .data⟩, ⟨45, .data⟩, ⟨38, .guard⟩], guard := some (38, false) },
 { dst := some 63, op := Op.fieldAddr 68 (Operand.tmp 62) 3, type := 0, pos := "ref.go:476", after := #[⟨46, .data⟩, ⟨38, .guard⟩], guard := some (38, false) },
 { dst := some 64, op := Op.load 65 (Operand.tmp 63), type := 65, pos := "ref.go:476", after := #[⟨47, .data⟩, ⟨38, .guard⟩], guard := some (38, false) },
 { dst := some 65, op := Op.call { callee := Callee.value (Operand.func 25), args := #[Operand.tmp 59, Operand.tmp 64], argTypes := #[65, 65] }, type := 4, pos := "ref.go:476", after := #[⟨43, .data⟩, ⟨48, .data⟩, ⟨38, .chain⟩, ⟨38, .guard⟩], guard := some (38, false) },
 { dst := some 66, op := Op.unOp UnOp.not 4 (Operand.tmp 65), type := 4, pos := "ref.go:476", after := #[⟨49, .data⟩, ⟨38, .guard⟩], guard := some (38, false) },
 ⟨some 67,.pick (.tmp 54) (.const (.bool true)) (.tmp 66),4,"ref.go:476",#[⟨38,.data⟩,⟨50,.data⟩],none⟩]
theorem Tw{Q:Exit->Act->World->Prop}{E:Act}{r:World}{g o n ca g2 o2 cb k kn C F fn D G:Nat}{sv:Int}{ty:ByteArray}{A H B B':Option Addr}(L : [16,17,18,19,20,21,22,23,24,25,26,27,28,29,30,31,32,33,34,35,36,37,38,39,40,41,42,43,44,45,46,47,48,49,50,51,52,53,54,55,56,57,58,59,60,61,62,63,64,65,66,67].all (λd=>decide (d<E.tmps.size))=true)(s0:B4 E 0= .slice (some ⟨g,o,none⟩) n ca)(s1:B4 E 1= .slice (some ⟨g2,o2,none⟩) n cb)(w:B4 E 5= .int .i64 (k:Int))(hk:k<n)(c0:r.cell? ⟨g,o+k*4,none⟩=some (.int .i64 sv))(c1:r.cell? ⟨g,o+k*4+1,none⟩=some (.string ty))(c2:r.cell? ⟨g,o+k*4+2,none⟩=some (.slice A kn C))(c3:r.cell? ⟨g,o+k*4+3,none⟩=some (.slice B fn D))(d0:r.cell? ⟨g2,o2+k*4,none⟩=some (.int .i64 sv))(P:r.cell? ⟨g2,o2+k*4+1,none⟩=some (.string ty))(R:r.cell? ⟨g2,o2+k*4+2,none⟩=some (.slice H kn F))(S:r.cell? ⟨g2,o2+k*4+3,none⟩=some (.slice B' fn G))(M:∀v,Below r.heap.size r v->Calls Tryz.prog 25 #[.slice A kn C,.slice H kn F] v λe w'=>e= .returned (.bool true)/\Below v.heap.size v w')(N:∀v,Below r.heap.size r v->Calls Tryz.prog 25 #[.slice B fn D,.slice B' fn G] v λe w'=>e= .returned (.bool true)/\Below v.heap.size v w')(T:∀s w',Below r.heap.size r w'->s 67= .bool false->Q .normal (Cn E s [16,17,18,19,20,21,22,23,24,25,26,27,28,29,30,31,32,33,34,35,36,37,38,39,40,41,42,43,44,45,46,47,48,49,50,51,52,53,54,55,56,57,58,59,60,61,62,63,64,65,66,67]) w') :
  (Code.region 6 OS.toArray true).wp Tryz.prog Q E r:=by
 have U:(k:Int)<(n:Int):=by omega
 have V:(0:Int)<=(k:Int):=by omega
 refine Lk (by kernel_rfl) (by kernel_rfl) [16,17,18,19,20,21,22,23,24,25,26,27,28,29,30,31,32,33,34,35,36,37,38,39,40,41,42,43,44,45,46,47,48,49,50,51,52,53,54,55,56,57,58,59,60,61,62,63,64,65,66,67] (by kernel_rfl) L (by kernel_rfl) (λ_=>99) (It [] [.slice (some ⟨g,o,none⟩) n ca,.int .i64 (k:Int),.pointer (some ⟨g,o+k*4,none⟩),.pointer (some ⟨g,o+k*4,none⟩),.int .i64 sv,.slice (some ⟨g2,o2,none⟩) n cb,.int .i64 (k:Int),.pointer (some ⟨g2,o2+k*4,none⟩),.pointer (some ⟨g2,o2+k*4,none⟩),.int .i64 sv,.bool false,.bool false,.slice (some ⟨g,o,none⟩) n ca,.int .i64 (k:Int),.pointer (some ⟨g,o+k*4,none⟩),.pointer (some ⟨g,o+k*4+1,none⟩),.string ty,.slice (some ⟨g2,o2,none⟩) n cb,.int .i64 (k:Int),.pointer (some ⟨g2,o2+k*4,none⟩),.pointer (some ⟨g2,o2+k*4+1,none⟩),.string ty,.bool false,.bool false,.bool false,.slice (some ⟨g,o,none⟩) n ca,.int .i64 (k:Int),.pointer (some ⟨g,o+k*4,none⟩),.pointer (some ⟨g,o+k*4+2,none⟩),.slice A kn C,.slice (some ⟨g2,o2,none⟩) n cb,.int .i64 (k:Int),.pointer (some ⟨g2,o2+k*4,none⟩),.pointer (some ⟨g2,o2+k*4+2,none⟩),.slice H kn F,.bool true,.bool false,.bool false,.bool false,.slice (some ⟨g,o,none⟩) n ca,.int .i64 (k:Int),.pointer (some ⟨g,o+k*4,none⟩),.pointer (some ⟨g,o+k*4+3,none⟩),.slice B fn D,.slice (some ⟨g2,o2,none⟩) n cb,.int .i64 (k:Int),.pointer (some ⟨g2,o2+k*4,none⟩),.pointer (some ⟨g2,o2+k*4+3,none⟩),.slice B' fn G,.bool true,.bool false,.bool false]) (boxG r []) boxG.start ?_ ?_ ?_
 ·intro O l I b W Z bz m u i a j hgd
  have c:=z9 u (by decide);obtain _|b:=b
  ·obtain rfl:=Ab a
   cases hgd
  obtain _|b:=b
  ·obtain rfl:=Ab a
   cases hgd
  obtain _|b:=b
  ·obtain rfl:=Ab a
   cases hgd
  obtain _|b:=b
  ·obtain rfl:=Ab a
   cases hgd
  obtain _|b:=b
  ·obtain rfl:=Ab a
   cases hgd
  obtain _|b:=b
  ·obtain rfl:=Ab a
   cases hgd
  obtain _|b:=b
  ·obtain rfl:=Ab a
   cases hgd
  obtain _|b:=b
  ·obtain rfl:=Ab a
   cases hgd
  obtain _|b:=b
  ·obtain rfl:=Ab a
   cases hgd
  obtain _|b:=b
  ·obtain rfl:=Ab a
   cases hgd
  obtain _|b:=b
  ·obtain rfl:=Ab a
   cases hgd
  obtain _|b:=b
  ·obtain rfl:=Ab a
   cases hgd
  obtain _|b:=b
  ·obtain rfl:=Ab a
   cases hgd;exact⟨27,rfl,by decide,i 11 (j ⟨11,.guard⟩ (by simp) rfl) c⟩
  obtain _|b:=b
  ·obtain rfl:=Ab a
   cases hgd;exact⟨27,rfl,by decide,i 11 (j ⟨11,.guard⟩ (by simp) rfl) c⟩
  obtain _|b:=b
  ·obtain rfl:=Ab a
   cases hgd;exact⟨27,rfl,by decide,i 11 (j ⟨11,.guard⟩ (by simp) rfl) c⟩
  obtain _|b:=b
  ·obtain rfl:=Ab a
   cases hgd;exact⟨27,rfl,by decide,i 11 (j ⟨11,.guard⟩ (by simp) rfl) c⟩
  obtain _|b:=b
  ·obtain rfl:=Ab a
   cases hgd;exact⟨27,rfl,by decide,i 11 (j ⟨11,.guard⟩ (by simp) rfl) c⟩
  obtain _|b:=b
  ·obtain rfl:=Ab a
   cases hgd;exact⟨27,rfl,by decide,i 11 (j ⟨11,.guard⟩ (by simp) rfl) c⟩
  obtain _|b:=b
  ·obtain rfl:=Ab a
   cases hgd;exact⟨27,rfl,by decide,i 11 (j ⟨11,.guard⟩ (by simp) rfl) c⟩
  obtain _|b:=b
  ·obtain rfl:=Ab a
   cases hgd;exact⟨27,rfl,by decide,i 11 (j ⟨11,.guard⟩ (by simp) rfl) c⟩
  obtain _|b:=b
  ·obtain rfl:=Ab a
   cases hgd;exact⟨27,rfl,by decide,i 11 (j ⟨11,.guard⟩ (by simp) rfl) c⟩
  obtain _|b:=b
  ·obtain rfl:=Ab a
   cases hgd;exact⟨27,rfl,by decide,i 11 (j ⟨11,.guard⟩ (by simp) rfl) c⟩
  obtain _|b:=b
  ·obtain rfl:=Ab a
   cases hgd;exact⟨27,rfl,by decide,i 11 (j ⟨11,.guard⟩ (by simp) rfl) c⟩
  obtain _|b:=b
  ·obtain rfl:=Ab a
   cases hgd
  obtain _|b:=b
  ·obtain rfl:=Ab a
   cases hgd
  obtain _|b:=b
  ·obtain rfl:=Ab a
   cases hgd;exact⟨40,rfl,by decide,i 24 (j ⟨24,.guard⟩ (by simp) rfl) c⟩
  obtain _|b:=b
  ·obtain rfl:=Ab a
   cases hgd;exact⟨40,rfl,by decide,i 24 (j ⟨24,.guard⟩ (by simp) rfl) c⟩
  obtain _|b:=b
  ·obtain rfl:=Ab a
   cases hgd;exact⟨40,rfl,by decide,i 24 (j ⟨24,.guard⟩ (by simp) rfl) c⟩
  obtain _|b:=b
  ·obtain rfl:=Ab a
   cases hgd;exact⟨40,rfl,by decide,i 24 (j ⟨24,.guard⟩ (by simp) rfl) c⟩
  obtain _|b:=b
  ·obtain rfl:=Ab a
   cases hgd;exact⟨40,rfl,by decide,i 24 (j ⟨24,.guard⟩ (by simp) rfl) c⟩
  obtain _|b:=b
  ·obtain rfl:=Ab a
   cases hgd;exact⟨40,rfl,by decide,i 24 (j ⟨24,.guard⟩ (by simp) rfl) c⟩
  obtain _|b:=b
  ·obtain rfl:=Ab a
   cases hgd;exact⟨40,rfl,by decide,i 24 (j ⟨24,.guard⟩ (by simp) rfl) c⟩
  obtain _|b:=b
  ·obtain rfl:=Ab a
   cases hgd;exact⟨40,rfl,by decide,i 24 (j ⟨24,.guard⟩ (by simp) rfl) c⟩
  obtain _|b:=b
  ·obtain rfl:=Ab a
   cases hgd;exact⟨40,rfl,by decide,i 24 (j ⟨24,.guard⟩ (by simp) rfl) c⟩
  obtain _|b:=b
  ·obtain rfl:=Ab a
   cases hgd;exact⟨40,rfl,by decide,i 24 (j ⟨24,.guard⟩ (by simp) rfl) c⟩
  obtain _|b:=b
  ·obtain rfl:=Ab a
   cases hgd;exact⟨40,rfl,by decide,i 24 (j ⟨24,.guard⟩ (by simp) rfl) c⟩
  obtain _|b:=b
  ·obtain rfl:=Ab a
   cases hgd;exact⟨40,rfl,by decide,i 24 (j ⟨24,.guard⟩ (by simp) rfl) c⟩
  obtain _|b:=b
  ·obtain rfl:=Ab a
   cases hgd
  obtain _|b:=b
  ·obtain rfl:=Ab a
   cases hgd
  obtain _|b:=b
  ·obtain rfl:=Ab a
   cases hgd;exact⟨54,rfl,by decide,i 38 (j ⟨38,.guard⟩ (by simp) rfl) c⟩
  obtain _|b:=b
  ·obtain rfl:=Ab a
   cases hgd;exact⟨54,rfl,by decide,i 38 (j ⟨38,.guard⟩ (by simp) rfl) c⟩
  obtain _|b:=b
  ·obtain rfl:=Ab a
   cases hgd;exact⟨54,rfl,by decide,i 38 (j ⟨38,.guard⟩ (by simp) rfl) c⟩
  obtain _|b:=b
  ·obtain rfl:=Ab a
   cases hgd;exact⟨54,rfl,by decide,i 38 (j ⟨38,.guard⟩ (by simp) rfl) c⟩
  obtain _|b:=b
  ·obtain rfl:=Ab a
   cases hgd;exact⟨54,rfl,by decide,i 38 (j ⟨38,.guard⟩ (by simp) rfl) c⟩
  obtain _|b:=b
  ·obtain rfl:=Ab a
   cases hgd;exact⟨54,rfl,by decide,i 38 (j ⟨38,.guard⟩ (by simp) rfl) c⟩
  obtain _|b:=b
  ·obtain rfl:=Ab a
   cases hgd;exact⟨54,rfl,by decide,i 38 (j ⟨38,.guard⟩ (by simp) rfl) c⟩
  obtain _|b:=b
  ·obtain rfl:=Ab a
   cases hgd;exact⟨54,rfl,by decide,i 38 (j ⟨38,.guard⟩ (by simp) rfl) c⟩
  obtain _|b:=b
  ·obtain rfl:=Ab a
   cases hgd;exact⟨54,rfl,by decide,i 38 (j ⟨38,.guard⟩ (by simp) rfl) c⟩
  obtain _|b:=b
  ·obtain rfl:=Ab a
   cases hgd;exact⟨54,rfl,by decide,i 38 (j ⟨38,.guard⟩ (by simp) rfl) c⟩
  obtain _|b:=b
  ·obtain rfl:=Ab a
   cases hgd;exact⟨54,rfl,by decide,i 38 (j ⟨38,.guard⟩ (by simp) rfl) c⟩
  obtain _|b:=b
  ·obtain rfl:=Ab a
   cases hgd;exact⟨54,rfl,by decide,i 38 (j ⟨38,.guard⟩ (by simp) rfl) c⟩
  obtain _|b:=b
  ·obtain rfl:=Ab a
   cases hgd
  ·exfalso
   have J:b+52<52:=(List.getElem?_eq_some_iff.1 a).1;omega
 ·intro O l I b W m u X i q a Y j
  have c:=z9 u (by decide);obtain _|b:=b
  ·obtain rfl:=Ab a
   exact zs (l 0) rfl rfl (zF q s0 rfl) m rfl
  obtain _|b:=b
  ·obtain rfl:=Ab a
   exact zs (l 5) rfl rfl (zF q w rfl) m rfl
  obtain _|b:=b
  ·obtain rfl:=Ab a
   have p:l 16= .slice (some ⟨g,o,none⟩) n ca:=zA i j c 0 (by simp);have e1:l 17= .int .i64 (k:Int):=zA i j c 1 (by simp);refine zs (.pointer (some ⟨g,o+k*4,none⟩)) rfl rfl rfl m ?_;simp only[execOp,BV,p,e1];go_simp
  obtain _|b:=b
  ·obtain rfl:=Ab a
   have p:l 18= .pointer (some ⟨g,o+k*4,none⟩):=zA i j c 2 (by simp);refine zs (.pointer (some ⟨g,o+k*4,none⟩)) rfl rfl rfl m ?_;simp only[execOp,BV,p];go_simp
  obtain _|b:=b
  ·obtain rfl:=Ab a
   have p:l 19= .pointer (some ⟨g,o+k*4,none⟩):=zA i j c 3 (by simp);have x:=BR m.below c0;refine zs (.int .i64 sv) rfl rfl rfl m ?_;simp only[execOp,BV,p];go_simp
  obtain _|b:=b
  ·obtain rfl:=Ab a
   exact zs (l 1) rfl rfl (zF q s1 rfl) m rfl
  obtain _|b:=b
  ·obtain rfl:=Ab a
   exact zs (l 5) rfl rfl (zF q w rfl) m rfl
  obtain _|b:=b
  ·obtain rfl:=Ab a
   have p:l 21= .slice (some ⟨g2,o2,none⟩) n cb:=zA i j c 5 (by simp);have e1:l 22= .int .i64 (k:Int):=zA i j c 6 (by simp);refine zs (.pointer (some ⟨g2,o2+k*4,none⟩)) rfl rfl rfl m ?_;simp only[execOp,BV,p,e1];go_simp
  obtain _|b:=b
  ·obtain rfl:=Ab a
   have p:l 23= .pointer (some ⟨g2,o2+k*4,none⟩):=zA i j c 7 (by simp);refine zs (.pointer (some ⟨g2,o2+k*4,none⟩)) rfl rfl rfl m ?_;simp only[execOp,BV,p];go_simp
  obtain _|b:=b
  ·obtain rfl:=Ab a
   have p:l 24= .pointer (some ⟨g2,o2+k*4,none⟩):=zA i j c 8 (by simp);have x:=BR m.below d0;refine zs (.int .i64 sv) rfl rfl rfl m ?_;simp only[execOp,BV,p];go_simp
  obtain _|b:=b
  ·obtain rfl:=Ab a
   have p:l 20= .int .i64 sv:=zA i j c 4 (by simp);have e1:l 25= .int .i64 sv:=zA i j c 9 (by simp);refine zs (.bool false) rfl rfl rfl m ?_;simp only[execOp,BV,p,e1];go_simp
  obtain _|b:=b
  ·obtain rfl:=Ab a
   have p:l 26= .bool false:=zA i j c 10 (by simp);refine zs (.bool false) rfl rfl rfl m ?_;simp only[execOp,BV,p];go_simp
  obtain _|b:=b
  ·obtain rfl:=Ab a
   exact zs (l 0) rfl rfl (zF q s0 rfl) m rfl
  obtain _|b:=b
  ·obtain rfl:=Ab a
   exact zs (l 5) rfl rfl (zF q w rfl) m rfl
  obtain _|b:=b
  ·obtain rfl:=Ab a
   have p:l 28= .slice (some ⟨g,o,none⟩) n ca:=zA i j c 12 (by simp);have e1:l 29= .int .i64 (k:Int):=zA i j c 13 (by simp);refine zs (.pointer (some ⟨g,o+k*4,none⟩)) rfl rfl rfl m ?_;simp only[execOp,BV,p,e1];go_simp
  obtain _|b:=b
  ·obtain rfl:=Ab a
   have p:l 30= .pointer (some ⟨g,o+k*4,none⟩):=zA i j c 14 (by simp);refine zs (.pointer (some ⟨g,o+k*4+1,none⟩)) rfl rfl rfl m ?_;simp only[execOp,BV,p];go_simp
  obtain _|b:=b
  ·obtain rfl:=Ab a
   have p:l 31= .pointer (some ⟨g,o+k*4+1,none⟩):=zA i j c 15 (by simp);have x:=BR m.below c1;refine zs (.string ty) rfl rfl rfl m ?_;simp only[execOp,BV,p];go_simp
  obtain _|b:=b
  ·obtain rfl:=Ab a
   exact zs (l 1) rfl rfl (zF q s1 rfl) m rfl
  obtain _|b:=b
  ·obtain rfl:=Ab a
   exact zs (l 5) rfl rfl (zF q w rfl) m rfl
  obtain _|b:=b
  ·obtain rfl:=Ab a
   have p:l 33= .slice (some ⟨g2,o2,none⟩) n cb:=zA i j c 17 (by simp);have e1:l 34= .int .i64 (k:Int):=zA i j c 18 (by simp);refine zs (.pointer (some ⟨g2,o2+k*4,none⟩)) rfl rfl rfl m ?_;simp only[execOp,BV,p,e1];go_simp
  obtain _|b:=b
  ·obtain rfl:=Ab a
   have p:l 35= .pointer (some ⟨g2,o2+k*4,none⟩):=zA i j c 19 (by simp);refine zs (.pointer (some ⟨g2,o2+k*4+1,none⟩)) rfl rfl rfl m ?_;simp only[execOp,BV,p];go_simp
  obtain _|b:=b
  ·obtain rfl:=Ab a
   have p:l 36= .pointer (some ⟨g2,o2+k*4+1,none⟩):=zA i j c 20 (by simp);have x:=BR m.below P;refine zs (.string ty) rfl rfl rfl m ?_;simp only[execOp,BV,p];go_simp
  obtain _|b:=b
  ·obtain rfl:=Ab a
   have p:l 32= .string ty:=zA i j c 16 (by simp);have e1:l 37= .string ty:=zA i j c 21 (by simp);refine zs (.bool false) rfl rfl rfl m ?_;simp only[execOp,BV,p,e1];go_simp
  obtain _|b:=b
  ·obtain rfl:=Ab a
   have p:l 27= .bool false:=zA i j c 11 (by simp);have e1:l 38= .bool false:=zA i j c 22 (by simp);refine zs (.bool false) rfl rfl rfl m ?_;simp only[execOp,BV,p,e1];go_simp
  obtain _|b:=b
  ·obtain rfl:=Ab a
   have p:l 39= .bool false:=zA i j c 23 (by simp);refine zs (.bool false) rfl rfl rfl m ?_;simp only[execOp,BV,p];go_simp
  obtain _|b:=b
  ·obtain rfl:=Ab a
   exact zs (l 0) rfl rfl (zF q s0 rfl) m rfl
  obtain _|b:=b
  ·obtain rfl:=Ab a
   exact zs (l 5) rfl rfl (zF q w rfl) m rfl
  obtain _|b:=b
  ·obtain rfl:=Ab a
   have p:l 41= .slice (some ⟨g,o,none⟩) n ca:=zA i j c 25 (by simp);have e1:l 42= .int .i64 (k:Int):=zA i j c 26 (by simp);refine zs (.pointer (some ⟨g,o+k*4,none⟩)) rfl rfl rfl m ?_;simp only[execOp,BV,p,e1];go_simp
  obtain _|b:=b
  ·obtain rfl:=Ab a
   have p:l 43= .pointer (some ⟨g,o+k*4,none⟩):=zA i j c 27 (by simp);refine zs (.pointer (some ⟨g,o+k*4+2,none⟩)) rfl rfl rfl m ?_;simp only[execOp,BV,p];go_simp
  obtain _|b:=b
  ·obtain rfl:=Ab a
   have p:l 44= .pointer (some ⟨g,o+k*4+2,none⟩):=zA i j c 28 (by simp);have x:=BR m.below c2;refine zs (.slice A kn C) rfl rfl rfl m ?_;simp only[execOp,BV,p];go_simp
  obtain _|b:=b
  ·obtain rfl:=Ab a
   exact zs (l 1) rfl rfl (zF q s1 rfl) m rfl
  obtain _|b:=b
  ·obtain rfl:=Ab a
   exact zs (l 5) rfl rfl (zF q w rfl) m rfl
  obtain _|b:=b
  ·obtain rfl:=Ab a
   have p:l 46= .slice (some ⟨g2,o2,none⟩) n cb:=zA i j c 30 (by simp);have e1:l 47= .int .i64 (k:Int):=zA i j c 31 (by simp);refine zs (.pointer (some ⟨g2,o2+k*4,none⟩)) rfl rfl rfl m ?_;simp only[execOp,BV,p,e1];go_simp
  obtain _|b:=b
  ·obtain rfl:=Ab a
   have p:l 48= .pointer (some ⟨g2,o2+k*4,none⟩):=zA i j c 32 (by simp);refine zs (.pointer (some ⟨g2,o2+k*4+2,none⟩)) rfl rfl rfl m ?_;simp only[execOp,BV,p];go_simp
  obtain _|b:=b
  ·obtain rfl:=Ab a
   have p:l 49= .pointer (some ⟨g2,o2+k*4+2,none⟩):=zA i j c 33 (by simp);have x:=BR m.below R;refine zs (.slice H kn F) rfl rfl rfl m ?_;simp only[execOp,BV,p];go_simp
  obtain _|b:=b
  ·obtain rfl:=Ab a
   have p:l 45= .slice A kn C:=zA i j c 29 (by simp);have e1:l 50= .slice H kn F:=zA i j c 34 (by simp);refine CO 25 #[.tmp 45,.tmp 50] #[65,65] rfl (AN Tryz.func25 (by kernel_rfl) rfl) #[.slice A kn C,.slice H kn F] (by simp[BV,p,e1]) ((M I m.below).mono λe w' h=>?_);obtain⟨rfl,y⟩:=h;exact⟨_,rfl,m.step y rfl _,rfl,λk _ _ _ h=>h⟩
  obtain _|b:=b
  ·obtain rfl:=Ab a
   have p:l 51= .bool true:=zA i j c 35 (by simp);refine zs (.bool false) rfl rfl rfl m ?_;simp only[execOp,BV,p];go_simp
  obtain _|b:=b
  ·obtain rfl:=Ab a
   have p:l 40= .bool false:=zA i j c 24 (by simp);have e1:l 52= .bool false:=zA i j c 36 (by simp);refine zs (.bool false) rfl rfl rfl m ?_;simp only[execOp,BV,p,e1];go_simp
  obtain _|b:=b
  ·obtain rfl:=Ab a
   have p:l 53= .bool false:=zA i j c 37 (by simp);refine zs (.bool false) rfl rfl rfl m ?_;simp only[execOp,BV,p];go_simp
  obtain _|b:=b
  ·obtain rfl:=Ab a
   exact zs (l 0) rfl rfl (zF q s0 rfl) m rfl
  obtain _|b:=b
  ·obtain rfl:=Ab a
   exact zs (l 5) rfl rfl (zF q w rfl) m rfl
  obtain _|b:=b
  ·obtain rfl:=Ab a
   have p:l 55= .slice (some ⟨g,o,none⟩) n ca:=zA i j c 39 (by simp);have e1:l 56= .int .i64 (k:Int):=zA i j c 40 (by simp);refine zs (.pointer (some ⟨g,o+k*4,none⟩)) rfl rfl rfl m ?_;simp only[execOp,BV,p,e1];go_simp
  obtain _|b:=b
  ·obtain rfl:=Ab a
   have p:l 57= .pointer (some ⟨g,o+k*4,none⟩):=zA i j c 41 (by simp);refine zs (.pointer (some ⟨g,o+k*4+3,none⟩)) rfl rfl rfl m ?_;simp only[execOp,BV,p];go_simp
  obtain _|b:=b
  ·obtain rfl:=Ab a
   have p:l 58= .pointer (some ⟨g,o+k*4+3,none⟩):=zA i j c 42 (by simp);have x:=BR m.below c3;refine zs (.slice B fn D) rfl rfl rfl m ?_;simp only[execOp,BV,p];go_simp
  obtain _|b:=b
  ·obtain rfl:=Ab a
   exact zs (l 1) rfl rfl (zF q s1 rfl) m rfl
  obtain _|b:=b
  ·obtain rfl:=Ab a
   exact zs (l 5) rfl rfl (zF q w rfl) m rfl
  obtain _|b:=b
  ·obtain rfl:=Ab a
   have p:l 60= .slice (some ⟨g2,o2,none⟩) n cb:=zA i j c 44 (by simp);have e1:l 61= .int .i64 (k:Int):=zA i j c 45 (by simp);refine zs (.pointer (some ⟨g2,o2+k*4,none⟩)) rfl rfl rfl m ?_;simp only[execOp,BV,p,e1];go_simp
  obtain _|b:=b
  ·obtain rfl:=Ab a
   have p:l 62= .pointer (some ⟨g2,o2+k*4,none⟩):=zA i j c 46 (by simp);refine zs (.pointer (some ⟨g2,o2+k*4+3,none⟩)) rfl rfl rfl m ?_;simp only[execOp,BV,p];go_simp
  obtain _|b:=b
  ·obtain rfl:=Ab a
   have p:l 63= .pointer (some ⟨g2,o2+k*4+3,none⟩):=zA i j c 47 (by simp);have x:=BR m.below S;refine zs (.slice B' fn G) rfl rfl rfl m ?_;simp only[execOp,BV,p];go_simp
  obtain _|b:=b
  ·obtain rfl:=Ab a
   have p:l 59= .slice B fn D:=zA i j c 43 (by simp);have e1:l 64= .slice B' fn G:=zA i j c 48 (by simp);refine CO 25 #[.tmp 59,.tmp 64] #[65,65] rfl (AN Tryz.func25 (by kernel_rfl) rfl) #[.slice B fn D,.slice B' fn G] (by simp[BV,p,e1]) ((N I m.below).mono λe w' h=>?_);obtain⟨rfl,y⟩:=h;exact⟨_,rfl,m.step y rfl _,rfl,λk _ _ _ h=>h⟩
  obtain _|b:=b
  ·obtain rfl:=Ab a
   have p:l 65= .bool true:=zA i j c 49 (by simp);refine zs (.bool false) rfl rfl rfl m ?_;simp only[execOp,BV,p];go_simp
  obtain _|b:=b
  ·obtain rfl:=Ab a
   have p:l 54= .bool false:=zA i j c 38 (by simp);have e1:l 66= .bool false:=zA i j c 50 (by simp);refine zs (.bool false) rfl rfl rfl m ?_;simp only[execOp,BV,p,e1];go_simp
  ·exfalso
   have J:b+52<52:=(List.getElem?_eq_some_iff.1 a).1;omega
 ·intro O l I m u K z
  have c:=z9 u (by decide);exact T l I m.below (z 51 (K 51 (by decide)) c)
theorem Mp(a b:Option Addr)(ca cb:Nat)(L:List PReq)(w:World)(n:Ff w a L)(hB:Ff w b L) :
  Calls Tryz.prog 11 #[.slice a L.length ca,.slice b L.length cb] w λe w'=>e= .returned (.bool true)/\Below w.heap.size w w':=by
 have hn:L.length<=9223372036854775807:=n.1;have N:=Aa n;have O:=Aa hB;clear n hB
 go_enter Tryz.func11,Tryz.ntmps11
 go_wp2_with fail
 go_loopw [13] (λi wr => ∃k:Nat,k<=L.length/\i= .int .i64 k/\Below w.heap.size w wr) (λi _=>L.length - (intOf i).toNat)
 case atStart=>exact⟨0,Ai _,rfl,Aq _ _⟩
 case round =>
  obtain⟨k,hk,rfl,h⟩:=hrel
  by_cases d:k<L.length
  ·obtain⟨g,o,A,C,B,D,rfl,c0,c1,c2,c3,-,-,x,y⟩:=(N.out.kept h).2 k d
   obtain⟨g2,o2,z,E,B',F,rfl,d0,G,H,I,-,-,J,K⟩:=(O.out.kept h).2 k d;have M:(k:Int)<(L.length:Int):=by omega
   have j:Hid (wr.cell? ⟨g,o+k*4,none⟩=some (.int .i64 (Ej L k).svc)/\wr.cell? ⟨g,o+k*4+1,none⟩=some (.string (Ej L k).type)/\wr.cell? ⟨g,o+k*4+2,none⟩=some (.slice A (Ej L k).keys.length C)/\wr.cell? ⟨g,o+k*4+3,none⟩=some (.slice B (Ej L k).fields.length D)):=Aa ⟨c0,c1,c2,c3⟩;have l:Hid (wr.cell? ⟨g2,o2+k*4,none⟩=some (.int .i64 (Ej L k).svc)/\wr.cell? ⟨g2,o2+k*4+1,none⟩=some (.string (Ej L k).type)/\wr.cell? ⟨g2,o2+k*4+2,none⟩=some (.slice z (Ej L k).keys.length E)/\wr.cell? ⟨g2,o2+k*4+3,none⟩=some (.slice B' (Ej L k).fields.length F)):=Aa ⟨d0,G,H,I⟩;have p:=Aa (And.intro x y);have q:=Aa (And.intro J K);have r:=Aa h;clear c0 c1 c2 c3 d0 G H I x y J K h
   go_upto_region 6 with fail
   refine Tw (k:=k) (by kernel_rfl) rfl rfl rfl d j.out.1 j.out.2.1 j.out.2.2.1 j.out.2.2.2 l.out.1 l.out.2.1 l.out.2.2.1 l.out.2.2.2 (λu h1=>Ib A z _ C E _ u (p.out.1.kept h1) (q.out.1.kept h1)) (λu h1=>Ib B B' _ D F _ u (p.out.2.kept h1) (q.out.2.kept h1)) ?_;intro s w2 m c;have v:=Aa (r.out.trans (m.mono r.out.size));clear m j l p q r;simp only[Cn,Act.put,Au,AD,AE,c];generalize s 16=P;generalize s 17=Q;generalize s 18=R;generalize s 19=S;generalize s 20=T;generalize s 21=U;generalize s 22=V;generalize s 23=W;generalize s 24=X;generalize s 25=Y;generalize s 26=Z;generalize s 27=aa;generalize s 28=ab;generalize s 29=ac;generalize s 30=ad;generalize s 31=ae;generalize s 32=af;generalize s 33=ag;generalize s 34=ah;generalize s 35=ai;generalize s 36=aj;generalize s 37=ak;generalize s 38=al;generalize s 39=am;generalize s 40=an;generalize s 41=ao;generalize s 42=ap;generalize s 43=aq;generalize s 44=ar;generalize s 45=zzq;generalize s 46=au;generalize s 47=av;generalize s 48=aw;generalize s 49=ax;generalize s 50=ay;generalize s 51=az;generalize s 52=aA;generalize s 53=aB;generalize s 54=aC;generalize s 55=aD;generalize s 56=aE;generalize s 57=aF;generalize s 58=aG;generalize s 59=aH;generalize s 60=aI;generalize s 61=aJ;generalize s 62=aK;generalize s 63=aL;generalize s 64=aM;generalize s 65=aN;generalize s 66=aO;clear c
   go_wp2_with fail
   go_roundw
   case rel=>exact⟨k+1,by omega,by go_num,v.out⟩
   case measure=>simp[intOf];omega
  ·go_wp2_with fail
   go_ret;exact⟨rfl,h⟩
end Go.Proofs.YtjjggefmmeminabGreat
