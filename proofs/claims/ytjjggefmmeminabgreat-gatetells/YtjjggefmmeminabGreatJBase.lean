import Derived.WalkKit
import Derived.RegionTactic
import Derived.Lib.QuietBelow
import Derived.Maps.AppendAt
import Derived.Deep.AppendSrc
import Derived.Test.YtjjggefmmeminabGreatRows
import Derived.WalkSpells
import Derived.WalkLawsBesides
import Derived.BigQuiet
import Derived.Shelf.Abstract
import Derived.PlainAid
set_option maxHeartbeats 1000000
set_option maxRecDepth 100000
namespace Go.Proofs.YtjjggefmmeminabGreat
open Go.RowKit
theorem Ab:type_of% @Option.some.inj:=@Option.some.inj
theorem Ac:type_of% @World.cell?_alloc_at:=@World.cell?_alloc_at
theorem Ae:type_of% @if_neg:=@if_neg
theorem Af:type_of% @if_pos:=@if_pos
theorem Ag:type_of% @lt_of_block:=@lt_of_block
theorem Ah:type_of% @Nat.lt_of_lt_of_le:=@Nat.lt_of_lt_of_le
theorem Ai:type_of% @Nat.zero_le:=@Nat.zero_le
theorem Aj:type_of% @Nat.le_refl:=@Nat.le_refl
theorem Ak:type_of% @Nat.not_lt_zero:=@Nat.not_lt_zero
theorem Al:type_of% @Below.heap_setCell:=@Below.heap_setCell
theorem Am:type_of% @Nat.le_trans:=@Nat.le_trans
theorem An:type_of% @block_lt_of_cell:=@block_lt_of_cell
theorem Ao:type_of% @heap_setCell_same:=@heap_setCell_same
theorem Ap:type_of% @heap_alloc_new:=@heap_alloc_new
theorem Aq:type_of% @Below.refl:=@Below.refl
theorem Ar:type_of% @wp_region_quiet_below:=@wp_region_quiet_below
theorem As:type_of% @cell_regrown:=@cell_regrown
theorem At:type_of% @bodyPost_ret:=@bodyPost_ret
theorem Au:type_of% @List.setIfInBounds_toArray:=@List.setIfInBounds_toArray
theorem Av:type_of% @below_regrown:=@below_regrown
theorem Aw:type_of% @World.cell?_of_block:=@World.cell?_of_block
theorem Ax:type_of% @Int.toNat_natCast:=@Int.toNat_natCast
theorem Ay:type_of% @List.length_append:=@List.length_append
theorem Az:type_of% @World.cell?_alloc_past:=@World.cell?_alloc_past
theorem AA:type_of% @List.range_succ:=@List.range_succ
theorem AB:type_of% @Nat.ne_of_beq_eq_false:=@Nat.ne_of_beq_eq_false
theorem AC:type_of% @List.eq_nil_of_length_eq_zero:=@List.eq_nil_of_length_eq_zero
theorem AD:type_of% @List.set_cons_succ:=@List.set_cons_succ
theorem AE:type_of% @List.set_cons_zero:=@List.set_cons_zero
theorem AF:type_of% @Calls.regrown_of:=@Calls.regrown_of
theorem AG:type_of% @List.map_cons:=@List.map_cons
theorem AH:type_of% @List.map_append:=@List.map_append
theorem AI:type_of% @List.map_nil:=@List.map_nil
theorem AJ:type_of% @List.map_toArray:=@List.map_toArray
theorem AK:type_of% @wpQuiet_nil:=@wpQuiet_nil
theorem AL:type_of% @Nat.zero_add:=@Nat.zero_add
theorem AM:type_of% @trivial:=@trivial
theorem AN:type_of% @enters_of:=@enters_of
theorem AO:type_of% @WideShapes.add_plain:=@WideShapes.add_plain
theorem AP:type_of% @List.length_cons:=@List.length_cons
theorem AQ:type_of% @List.getElem?_range:=@List.getElem?_range
theorem AR:type_of% @List.append_assoc:=@List.append_assoc
theorem AS:type_of% @List.take_succ_eq_append_getElem:=@List.take_succ_eq_append_getElem
theorem AT:type_of% @List.getD_eq_getElem?_getD:=@List.getD_eq_getElem?_getD
theorem AU:type_of% @List.getElem?_eq_getElem:=@List.getElem?_eq_getElem
theorem AV:type_of% @List.getElem?_map:=@List.getElem?_map
theorem AW:type_of% @List.getElem_mem:=@List.getElem_mem
theorem AX:type_of% @Array.getD_eq_getD_getElem?:=@Array.getD_eq_getD_getElem?
theorem AY:type_of% @decide_eq_false:=@decide_eq_false
theorem AZ:type_of% @World.frozen?_alloc_at:=@World.frozen?_alloc_at
theorem A4:type_of% @World.ownsRow_nil:=@World.ownsRow_nil
theorem A5:type_of% @Below.heap_alloc:=@Below.heap_alloc
theorem A6:type_of% @List.length_map:=@List.length_map
theorem Ba:type_of% @DataW.trod_string:=@DataW.trod_string
theorem Bb:type_of% @List.length_take:=@List.length_take
theorem Bc:type_of% @beq_eq_false_iff_ne:=@beq_eq_false_iff_ne
theorem Bd:type_of% @if_false:=@if_false
theorem Be:type_of% @List.length_set:=@List.length_set
theorem Bf:type_of% @List.flatMap_append:=@List.flatMap_append
theorem Bg:type_of% @List.getElem?_eq_none:=@List.getElem?_eq_none
theorem Bh:type_of% @decide_eq_false_iff_not:=@decide_eq_false_iff_not
theorem Bi:type_of% @decide_eq_true:=@decide_eq_true
theorem Bj:type_of% @List.filter_append:=@List.filter_append
theorem Bk:type_of% @Nat.mul_one:=@Nat.mul_one
theorem Bl:type_of% @List.getElem_of_mem:=@List.getElem_of_mem
theorem Bm:type_of% @List.append_nil:=@List.append_nil
theorem Bn:type_of% @Bool.and_eq_true:=@Bool.and_eq_true
theorem Bo:type_of% @List.filter_cons_of_neg:=@List.filter_cons_of_neg
theorem Bp:type_of% @List.filter_cons_of_pos:=@List.filter_cons_of_pos
theorem Bq:type_of% @List.not_mem_nil:=@List.not_mem_nil
theorem Br:type_of% @List.take_length:=@List.take_length
theorem Bs:type_of% @List.foldl_append:=@List.foldl_append
theorem Bt:type_of% @List.getElem?_append_left:=@List.getElem?_append_left
theorem Bu:type_of% @List.length_range:=@List.length_range
theorem Bv:type_of% @List.mem_cons:=@List.mem_cons
theorem Bw:type_of% @List.length_singleton:=@List.length_singleton
theorem By:type_of% @List.foldl_cons:=@List.foldl_cons
theorem Bz:type_of% @List.contains_eq_mem:=@List.contains_eq_mem
theorem BA:type_of% @ByteArray.toList_eq:=@ByteArray.toList_eq
theorem BB:type_of% @List.map_congr_left:=@List.map_congr_left
theorem BC:type_of% @Option.map_some:=@Option.map_some
theorem BD:type_of% @Array.getElem?_eq_getElem:=@Array.getElem?_eq_getElem
theorem BE:type_of% @List.isEmpty_iff:=@List.isEmpty_iff
theorem BF:type_of% @Nat.le_of_lt:=@Nat.le_of_lt
theorem BG:type_of% @Ne.symm:=@Ne.symm
theorem BH:type_of% @List.ext_getElem?:=@List.ext_getElem?
theorem BI:type_of% @Nat.le_succ:=@Nat.le_succ
theorem BJ:type_of% @List.getElem?_append_right:=@List.getElem?_append_right
theorem BK:type_of% @if_true:=@if_true
theorem BL:type_of% @List.mem_filter:=@List.mem_filter
theorem BM:type_of% @List.getElem?_append:=@List.getElem?_append
theorem BN:type_of% @List.any_eq_true:=@List.any_eq_true
theorem BO:type_of% @List.getElem?_take:=@List.getElem?_take
theorem BP:type_of% @List.mem_of_getElem?:=@List.mem_of_getElem?
theorem BQ:type_of% @List.all_eq_true:=@List.all_eq_true
def GL (md:Region.Mode) (ops:Array Oper):Bool:=(List.range ops.size).all λi=>match ops[i]? with
 |some o=>o.after.all λe => !Region.binds md e||decide (e.on<i)
 |none=>true
def BV (s:Nat->Value):Operand->Value
 | .tmp t=>s t
 | .const v=>v
 | .global g=>.pointer (some ⟨g,0,none⟩)
 | .func f=>.func (.func f) #[] #[]
def ED (s:Nat->Value) (d:Option Nat) (v:Value):Nat->Value:=match d with
 |some d=>λj=>if j=d then v else s j
 |none=>s
def Eb (P:Program) (o:Oper) (s:Nat->Value) (w:World) (K:(Nat->Value)->World->Prop):Prop:=match (execOp (BV s) o).run P w with
 | .ok (.value v) w'=>K (ED s o.dst v) w'
 | .ok .skip w'=>K (ED s o.dst undef) w'
 | .ok (.enter f args) w'=>Calls P f args w' λe w'' => ∃v,e= .returned v/\K (ED s o.dst v) w''
 | _=>False
def B4 (a:Act):Nat->Value:=λj=>a.tmps.getD j undef
theorem K2(a:Act):a.eval=BV (B4 a):=by
 funext x;cases x<;>rfl
theorem Ja(a:Act)(d:Option Nat)(v:Value)(h:∀j,d=some j->j<a.tmps.size):B4 (a.put d v)=ED (B4 a) d v:=by
 cases d with
 |none=>rfl
 |some d =>
  funext j;have b:=h d rfl;simp only[B4,Act.put,ED,AX,Array.getElem?_setIfInBounds]
  by_cases e:j=d
  ·subst e;simp[b]
  ·simp[e,Ne.symm e]
section
variable {P:Program} {md:Region.Mode} {ops:Array Oper} {Q:Exit->Act->World->Prop}
theorem K4{listed:Array Bool}{i:Nat}(h:i∈Region.ready md ops listed):∃o,ops[i]? = some o/\listed.getD i true=false/\∀e∈o.after,Region.binds md e=true->listed.getD e.on false=true:=by
 unfold Region.ready at h;rw[BL]at h;obtain⟨h1,h2⟩:=h;have hi:i<ops.size:=by simpa using h1
 rw[Bn]at h2;refine⟨ops[i],by simp[hi],by simpa using h2.1,λe he hb=>?_⟩;have h3:=h2.2;simp only[hi,BD,BC,Option.getD_some,Array.all_eq_true']at h3;have:=h3 e he;simpa[hb] using this
theorem OW{listed:Array Bool}(hb:GL md ops=true)(h:Region.ready md ops listed = []):∀i,i<ops.size->listed.getD i true=true:=by
 intro i
 induction i using Nat.strongRecOn with
 | _ i ih =>
  intro hi
  cases b:listed.getD i true with
  |true=>rfl
  |false =>
   exfalso;have c:i∈Region.ready md ops listed:=by
    unfold Region.ready;rw[BL];refine⟨by simpa using hi,?_⟩;rw[Bn];refine⟨by simp[b],?_⟩;simp only[hi,BD,BC,Option.getD_some,Array.all_eq_true'];intro e he
    cases a:Region.binds md e with
    |false=>simp
    |true =>
     unfold GL at hb;rw[BQ]at hb;have h1:=hb i (by simpa using hi);simp only[hi,BD,Array.all_eq_true']at h1;have h2:=h1 e he;simp[a]at h2;have h3:=ih e.on h2 (by omega);have h4:e.on<listed.size\/¬e.on<listed.size:=Nat.lt_or_ge _ _ |>.imp id (by omega);rcases h4 with h4|h4
     ·simp[Array.getD_eq_getD_getElem?,h4]at h3 ⊢;exact h3
     ·exfalso
      have d:listed.size<=i:=by omega
      simp[Array.getD_eq_getD_getElem?,Array.getElem?_eq_none d]at b
   rw[h]at c;cases c
theorem LQ(hb:GL md ops=true)(I:(Nat->Bool)->Act->World->Prop)(g:∀L a w i o,I L a w->ops[i]? = some o->L i=false->(∀e∈o.after,Region.binds md e=true->L e.on=true)->wpOp P ops Q i (I (λj=>decide (j=i)||L j)) a w)(k:∀L a w,I L a w->(∀i,i<ops.size->L i=true)->Q .normal a w) :
  ∀(b:Nat) (listed:Array Bool) (a:Act) (w:World),listed.size=ops.size->((List.range ops.size).filter (λi => !listed.getD i true)).length<=b->I (λj=>listed.getD j false) a w->wpAny P md ops Q b listed a w:=by
 have d:∀(listed:Array Bool),listed.size=ops.size->∀i,i<ops.size->listed.getD i false=listed.getD i true:=λlisted hs i hi=>by
  simp[Array.getD_eq_getD_getElem?,show i<listed.size by omega]
 have m:∀(listed:Array Bool) (a:Act) (w:World),listed.size=ops.size->I (λj=>listed.getD j false) a w->Region.ready md ops listed = []->Q .normal a w:=λlisted a w hs l h0 =>
  k _ a w l λi hi=>by show listed.getD i false=true;rw[d listed hs i hi];exact OW hb h0 i hi
 intro b
 induction b with
 |zero =>
  intro listed a w hs hc l;have h0:Region.ready md ops listed = []:=by
   apply List.eq_nil_iff_forall_not_mem.2;intro i hi;obtain⟨o,ho,p,-⟩:=K4 hi;have c:i<ops.size:=(Array.getElem?_eq_some_iff.1 ho).1;have:i∈(List.range ops.size).filter (λi => !listed.getD i true):=by
    rw[BL];exact⟨by simpa using c,by simp[p]⟩
   rw[AC (Nat.le_zero.1 hc)]at this;cases this
  exact⟨h0,m listed a w hs l h0⟩
 |succ b ih =>
  intro listed a w hs hc l;refine⟨m listed a w hs l,λi hi=>?_⟩;obtain⟨o,ho,p,ha⟩:=K4 hi;have c:i<ops.size:=(Array.getElem?_eq_some_iff.1 ho).1;refine wpOp_mono (λs w' h=>?_) (g _ a w i o l ho (by show listed.getD i false=false;rw[d listed hs i c];exact p) ha);refine ih _ s w' (by simpa using hs) ?_ ?_
  ·have n:∀j,j<ops.size->(listed.setIfInBounds i true).getD j true=(decide (j=i)||listed.getD j true):=λj q=>by
    simp only[AX,Array.getElem?_setIfInBounds]
    by_cases e:j=i
    ·subst e;simp[show j<listed.size by omega]
    ·simp[e,Ne.symm e]
   have r:((List.range ops.size).filter (λj => !(listed.setIfInBounds i true).getD j true)).length<((List.range ops.size).filter (λj => !listed.getD j true)).length:=by
    have e1:(List.range ops.size).filter (λj => !(listed.setIfInBounds i true).getD j true)=((List.range ops.size).filter (λj => !listed.getD j true)).filter (λj => !decide (j=i)):=by
     rw[List.filter_filter];refine List.filter_congr λj q=>?_;rw[n j (by simpa using q)];cases decide (j=i)<;>simp
    rw[e1];refine List.length_filter_lt_length_iff_exists.2 ⟨i,?_,by simp⟩;rw[BL];exact⟨by simpa using c,by simp[p]⟩
   omega
  ·have e2:(λj=>(listed.setIfInBounds i true).getD j false)=λj=>decide (j=i)||listed.getD j false:=by
    funext j;simp only[AX,Array.getElem?_setIfInBounds]
    by_cases e:j=i
    ·subst e;simp[show j<listed.size by omega]
    ·simp[e,Ne.symm e]
   rw[e2];exact h
end
def Cn (a:Act) (s:Nat->Value):List Nat->Act
 | []=>a
 | d :: ds=>Cn (a.put (some d) (s d)) s ds
theorem G3(s:Nat->Value):∀(D:List Nat) (a:Act),(Cn a s D).tmps.size=a.tmps.size/\(Cn a s D).defers=a.defers
 | [],a=>⟨rfl,rfl⟩
 | d :: ds,a=>by
  obtain⟨h1,h2⟩:=G3 s ds (a.put (some d) (s d));exact⟨h1.trans (by simp[Act.put]),h2⟩
theorem GI(s:Nat->Value):∀(D:List Nat) (a:Act),(∀d∈D,d<a.tmps.size)->∀j,B4 (Cn a s D) j=if j∈D then s j else B4 a j
 | [],a,_,j=>by simp[Cn]
 | d :: ds,a,h,j=>by
  have h1:=GI s ds (a.put (some d) (s d)) (λx hx=>by simp[Act.put];exact h x (List.mem_cons_of_mem _ hx)) j;show B4 (Cn (a.put (some d) (s d)) s ds) j=_;rw[h1,Ja a (some d) (s d) (λj b=>by cases b;exact h d (List.mem_cons_self ..))]
  by_cases e:j∈ds
  ·simp[e]
  ·by_cases e2:j=d
   ·subst e2;simp[e,ED]
   ·simp[e,e2,ED]
theorem Qz{a b:Act}(h1:a.tmps.size=b.tmps.size)(h2:a.defers=b.defers)(h3:∀j,B4 a j=B4 b j):a=b:=by
 cases a with|mk e g=>cases b with|mk c h =>
 simp only[Act.mk.injEq];refine⟨Array.ext h1 λi hi d=>?_,h2⟩;have:=h3 i;simpa[B4,Array.getD_eq_getD_getElem?,hi,show i<c.size from d] using this
theorem K7{P:Program}{id:Nat}{l:List Oper}{Q:Exit->Act->World->Prop}{c:Act}{I:World}(K:P.follows .mixedOrders=true)(hb:GL .any l.toArray=true)(D:List Nat)(M:l.all (λo=>o.guard==none&&match o.dst with|some d=>D.contains d|none=>true)=true)(E:D.all (λd=>decide (d<c.tmps.size))=true)(J:(Nat->Bool)->(Nat->Value)->World->Prop)(h0:J (λ_=>false) (B4 c) I.drew)(q:∀L s w i o,J L s w->(∀j,j∉D->s j=B4 c j)->l[i]? = some o->L i=false->(∀e∈o.after,Region.binds .any e=true->L e.on=true)->Eb P o s w (J (λj=>decide (j=i)||L j)))(u:∀L s w,J L s w->(∀i,i<l.length->L i=true)->Q .normal (Cn c s D) w):(Code.region id l.toArray true).wp P Q c I:=by
 have k:∀d∈D,d<c.tmps.size:=λd x=>by simpa using List.all_eq_true.1 E d x
 refine wp_region_any K ?_;refine LQ hb (λL a w=>a.tmps.size=c.tmps.size/\a.defers=c.defers/\(∀j,j∉D->B4 a j=B4 c j)/\J L (B4 a) w) ?_ ?_ _ _ _ _ (by simp) ?_ ?_
 ·rintro L a w i o ⟨C,F,y,G⟩ ho N ha
  have z:l[i]? = some o:=by simpa using ho
  have A:o∈l:=BP z;have hg:=List.all_eq_true.1 M o A;rw[Bn]at hg;have hgd:o.guard=none:=by simpa using hg.1
  have m:∀d,o.dst=some d->d∈D:=λd x=>by have:=hg.2;rw[x]at this;simpa using this
  have p:∀v,B4 (a.put o.dst v)=ED (B4 a) o.dst v:=λv=>Ja a o.dst v λj g=>by rw[C];exact k j (m j g)
  have b:∀v w',J (λj=>decide (j=i)||L j) (ED (B4 a) o.dst v) w'->(λ(L:Nat->Bool) (a:Act) (w:World)=>a.tmps.size=c.tmps.size/\a.defers=c.defers/\(∀j,j∉D->B4 a j=B4 c j)/\J L (B4 a) w) (λj=>decide (j=i)||L j) (a.put o.dst v) w':=λv w' H=>by
   refine⟨?_,?_,λj g=>?_,by rw[p];exact H⟩
   ·cases o.dst<;>simp[Act.put,C]
   ·cases o.dst<;>simp[Act.put,F]
   ·rw[p]
    cases x:o.dst with
    |none=>exact y j g
    |some d =>
     show (if j=d then v else B4 a j)=_
     rw[Ae (λe=>g (by rw[e];exact m d x))];exact y j g
  have hs:=q L (B4 a) w i o G y z N ha;have O:Region.wanted o (yielded l.toArray a.tmps)=true:=by simp[Region.wanted,hgd]
  unfold wpOp;simp only[ho,O,BK];left;unfold Oper.wp;rw[K2];unfold Eb at hs;generalize (execOp (BV (B4 a)) o).run P w=r at hs
  cases r with
  |ok n w' =>
   cases n with
   | value v=>exact b v w' hs
   | skip=>exact b undef w' hs
   | enter f args =>
    refine Calls.mono hs λe w'' h=>?_;obtain⟨v,rfl,H⟩:=h;exact b v w'' H
   | _=>exact hs.elim
  | _=>exact hs.elim
 ·rintro L a w ⟨C,F,y,G⟩ B
  have e:a=Cn c (B4 a) D:=by
   obtain⟨R,S⟩:=G3 (B4 a) D c;refine Qz (C.trans R.symm) (F.trans S.symm) λj=>?_;rw[GI _ _ _ k]
   by_cases g:j∈D
   ·rw[Af g]
   ·rw[Ae g];exact y j g
  rw[e];exact u L (B4 a) w G λi hi=>B i (by simpa using hi)
 ·refine Am (List.length_filter_le _ _) (by simp)
 ·refine⟨rfl,rfl,λ_ _=>rfl,?_⟩
  have e:(λj=>(Array.replicate l.toArray.size false).getD j false)=λ_=>false:=by
   funext j;simp only[AX,Array.getElem?_replicate];split<;>rfl
  rw[e];exact h0
end Go.Proofs.YtjjggefmmeminabGreat
namespace Go.Proofs.YtjjggefmmeminabGreat
open Go.RowKit
def I0 (l:List Oper) (i:Nat):Option Nat:=(l[i]?).bind (·.dst)
def D7 (l:List Oper) (s:Nat->Value) (i:Nat):Value:=match I0 l i with|some d=>s d|none=>undef
def DJ (L:Nat->Bool) (i:Nat):Nat->Bool:=λj=>decide (j=i)||L j
def Fc (a:Nat->Nat) (L:Nat->Bool) (k:Nat):Prop:=L (a k)=false
theorem BU{P:Program}{o:Oper}{s:Nat->Value}{w w':World}{v:Value}{K:(Nat->Value)->World->Prop}(h:(execOp (BV s) o).run P w= .ok (.value v) w')(hk:K (ED s o.dst v) w'):Eb P o s w K:=by
 unfold Eb;rw[h];exact hk
theorem zF{a:Act}{s:Nat->Value}{D:List Nat}{v:Value}(hF:∀j,j∉D->s j=B4 a j){j:Nat}(h:B4 a j=v)(d:decide (j∉D)=true):s j=v:=(hF j (of_decide_eq_true d)).trans h
theorem zA{A:(Nat->Bool)->Nat->Value->World->Prop}{l:List Oper}{L:Nat->Bool}{s:Nat->Value}{w:World}{o:Oper}(a:∀k,L k=true->Fc (λ_=>99) L k->A L k (D7 l s k) w)(ha:∀e∈o.after,Region.binds .any e=true->L e.on=true)(h:L 99=false)(k:Nat)(m:(⟨k,.data⟩:Edge)∈o.after):A L k (D7 l s k) w:=a k (ha _ m rfl) h
theorem zm(f:Fn)(a c:Array Value)(w:World):(Instr.makeFunc f a c).run Tryz.prog w= .ok (.func f a c) w:=rfl
theorem z9{L:Nat->Bool}{n:Nat}(h:∀k,L k=true->k<n)(d:¬99<n):L 99=false:=by
 cases e:L 99 with
 |false=>rfl
 |true=>exact absurd (h 99 e) d
theorem CV{P:Program}{o:Oper}{s:Nat->Value}{w w':World}{K:(Nat->Value)->World->Prop}(h:(execOp (BV s) o).run P w= .ok .skip w')(hk:K (ED s o.dst undef) w'):Eb P o s w K:=by
 unfold Eb;rw[h];exact hk
theorem Nb{P:Program}{o:Oper}{s:Nat->Value}{w w':World}{f : FuncId}{args:Array Value}{K:(Nat->Value)->World->Prop}(h:(execOp (BV s) o).run P w= .ok (.enter f args) w')(hk:Calls P f args w' λe w'' => ∃v,e= .returned v/\K (ED s o.dst v) w''):Eb P o s w K:=by
 unfold Eb;rw[h];exact hk
theorem Eb.mono{P:Program}{o:Oper}{s:Nat->Value}{w:World}{K a:(Nat->Value)->World->Prop}(h:Eb P o s w K)(hk:∀v w',K (ED s o.dst v) w'->a (ED s o.dst v) w'):Eb P o s w a:=by
 unfold Eb at *;generalize (execOp (BV s) o).run P w=r at *
 cases r with
 |ok n w' =>
  cases n with
  | value v=>exact hk _ _ h
  | skip=>exact hk _ _ h
  | enter f args=>exact Calls.mono h λe w'' ⟨v,he,hv⟩=>⟨v,he,hk _ _ hv⟩
  | _=>exact h.elim
 | _=>exact h.elim
def MG (l:List Oper):Bool:=(List.range l.length).all λi=>(List.range l.length).all λj=>decide (i=j)||match I0 l i,I0 l j with
 |some d,some e=>decide (d≠e)
 | _,_=>true
theorem Cq{P:Program}{id:Nat}{l:List Oper}{Q:Exit->Act->World->Prop}{p:Act}{N:World}(S:P.follows .mixedOrders=true)(hb:GL .any l.toArray=true)(D:List Nat)(T:l.all (λo=>o.guard==none&&match o.dst with|some d=>D.contains d|none=>true)=true)(C:D.all (λd=>decide (d<p.tmps.size))=true)(ho:MG l=true)(a:Nat->Nat)(A:(Nat->Bool)->Nat->Value->World->Prop)(G:(Nat->Bool)->(Nat->Value)->World->Prop)(U:G (λ_=>false) (B4 p) N.drew)(g:∀L s w i o,G L s w->(∀k,L k=true->k<l.length)->(∀k o,L k=true->l[k]? = some o->∀e∈o.after,Region.binds .any e=true->L e.on=true)->(∀k,L k=true->Fc a L k->A L k (D7 l s k) w)->(∀j,j∉D->s j=B4 p j)->l[i]? = some o->L i=false->(∀e∈o.after,Region.binds .any e=true->L e.on=true) ->
   Eb P o s w (λO w'=>G (DJ L i) O w'/\A (DJ L i) i (D7 l O i) w'/\∀k,k≠i->L k=true->Fc a (DJ L i) k->A L k (D7 l s k) w->A (DJ L i) k (D7 l s k) w'))(h:∀L s w,G L s w->(∀k,L k=true->k<l.length)->(∀i,i<l.length->L i=true)->(∀k,L k=true->Fc a L k->A L k (D7 l s k) w)->Q .normal (Cn p s D) w):(Code.region id l.toArray true).wp P Q p N:=by
 refine K7 S hb D T C (λL s w=>G L s w/\(∀k,L k=true->k<l.length)/\(∀k o,L k=true->l[k]? = some o->∀e∈o.after,Region.binds .any e=true->L e.on=true)/\∀k,L k=true->Fc a L k->A L k (D7 l s k) w) ⟨U,λk hk=>(by cases hk),λk _ hk=>(by cases hk),λk hk=>(by cases hk)⟩ ?_ ?_
 ·rintro L s w i o ⟨E,q,F,B⟩ hf hi V ha
  refine(g L s w i o E q F B hf hi V ha).mono λv w' W=>?_;obtain⟨X,Y,Z⟩:=W;have r:i<l.length:=(List.getElem?_eq_some_iff.1 hi).1;refine⟨X,λk hk=>?_,λk o' hk m e he u=>?_,λk hk n=>?_⟩
  ·by_cases e:k=i
   ·rw[e];exact r
   ·exact q k (by simpa[e] using hk)
  ·by_cases R:k=i
   ·subst R
    rw[hi]at m;cases m;show (decide (e.on=k)||L e.on)=true;rw[ha e he u];simp
   ·have b:L k=true:=by simpa[R] using hk
    show (decide (e.on=i)||L e.on)=true;rw[F k o' b m e he u];simp
  ·by_cases e:k=i
   ·subst e;exact Y
   ·have b:L k=true:=by simpa[e] using hk
    have x:Fc a L k:=by
     unfold Fc at n ⊢;have c:(decide (a k=i)||L (a k))=false:=n;rw[Bool.or_eq_false_iff]at c;exact c.2
    have y:D7 l (ED s o.dst v) k=D7 l s k:=by
     unfold D7
     cases H:I0 l k with
     |none=>rfl
     |some d =>
      cases I:o.dst with
      |none=>rfl
      |some J =>
       show (if d=J then v else s d)=s d
       have K:d≠J:=by
        unfold MG at ho;rw[BQ]at ho;have h1:=ho k (by simpa using q k b);rw[BQ]at h1;have h2:=h1 i (by simpa using r);have M:I0 l i=some J:=by unfold I0;rw[hi];exact I
        rw[H,M]at h2;simpa[e] using h2
       rw[Ae K]
    rw[y];exact Z k e b n (B k b x)
 ·rintro L s w ⟨E,q,F,B⟩ z
  exact h L s w E q z B
end Go.Proofs.YtjjggefmmeminabGreat
namespace Go.Proofs.YtjjggefmmeminabGreat
def Ds (n:Nat) (p:Nat->Bool):Int:=match (List.range n).find? p with|some i=>(i:Int)|none => -1
theorem GT{n:Nat}{p:Nat->Bool}{k:Nat}(hk:k<n)(a:p k=true)(hb:∀j,j<k->p j=false):(List.range n).find? p=some k:=by
 rw[List.find?_range_eq_some];exact⟨a,by simpa using hk,λj b=>by simp[hb j b]⟩
theorem GR{n:Nat}{p:Nat->Bool}(hb:∀j,j<n->p j=false):(List.range n).find? p=none:=by
 rw[List.find?_eq_none];intro j a;simp[hb j (by simpa using a)]
theorem DD{n:Nat}{p:Nat->Bool}{k:Nat}(hk:k<n)(a:p k=true)(hb:∀j,j<k->p j=false):Ds n p=(k:Int):=by
 unfold Ds;rw[GT hk a hb]
theorem Em{n:Nat}{p:Nat->Bool}(hb:∀j,j<n->p j=false):Ds n p = -1:=by
 unfold Ds;rw[GR hb]
theorem CE(n:Nat)(p:Nat->Bool):(Ds n p = -1/\∀j,j<n->p j=false)\/∃k:Nat,k<n/\Ds n p=(k:Int)/\p k=true/\∀j,j<k->p j=false:=by
 cases h:(List.range n).find? p with
 |none =>
  left;rw[List.find?_eq_none]at h;refine⟨by unfold Ds;simp[List.find?_eq_none.2 h],λj a=>?_⟩;have:=h j (by simpa using a);simpa using this
 |some k =>
  right;have b:=h;rw[List.find?_range_eq_some]at b;obtain⟨h1,h2,h3⟩:=b;refine⟨k,by simpa using h2,by unfold Ds;rw[h],h1,λj a=>?_⟩;have:=h3 j a;simpa using this
def CA (n:Nat) (g:Nat->Int):Int × Int:=match (List.range n).find? (λi=>g i != 0) with|some i=>(g i,(i:Int))|none=>(0,0)
theorem Do{n:Nat}{g:Nat->Int}{k:Nat}(hk:k<n)(a:g k≠0)(hb:∀j,j<k->g j=0):CA n g=(g k,(k:Int)):=by
 unfold CA;rw[GT hk (by simpa using a) (λj b=>by simp[hb j b])]
theorem Dm{n:Nat}{g:Nat->Int}(hb:∀j,j<n->g j=0):CA n g=(0,0):=by
 unfold CA;rw[GR (λj a=>by simp[hb j a])]
theorem FC(n:Nat)(g:Nat->Int):(CA n g=(0,0)/\∀j,j<n->g j=0)\/∃k:Nat,k<n/\CA n g=(g k,(k:Int))/\g k≠0/\∀j,j<k->g j=0:=by
 rcases CE n (λi=>g i != 0) with⟨_,h⟩|⟨k,hk,_,h1,h2⟩
 ·left
  have d:∀j,j<n->g j=0:=λj c=>by simpa using h j c
  exact⟨Dm d,d⟩
 ·right
  have a:g k≠0:=by simpa using h1
  have b:∀j,j<k->g j=0:=λj c=>by simpa using h2 j c
  exact⟨k,hk,Do hk a b,a,b⟩
theorem N9{n:Nat}{g h:Nat->Int}(e:∀j,j<n->g j=h j):CA n g=CA n h:=by
 rcases FC n h with⟨e1,e2⟩|⟨k,hk,e1,e2,e3⟩
 ·rw[e1];exact Dm λj a=>(e j a).trans (e2 j a)
 ·rw[e1,<-e k hk];exact Do hk (by rw[e k hk];exact e2) λj a=>(e j (by omega)).trans (e3 j a)
theorem Fv{n:Nat}{p q:Nat->Bool}(e:∀j,j<n->p j=q j):Ds n p=Ds n q:=by
 rcases CE n q with⟨e1,e2⟩|⟨k,hk,e1,e2,e3⟩
 ·rw[e1];exact Em λj a=>(e j a).trans (e2 j a)
 ·rw[e1];exact DD hk ((e k hk).trans e2) λj a=>(e j (by omega)).trans (e3 j a)
end Go.Proofs.YtjjggefmmeminabGreat
namespace Go.Proofs.YtjjggefmmeminabGreat
open Go.RowKit Go.Sort
structure LField where
 name:ByteArray
 kind:Int
 type:ByteArray
structure LType where
 name:ByteArray
 fa:Option Addr
 nf:Nat
 fcap:Nat
 F:Nat->LField
structure LVal where
 field:ByteArray
 text:ByteArray
 ka:Option Addr
 nk:Nat
 kcap:Nat
 K:Nat->ByteArray
structure LThing where
 type:ByteArray
 key:ByteArray
 va:Option Addr
 nv:Nat
 vcap:Nat
 V:Nat->LVal
def BY (s:ByteArray):Prop:=s.size<=maxLen
def JY (w:World) (b o:Nat) (f:LField):Prop :=
 w.cell? ⟨b,o,none⟩=some (.string f.name)/\w.cell? ⟨b,o+1,none⟩=some (.int .i64 f.kind)/\w.cell? ⟨b,o+2,none⟩=some (.string f.type)/\BY f.name/\BY f.type/\(Lit.int .i64 f.kind).wf=true
def Cl (w:World) (a:Option Addr) (n:Nat) (F:Nat->LField):Prop:=n<=maxLen/\∀i,i<n->∃b o,a=some ⟨b,o,none⟩/\JY w b (o+i*3) (F i)
def M3 (w:World) (b o:Nat) (t:LType):Prop :=
 w.cell? ⟨b,o,none⟩=some (.string t.name)/\w.cell? ⟨b,o+1,none⟩=some (.slice t.fa t.nf t.fcap)/\t.nf<=t.fcap/\BY t.name/\Cl w t.fa t.nf t.F
def Cs (w:World) (a:Option Addr) (n:Nat) (T:Nat->LType):Prop:=n<=maxLen/\∀i,i<n->∃b o,a=some ⟨b,o,none⟩/\M3 w b (o+i*2) (T i)
def CF (w:World) (a:Option Addr) (n:Nat) (K:Nat->ByteArray):Prop:=n<=maxLen/\∀i,i<n->∃b o,a=some ⟨b,o,none⟩/\w.cell? ⟨b,o+i,none⟩=some (.string (K i))/\BY (K i)
def QI (w:World) (b o:Nat) (v:LVal):Prop :=
 w.cell? ⟨b,o,none⟩=some (.string v.field)/\w.cell? ⟨b,o+1,none⟩=some (.string v.text)/\w.cell? ⟨b,o+2,none⟩=some (.slice v.ka v.nk v.kcap)/\v.nk<=v.kcap/\BY v.field/\BY v.text/\CF w v.ka v.nk v.K
def Ec (w:World) (a:Option Addr) (n:Nat) (V:Nat->LVal):Prop:=n<=maxLen/\∀i,i<n->∃b o,a=some ⟨b,o,none⟩/\QI w b (o+i*3) (V i)
def Iv (w:World) (b o:Nat) (x:LThing):Prop :=
 w.cell? ⟨b,o,none⟩=some (.string x.type)/\w.cell? ⟨b,o+1,none⟩=some (.string x.key)/\w.cell? ⟨b,o+2,none⟩=some (.slice x.va x.nv x.vcap)/\x.nv<=x.vcap/\BY x.type/\BY x.key/\Ec w x.va x.nv x.V
def CZ (w:World) (a:Option Addr) (n:Nat) (X:Nat->LThing):Prop:=n<=maxLen/\∀i,i<n->∃b o,a=some ⟨b,o,none⟩/\Iv w b (o+i*3) (X i)
def eqs (a b:ByteArray):Bool:=a.data.toList==b.data.toList
theorem CT(a b:ByteArray):(a.toList==b.toList)=eqs a b:=by unfold eqs;rw[BA,BA]
theorem Pw{a b:ByteArray}:a.toList=b.toList↔a=b:=by
 rw[BA,BA];constructor
 ·intro h
  cases a with|mk a=>cases b with|mk b=>exact congrArg ByteArray.mk (Array.toList_inj.1 h)
 ·rintro rfl;rfl
theorem Ch{a b:ByteArray}:eqs a b=true↔a=b:=by rw[<-CT,beq_iff_eq];exact Pw
theorem EY{s:ByteArray}:s.toList = []↔s.size=0:=by
 rw[BA];constructor
 ·intro h;have:=congrArg List.length h;simpa using this
 ·intro h;apply AC;simpa using h
def find (n:Nat) (T:Nat->LType) (name:ByteArray):Int:=Ds n (λi=>eqs (T i).name name)
def BX (n:Nat) (F:Nat->LField) (name:ByteArray):Int:=Ds n (λi=>eqs (F i).name name)
theorem Cz(w:World)(q:Nat):Below w.heap.size w (w.drewN q):=⟨rfl,rfl,rfl,Aj _,λ_ _=>rfl⟩
theorem BR{w w':World}(h:Below w.heap.size w w'){p:Addr}{v:Value}(hc:w.cell? p=some v):w'.cell? p=some v :=
 (h.cell (An hc)).trans hc
theorem JY.kept{w w':World}(h:Below w.heap.size w w'){b o:Nat}{f : LField}(hf:JY w b o f):JY w' b o f :=
 ⟨BR h hf.1,BR h hf.2.1,BR h hf.2.2.1,hf.2.2.2⟩
theorem Cl.kept{w w':World}(h:Below w.heap.size w w'){a:Option Addr}{n:Nat}{F:Nat->LField}(hf:Cl w a n F):Cl w' a n F :=
 ⟨hf.1,λi hi=>let ⟨b,o,e,hh⟩:=hf.2 i hi;⟨b,o,e,hh.kept h⟩⟩
theorem M3.kept{w w':World}(h:Below w.heap.size w w'){b o:Nat}{t : LType}(a:M3 w b o t):M3 w' b o t :=
 ⟨BR h a.1,BR h a.2.1,a.2.2.1,a.2.2.2.1,a.2.2.2.2.kept h⟩
theorem Cs.kept{w w':World}(h:Below w.heap.size w w'){a:Option Addr}{n:Nat}{T:Nat->LType}(c:Cs w a n T):Cs w' a n T :=
 ⟨c.1,λi hi=>let ⟨b,o,e,hh⟩:=c.2 i hi;⟨b,o,e,hh.kept h⟩⟩
theorem CF.kept{w w':World}(h:Below w.heap.size w w'){a:Option Addr}{n:Nat}{K:Nat->ByteArray}(hk:CF w a n K):CF w' a n K :=
 ⟨hk.1,λi hi=>let ⟨b,o,e,hh,hs⟩:=hk.2 i hi;⟨b,o,e,BR h hh,hs⟩⟩
theorem QI.kept{w w':World}(h:Below w.heap.size w w'){b o:Nat}{v:LVal}(hv:QI w b o v):QI w' b o v :=
 ⟨BR h hv.1,BR h hv.2.1,BR h hv.2.2.1,hv.2.2.2.1,hv.2.2.2.2.1,hv.2.2.2.2.2.1,hv.2.2.2.2.2.2.kept h⟩
theorem Ec.kept{w w':World}(h:Below w.heap.size w w'){a:Option Addr}{n:Nat}{V:Nat->LVal}(hv:Ec w a n V):Ec w' a n V :=
 ⟨hv.1,λi hi=>let ⟨b,o,e,hh⟩:=hv.2 i hi;⟨b,o,e,hh.kept h⟩⟩
theorem Iv.kept{w w':World}(h:Below w.heap.size w w'){b o:Nat}{x:LThing}(hx:Iv w b o x):Iv w' b o x :=
 ⟨BR h hx.1,BR h hx.2.1,BR h hx.2.2.1,hx.2.2.2.1,hx.2.2.2.2.1,hx.2.2.2.2.2.1,hx.2.2.2.2.2.2.kept h⟩
theorem CZ.kept{w w':World}(h:Below w.heap.size w w'){a:Option Addr}{n:Nat}{X:Nat->LThing}(hx:CZ w a n X):CZ w' a n X :=
 ⟨hx.1,λi hi=>let ⟨b,o,e,hh⟩:=hx.2 i hi;⟨b,o,e,hh.kept h⟩⟩
theorem Cs.less{w:World}{a:Option Addr}{n m:Nat}{T:Nat->LType}(h:Cs w a n T)(b:m<=n):Cs w a m T :=
 ⟨Am b h.1,λi hi=>h.2 i (Ah hi b)⟩
theorem Cl.less{w:World}{a:Option Addr}{n m:Nat}{F:Nat->LField}(h:Cl w a n F)(b:m<=n):Cl w a m F :=
 ⟨Am b h.1,λi hi=>h.2 i (Ah hi b)⟩
theorem CZ.less{w:World}{a:Option Addr}{n m:Nat}{X:Nat->LThing}(h:CZ w a n X)(b:m<=n):CZ w a m X :=
 ⟨Am b h.1,λi hi=>h.2 i (Ah hi b)⟩
theorem BW(w:World)(o:Obj):Below w.heap.size w (w.alloc o):=(Aq _ _).alloc (Aj _) o
theorem CN(w:World)(o a:Obj):Below w.heap.size w ((w.alloc o).alloc a):=((Aq _ _).alloc (Aj _) o).alloc (by simp) a
end Go.Proofs.YtjjggefmmeminabGreat
namespace Go.Proofs.YtjjggefmmeminabGreat
open Go.RowKit Go.Sort
theorem DG{P:Program}(w:World)(base:Nat)(t ty e:TypeId)(i:TypeInfo)(z:Value)(size bytes:Nat)(s:P.underlying t=some (.slice e))(hi:P.info? e=some i)(F:i.zero=some z)(k:i.size=size)(x:i.bytes=bytes)(y:z.cells.size=size)(A:0<size)(v:Value)(n:Nat)(B:List Value)(b:w.ownsRow base e size v n B)(d:Option Addr)(m c:Nat)(a:List Value)(E:a.length=m*size)(l:∀q,d=some q->∀j u,a[j]? = some u->w.cell? (q.add j)=some u)(r:d=none->m=0)(h1:∀u∈a,u.oneCell'=true)(C:n+m<=maxLen)(h:(n+m)*bytes<=140737488355328)(o:base<=w.heap.size) :
  ∃p w',(Builtin.append_ #[t,t] ty #[v,.slice d m c]).run P w= .ok p w'/\w'.ownsRow base e size p (n+m) (B++a)/\w.grownBy w' v.ownBlock/\(p.ownBlock=v.ownBlock\/p.ownBlock=some w.heap.size):=by
 cases d with
 |some q =>
  obtain⟨p,w',G,h2,h3,-,H⟩:=run_append_own_at (P:=P) w base t ty e i z size bytes s hi F k x y A v n B b q m c a E (l q rfl) h1 C h o;exact⟨p,w',G,h2,h3,H⟩
 |none =>
  have I:=r rfl;subst I;have hn:a = []:=AC (by simpa using E);subst hn;refine⟨v,w,?_,by simpa using b,⟨rfl,rfl,rfl,Aj _,λ_ _ _=>rfl⟩,.inl rfl⟩;rcases b.2 with⟨rfl,rfl⟩|⟨g,cap,cur,rfl,_,_,D,_⟩
  ·simp[Builtin.append_,run_underlying s,sizeOf,typeInfo,hi,Builtin.lenOf,Builtin.firstCells]
  ·simp[Builtin.append_,run_underlying s,sizeOf,typeInfo,hi,Builtin.lenOf,Builtin.firstCells,D,storeCells]
theorem Ck{P:Program}(w:World){ops:Array Oper}{rest:List Oper}{o:Oper}{a:Act}{Q:Exit->Act->World->Prop}(hgd:o.guard=none)(s x:Operand)(t:TypeId)(ho:o.op= .call { callee:=.builtin .append,args:=#[s,x],argTypes:=#[t,t] })(base:Nat)(e:TypeId)(i:TypeInfo)(z:Value)(size bytes:Nat)(G:P.underlying t=some (.slice e))(hi:P.info? e=some i)(H:i.zero=some z)(k:i.size=size)(A:i.bytes=bytes)(B:z.cells.size=size)(C:0<size)(v:Value)(n:Nat)(D:List Value)(hs:a.eval s=v)(r:w.ownsRow base e size v n D)(d:Option Addr)(m c:Nat)(b:List Value)(hx:a.eval x= .slice d m c)(I:b.length=m*size)(l:∀F,d=some F->∀j u,b[j]? = some u->w.cell? (F.add j)=some u)(y:d=none->m=0)(h1:∀u∈b,u.oneCell'=true)(E:n+m<=maxLen)(g:(n+m)*bytes<=140737488355328)(p:base<=w.heap.size)(h:∀q w',w'.ownsRow base e size q (n+m) (D++b)->w.grownBy w' v.ownBlock->(q.ownBlock=v.ownBlock\/q.ownBlock=some w.heap.size)->wpList P ops Q rest (a.put o.dst q) w') :
  wpList P ops Q (o :: rest) a w:=by
 refine wpList_plain hgd λK J=>?_;obtain⟨q,w',L,h2,h3,M⟩:=DG (P:=P) w base t o.type e i z size bytes G hi H k A B C v n D r d m c b I l y h1 E g p;unfold Oper.wp execOp;simp only[ho,resolve,invoke,builtin,Sem.run_bind,Sem.run_pure,Result.andThen_ok,AJ,AG,AI,hs,hx,L];exact J _ _ (h q w' h2 h3 M)
theorem Cd{P:Program}{e:TypeId}{z:Option Value}{s b:Nat}(h:(P.info? e).map (λi=>(i.zero,i.size,i.bytes))=some (z,s,b)):∃i,P.info? e=some i/\i.zero=z/\i.size=s/\i.bytes=b:=by
 cases hi:P.info? e with
 |none=>rw[hi]at h;simp at h
 |some i=>rw[hi]at h;simp at h;exact⟨i,rfl,h⟩
def DL (T:Nat->LType) (j:Nat):Value:=if j % 2=0 then .string (T (j / 2)).name else .slice (T (j / 2)).fa (T (j / 2)).nf (T (j / 2)).fcap
def D0 (T:Nat->LType) (n:Nat):List Value:=(List.range (n*2)).map (DL T)
theorem Id{T:Nat->LType}{n j:Nat}(h:j<n*2):(D0 T n)[j]? = some (DL T j):=by
 unfold D0;rw[AV,AQ h];rfl
theorem JM{T a:Nat->LType}{n:Nat}(h:∀i,i<n->T i=a i):D0 T n=D0 a n:=by
 unfold D0;refine BB λj b=>?_;have c:j<n*2:=by simpa using b
 unfold DL;rw[h (j / 2) (by omega)]
theorem Kp(T:Nat->LType)(n:Nat):D0 T (n+1)=D0 T n++[.string (T n).name,.slice (T n).fa (T n).nf (T n).fcap]:=by
 unfold D0;rw[show (n+1)*2=n*2+1+1 by omega,AA,AA];simp only[AH,AG,AI,AR];unfold DL;rw[Af (by omega),Ae (by omega),show n*2 / 2=n by omega,show (n*2+1) / 2=n by omega];rfl
theorem PT{w:World}{base e:Nat}{v:Value}{n:Nat}{T:Nat->LType}(h:w.ownsRow base e 2 v n (D0 T n))(d:n<=maxLen)(hg:∀i,i<n->(T i).nf<=(T i).fcap/\BY (T i).name/\Cl w (T i).fa (T i).nf (T i).F) :
  ∃a cap,v= .slice a n cap/\n<=cap/\Cs w a n T:=by
 rcases h.2 with⟨rfl,rfl⟩|⟨g,cap,cur,rfl,hb,j,b,k,l,c⟩
 ·exact⟨none,0,rfl,Aj _,Ai _,λi hi=>absurd hi (Ak _)⟩
 ·refine⟨_,cap,rfl,b,d,λi hi=>⟨g,0,rfl,?_,?_,hg i hi⟩⟩
  ·have:=h.cellAt (i*2) (by omega)
   rw[Id (by omega)]at this;rw[AL,this];unfold DL;rw[Af (by omega),show i*2 / 2=i by omega]
  ·have:=h.cellAt (i*2+1) (by omega)
   rw[Id (by omega)]at this;rw[AL,this];unfold DL;rw[Ae (by omega),show (i*2+1) / 2=i by omega]
end Go.Proofs.YtjjggefmmeminabGreat
namespace Go.Proofs.YtjjggefmmeminabGreat
open Go.RowKit Go.Sort
theorem Aa{p:Prop}(h:p):Hid p:=h
def B9 (w:World) (base:Nat) (e:TypeId) (size:Nat) (v:Value) (n:Nat) (f:Nat->Value):Prop:=w.ownsRow base e size v n ((List.range (n*size)).map f)
theorem CX{n:Nat}{f g:Nat->Value}(h:∀j,j<n->f j=g j):(List.range n).map f=(List.range n).map g :=
 BB λj a=>h j (by simpa using a)
theorem Ly{n j:Nat}{f : Nat->Value}{u:Value} : ((List.range n).map f).set j u=(List.range n).map (λi=>if i=j then u else f i):=by
 apply BH;intro i;rw[List.getElem?_set]
 by_cases a:j=i
 ·subst a
  by_cases hi:j<n
  ·simp[hi]
  ·simp[hi]
 ·rw[Ae a]
  by_cases hi:i<n
  ·simp[hi,Ne.symm a]
  ·simp[hi]
theorem B9.congr{w:World}{base e size n:Nat}{v:Value}{f g:Nat->Value}(h:B9 w base e size v n f)(a:∀j,j<n*size->f j=g j):B9 w base e size v n g:=by
 unfold B9 at *;rw[<-CX a];exact h
theorem B9.shape{w:World}{base e size n:Nat}{v:Value}{f : Nat->Value}(h:B9 w base e size v n f):(v= .slice none 0 0/\n=0)\/∃g cap,v= .slice (some ⟨g,0,none⟩) n cap/\base<=g/\n<=cap/\cap<=maxLen:=by
 rcases h.2 with h|⟨g,cap,cur,hv,hb,-,hn,a,-⟩
 ·exact .inl h
 ·exact .inr ⟨g,cap,hv,hb,hn,a⟩
theorem B9.cell{w:World}{base e size n g cap:Nat}{f : Nat->Value}(h:B9 w base e size (.slice (some ⟨g,0,none⟩) n cap) n f){j:Nat}(a:j<n*size):w.cell? ⟨g,j,none⟩=some (f j):=by
 have:=World.ownsRow.cellAt h j a;rw[this];simp[a]
theorem B9.free{w:World}{base e size n g cap:Nat}{f : Nat->Value}(h:B9 w base e size (.slice (some ⟨g,0,none⟩) n cap) n f)(j:Nat):w.frozen? ⟨g,j,none⟩=false:=World.ownsRow.frozenAt h j
theorem B9.set{w:World}{base e size n g cap:Nat}{f : Nat->Value}(h:B9 w base e size (.slice (some ⟨g,0,none⟩) n cap) n f)(j:Nat)(u:Value):B9 (w.setCell ⟨g,j,none⟩ u) base e size (.slice (some ⟨g,0,none⟩) n cap) n (λi=>if i=j then u else f i):=by
 unfold B9;rw[<-Ly];exact(World.ownsRow.stored h j u).1
theorem B9.at{w w':World}{base e size n:Nat}{v:Value}{f : Nat->Value}(h:B9 w base e size v n f)(hb:∀k,v.ownBlock=some k->w'.heap[k]? = w.heap[k]?):B9 w' base e size v n f:=by
 refine⟨h.1,?_⟩;rcases h.2 with h|⟨g,cap,cur,rfl,hg,hh,r⟩
 ·exact .inl h
 ·exact .inr ⟨g,cap,cur,rfl,hg,(hb g rfl).trans hh,r⟩
theorem B9.obj{w:World}{base e size n:Nat}{v:Value}{f : Nat->Value}(h:B9 w base e size v n f){k:Nat}(hk:v.ownBlock=some k):∃cur,w.heap[k]? = some (.cells cur e (0,0)):=by
 rcases h.2 with⟨rfl,_⟩|⟨g,cap,cur,rfl,hg,hh,r⟩
 ·cases hk
 ·cases hk;exact⟨cur,hh⟩
theorem B9.lt{w:World}{base e size n:Nat}{v:Value}{f : Nat->Value}(h:B9 w base e size v n f){k:Nat}(hk:v.ownBlock=some k):base<=k/\k<w.heap.size:=World.ownsRow.lt h k hk
theorem B9.set_other{w:World}{base e size n:Nat}{v:Value}{f : Nat->Value}(h:B9 w base e size v n f){p:Addr}(a:v.ownBlock≠some p.block)(u:Value):B9 (w.setCell p u) base e size v n f :=
 h.at λk hk=>Al _ _ _ _ (λe=>a (by rw[hk,e]))
theorem B9.grown{w w':World}{base e size n:Nat}{v:Value}{f : Nat->Value}{a:Option Nat}(h:B9 w base e size v n f)(hg:w.grownBy w' a)(b:∀k,v.ownBlock=some k->a≠some k):B9 w' base e size v n f :=
 h.at λk hk=>hg.block k (h.lt hk).2 (λe=>b k hk e.symm)
theorem B9.kept{w w':World}{base e size n:Nat}{v:Value}{f : Nat->Value}(h:B9 w base e size v n f)(hB:Below w.heap.size w w'):B9 w' base e size v n f :=
 h.at λk hk=>hB.block k (h.lt hk).2
theorem B9.ne{w:World}{base a e g size b n j:Nat}{v i:Value}{f l:Nat->Value}(h:B9 w base e size v n f)(m:B9 w a g b i j l)(he:e≠g){k:Nat}(hk:v.ownBlock=some k):i.ownBlock≠some k:=by
 intro d;obtain⟨c,h1⟩:=h.obj hk;obtain⟨o,h2⟩:=m.obj d;rw[h1]at h2;simp at h2;exact he h2.2
def B3 (O:Nat->ByteArray) (j:Nat):Value:=.string (O j)
theorem B9.slice{w:World}{base e size n:Nat}{v:Value}{f : Nat->Value}(h:B9 w base e size v n f):∃a cap,v= .slice a n cap/\n<=cap:=by
 rcases h.shape with⟨rfl,rfl⟩|⟨g,cap,rfl,-,hc,-⟩
 ·exact⟨none,0,rfl,Aj _⟩
 ·exact⟨_,cap,rfl,hc⟩
theorem B9.keysAt{w:World}{base e n:Nat}{v:Value}{O:Nat->ByteArray}(h:B9 w base e 1 v n (B3 O))(hn:n<=maxLen)(hg:∀j,j<n->BY (O j)):∃a cap,v= .slice a n cap/\n<=cap/\CF w a n O:=by
 rcases h.shape with⟨rfl,rfl⟩|⟨g,cap,rfl,-,hc,-⟩
 ·exact⟨none,0,rfl,Aj _,Ai _,λi hi=>absurd hi (Ak _)⟩
 ·refine⟨_,cap,rfl,hc,hn,λi hi=>⟨g,0,rfl,?_,hg i hi⟩⟩
  rw[h.cell (by omega),AL];rfl
structure Boxed (w Z:World) (b:Nat) (x y:Int):Prop where
 blk:Z.heap[b]? = some (.cells #[.int .i64 x,.int .i64 y] 39 (0,0))
 keep:∀k,k<w.heap.size->k≠b->Z.heap[k]? = w.heap[k]?
 old:∀o,w.heap[b]? = some o->∃c,o= .cells c 39 (0,0)
 os:Z.os=w.os
 tape:Z.tape=w.tape
 output:Z.output=w.output
 size:w.heap.size<=Z.heap.size
theorem Boxed.below{a w Z:World}{b B:Nat}{x y:Int}(h:Boxed w Z b x y)(hb:Below B a w)(hB:B<=b)(c:B<=w.heap.size):Below B a Z :=
 hb.trans ⟨h.os,h.tape,h.output,h.size,λk hk=>h.keep k (by omega) (by omega)⟩
theorem Dz{w:World}{b:Nat}{x y:Int}(h:w.heap[b]? = some (.cells #[.int .i64 x,.int .i64 y] 39 (0,0))):w.cell? ⟨b,0,none⟩=some (.int .i64 x)/\w.cell? ⟨b,1,none⟩=some (.int .i64 y)/\w.frozen? ⟨b,0,none⟩=false/\w.frozen? ⟨b,1,none⟩=false:=by
 simp[World.cell?,World.frozen?,h]
theorem LY{w:World}{b:Nat}{x y u v:Int}(h:w.heap[b]? = some (.cells #[.int .i64 x,.int .i64 y] 39 (0,0))):Boxed w ((w.setCell ⟨b,0,none⟩ (.int .i64 u)).setCell ⟨b,1,none⟩ (.int .i64 v)) b u v:=by
 have h1:=Ao w b 0 _ 39 (.int .i64 u) h;have h2:=Ao _ b 1 _ 39 (.int .i64 v) h1;refine⟨by rw[h2];rfl,λk _ hk=>?_,λo ho=>by rw[h]at ho;cases ho;exact⟨_,rfl⟩,rfl,rfl,rfl,by simp⟩;rw[Al _ _ _ _ hk,Al _ _ _ _ hk]
theorem CI(w:World)(c:Array Value)(t:TypeId):∀a,some (⟨w.heap.size,0,none⟩:Addr)=some a->∀j u,c.toList[j]? = some u->(w.alloc (.cells c t)).cell? (a.add j)=some u:=by
 intro a b j u d;cases b;rw[AO,Ac _ _ _ _ rfl];simpa using d
theorem Tryz.info9:(Tryz.prog.info? 9).map (λi=>(i.zero,i.size,i.bytes))=some (some (.string ⟨#[]⟩),1,16):=by kernel_rfl
end Go.Proofs.YtjjggefmmeminabGreat
namespace Go.Proofs.YtjjggefmmeminabGreat
open Go.RowKit
theorem Dr{L:Nat->Bool}{i k:Nat}(h:k≠i):DJ L i k=L k:=by unfold DJ;simp[h]
theorem IT{L:Nat->Bool}{i:Nat}:DJ L i i=true:=by unfold DJ;simp
theorem Cw{s:Nat->Value}{d k:Nat}{v:Value}(h:k≠d):ED s (some d) v k=s k:=by show (if k=d then v else s k)=s k;rw[Ae h]
theorem CJ{s:Nat->Value}{d:Nat}{v:Value}:ED s (some d) v d=v:=by show (if d=d then v else s d)=v;rw[Af rfl]
def It (b:List Nat) (a:List Value) (_:Nat->Bool) (k:Nat) (x:Value) (_:World):Prop:=if b.contains k=true then True else x=a.getD k undef
structure Bx where
 op:Nat
 st:Nat
 slot:Nat
 zero:Array Value
 new:Array Value
 t:TypeId
structure boxG (w5:World) (bx:List Bx) (L:Nat->Bool) (s:Nat->Value) (w:World):Prop where
 below:Below w5.heap.size w5 w
 box:∀q,q∈bx->L q.op=true->∃b,s q.slot= .pointer (some ⟨b,0,none⟩)/\w5.heap.size<=b/\w.heap[b]? = some (.cells (if L q.st then q.new else q.zero) q.t (0,0))
 ne:∀q q',q∈bx->q'∈bx->q.slot≠q'.slot->L q.op=true->L q'.op=true->s q.slot≠s q'.slot
theorem boxG.start{a:World}{bx:List Bx}{s:Nat->Value}:boxG a bx (λ_=>false) s a.drew:=⟨(Aq _ _).drew,λ_ _ h=>(by cases h),λ_ _ _ _ _ h=>(by cases h)⟩
theorem boxG.step{l w w':World}{bx:List Bx}{L:Nat->Bool}{s:Nat->Value}(h:boxG l bx L s w){i d:Nat}(hB:Below w.heap.size w w')(hi:bx.all (λq => !Nat.beq q.op i && !Nat.beq q.st i && !Nat.beq q.slot d)=true)(v:Value):boxG l bx (DJ L i) (ED s (some d) v) w':=by
 have hq:∀q,q∈bx->q.op≠i/\q.st≠i/\q.slot≠d:=λq hq=>by
  have:=List.all_eq_true.1 hi q hq;simp only[Bn,Bool.not_eq_true']at this;exact⟨AB this.1.1,AB this.1.2,AB this.2⟩
 refine⟨h.below.trans (hB.mono h.below.size),λq c g=>?_,λq q' c a k g j=>?_⟩
 ·obtain⟨m,n,o⟩:=hq q c
  rw[Dr m]at g;obtain⟨b,e,hb,ho⟩:=h.box q c g;exact⟨b,(Cw o).trans e,hb,by rw[Dr n];exact(hB.block b (Ag ho)).trans ho⟩
 ·rw[Dr (hq q c).1]at g
  rw[Dr (hq q' a).1]at j;rw[Cw (hq q c).2.2,Cw (hq q' a).2.2];exact h.ne q q' c a k g j
theorem zs{P:Program}{o:Oper}{s:Nat->Value}{w c:World}{bx:List Bx}{L:Nat->Bool}{i d:Nat}{l:List Oper}{a:List Nat}{V:List Value}{b:Nat->Nat}(v:Value)(g:o.dst=some d)(hi:bx.all (λq=>!Nat.beq q.op i && !Nat.beq q.st i && !Nat.beq q.slot d)=true)(hv:It a V (DJ L i) i (D7 l (ED s o.dst v) i) w)(j:boxG c bx L s w)(m:(execOp (BV s) o).run P w= .ok (.value v) w):Eb P o s w (λe w'=>boxG c bx (DJ L i) e w'/\It a V (DJ L i) i (D7 l e i) w'/\∀k,k≠i->L k=true->Fc b (DJ L i) k->It a V L k (D7 l s k) w->It a V (DJ L i) k (D7 l s k) w'):=
 BU m ⟨by rw[g];exact j.step (Aq _ _) hi _,hv,λ_ _ _ _ h=>h⟩
def OO (bx:List Bx) (q:Bx):Bool:=bx.all λp=>(Nat.beq p.slot q.slot)||(!Nat.beq p.op q.op && !Nat.beq p.st q.op && !Nat.beq p.op q.st && !Nat.beq p.st q.st)
theorem E8{bx:List Bx}{q:Bx}(h:OO bx q=true){p:Bx}(b:p∈bx)(a:p.slot≠q.slot):p.op≠q.op/\p.st≠q.op/\p.op≠q.st/\p.st≠q.st:=by
 have:=List.all_eq_true.1 h p b;rw[Bool.or_eq_true]at this;rcases this with h1|h1
 ·exact absurd (Nat.eq_of_beq_eq_true h1) a
 ·simp only[Bn,Bool.not_eq_true']at h1
  exact⟨AB h1.1.1.1,AB h1.1.1.2,AB h1.1.2,AB h1.2⟩
theorem boxG.alloc{m w:World}{bx:List Bx}{L:Nat->Bool}{s:Nat->Value}(h:boxG m bx L s w){q:Bx}(o:∀p,p∈bx->p.slot=q.slot->p=q)(ha:OO bx q=true)(k:q.st≠q.op)(r:L q.st=false) :
  boxG m bx (DJ L q.op) (ED s (some q.slot) (.pointer (some ⟨w.heap.size,0,none⟩))) (w.alloc (.cells q.zero q.t)):=by
 have n:=h.below.size;refine⟨h.below.trans ((BW w _).mono n),λp g c=>?_,λp p' g d i c a=>?_⟩
 ·by_cases e:p.slot=q.slot
  ·obtain rfl:=o p g e
   exact⟨w.heap.size,CJ,n,by rw[Dr k,r];exact Ap _ _⟩
  ·obtain⟨u,v,-,-⟩:=E8 ha g e
   rw[Dr u]at c;obtain⟨b,j,hb,ho⟩:=h.box p g c;exact⟨b,(Cw e).trans j,hb,by rw[Dr v];exact(A5 _ _ _ (Ag ho)).trans ho⟩
 ·by_cases e:p.slot=q.slot
  ·have e2:p'.slot≠q.slot:=λe2=>i (e.trans e2.symm)
   rw[Dr (E8 ha d e2).1]at a;obtain⟨b,j,hb,ho⟩:=h.box p' d a;rw[Cw e2,j,e,CJ];intro l;cases l;have:=Ag ho;omega
  ·rw[Dr (E8 ha g e).1]at c
   obtain⟨b,j,hb,ho⟩:=h.box p g c
   by_cases e2:p'.slot=q.slot
   ·rw[Cw e,j,e2,CJ]
    intro l;cases l;have:=Ag ho;omega
   ·rw[Dr (E8 ha d e2).1]at a
    rw[Cw e,Cw e2];exact h.ne p p' g d i c a
structure OnlyB (b:Nat) (w w':World):Prop where
 os:w'.os=w.os
 tape:w'.tape=w.tape
 output:w'.output=w.output
 size:w'.heap.size=w.heap.size
 block:∀k,k≠b->w'.heap[k]? = w.heap[k]?
theorem OnlyB.refl(b:Nat)(w:World):OnlyB b w w:=⟨rfl,rfl,rfl,rfl,λ_ _=>rfl⟩
theorem OnlyB.set{b:Nat}{w w':World}(h:OnlyB b w w')(o:Nat)(v:Value):OnlyB b w (w'.setCell ⟨b,o,none⟩ v) :=
 ⟨h.os,h.tape,h.output,by simpa using h.size,λk hk=>(Al _ _ _ _ hk).trans (h.block k hk)⟩
theorem OnlyB.below{b N:Nat}{w w':World}(h:OnlyB b w w')(hb:N<=b):Below N w w':=⟨h.os,h.tape,h.output,Nat.le_of_eq h.size.symm,λk hk=>h.block k (by omega)⟩
theorem boxG.store{j w w':World}{bx:List Bx}{L:Nat->Bool}{s:Nat->Value}(h:boxG j bx L s w){q:Bx}(n:∀p,p∈bx->p.slot=q.slot->p=q)(ha:OO bx q=true)(hq:q∈bx)(x:q.op≠q.st)(o:L q.op=true){b:Nat}(hb:s q.slot= .pointer (some ⟨b,0,none⟩))(d:j.heap.size<=b)(hn:w'.heap[b]? = some (.cells q.new q.t (0,0)))(ho:OnlyB b w w')(v:Value) :
  boxG j bx (DJ L q.st) (ED s none v) w':=by
 refine⟨h.below.trans (ho.below d),λp c a=>?_,λp p' c g k a i=>?_⟩
 ·by_cases e:p.slot=q.slot
  ·obtain rfl:=n p c e
   exact⟨b,hb,d,by rw[IT];exact hn⟩
  ·obtain⟨-,-,y,z⟩:=E8 ha c e
   rw[Dr y]at a;obtain⟨r,u,l,m⟩:=h.box p c a;refine⟨r,u,l,?_⟩;rw[Dr z,ho.block r (λA=>?_)]
   ·exact m
   ·subst A;exact h.ne p q c hq e a o (u.trans hb.symm)
 ·have h1:∀p,p∈bx->DJ L q.st p.op=true->L p.op=true:=λp c a=>by
   by_cases e:p.slot=q.slot
   ·obtain rfl:=n p c e;exact o
   ·rw[Dr (E8 ha c e).2.2.1]at a;exact a
  exact h.ne p p' c g k (h1 p c a) (h1 p' g i)
theorem Pm{P:Program}{o:Oper}{s:Nat->Value}{w:World}(f:FuncId)(args:Array Operand)(a:Array TypeId)(ho:o.op= .call { callee:=.value (.func f),args:=args,argTypes:=a })(he:∀b w,(callFunc f b).run P w= .ok (.enter f b) w) :
  (execOp (BV s) o).run P w= .ok (.enter f (args.map (BV s))) w:=by
 have c:BV s (.func f)= .func (.func f) #[] #[]:=rfl;simp[execOp,ho,resolve,invoke,Deferred.ofValue,c,he]
theorem CO{P:Program}{o:Oper}{s:Nat->Value}{w:World}{K:(Nat->Value)->World->Prop}(f:FuncId)(args:Array Operand)(a:Array TypeId)(ho:o.op= .call { callee:=.value (.func f),args:=args,argTypes:=a })(he:∀b w,(callFunc f b).run P w= .ok (.enter f b) w)(c:Array Value)(hv:args.map (BV s)=c)(hk:Calls P f c w λe w'' => ∃v,e= .returned v/\K (ED s o.dst v) w''):Eb P o s w K :=
 Nb (by rw[Pm f args a ho he,hv]) hk
end Go.Proofs.YtjjggefmmeminabGreat
namespace Go.Proofs.YtjjggefmmeminabGreat
open Go.RowKit Go.Sort
structure PSeen where
 name:ByteArray
 nf:Nat
 F:Nat->LField
 own:ByteArray
 O:Nat->ByteArray
def B2 (F:Nat->LField) (j:Nat):Value:=if j % 3=0 then .string (F (j / 3)).name else if j % 3=1 then .int .i64 (F (j / 3)).kind else .string (F (j / 3)).type
def Dy (S:Nat->PSeen) (fv a:Nat->Value) (j:Nat):Value:=if j % 4=0 then .string (S (j / 4)).name else if j % 4=1 then fv (j / 4) else if j % 4=2 then .string (S (j / 4)).own else a (j / 4)
theorem FW(F:Nat->LField)(i:Nat):B2 F (i*3)= .string (F i).name:=by unfold B2;rw[Af (by omega),show i*3 / 3=i by omega]
theorem Ih(F:Nat->LField)(i:Nat):B2 F (i*3+1)= .int .i64 (F i).kind:=by unfold B2;rw[Ae (by omega),Af (by omega),show (i*3+1) / 3=i by omega]
theorem F1(F:Nat->LField)(i:Nat):B2 F (i*3+2)= .string (F i).type:=by unfold B2;rw[Ae (by omega),Ae (by omega),show (i*3+2) / 3=i by omega]
theorem Jl(S:Nat->PSeen)(fv a:Nat->Value)(i:Nat):Dy S fv a (i*4)= .string (S i).name:=by unfold Dy;rw[Af (by omega),show i*4 / 4=i by omega]
theorem LK(S:Nat->PSeen)(fv a:Nat->Value)(i:Nat):Dy S fv a (i*4+1)=fv i:=by unfold Dy;rw[Ae (by omega),Af (by omega),show (i*4+1) / 4=i by omega]
theorem Mb(S:Nat->PSeen)(fv a:Nat->Value)(i:Nat):Dy S fv a (i*4+2)= .string (S i).own:=by unfold Dy;rw[Ae (by omega),Ae (by omega),Af (by omega),show (i*4+2) / 4=i by omega]
theorem LG(S:Nat->PSeen)(fv a:Nat->Value)(i:Nat):Dy S fv a (i*4+3)=a i:=by unfold Dy;rw[Ae (by omega),Ae (by omega),Ae (by omega),show (i*4+3) / 4=i by omega]
def IA (f:LField):Prop:=BY f.name/\BY f.type/\(Lit.int .i64 f.kind).wf=true
def Kq (s:PSeen):Prop:=BY s.name/\BY s.own/\s.nf<=maxLen/\(∀j,j<s.nf->IA (s.F j))/\∀j,j<s.nf->BY (s.O j)
structure Seens (w:World) (base:Nat) (v:Value) (n:Nat) (fv ov:Nat->Value) (S:Nat->PSeen):Prop where
 nmax:n<=maxLen
 row:B9 w base 140 4 v n (Dy S fv ov)
 fields:∀i,i<n->B9 w base 113 3 (fv i) (S i).nf (B2 (S i).F)
 owns:∀i,i<n->B9 w base 9 1 (ov i) (S i).nf (B3 (S i).O)
 fapart:∀i j,i<n->j<n->i≠j->∀k,(fv i).ownBlock=some k->(fv j).ownBlock≠some k
 oapart:∀i j,i<n->j<n->i≠j->∀k,(ov i).ownBlock=some k->(ov j).ownBlock≠some k
 good:∀i,i<n->Kq (S i)
theorem Seens.kept{w w':World}{base n:Nat}{v:Value}{fv a:Nat->Value}{S:Nat->PSeen}(h:Seens w base v n fv a S)(hB:Below w.heap.size w w'):Seens w' base v n fv a S :=
 ⟨h.nmax,h.row.kept hB,λi hi=>(h.fields i hi).kept hB,λi hi=>(h.owns i hi).kept hB,h.fapart,h.oapart,h.good⟩
theorem B9.fieldsAt{w:World}{base e nf:Nat}{v:Value}{F:Nat->LField}(h:B9 w base e 3 v nf (B2 F))(hn:nf<=maxLen)(hg:∀j,j<nf->IA (F j)):∃a cap,v= .slice a nf cap/\nf<=cap/\Cl w a nf F:=by
 rcases h.shape with⟨rfl,rfl⟩|⟨g,cap,rfl,-,hc,-⟩
 ·exact⟨none,0,rfl,Aj _,Ai _,λi hi=>absurd hi (Ak _)⟩
 ·refine⟨_,cap,rfl,hc,hn,λi hi=>⟨g,0,rfl,?_,?_,?_,hg i hi⟩⟩
  ·rw[h.cell (by omega),AL,FW]
  ·rw[h.cell (by omega),AL,Ih]
  ·rw[h.cell (by omega),AL,F1]
theorem Seens.cells{w:World}{base n g cap:Nat}{fv a:Nat->Value}{S:Nat->PSeen}(h:Seens w base (.slice (some ⟨g,0,none⟩) n cap) n fv a S){i:Nat}(hi:i<n) :
  w.cell? ⟨g,i*4,none⟩=some (.string (S i).name)/\w.cell? ⟨g,i*4+1,none⟩=some (fv i)/\w.cell? ⟨g,i*4+2,none⟩=some (.string (S i).own)/\w.cell? ⟨g,i*4+3,none⟩=some (a i):=by
 refine⟨?_,?_,?_,?_⟩
 ·rw[h.row.cell (by omega),Jl]
 ·rw[h.row.cell (by omega),LK]
 ·rw[h.row.cell (by omega),Mb]
 ·rw[h.row.cell (by omega),LG]
theorem Seens.ptr{w:World}{base n:Nat}{v:Value}{fv a:Nat->Value}{S:Nat->PSeen}(h:Seens w base v n fv a S){i:Nat}(hi:i<n):∃g cap,v= .slice (some ⟨g,0,none⟩) n cap/\base<=g/\n<=cap:=by
 rcases h.row.shape with⟨-,rfl⟩|⟨g,cap,hv,hb,hc,-⟩
 ·omega
 ·exact⟨g,cap,hv,hb,hc⟩
theorem Seens.slice{w:World}{base n:Nat}{v:Value}{fv b:Nat->Value}{S:Nat->PSeen}(h:Seens w base v n fv b S):∃a cap,v= .slice a n cap/\n<=cap:=by
 rcases h.row.shape with⟨rfl,rfl⟩|⟨g,cap,hv,hb,hc,-⟩
 ·exact⟨_,_,rfl,Aj _⟩
 ·exact⟨_,_,hv,hc⟩
theorem Seens.setName{w:World}{base n g cap:Nat}{fv b:Nat->Value}{S:Nat->PSeen}(h:Seens w base (.slice (some ⟨g,0,none⟩) n cap) n fv b S){t : Nat}{to:ByteArray}(hs:BY to) :
  Seens (w.setCell ⟨g,t*4,none⟩ (.string to)) base (.slice (some ⟨g,0,none⟩) n cap) n fv b (λi => { S i with name:=if i=t then to else (S i).name }):=by
 have n1:∀i,i<n->(fv i).ownBlock≠some g:=λi hi=>h.row.ne (h.fields i hi) (by decide) (k:=g) rfl;have n2:∀i,i<n->(b i).ownBlock≠some g:=λi hi=>h.row.ne (h.owns i hi) (by decide) (k:=g) rfl;refine⟨h.nmax,(h.row.set (t*4) (.string to)).congr ?_,λi hi=>(h.fields i hi).set_other (p:=⟨g,t*4,none⟩) (n1 i hi) _,λi hi=>(h.owns i hi).set_other (p:=⟨g,t*4,none⟩) (n2 i hi) _,h.fapart,h.oapart,λi hi=>?_⟩
 ·intro j e
  by_cases a:j=t*4
  ·subst a
   rw[Af rfl,Jl];simp
  ·rw[Ae a]
   unfold Dy
   by_cases h0:j % 4=0
   ·rw[Af h0,Af h0];simp[show ¬j / 4=t by omega]
   ·rw[Ae h0,Ae h0]
 ·obtain⟨c,d⟩:=h.good i hi
  refine⟨?_,d⟩
  by_cases Fx:i=t
  ·simp[Fx];exact hs
  ·simp[Fx];exact c
theorem Seens.setField{w:World}{base n:Nat}{v:Value}{fv d:Nat->Value}{S:Nat->PSeen}(h:Seens w base v n fv d S){t : Nat}(e:t<n){fb cap:Nat}(c:fv t= .slice (some ⟨fb,0,none⟩) (S t).nf cap)(u:Value)(p:Nat)(G:Nat->LField)(g:∀q,q<(S t).nf*3->(if q=p then u else B2 (S t).F q)=B2 G q)(hg:∀j,j<(S t).nf->IA (G j)) :
  Seens (w.setCell ⟨fb,p,none⟩ u) base v n fv d (λi => { S i with F:=if i=t then G else (S i).F }):=by
 have a:=h.fields t e;have b:(fv t).ownBlock=some fb:=by rw[c];rfl
 have n1:v.ownBlock≠some fb:=a.ne h.row (by decide) b;have n2:∀i,i<n->(d i).ownBlock≠some fb:=λi hi=>a.ne (h.owns i hi) (by decide) b;refine⟨h.nmax,(h.row.set_other (p:=⟨fb,p,none⟩) n1 _).congr ?_,λi hi=>?_,λi hi=>(h.owns i hi).set_other (p:=⟨fb,p,none⟩) (n2 i hi) _,h.fapart,h.oapart,λi hi=>?_⟩
 ·intro j s;rfl
 ·by_cases Fx:i=t
  ·subst Fx
   rw[c]at a ⊢;refine(a.set p u).congr ?_;intro q hq;simp only[Af];exact g q hq
  ·simp only[Fx,Bd]
   exact(h.fields i hi).set_other (p:=⟨fb,p,none⟩) (h.fapart t i e hi (BG Fx) fb b) _
 ·obtain⟨k,l,m,o,r⟩:=h.good i hi
  refine⟨k,l,m,?_,r⟩
  by_cases Fx:i=t
  ·subst Fx;simpa using hg
  ·simpa[Fx] using o
end Go.Proofs.YtjjggefmmeminabGreat
namespace Go.Proofs.YtjjggefmmeminabGreat
open Go.RowKit
def UW (K:Nat) (a:Array Value) (w:World) (n:Nat) (p:Nat->Bool):Prop :=
 ∀i:Nat,i<n->∀b:World,Below w.heap.size w b->Calls Tryz.prog K (#[.int .i64 (i:Int)]++a) b λe w'=>e= .returned (.bool (p i))/\Below b.heap.size b w'
theorem Gx(n:Nat)(hn:n<=9223372036854775807)(K:Nat)(a:Array Value)(p:Nat->Bool)(w:World)(v:∀args w,(callFunc K args).run Tryz.prog w= .ok (.enter K args) w)(r:UW K a w n p) :
  Calls Tryz.prog 90 #[.int .i64 (n:Int),.func (.func K) #[] a] w λe w'=>e= .returned (.int .i64 (Ds n p))/\Below w.heap.size w w':=by
 have s:Hid (UW K a w n p):=r;clear r
 go_enter Tryz.func90,Tryz.ntmps90
 go_wp2
 go_loopw [7] (λi wr => ∃k:Nat,k<=n/\i= .int .i64 k/\Hid (∀j,j<k->p j=false)/\Below w.heap.size w wr) (λi _=>n - (intOf i).toNat)
 case atStart=>exact⟨0,Ai _,rfl,(λj m=>absurd m (Ak _)),Aq _ _⟩
 case round =>
  obtain⟨k,hk,rfl,hb,o⟩:=hrel
  by_cases d:k<n
  ·go_wp2_with fail
   refine(s.out k d wr o).mono ?_;rintro e u ⟨rfl,g⟩;have l:Below w.heap.size w u:=o.trans (g.mono o.size);clear g
   cases c:p k with
   |true =>
    have b:Hid (Ds n p=(k:Int)):=DD d c hb;clear c
    go_wp2
    go_ret;exact⟨by rw[b.out];rfl,l⟩
   |false =>
    have q:Hid (∀j,j<k+1->p j=false):=λj m=>by
     rcases Nat.lt_succ_iff_lt_or_eq.1 m with h|h
     ·exact hb j h
     ·rw[h];exact c
    clear c
    go_wp2
    go_roundw
    case rel=>exact⟨k+1,by omega,by go_num,q,l⟩
    case measure=>simp[intOf];omega
  ·have b:Hid (Ds n p = -1):=Em (λj m=>hb j (by omega))
   go_wp2
   go_ret;exact⟨by rw[b.out];rfl,o⟩
end Go.Proofs.YtjjggefmmeminabGreat
namespace Go.Proofs.YtjjggefmmeminabGreat
open Go.RowKit Go.Sort Go.PlainAid
theorem Tryz.e91:∀args w,(callFunc 91 args).run Tryz.prog w= .ok (.enter 91 args) w:=AN Tryz.func91 (by kernel_rfl) rfl
def FO (c:Int):Bool:=decide (97<=c)&&decide (c<=122)
def J9 (c:Int):Bool:=decide (48<=c)&&decide (c<=57)
def M0 (s:ByteArray) (i:Nat):Bool := !FO (bt s i) && !J9 (bt s i)
def Cb (s:ByteArray):Bool := !(decide (s.size=0)||decide (12<s.size) || !FO (bt s 0))&&decide (Ds s.size (M0 s)<0)
theorem GN(c:Int)(w:World):Calls Tryz.prog 89 #[.int .u8 c] w λe w'=>e= .returned (.bool (FO c))/\w'=w:=by
 unfold FO
 by_cases h1:97<=c<;>by_cases h2:c<=122
 all_goals
  go_enter Tryz.func89,Tryz.ntmps89
  go_wp2
  go_ret;exact⟨by simp[h1,h2],rfl⟩
theorem Mc(c:Int)(w:World):Calls Tryz.prog 92 #[.int .u8 c] w λe w'=>e= .returned (.bool (J9 c))/\w'=w:=by
 unfold J9
 by_cases h1:48<=c<;>by_cases h2:c<=57
 all_goals
  go_enter Tryz.func92,Tryz.ntmps92
  go_wp2
  go_ret;exact⟨by simp[h1,h2],rfl⟩
theorem Pf(s:ByteArray)(i b:Nat)(w:World)(hi:i<s.size)(hc:w.cell? ⟨b,0,none⟩=some (.string s)) :
  Calls Tryz.prog 91 #[.int .i64 (i:Int),.pointer (some ⟨b,0,none⟩)] w λe w'=>e= .returned (.bool (M0 s i))/\Below w.heap.size w w':=by
 have a:(i:Int)<(s.size:Int):=by omega
 have c:(0:Int)<=(i:Int):=by omega
 have hg:=get_bt s;unfold M0;cases h1:FO (bt s i)
 ·go_enter Tryz.func91,Tryz.ntmps91
  go_wp2_with (first
   | (go_at_call 89;refine(GN _ _).mono ?_;rintro e w' ⟨rfl,rfl⟩)
   | (go_at_call 92;refine(Mc _ _).mono ?_;rintro e w' ⟨rfl,rfl⟩))
  go_ret;exact⟨rfl,Aq _ _⟩
 ·go_enter Tryz.func91,Tryz.ntmps91
  go_wp2_with (first
   | (go_at_call 89;refine(GN _ _).mono ?_;rintro e w' ⟨rfl,rfl⟩)
   | (go_at_call 92;refine(Mc _ _).mono ?_;rintro e w' ⟨rfl,rfl⟩))
  go_ret;exact⟨rfl,Aq _ _⟩
theorem Es(s:ByteArray)(w:World)(hs:BY s) :
  Calls Tryz.prog 59 #[.string s] w λe w'=>e= .returned (.bool (Cb s))/\Below w.heap.size w w':=by
 have d:=zm;unfold BY maxLen at hs
 by_cases h0:s.toList = []
 ·have a:Hid (Cb s=false):=by unfold Cb Hid;simp[EY.1 h0]
  go_enter Tryz.func59,Tryz.ntmps59
  go_wp2_with fail
  go_ret;exact⟨by rw[a.out];rfl,BW _ _⟩
 have g:s.toList.isEmpty=false:=by simpa using h0
 have h:0<s.size:=by have:=mt EY.2 h0;omega
 by_cases h1:12<(s.size:Int)
 ·have a:Hid (Cb s=false):=by unfold Cb Hid;simp[show 12<s.size by omega]
  go_enter Tryz.func59,Tryz.ntmps59
  go_wp2_with fail
  go_ret;exact⟨by rw[a.out];rfl,BW _ _⟩
 have hg:=get_bt s;cases h2:FO (bt s 0)
 ·have a:Hid (Cb s=false):=by unfold Cb Hid;simp[h2]
  go_enter Tryz.func59,Tryz.ntmps59
  go_wp2_with fail
  refine(GN _ _).mono ?_;rintro e w' ⟨rfl,rfl⟩
  go_wp2_with fail
  go_ret;exact⟨by rw[a.out];rfl,BW _ _⟩
 ·have a:Hid (Cb s=decide (Ds s.size (M0 s)<0)):=by unfold Cb Hid;simp[h2,show ¬12<s.size by omega,show ¬s.size=0 by omega]
  go_enter Tryz.func59,Tryz.ntmps59
  go_wp2_with fail
  refine(GN _ _).mono ?_;rintro e w' ⟨rfl,rfl⟩
  go_wp2_with fail
  refine(Gx s.size hs 91 _ (M0 s) _ Tryz.e91 ?_).mono ?_
  ·intro i hi c b
   refine Pf s i _ c hi (BR b ?_);rw[Ac _ _ _ _ rfl];rfl
  ·rintro e c ⟨rfl,b⟩
   go_wp2_with fail
   go_ret;exact⟨by rw[a.out];rfl,(BW w _).trans (b.mono (BW w _).size)⟩
end Go.Proofs.YtjjggefmmeminabGreat
namespace Go.Proofs.YtjjggefmmeminabGreat
open Go.RowKit Go.Sort
def pfind (n:Nat) (S:Nat->PSeen) (name:ByteArray):Int:=Ds n (λi=>eqs (S i).name name)
theorem Tryz.e139:∀args w,(callFunc 139 args).run Tryz.prog w= .ok (.enter 139 args) w:=AN Tryz.func139 (by kernel_rfl) rfl
theorem PX(a n1 c1 n2 c2:Nat)(b c:Option Addr)(name s o:ByteArray)(w:World)(d:w.cell? ⟨a,0,none⟩=some (.string name)) :
  Calls Tryz.prog 139 #[.agg #[.string s,.slice b n1 c1,.string o,.slice c n2 c2],.pointer (some ⟨a,0,none⟩)] w λe w'=>e= .returned (.bool (eqs s name))/\Below w.heap.size w w':=by
 have g:a<w.heap.size:=An d
 go_enter Tryz.func139,Tryz.ntmps139
 go_wp2
 go_ret;exact⟨by rw[<-CT];rfl,BW _ _⟩
theorem Pr(base n s:Nat)(v:Value)(fv x:Nat->Value)(S:Nat->PSeen)(name:ByteArray)(w:World)(hS:Seens w base v n fv x S)(C:w.cell? ⟨s,0,none⟩=some (.string name)) :
  Calls Tryz.prog 138 #[v,.func (.func 139) #[] #[.pointer (some ⟨s,0,none⟩)]] w λe w'=>e= .returned (.int .i64 (pfind n S name))/\Below w.heap.size w w':=by
 have hn:n<=9223372036854775807:=hS.nmax;obtain⟨a,cap,rfl,y⟩:=hS.slice;have D:Hid (Seens w base (.slice a n cap) n fv x S):=hS;have K:=Tryz.e139;clear hS
 go_enter Tryz.func138,Tryz.ntmps138
 go_wp2_with fail
 go_loopw [8] (λi wr => ∃k:Nat,k<=n/\i= .int .i64 k/\Hid (∀j,j<k->eqs (S j).name name=false)/\Below w.heap.size w wr) (λi _=>n - (intOf i).toNat)
 case atStart=>exact⟨0,Ai _,rfl,(λj r=>absurd r (Ak _)),Aq _ _⟩
 case round =>
  obtain⟨k,hk,rfl,hb,m⟩:=hrel
  by_cases b:k<n
  ·have c:=D.out.kept m
   obtain⟨g,z,hv,-,-⟩:=c.ptr b;cases hv;obtain⟨E,k1,F,A⟩:=c.cells b;obtain⟨G,c1,e1,-⟩:=(c.fields k b).slice;obtain⟨H,c2,e2,-⟩:=(c.owns k b).slice;rw[e1]at k1;rw[e2]at A;clear c e1 e2;have B:(k:Int)<(n:Int):=by omega
   have I:(0:Int)<=(k:Int):=by omega
   have o:=PX s (S k).nf c1 (S k).nf c2 G H name (S k).name (S k).own wr (BR m C)
   go_wp2_with fail
   refine o.mono ?_;clear o;rintro e J ⟨rfl,p⟩;have q:Below w.heap.size w J:=m.trans (p.mono m.size);clear p E k1 F A
   cases l:eqs (S k).name name with
   |true =>
    have d:Hid (pfind n S name=(k:Int)):=DD b l hb;clear l
    go_wp2_with fail
    go_ret;exact⟨by rw[d.out];rfl,q⟩
   |false =>
    have u:Hid (∀j,j<k+1->eqs (S j).name name=false):=λj r=>by
     rcases Nat.lt_succ_iff_lt_or_eq.1 r with h|h
     ·exact hb j h
     ·rw[h];exact l
    clear l
    go_wp2_with fail
    go_roundw
    case rel=>exact⟨k+1,by omega,by go_num,u,q⟩
    case measure=>simp[intOf];omega
  ·have d:Hid (pfind n S name = -1):=Em (λj r=>hb j (by omega))
   go_wp2_with fail
   go_ret;exact⟨by rw[d.out];rfl,m⟩
theorem Hk(base n:Nat)(v:Value)(fv c:Nat->Value)(S:Nat->PSeen)(name:ByteArray)(w:World)(hS:Seens w base v n fv c S) :
  Calls Tryz.prog 119 #[v,.string name] w λe w'=>e= .returned (.int .i64 (pfind n S name))/\Below w.heap.size w w':=by
 have h:=zm;have i:Hid (Seens w base v n fv c S):=hS;obtain⟨a,cap,rfl,g⟩:=hS.slice;clear hS
 go_enter Tryz.func119,Tryz.ntmps119
 go_wp2_with fail
 have hB:=BW w (Obj.cells #[Value.string name] 9);refine(Pr base n w.heap.size _ fv c S name _ (i.out.kept hB) ?_).mono ?_
 ·rw[Ac _ _ _ _ rfl];rfl
 ·rintro e j ⟨rfl,b⟩
  have d:=hB.trans (b.mono hB.size);clear b hB
  go_wp2_with fail
  go_ret;exact⟨rfl,d⟩
end Go.Proofs.YtjjggefmmeminabGreat
namespace Go.Proofs.YtjjggefmmeminabGreat
open Go.RowKit Go.Sort
theorem Seens.congr{w:World}{base n:Nat}{v:Value}{fv g:Nat->Value}{S b:Nat->PSeen}(h:Seens w base v n fv g S)(e:∀i,i<n->(b i).name=(S i).name/\(b i).own=(S i).own/\(b i).nf=(S i).nf/\(∀j,j<(S i).nf->(b i).F j=(S i).F j)/\∀j,j<(S i).nf->(b i).O j=(S i).O j):Seens w base v n fv g b:=by
 refine⟨h.nmax,h.row.congr λj a=>?_,λi hi=>?_,λi hi=>?_,h.fapart,h.oapart,λi hi=>?_⟩
 ·obtain⟨e1,e2,-⟩:=e (j / 4) (by omega)
  unfold Dy;rw[e1,e2]
 ·obtain⟨-,-,e3,c,-⟩:=e i hi
  rw[e3];exact(h.fields i hi).congr λj a=>by unfold B2;rw[c (j / 3) (by omega)]
 ·obtain⟨-,-,e3,-,d⟩:=e i hi
  rw[e3];exact(h.owns i hi).congr λj a=>by unfold B3;rw[d j (by omega)]
 ·obtain⟨e1,e2,e3,c,d⟩:=e i hi
  obtain⟨k,l,m,o,p⟩:=h.good i hi;refine⟨by rw[e1];exact k,by rw[e2];exact l,by rw[e3];exact m,λj a=>?_,λj a=>?_⟩
  ·rw[e3]at a;rw[c j a];exact o j a
  ·rw[e3]at a;rw[d j a];exact p j a
def Ed (a to:ByteArray) (f:LField):LField:=if eqs f.type a then { f with type:=to } else f
def part (S:Nat->PSeen) (a to:ByteArray) (k m:Nat):Nat->PSeen:=λi => { S i with F:=λj=>if i<k\/(i=k/\j<m) then Ed a to ((S i).F j) else (S i).F j }
theorem RW{w:World}{base n:Nat}{v:Value}{fv c:Nat->Value}{S:Nat->PSeen}{a to:ByteArray}{k:Nat}(h:Seens w base v n fv c (part S a to k (S k).nf)):Seens w base v n fv c (part S a to (k+1) 0):=by
 refine h.congr λi hi=>⟨rfl,rfl,rfl,λj d=>?_,λj d=>rfl⟩;show (if i<k+1\/(i=k+1/\j<0) then _ else _)=(if i<k\/(i=k/\j<(S k).nf) then _ else _)
 have e:j<(S i).nf:=d
 by_cases b:i=k
 ·subst b
  rw[Af (by omega),Af (by omega)]
 ·by_cases g:i<k
  ·rw[Af (by omega),Af (by omega)]
  ·rw[Ae (by omega),Ae (by omega)]
theorem MU{S:Nat->PSeen}{a to:ByteArray}{k m:Nat}:(part S a to k m k).F m=(S k).F m:=by
 show (if k<k\/(k=k/\m<m) then _ else _)=_
 rw[Ae (by omega)]
theorem Rl{w:World}{base n:Nat}{v:Value}{fv b:Nat->Value}{S:Nat->PSeen}{a to:ByteArray}{k m:Nat}(h:Seens w base v n fv b (part S a to k m))(he:eqs ((S k).F m).type a=false):Seens w base v n fv b (part S a to k (m+1)):=by
 refine h.congr λi hi=>⟨rfl,rfl,rfl,λj d=>?_,λj d=>rfl⟩;show (if i<k\/(i=k/\j<m+1) then _ else _)=(if i<k\/(i=k/\j<m) then _ else _)
 by_cases hc:i=k/\j=m
 ·obtain⟨rfl,rfl⟩:=hc
  rw[Af (by omega),Ae (by omega)];unfold Ed;rw[he];rfl
 ·by_cases c:i<k\/(i=k/\j<m)
  ·rw[Af (by omega),Af c]
  ·rw[Ae (by omega),Ae c]
theorem S3{w:World}{base n:Nat}{v:Value}{fv l:Nat->Value}{S:Nat->PSeen}{a to:ByteArray}{k m fb cap:Nat}(h:Seens w base v n fv l (part S a to k m))(hk:k<n)(o:m<(S k).nf)(hs:BY to)(g:fv k= .slice (some ⟨fb,0,none⟩) (S k).nf cap)(he:eqs ((S k).F m).type a=true):Seens (w.setCell ⟨fb,m*3+2,none⟩ (.string to)) base v n fv l (part S a to k (m+1)):=by
 refine(h.setField hk g (.string to) (m*3+2) (part S a to k (m+1) k).F ?_ ?_).congr ?_
 ·intro q hq
  by_cases c:q=m*3+2
  ·subst c
   rw[Af rfl,F1];show _=Value.string (if k<k\/(k=k/\m<m+1) then Ed a to ((S k).F m) else _).type
   rw[Af (by omega)];unfold Ed;rw[he];rfl
  ·rw[Ae c]
   have hF:∀j,j≠m->(part S a to k m k).F j=(part S a to k (m+1) k).F j:=λj e=>by
    show (if k<k\/(k=k/\j<m) then _ else _)=(if k<k\/(k=k/\j<m+1) then _ else _)
    by_cases b:j<m
    ·rw[Af (by omega),Af (by omega)]
    ·rw[Ae (by omega),Ae (by omega)]
   by_cases b:q / 3=m
   ·have h1:(part S a to k m k).F m=(S k).F m:=MU
    have h2:(part S a to k (m+1) k).F m=Ed a to ((S k).F m):=by
     show (if k<k\/(k=k/\m<m+1) then _ else _)=_
     rw[Af (by omega)]
    unfold B2;rw[b,h1,h2];unfold Ed;rw[he]
    by_cases h0:q % 3=0
    ·rw[Af h0,Af h0];rfl
    ·rw[Ae h0,Ae h0,Af (by omega),Af (by omega)];rfl
   ·unfold B2;rw[hF _ b]
 ·intro j e
  have hg:=(h.good k hk).2.2.2.1 j e;show IA (if k<k\/(k=k/\j<m+1) then _ else _)
  by_cases b:j=m
  ·subst b
   rw[MU]at hg;rw[Af (by omega)];unfold Ed;rw[he];exact⟨hg.1,hs,hg.2.2⟩
  ·have:(part S a to k m k).F j=if k<k\/(k=k/\j<m+1) then Ed a to ((S k).F j) else (S k).F j:=by
    show (if k<k\/(k=k/\j<m) then _ else _)=_
    by_cases b:j<m
    ·rw[Af (by omega),Af (by omega)]
    ·rw[Ae (by omega),Ae (by omega)]
   rw[<-this];exact hg
 ·intro i hi
  refine⟨rfl,rfl,rfl,λj e=>?_,λj e=>rfl⟩
  by_cases d:i=k
  ·subst d
   show _=(if i=i then (part S a to i (m+1) i).F else _) j
   rw[Af rfl]
  ·show (part S a to k (m+1) i).F j=(if i=k then _ else (part S a to k m i).F) j
   rw[Ae d];show (if i<k\/(i=k/\j<m+1) then _ else _)=(if i<k\/(i=k/\j<m) then _ else _)
   by_cases b:i<k
   ·rw[Af (by omega),Af (by omega)]
   ·rw[Ae (by omega),Ae (by omega)]
theorem QP{w:World}{base n:Nat}{v:Value}{fv b:Nat->Value}{S:Nat->PSeen}{a to:ByteArray}(h:Seens w base v n fv b S):Seens w base v n fv b (part S a to 0 0):=by
 refine h.congr λi hi=>⟨rfl,rfl,rfl,λj c=>?_,λj c=>rfl⟩;show (if i<0\/(i=0/\j<0) then _ else _)=_
 rw[Ae (by omega)]
theorem Tryz.e141:∀args w,(callFunc 141 args).run Tryz.prog w= .ok (.enter 141 args) w:=AN Tryz.func141 (by kernel_rfl) rfl
theorem K8(fb p bf bt:Nat)(ty a to:ByteArray)(w:World)(hc:w.cell? ⟨fb,p+2,none⟩=some (.string ty))(c:w.frozen? ⟨fb,p+2,none⟩=false)(c1:w.cell? ⟨bf,0,none⟩=some (.string a))(c2:w.cell? ⟨bt,0,none⟩=some (.string to))(he:eqs ty a=true) :
  Calls Tryz.prog 141 #[.pointer (some ⟨fb,p,none⟩),.pointer (some ⟨bf,0,none⟩),.pointer (some ⟨bt,0,none⟩)] w λe w'=>e= .returned (.tuple #[])/\∃q,w'=(w.drewN q).setCell ⟨fb,p+2,none⟩ (.string to):=by
 have b:(ty.toList==a.toList)=true:=by rw[CT];exact he
 clear he
 go_enter Tryz.func141,Tryz.ntmps141
 go_wp2_with fail
 go_quiet (fail)
 go_wp2_with fail
 go_end0
 exact⟨rfl,_,rfl⟩
theorem Ke(fb p bf bt:Nat)(ty a:ByteArray)(w:World)(hc:w.cell? ⟨fb,p+2,none⟩=some (.string ty))(c1:w.cell? ⟨bf,0,none⟩=some (.string a))(he:eqs ty a=false) :
  Calls Tryz.prog 141 #[.pointer (some ⟨fb,p,none⟩),.pointer (some ⟨bf,0,none⟩),.pointer (some ⟨bt,0,none⟩)] w λe w'=>e= .returned (.tuple #[])/\∃q,w'=w.drewN q:=by
 have b:(ty.toList==a.toList)=false:=by rw[CT];exact he
 clear he
 go_enter Tryz.func141,Tryz.ntmps141
 go_wp2_with fail
 go_quiet (fail)
 go_wp2_with fail
 go_end0
 exact⟨rfl,_,rfl⟩
end Go.Proofs.YtjjggefmmeminabGreat
namespace Go.Proofs.YtjjggefmmeminabGreat
open Go.RowKit Go.Sort
theorem Tryz.e95:∀args w,(callFunc 95 args).run Tryz.prog w= .ok (.enter 95 args) w:=AN Tryz.func95 (by kernel_rfl) rfl
theorem Pe(b o cap n i bl a:Nat)(name s:ByteArray)(w:World)(hi:i<n)(g:w.cell? ⟨bl,0,none⟩=some (.slice (some ⟨b,o,none⟩) n cap))(h:w.cell? ⟨a,0,none⟩=some (.string name))(hc:w.cell? ⟨b,o+i*3,none⟩=some (.string s)) :
  Calls Tryz.prog 95 #[.int .i64 (i:Int),.pointer (some ⟨bl,0,none⟩),.pointer (some ⟨a,0,none⟩)] w λe w'=>e= .returned (.bool (eqs s name))/\Below w.heap.size w w':=by
 have c:(i:Int)<(n:Int):=by omega
 have d:(0:Int)<=(i:Int):=by omega
 go_enter Tryz.func95,Tryz.ntmps95
 go_wp2
 go_quiet (fail)
 go_wp2
 go_ret;exact⟨by rw[<-CT];rfl,Cz _ _⟩
theorem E9(a:Option Addr)(n cap:Nat)(F:Nat->LField)(name:ByteArray)(w:World)(hF:Cl w a n F) :
  Calls Tryz.prog 64 #[.slice a n cap,.string name] w λe w'=>e= .returned (.int .i64 (BX n F name))/\Below w.heap.size w w':=by
 have g:=zm;have h:Hid (Cl w a n F):=hF;have hn:n<=9223372036854775807:=hF.1;clear hF
 go_enter Tryz.func64,Tryz.ntmps64
 go_wp2_with fail
 refine(Gx n hn 95 _ (λi=>eqs (F i).name name) _ Tryz.e95 ?_).mono ?_
 ·intro i hi d c
  obtain⟨b,o,rfl,hc,-⟩:=h.out.2 i hi;refine Pe b o cap n i _ _ name (F i).name d hi (BR c ?_) (BR c ?_) (BR ((CN w _ _).trans (c.mono (CN w _ _).size)) hc)
  ·rw[Az _ _ _ (by simp),Ac _ _ _ _ rfl];rfl
  ·rw[Ac _ _ _ _ (by simp)];rfl
 ·rintro e d ⟨rfl,c⟩
  go_wp2
  go_ret;exact⟨rfl,(CN w _ _).trans (c.mono (CN w _ _).size)⟩
end Go.Proofs.YtjjggefmmeminabGreat
namespace Go.Proofs.YtjjggefmmeminabGreat
open Go.RowKit Go.Sort
theorem Tryz.e147:∀args w,(callFunc 147 args).run Tryz.prog w= .ok (.enter 147 args) w:=AN Tryz.func147 (by kernel_rfl) rfl
theorem Q7(b o cap n i bl a:Nat)(name s:ByteArray)(w:World)(hi:i<n)(g:w.cell? ⟨bl,0,none⟩=some (.slice (some ⟨b,o,none⟩) n cap))(h:w.cell? ⟨a,0,none⟩=some (.string name))(hc:w.cell? ⟨b,o+i*2,none⟩=some (.string s)) :
  Calls Tryz.prog 147 #[.int .i64 (i:Int),.pointer (some ⟨bl,0,none⟩),.pointer (some ⟨a,0,none⟩)] w λe w'=>e= .returned (.bool (eqs s name))/\Below w.heap.size w w':=by
 have c:(i:Int)<(n:Int):=by omega
 have d:(0:Int)<=(i:Int):=by omega
 go_enter Tryz.func147,Tryz.ntmps147
 go_wp2
 go_quiet (fail)
 go_wp2
 go_ret;exact⟨by rw[<-CT];rfl,Cz _ _⟩
theorem Ix(a:Option Addr)(n cap:Nat)(T:Nat->LType)(name:ByteArray)(w:World)(d:Cs w a n T) :
  Calls Tryz.prog 128 #[.slice a n cap,.string name] w λe w'=>e= .returned (.int .i64 (find n T name))/\Below w.heap.size w w':=by
 have h:=zm;have j:Hid (Cs w a n T):=d;have hn:n<=9223372036854775807:=d.1;clear d
 go_enter Tryz.func128,Tryz.ntmps128
 go_wp2_with fail
 refine(Gx n hn 147 _ (λi=>eqs (T i).name name) _ Tryz.e147 ?_).mono ?_
 ·intro i hi g c
  obtain⟨b,o,rfl,hc,-⟩:=j.out.2 i hi;refine Q7 b o cap n i _ _ name (T i).name g hi (BR c ?_) (BR c ?_) (BR ((CN w _ _).trans (c.mono (CN w _ _).size)) hc)
  ·rw[Az _ _ _ (by simp),Ac _ _ _ _ rfl];rfl
  ·rw[Ac _ _ _ _ (by simp)];rfl
 ·rintro e g ⟨rfl,c⟩
  go_wp2
  go_ret;exact⟨rfl,(CN w _ _).trans (c.mono (CN w _ _).size)⟩
end Go.Proofs.YtjjggefmmeminabGreat
namespace Go.Proofs.YtjjggefmmeminabGreat
open Go.RowKit
def Uf (K:Nat) (a:Array Value) (w:World) (n:Nat) (g:Nat->Int):Prop :=
 ∀i:Nat,i<n->∀b:World,Below w.heap.size w b->Calls Tryz.prog K (#[.int .i64 (i:Int)]++a) b λe w'=>e= .returned (.int .i64 (g i))/\Below b.heap.size b w'
def Dj (f:Int × Int):Value:=.agg #[.int .i64 f.1,.int .i64 f.2]
theorem EB(n:Nat)(hn:n<=9223372036854775807)(K:Nat)(c:Array Value)(g:Nat->Int)(w:World)(F:∀args w,(callFunc K args).run Tryz.prog w= .ok (.enter K args) w)(y:Uf K c w n g) :
  Calls Tryz.prog 110 #[.int .i64 (n:Int),.func (.func K) #[] c] w λe w'=>e= .returned (Dj (CA n g))/\Below w.heap.size w w':=by
 have C:Hid (Uf K c w n g):=y;clear y
 go_enter Tryz.func110,Tryz.ntmps110
 go_wp2
 go_loopw [8] (λi wr => ∃k:Nat,k<=n/\i= .int .i64 k/\Hid (∀j,j<k->g j=0)/\Below w.heap.size w wr/\w.heap.size<wr.heap.size/\wr.cell? ⟨w.heap.size,0,none⟩=some (.int .i64 0)/\wr.cell? ⟨w.heap.size,1,none⟩=some (.int .i64 0)/\wr.frozen? ⟨w.heap.size,0,none⟩=false/\wr.frozen? ⟨w.heap.size,1,none⟩=false) (λi _=>n - (intOf i).toNat)
 case atStart =>
  refine⟨0,Ai _,rfl,(λj q=>absurd q (Ak _)),(Aq _ _).alloc (Aj _) _,by simp,?_,?_,?_,?_⟩
  ·rw[Ac _ _ _ _ rfl];rfl
  ·rw[Ac _ _ _ _ rfl];rfl
  ·exact AZ _ _ _ _ rfl
  ·exact AZ _ _ _ _ rfl
 case round =>
  obtain⟨k,hk,rfl,hb,r,l,c0,c1,z,f1⟩:=hrel
  by_cases m:k<n
  ·go_wp2_with fail
   refine(C.out k m wr r).mono ?_;rintro e A ⟨rfl,a⟩;have o:Below w.heap.size w A:=r.trans (a.mono r.size);have s:w.heap.size<A.heap.size:=Ah l a.size;have d0:=(a.cell (p:=⟨w.heap.size,0,none⟩) l).trans c0;have B:=(a.cell (p:=⟨w.heap.size,1,none⟩) l).trans c1;have D:=(a.frozen (p:=⟨w.heap.size,0,none⟩) l).trans z;have E:=(a.frozen (p:=⟨w.heap.size,1,none⟩) l).trans f1;clear a c0 c1 z f1
   by_cases b:g k=0
   ·have u:Hid (∀j,j<k+1->g j=0):=λj q=>by
     rcases Nat.lt_succ_iff_lt_or_eq.1 q with h|h
     ·exact hb j h
     ·rw[h];exact b
    have x:(g k != 0)=false:=by simpa using b
    clear b
    go_wp2
    go_roundw
    case rel=>exact⟨k+1,by omega,by go_num,u,o,s,d0,B,D,E⟩
    case measure=>simp[intOf];omega
   ·have d:Hid (CA n g=(g k,(k:Int))):=Do m b hb
    have x:(g k != 0)=true:=by simpa using b
    clear b
    go_wp2
    refine At (v:=.agg #[.int .i64 (g k),.int .i64 (k:Int)]) (by simp[results,Tryz.results110,go_sem,d0,B]) rfl ⟨by rw[d.out];rfl,?_⟩;exact(o.setCell (Aj _) _).setCell (Aj _) _
  ·have d:Hid (CA n g=(0,0)):=Dm (λj q=>hb j (by omega))
   go_wp2
   refine At (v:=.agg #[.int .i64 0,.int .i64 0]) (by simp[results,Tryz.results110,go_sem,c0,c1]) rfl ⟨by rw[d.out];rfl,?_⟩;exact(r.setCell (Aj _) _).setCell (Aj _) _
end Go.Proofs.YtjjggefmmeminabGreat
namespace Go.Proofs.YtjjggefmmeminabGreat
theorem Ey{n:Nat}{g:Nat->Int}:(CA n g).1=0 ↔ ∀j,j<n->g j=0:=by
 rcases FC n g with⟨e,h⟩|⟨k,hk,e,h1,h2⟩
 ·rw[e];exact⟨λ_=>h,λ_=>rfl⟩
 ·rw[e]
  exact⟨λh=>absurd h h1,λh=>h k hk⟩
theorem Dq{n:Nat}{p:Nat->Bool}:Ds n p<0 ↔ ∀j,j<n->p j=false:=by
 rcases CE n p with⟨e,h⟩|⟨k,hk,e,h1,h2⟩
 ·rw[e];exact⟨λ_=>h,λ_=>by decide⟩
 ·rw[e]
  exact⟨λh=>by omega,λh=>by rw[h k hk]at h1;cases h1⟩
end Go.Proofs.YtjjggefmmeminabGreat
namespace Go.Proofs.YtjjggefmmeminabGreat
open Go.RowKit Go.Sort
theorem B9.box_ne{w:World}{base e size n:Nat}{v:Value}{f : Nat->Value}(h:B9 w base e size v n f){k b t:Nat}{c:Array Value}(hk:v.ownBlock=some k)(hb:w.heap[b]? = some (.cells c t (0,0)))(he:e≠t):b≠k:=by
 rintro rfl;obtain⟨a,h1⟩:=h.obj hk;rw[h1]at hb;simp at hb;exact he hb.2
structure Boxes (w:World) (bf bt:Nat) (frm to:ByteArray):Prop where
 f:w.heap[bf]? = some (.cells #[.string frm] 9 (0,0))
 t:w.heap[bt]? = some (.cells #[.string to] 9 (0,0))
theorem Boxes.kept{w w':World}{bf bt:Nat}{a to:ByteArray}(h:Boxes w bf bt a to)(hB:Below w.heap.size w w'):Boxes w' bf bt a to :=
 ⟨(hB.block _ (Ag h.f)).trans h.f,(hB.block _ (Ag h.t)).trans h.t⟩
theorem Sq{l w:World}{base n bf bt g:Nat}{v:Value}{fv o:Nat->Value}{S:Nat->PSeen}{c to:ByteArray}{k m fb cap:Nat}{p:Array Value}(h:Seens w base v n fv o (part S c to k m))(hx:Boxes w bf bt c to)(hb:Below base l w)(hs:w.heap[g]? = some (.cells p 140 (0,0)))(hk:k<n)(s:m<(S k).nf)(i:BY to)(e:fv k= .slice (some ⟨fb,0,none⟩) (S k).nf cap)(he:eqs ((S k).F m).type c=true)(q:Nat) :
  Seens ((w.drewN q).setCell ⟨fb,m*3+2,none⟩ (.string to)) base v n fv o (part S c to k (m+1))/\Boxes ((w.drewN q).setCell ⟨fb,m*3+2,none⟩ (.string to)) bf bt c to/\Below base l ((w.drewN q).setCell ⟨fb,m*3+2,none⟩ (.string to))/\((w.drewN q).setCell ⟨fb,m*3+2,none⟩ (.string to)).heap[g]? = some (.cells p 140 (0,0)):=by
 have r:=h.kept (Cz w q);have a:=r.fields k hk;have d:(fv k).ownBlock=some fb:=by rw[e];rfl
 have j:=(a.lt d).1;refine⟨S3 r hk s i e he,⟨?_,?_⟩,?_,?_⟩
 ·rw[Al _ _ _ _ (a.box_ne d (b:=bf) hx.f (by decide))];exact hx.f
 ·rw[Al _ _ _ _ (a.box_ne d (b:=bt) hx.t (by decide))];exact hx.t
 ·exact(hb.trans ((Cz w q).mono (by have:=(h.fields k hk).lt d;omega))).setCell j _
 ·rw[Al _ _ _ _ (a.box_ne d (b:=g) hs (by decide))];exact hs
theorem RY{b w:World}{base n bf bt c:Nat}{v:Value}{fv d:Nat->Value}{S:Nat->PSeen}{a to:ByteArray}{k m:Nat}{e:Array Value}(h:Seens w base v n fv d (part S a to k m))(hx:Boxes w bf bt a to)(hb:Below base b w)(hs:w.heap[c]? = some (.cells e 140 (0,0)))(he:eqs ((S k).F m).type a=false)(q:Nat) :
  Seens (w.drewN q) base v n fv d (part S a to k (m+1))/\Boxes (w.drewN q) bf bt a to/\Below base b (w.drewN q)/\(w.drewN q).heap[c]? = some (.cells e 140 (0,0)) :=
 ⟨Rl (h.kept (Cz w q)) he,hx.kept (Cz w q),⟨hb.os,hb.tape,hb.output,hb.size,hb.block⟩,hs⟩
theorem Lf(base n bf bt:Nat)(v:Value)(fv y:Nat->Value)(S:Nat->PSeen)(b to:ByteArray)(w:World)(hS:Seens w base v n fv y S)(hx:Boxes w bf bt b to)(hto:BY to)(hbase:base<=w.heap.size) :
  Calls Tryz.prog 140 #[v,.func (.func 141) #[] #[.pointer (some ⟨bf,0,none⟩),.pointer (some ⟨bt,0,none⟩)]] w λe w'=>e= .returned (.tuple #[])/\Seens w' base v n fv y (part S b to n 0)/\Below base w w':=by
 have hn:n<=9223372036854775807:=hS.nmax;obtain⟨a,cap,rfl,hcap⟩:=hS.slice;have HS:Hid (Seens w base (.slice a n cap) n fv y S):=hS;have HX:Hid (Boxes w bf bt b to):=hx;have eK:=Tryz.e141;clear hS hx
 go_enter Tryz.func140,Tryz.ntmps140
 go_wp2_with fail
 go_loopw [9] (λi wr => ∃k:Nat,k<=n/\i= .int .i64 k/\Seens wr base (.slice a n cap) n fv y (part S b to k 0)/\Boxes wr bf bt b to/\Below base w wr) (λi _=>n - (intOf i).toNat)
 case atStart=>exact⟨0,Ai _,rfl,QP HS.out,HX.out,Aq _ _⟩
 case round =>
  obtain⟨k,hk,rfl,c,E,O⟩:=hrel
  by_cases o:k<n
  ·obtain⟨g,cap',hv,-,-⟩:=c.ptr o
   cases hv;obtain⟨k0,k1,k2,k3⟩:=c.cells o;obtain⟨G,c1,e1,-⟩:=(c.fields k o).slice;obtain⟨N,c2,e2,-⟩:=(c.owns k o).slice;have hnf:(S k).nf<=9223372036854775807:=(c.good k o).2.2.1;have E1:Hid (fv k= .slice G (S k).nf c1):=e1;have T:fv k= .slice G (S k).nf c1:=e1;have U:y k= .slice N (S k).nf c2:=e2;rw[T]at k1;rw[U]at k3;have k0':wr.cell? ⟨g,k*4,none⟩=some (.string (S k).name):=k0;have k2':wr.cell? ⟨g,k*4+2,none⟩=some (.string (S k).own):=k2;clear k0 k2 e1 e2 T U;have hlt':(k:Int)<(n:Int):=by omega
   have hk0:(0:Int)<=(k:Int):=by omega
   generalize hW:wr.alloc (Obj.cells #[.string (S k).name,.slice G (S k).nf c1,.string (S k).own,.slice N (S k).nf c2] 140)=W;have hB:Below wr.heap.size wr W:=by rw[<-hW];exact BW _ _
   have H:W.heap[wr.heap.size]? = some (.cells #[.string (S k).name,.slice G (S k).nf c1,.string (S k).own,.slice N (S k).nf c2] 140 (0,0)):=by rw[<-hW];exact Ap _ _
   have I:Hid (Seens W base (.slice (some ⟨g,0,none⟩) n cap) n fv y (part S b to k 0)):=c.kept hB;have J:Hid (Boxes W bf bt b to):=E.kept hB;have K:Hid (Below base w W):=O.trans (hB.mono (by have:=O.size;omega));have L:Hid (W.heap[wr.heap.size]? = some (.cells #[.string (S k).name,.slice G (S k).nf c1,.string (S k).own,.slice N (S k).nf c2] 140 (0,0))):=H;have Z:W.cell? ⟨wr.heap.size,1,none⟩=some (.slice G (S k).nf c1):=by simp[World.cell?,H]
   clear H c E O hB
   go_wp2_with fail
   clear hW Z k0' k1 k2' k3;generalize wr.heap.size=bs at *
   go_loopw [17] (λi w3 => ∃m:Nat,m<=(S k).nf/\i= .int .i64 m/\Seens w3 base (.slice (some ⟨g,0,none⟩) n cap) n fv y (part S b to k m)/\Boxes w3 bf bt b to/\Below base w w3/\w3.heap[bs]? = some (.cells #[.string (S k).name,.slice G (S k).nf c1,.string (S k).own,.slice N (S k).nf c2] 140 (0,0))) (λi _=>(S k).nf - (intOf i).toNat)
   case atStart=>exact⟨0,Ai _,rfl,I.out,J.out,K.out,L.out⟩
   case round =>
    obtain⟨m,hm,rfl,s,p,z,A⟩:=hrel
    by_cases V:m<(S k).nf
    ·have u:=s.fields k o
     rw[E1.out]at u;rcases u.shape with⟨hv0,hz0⟩|⟨fb,fc,hv,hfb,-,-⟩
     ·exact absurd (show (S k).nf=0 from hz0) (by omega)
     cases hv;have hmlt':(m:Int)<((S k).nf:Int):=by omega
     have hm0:(0:Int)<=(m:Int):=by omega
     have Z:wr.cell? ⟨bs,1,none⟩=some (.slice (some ⟨fb,0,none⟩) (S k).nf c1):=by simp[World.cell?,A]
     have B:wr.cell? ⟨fb,m*3+2,none⟩=some (.string ((S k).F m).type):=by
      rw[u.cell (j:=m*3+2) (by have:(part S b to k m k).nf=(S k).nf:=rfl;omega),F1,MU]
     have M:=u.free (m*3+2);have cf:=cell_of_one p.f;have ct:=cell_of_one p.t;have d:Hid (Seens wr base (.slice (some ⟨g,0,none⟩) n cap) n fv y (part S b to k m)):=s;have r:Hid (Boxes wr bf bt b to):=p;have l:Hid (Below base w wr):=z;have C:Hid (wr.heap[bs]? = some (.cells #[.string (S k).name,.slice (some ⟨fb,0,none⟩) (S k).nf c1,.string (S k).own,.slice N (S k).nf c2] 140 (0,0))):=A;clear u s p z A I J K L;cases he:eqs ((S k).F m).type b
     ·have x:=Ke fb (m*3) bf bt _ b wr B cf he
      go_wp2_with fail
      refine x.mono ?_;clear x;rintro e w4 ⟨rfl,q,rfl⟩;have R:=RY d.out r.out l.out C.out he q;have D:Hid _:=R;clear R d r l C Z B M cf ct he
      go_wp2_with fail
      go_roundw
      case rel=>exact⟨m+1,by omega,by go_num,D.out.1,D.out.2.1,D.out.2.2.1,D.out.2.2.2⟩
      case measure=>simp[intOf];omega
     ·have x:=K8 fb (m*3) bf bt _ b to wr B M cf ct he
      go_wp2_with fail
      refine x.mono ?_;clear x;rintro e w4 ⟨rfl,q,rfl⟩;have R:=Sq d.out r.out l.out C.out o V hto E1.out he q;have D:Hid _:=R;clear R d r l C Z B M cf ct he
      go_wp2_with fail
      go_roundw
      case rel=>exact⟨m+1,by omega,by go_num,D.out.1,D.out.2.1,D.out.2.2.1,D.out.2.2.2⟩
      case measure=>simp[intOf];omega
    ·have X:m=(S k).nf:=by omega
     have d:Hid (Seens wr base (.slice (some ⟨g,0,none⟩) n cap) n fv y (part S b to (k+1) 0)):=RW (by rw[<-X];exact s);have r:Hid (Boxes wr bf bt b to):=p;have l:Hid (Below base w wr):=z;clear X s p z A I J K L
     go_wp2_with fail
     go_roundw
     case rel=>exact⟨k+1,by omega,by go_num,d.out,r.out,l.out⟩
     case measure=>simp[intOf];omega
  ·have Y:k=n:=by omega
   have d:Hid (Seens wr base (.slice a n cap) n fv y (part S b to n 0)):=by have h:=c;rw[Y]at h;exact h
   have l:Hid (Below base w wr):=O;clear Y c E O
   go_wp2_with fail
   go_end0
   exact⟨rfl,d.out,l.out⟩
end Go.Proofs.YtjjggefmmeminabGreat
namespace Go.Proofs.YtjjggefmmeminabGreat
def DW (n:Nat):Code->Option Code
 | .block m c=>if m=n then some (.block m c) else DW n c
 | .loop c=>DW n c
 | .scope c=>DW n c
 | .seq a b=>match DW n a with
  |some c=>some c
  |none=>DW n b
 | .cond _ a b=>match DW n a with
  |some c=>some c
  |none=>DW n b
 | _=>none
def Ie (n:Nat):Code->Option Code
 | .seq (.region m os d) b=>if m=n then some (.seq (.region m os d) b) else Ie n b
 | .block _ c=>Ie n c
 | .loop c=>Ie n c
 | .scope c=>Ie n c
 | .seq a b=>match Ie n a with
  |some c=>some c
  |none=>Ie n b
 | .cond _ a b=>match Ie n a with
  |some c=>some c
  |none=>Ie n b
 | _=>none
def Vf (Q:Exit->Act->World->Prop):Exit->Act->World->Prop
 | .panic _,_,_=>False
 | e,a,w=>Q e a w
theorem Iu{P:Program}{c:Code}{Q:Exit->Act->World->Prop}{a:Act}{w:World}(h:c.wp P (Vf Q) a w):c.wp P Q a w:=wp_mono h λe _ _ hq=>by
 cases e with
 | normal=>exact hq
 | exit id=>exact hq
 | goto l=>exact hq
 | ret=>exact hq
 | panic b=>exact hq.elim
 | outgrown=>exact hq
def IL (n:Nat):Code->Option Code
 | .region m os d=>if m=n then some (.region m os d) else none
 | .block _ c=>IL n c
 | .loop c=>IL n c
 | .scope c=>IL n c
 | .seq a b=>match IL n a with
  |some c=>some c
  |none=>IL n b
 | .cond _ a b=>match IL n a with
  |some c=>some c
  |none=>IL n b
 | _=>none
noncomputable def GA (f:Func) (a:Code->Option Code):Code:=(f.body.bind a).getD .skip
end Go.Proofs.YtjjggefmmeminabGreat
