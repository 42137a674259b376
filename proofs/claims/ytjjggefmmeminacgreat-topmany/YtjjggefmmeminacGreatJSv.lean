import Derived.Test.YtjjggefmmeminacGreatJBase
import Derived.Maps.OwnSet
import Derived.WalkLawsBesides
import Derived.Test.YtjjggefmmeminacGreatJGp
import Derived.WalkSpells
import Derived.Deep.Strs
namespace Go.Proofs.YtjjggefmmeminacGreat
open Go.RowKit Go.Sort
theorem nextcap {need old:Nat} (h:old < need):4 * Builtin.nextslicecap need old≤5 * need + 768:=by
 unfold Builtin.nextslicecap
 split
 ·omega
 ·split
  ·omega
  ·rw [growBy_four]
   repeat' split
   all_goals omega
theorem fits_far {need old bytes:Nat} (h:old < need) (hb:(5 * need + 768) * bytes≤1125899906842624):Builtin.nextslicecap need old * bytes≤281474976710656:=by
 have h1:=Nat.mul_le_mul_right bytes (nextcap h)
 rw [Nat.mul_assoc] at h1
 omega
theorem Row.far {P:Program} {w:World} {base e size n:Nat} {v:Value} {f : Nat→Value} (hR:Row w base e size v n f) (t ty:TypeId) (i:TypeInfo) (z:Value) (bytes:Nat) (ht:P.underlying t=some (.slice e)) (hi:P.info? e=some i) (hz:i.zero=some z)
  (hsize:i.size=size) (hby:i.bytes=bytes) (hzs:z.cells.size=size) (hsz:0 < size) (src:Option Addr) (m c:Nat) (g:Nat→Value)
  (hnews:∀ j,j < m * size→∃ b o,src=some ⟨b,o,none⟩∧w.cell? ⟨b,o + j,none⟩=some (g j)) (hnil:src=none→m=0) (h1:∀ j,j < m * size→(g j).oneCell'=true)
  (h63:n + m≤maxLen) (hbytes:(5 * (n + m) + 768) * bytes≤1125899906842624) (hbase:base≤w.heap.size) :
  ∃ v' w',(Builtin.append_ #[t,t] ty #[v,.slice src m c]).run P w = .ok v' w'∧Row w' base e size v' (n + m) (fun j=>if j < n * size then f j else g (j - n * size))∧w.grownBy w' v.ownBlock∧(v'.ownBlock=v.ownBlock∨v'.ownBlock=some w.heap.size):=by
 subst hsize
 subst hby
 have hlist:(List.range ((n + m) * i.size)).map (fun j=>if j < n * i.size then f j else g (j - n * i.size))=(List.range (n * i.size)).map f ++ (List.range (m * i.size)).map g:=by
  rw [Nat.add_mul,List.range_add,List.map_append,List.map_map,range_map_congr (fun j hj=>if_pos hj:∀ j,j < n * i.size→(if j < n * i.size then f j else g (j - n * i.size))=f j)]
  refine congrArg _ (List.map_congr_left fun j _=>?_)
  simp
  intro h
  omega
 have hsmall:n + m≤9223372036854775807:=by simp only [maxLen] at h63; omega
 generalize hnw:(List.range (m * i.size)).map g=news at hlist
 have hl:news.length=m * i.size:=by rw [← hnw]; simp
 have hn1:∀ u ∈ news,u.oneCell'=true:=by
  intro u hu
  rw [← hnw] at hu
  obtain ⟨j,hj,rfl⟩:=List.mem_map.1 hu
  exact h1 j (by simpa using hj)
 by_cases hm:m=0
 ·subst hm
  have hnn:news = []:=List.eq_nil_of_length_eq_zero (by simpa using hl)
  refine ⟨v,w,?_,?_,⟨rfl,rfl,rfl,Nat.le_refl _,fun _ _ _=>rfl⟩,.inl rfl⟩
  ·rcases hR.2 with ⟨rfl,rfl⟩ | ⟨g',cap,cur,rfl,_,_,hnc,_⟩
   ·cases src <;> simp [Builtin.append_,run_underlying ht,sizeOf,typeInfo,hi,Builtin.lenOf,Builtin.firstCells,loadCells,loadCellsFrom]
   ·cases src <;> simp [Builtin.append_,run_underlying ht,sizeOf,typeInfo,hi,Builtin.lenOf,Builtin.firstCells,loadCells,loadCellsFrom,hnc,storeCells]
  ·unfold Row
   rw [hlist,hnn,List.append_nil]
   exact hR
 ·have hm0:0 < m * i.size:=Nat.mul_pos (by omega) hsz
  obtain ⟨b0,o0,hs0,-⟩:=hnews 0 hm0
  subst hs0
  have hnw':∀ j u,news[j]? = some u→w.cell? ((⟨b0,o0,none⟩:Addr).add j)=some u:=by
   intro j u hu
   rw [← hnw] at hu
   have hj:j < m * i.size:=by
    have:=(List.getElem?_eq_some_iff.1 hu).1
    simpa using this
   obtain ⟨b,o,e,hc⟩:=hnews j hj
   cases e
   rw [WideShapes.add_plain,hc]
   rw [List.getElem?_map,List.getElem?_range hj] at hu
   simpa using hu
  have hlen:((List.range (n * i.size)).map f ++ news).length=(n + m) * i.size:=by rw [List.length_append,hl,Nat.add_mul]; simp
  have grown:∀ old,old < n + m→∀ row:Option Nat,
    (w.drew.alloc (.cells (((List.range (n * i.size)).map f).toArray ++ news.toArray ++ Builtin.zeroCells z.cells (grownCap w (n + m) old e - (n + m))) e)).ownsRow base e i.size (.slice (some ⟨w.heap.size,0,none⟩) (n + m) (grownCap w (n + m) old e)) (n + m) ((List.range (n * i.size)).map f ++ news) ∧
    w.grownBy (w.drew.alloc (.cells (((List.range (n * i.size)).map f).toArray ++ news.toArray ++ Builtin.zeroCells z.cells (grownCap w (n + m) old e - (n + m))) e)) row:=by
   intro old ho row
   refine ⟨⟨hlen,.inr ⟨w.heap.size,_,_,rfl,hbase,heap_alloc_new w.drew _,grownCap_ge w (n + m) old e,grownCap_le_maxLen w (n + m) old e h63,?_,?_⟩⟩,⟨rfl,rfl,rfl,by simp,fun k hk _=>Below.heap_alloc _ _ _ hk⟩⟩
   ·have:=grownCap_ge w (n + m) old e
    simp only [Array.size_append,List.size_toArray,size_zeroCells,hzs,hl,List.length_map,List.length_range,← Nat.add_mul]
    congr 1
    omega
   ·simp only [Array.toList_append,List.append_assoc]
    rw [← List.append_assoc,← hlen]
    exact List.take_left
  unfold Row
  rw [hlist]
  rcases hR.2 with ⟨rfl,rfl⟩ | ⟨g',cap,cur,rfl,hbg,hg,hnc,hcm,hcs,htake⟩
  ·have hr:=run_append_nil (P:=P) w t ty e i z ht hi hz ⟨b0,o0,none⟩ m c news hl hnw' (by omega) (by omega) (by have:=fits_far (need:=0 + m) (old:=0) (bytes:=i.bytes) (by omega) hbytes; rw [Nat.zero_add,nextslicecap_zero (by omega)] at this; exact this)
   have hgr:=grown 0 (by omega) (Value.ownBlock (.slice none 0 0))
   simp only [Nat.zero_mul,List.range_zero,List.map_nil,Nat.zero_add,List.nil_append,Array.empty_append] at hgr ⊢
   exact ⟨_,_,hr,hgr.1,hgr.2,Or.inr rfl⟩
  ·by_cases hroom:n + m≤cap
   ·have hfit:n * i.size + news.length≤cur.size:=by rw [hl,hcs,← Nat.add_mul]; exact Nat.mul_le_mul_right _ hroom
    have hr:=run_append_room (P:=P) w t ty e i ht hi g' n cap cur hg ⟨b0,o0,none⟩ m c news hl hnw' hn1 hroom hfit
    refine ⟨_,_,hr,⟨hlen,.inr ⟨g',cap,_,rfl,hbg,setRow_heap w g' cur _ e _ hg,hroom,hcm,?_,?_⟩⟩,⟨rfl,rfl,rfl,by simp,fun k _ hk=>setRow_other w g' k _ (fun e=>hk (by simp [Value.ownBlock,e]))⟩,Or.inl rfl⟩
    ·simp only [List.size_toArray,List.length_append,List.length_take,List.length_drop,Array.length_toList]
     omega
    ·rw [htake,← hlen]
     exact List.take_left
   ·have holds:∀ j u,((List.range (n * i.size)).map f)[j]? = some u→w.cell? ((⟨g',0,none⟩:Addr).add j)=some u:=World.ownsRow.cells hR (g:=g') rfl
    have hr:=run_append_grow (P:=P) w t ty e i z ht hi hz ⟨g',0,none⟩ n cap _ hR.1 holds ⟨b0,o0,none⟩ m c news hl hnw' (by omega) (by omega) (fits_far (by omega) hbytes)
    have hgr:=grown cap (by omega) (Value.ownBlock (.slice (some ⟨g',0,none⟩) n cap))
    exact ⟨_,_,hr,hgr.1,hgr.2,Or.inr rfl⟩
theorem wpList_append_run {P:Program} (w:World) {ops:Array Oper} {rest:List Oper} {o:Oper} {a:Act} {Q:Exit→Act→World→Prop} (hgd:o.guard=none) (s x:Operand) (t:TypeId)
  (ho:o.op = .call { callee:=.builtin .append,args:=#[s,x],argTypes:=#[t,t] }) (v u:Value) (hs:a.eval s=v) (hx:a.eval x=u) (R:Value→World→Prop)
  (hr:∀ ty,∃ v' w',(Builtin.append_ #[t,t] ty #[v,u]).run P w = .ok v' w'∧R v' w')
  (h:∀ v' w',R v' w'→wpList P ops Q rest (a.put o.dst v') w'):wpList P ops Q (o :: rest) a w:=by
 refine wpList_plain hgd fun K hK=>?_
 obtain ⟨v',w',hr,h2⟩:=hr o.type
 unfold Oper.wp execOp
 simp only [ho,resolve,invoke,builtin,Sem.run_bind,Sem.run_pure,Result.andThen_ok,List.map_toArray,List.map_cons,List.map_nil,hs,hx,hr]
 exact hK _ _ (h v' w' h2)
theorem step_append_run {P:Program} {ops:Array Oper} {o:Oper} {a:Act} {w:World} {K:Act→World→Prop} {Q:Exit→Act→World→Prop} {E:Prop}
  (hgd:o.guard=none) (s x:Operand) (t:TypeId) (ho:o.op=Op.call { callee:=Callee.builtin Builtin.append,args:=#[s,x],argTypes:=#[t,t] }) (v u:Value) (hs:a.eval s=v) (hx:a.eval x=u) (R:Value→World→Prop)
  (hr:∀ ty,∃ v' w',(Builtin.append_ #[t,t] ty #[v,u]).run P w = .ok v' w'∧R v' w')
  (hK:∀ v' w',R v' w'→K (a.put o.dst v') w'):if Region.wanted o (yielded ops a.tmps)=true then Oper.wp P o a w K Q else E:=by
 have hw:Region.wanted o (yielded ops a.tmps)=true:=by simp [Region.wanted,hgd]
 rw [if_pos hw]
 obtain ⟨v',w',hr,h2⟩:=hr o.type
 unfold Oper.wp
 simp [execOp,ho,resolve,invoke,builtin,hs,hx,hr,Result.andThen]
 exact hK v' w' h2
structure Steady (ts:Nat→Bool) (base:Nat) (w w':World):Prop where
 below:Below base w w'
 keep:∀ b,b < w.heap.size→(∀ cs t fz,w.heap[b]? = some (.cells cs t fz)→ts t=false)→w'.heap[b]? = w.heap[b]?
theorem Steady.refl (ts:Nat→Bool) (base:Nat) (w:World):Steady ts base w w:=⟨Below.refl _ _,fun _ _ _=>rfl⟩
theorem Steady.trans {ts:Nat→Bool} {base:Nat} {w w1 w2:World} (h:Steady ts base w w1) (h':Steady ts base w1 w2):Steady ts base w w2 :=
 ⟨h.below.trans h'.below,fun b hb hc=>by
  have e:=h.keep b hb hc
  exact (h'.keep b (Nat.lt_of_lt_of_le hb h.below.size) (fun cs t fz ho=>hc cs t fz (e ▸ ho))).trans e⟩
theorem Steady.mono {ts ts':Nat→Bool} {base:Nat} {w w':World} (h:Steady ts base w w') (hts:∀ t,ts t=true→ts' t=true):Steady ts' base w w' :=
 ⟨h.below,fun b hb hc=>h.keep b hb fun cs t fz ho=>by
  cases e:ts t
  ·rfl
  ·rw [← hc cs t fz ho,hts t e]⟩
theorem steady_new {ts:Nat→Bool} {base:Nat} {w w':World} (h:Below w.heap.size w w') (hb:base≤w.heap.size):Steady ts base w w' :=
 ⟨h.mono hb,fun b hb _=>h.block b hb⟩
theorem steady_grown {ts:Nat→Bool} {base e size n:Nat} {w w':World} {v:Value} {f : Nat→Value} (hR:Row w base e size v n f) (he:ts e=true) (hg:w.grownBy w' v.ownBlock) (hb:base≤w.heap.size):Steady ts base w w':=by
 refine ⟨⟨hg.os,hg.tape,hg.output,hg.size,fun k hk=>hg.block k (by omega) (fun e=>by have:=(hR.lt e.symm).1; omega)⟩,fun b hlt hc=>hg.block b hlt fun e=>?_⟩
 obtain ⟨cs,ho⟩:=hR.obj e.symm
 rw [hc _ _ _ ho] at he
 cases he
theorem steady_set {ts:Nat→Bool} {base e b o:Nat} {w:World} {cs:Array Value} {fz:Nat × Nat} (ho:w.heap[b]? = some (.cells cs e fz)) (he:ts e=true) (hb:base≤b) (u:Value):Steady ts base w (w.setCell ⟨b,o,none⟩ u):=by
 refine ⟨⟨rfl,rfl,rfl,by simp,fun k hk=>Below.heap_setCell _ _ _ _ (by show k≠b; omega)⟩,fun k hk hc=>Below.heap_setCell _ _ _ _ fun e'=>?_⟩
 have e':k=b:=e'
 subst e'
 rw [hc _ _ _ ho] at he
 cases he
theorem Row.steady {ts:Nat→Bool} {base base' e size n:Nat} {w w':World} {v:Value} {f : Nat→Value} (hR:Row w base' e size v n f) (h:Steady ts base w w') (he:ts e=false):Row w' base' e size v n f :=
 hR.at fun k hk=>h.keep k (hR.lt hk).2 fun cs t fz ho=>by
  obtain ⟨cs',ho'⟩:=hR.obj hk
  rw [ho'] at ho
  cases ho
  exact he
theorem Steady.block {ts:Nat→Bool} {base b t:Nat} {w w':World} {cs:Array Value} {fz:Nat × Nat} (h:Steady ts base w w') (ho:w.heap[b]? = some (.cells cs t fz)) (ht:ts t=false):w'.heap[b]? = some (.cells cs t fz):=by
 rw [h.keep b (lt_of_block ho) fun cs' t' fz' ho'=>by rw [ho] at ho'; cases ho'; exact ht]
 exact ho
theorem Steady.mapBlock {ts:Nat→Bool} {base b:Nat} {w w':World} {es:Array MapEntry} {clock:Nat} (h:Steady ts base w w') (ho:w.heap[b]? = some (.map es clock)):w'.heap[b]? = some (.map es clock):=by
 rw [h.keep b (lt_of_block ho) fun cs' t' fz' ho'=>by rw [ho] at ho'; cases ho']
 exact ho
def Stays (ts:Nat→Bool) (base:Nat) (w:World) (p:World→Prop):Prop := ∀ w',Steady ts base w w'→p w'
theorem Stays.now {ts:Nat→Bool} {base:Nat} {w:World} {p:World→Prop} (h:Stays ts base w p):p w:=h w (Steady.refl _ _ _)
theorem Stays.then {ts:Nat→Bool} {base:Nat} {w w':World} {p:World→Prop} (h:Stays ts base w p) (hs:Steady ts base w w'):Stays ts base w' p:=fun w2 h2=>h w2 (hs.trans h2)
theorem Tryz.keyed:Maps.Keyed Tryz.prog 9:=Maps.string_keyed Tryz.underlying9
theorem Tryz.zero3 (w:World):(zeroValue 3).run Tryz.prog w = .ok (.int .i64 0) w:=by kernel_rfl
def TMap (w:World) (b n:Nat) (f:ByteArray→Option Int):Prop :=
 ∃ D:DataW Unit,w.ownsMap Tryz.prog 9 (plainElem Tryz.prog 3) b n D∧∀ s,Small s→Maps.has D (.string s.data.toList)=(f s).isSome∧D.atKey (.string s.data.toList) (.lit (.int .i64 0)) = .lit (.int .i64 ((f s).getD 0))
theorem TMap.made (w:World):TMap (w.alloc (.map #[] 0)) w.heap.size 0 (fun _=>none) :=
 ⟨.map [],World.ownsMap_made w _ _ _,fun _ _=>⟨rfl,rfl⟩⟩
theorem TMap.lt {w:World} {b n:Nat} {f : ByteArray→Option Int} (h:TMap w b n f):b < w.heap.size:=let ⟨_,h,_⟩:=h; h.lt
theorem TMap.at {w w':World} {b n:Nat} {f : ByteArray→Option Int} (h:TMap w b n f) (hb:w'.heap[b]? = w.heap[b]?):TMap w' b n f:=by
 obtain ⟨D,⟨es,clock,h1,h2⟩,h3⟩:=h
 exact ⟨D,⟨es,clock,hb.trans h1,h2⟩,h3⟩
theorem TMap.kept {w w':World} {b n:Nat} {f : ByteArray→Option Int} (h:TMap w b n f) (hB:Below w.heap.size w w'):TMap w' b n f:=h.at (hB.block b h.lt)
theorem TMap.steady {ts:Nat→Bool} {base:Nat} {w w':World} {b n:Nat} {f : ByteArray→Option Int} (h:TMap w b n f) (hS:Steady ts base w w'):TMap w' b n f:=by
 obtain ⟨D,⟨es,clock,h1,h2⟩,h3⟩:=h
 exact ⟨D,⟨es,clock,hS.mapBlock h1,h2⟩,h3⟩
theorem TMap.congr {w:World} {b n:Nat} {f g:ByteArray→Option Int} (h:TMap w b n f) (e:∀ s,Small s→f s=g s):TMap w b n g:=by
 obtain ⟨D,h1,h2⟩:=h
 exact ⟨D,h1,fun s hs=>by rw [← e s hs]; exact h2 s hs⟩
theorem key_run {s:ByteArray} (hs:Small s):keyOf Tryz.prog 9 (.string s)=some (.string s.data.toList):=WideMaps.keyOf_string_mk Tryz.underlying9 hs
theorem TMap.look {w:World} {b n:Nat} {f : ByteArray→Option Int} (h:TMap w b n f) {s:ByteArray} (hs:Small s):(Instr.lookup 85 (.map (some b)) (.string s) false).run Tryz.prog w = .ok (.int .i64 ((f s).getD 0)) w:=by
 obtain ⟨D,h1,h2⟩:=h
 obtain ⟨c,hr,hc,-⟩:=h1.lookup_int Tryz.keyed Tryz.underlying85 Tryz.underlying3 (Tryz.zero3 w) (key_run hs)
 rw [(h2 s hs).2] at hc
 cases hc
 exact hr
theorem TMap.look_ok {w:World} {b n:Nat} {f : ByteArray→Option Int} (h:TMap w b n f) {s:ByteArray} (hs:Small s):(Instr.lookup 85 (.map (some b)) (.string s) true).run Tryz.prog w = .ok (.tuple #[.int .i64 ((f s).getD 0),.bool (f s).isSome]) w:=by
 obtain ⟨D,h1,h2⟩:=h
 obtain ⟨v,ps,hr,hc⟩:=h1.look_ok Tryz.keyed Tryz.underlying85 (Tryz.zero3 w) (plainElem_int Tryz.underlying3 (by decide)) (key_run hs)
 obtain ⟨c,rfl,hc',-⟩:=plainElem_int_inv Tryz.underlying3 hc
 rw [(h2 s hs).2] at hc'
 cases hc'
 rw [(h2 s hs).1] at hr
 exact hr
theorem text_inj {s u:ByteArray} (h:s.data.toList=u.data.toList):s=u:=eqs_iff.1 (by unfold eqs; rw [h]; simp)
theorem TMap.store {w:World} {b n:Nat} {f : ByteArray→Option Int} (h:TMap w b n f) (hn:n < maxLen) {s:ByteArray} (hs:Small s) {x:Int} (hx:(Lit.int .i64 x).wf=true) :
  ∃ w',(Instr.mapUpdate 85 (.map (some b)) (.string s) (.int .i64 x)).run Tryz.prog w = .ok () w'∧TMap w' b (n + 1) (fun u=>if eqs u s then some x else f u)∧w.mapTurned w' b:=by
 obtain ⟨D,h1,h2⟩:=h
 have hm:=h1.isMap
 obtain ⟨w',hr,h3,h4⟩:=h1.store Tryz.keyed Tryz.underlying85 hn (key_run hs) (plainElem_int Tryz.underlying3 hx)
 refine ⟨w',hr,⟨_,h3,fun u hu=>?_⟩,h4⟩
 by_cases e:u=s
 ·subst e
  have hk:WideAt.IsKeyLit (.string u.data.toList):=by simp [WideAt.IsKeyLit]
  simp only [if_pos (eqs_iff.2 (rfl:u=u))]
  rw [Maps.has_put_same hm hk,Maps.atKey_put_same hm hk]
  exact ⟨rfl,rfl⟩
 ·have hne:(Lit.string u.data.toList)≠.string s.data.toList:=fun h=>e (text_inj (by simpa using h))
  have e':eqs u s=false:=by
   cases h:eqs u s
   ·rfl
   ·exact absurd (eqs_iff.1 h) e
  simp only [e']
  rw [Maps.has_put_other hne,Maps.atKey_put_other hne]
  exact h2 u hu
end Go.Proofs.YtjjggefmmeminacGreat
namespace Go.Proofs.YtjjggefmmeminacGreat
open Go.RowKit Go.Sort
def cntN (K:Nat→ByteArray) (k:Nat) (s:ByteArray):Nat:=(List.range k).countP (fun j=>eqs (K j) s)
def cnt (K:Nat→ByteArray) (k:Nat) (s:ByteArray):Option Int:=if cntN K k s=0 then none else some (cntN K k s:Int)
theorem cntN_succ (K:Nat→ByteArray) (k:Nat) (s:ByteArray):cntN K (k + 1) s=cntN K k s + (if eqs (K k) s then 1 else 0):=by
 unfold cntN; rw [List.range_succ,List.countP_append]; simp [List.countP_cons]
theorem cntN_le (K:Nat→ByteArray) (k:Nat) (s:ByteArray):cntN K k s≤k:=by
 unfold cntN
 have:=List.countP_le_length (p:=fun j=>eqs (K j) s) (l:=List.range k)
 simpa using this
theorem cnt_getD (K:Nat→ByteArray) (k:Nat) (s:ByteArray):(cnt K k s).getD 0=(cntN K k s:Int):=by
 unfold cnt; split
 ·rename_i h; rw [h]; rfl
 ·rfl
theorem eqs_comm (a b:ByteArray):eqs a b=eqs b a:=by
 cases h:eqs b a
 ·cases h':eqs a b
  ·rfl
  ·rw [eqs_iff.1 h',eqs_iff.2 rfl] at h; cases h
 ·rw [eqs_iff.1 h,eqs_iff.2 rfl]
theorem cnt_succ (K:Nat→ByteArray) (k:Nat) (s:ByteArray):cnt K (k + 1) s=if eqs s (K k) then some ((cntN K k (K k):Int) + 1) else cnt K k s:=by
 unfold cnt
 rw [cntN_succ,eqs_comm]
 cases h:eqs s (K k)
 ·simp
 ·rw [eqs_iff.1 h]
  simp
theorem stood_cnt (K:Nat→ByteArray) (k:Nat):stood K k=decide (1 < (cntN K k (K k):Int) + 1):=by
 cases h:stood K k
 ·symm
  rw [decide_eq_false_iff_not]
  have h0:cntN K k (K k)=0:=by
   unfold cntN
   rw [List.countP_eq_zero]
   intro j hj hh
   exact stood_false.1 h j (by simpa using hj) (eqs_iff.1 hh)
  omega
 ·symm
  rw [decide_eq_true_iff]
  obtain ⟨j,hj,e⟩:=stood_true.1 h
  have h0:0 < cntN K k (K k):=by
   unfold cntN
   rw [List.countP_pos_iff]
   exact ⟨j,by simpa using hj,eqs_iff.2 e⟩
  omega
theorem wf_small {x:Int} (h0:0≤x) (h1:x≤9223372036854775807):(Lit.int .i64 x).wf=true:=by
 have h2:IntKind.i64.min = -9223372036854775808:=by decide
 have h3:IntKind.i64.max=9223372036854775807:=by decide
 simp [Lit.wf,h2,h3]
 omega
structure Asked (w:World) (b m:Nat) (K:Nat→ByteArray) (k:Nat):Prop where
 box:w.heap[b]? = some (.cells #[.map (some m)] 85 (0,0))
 map:TMap w m k (cnt K k)
theorem Asked.kept {w w':World} {b m:Nat} {K:Nat→ByteArray} {k:Nat} (h:Asked w b m K k) (hB:Below w.heap.size w w'):Asked w' b m K k :=
 ⟨(hB.block b (lt_of_block h.box)).trans h.box,h.map.kept hB⟩
theorem Asked.ne {w:World} {b m:Nat} {K:Nat→ByteArray} {k:Nat} (h:Asked w b m K k):b≠m:=by
 rintro rfl
 obtain ⟨D,⟨es,clock,h1,-⟩,-⟩:=h.map
 rw [h.box] at h1
 cases h1
theorem grownBy_trans {w w1 w2:World} {m:Option Nat} (h:w.grownBy w1 m) (h':w1.grownBy w2 m):w.grownBy w2 m :=
 ⟨h'.os.trans h.os,h'.tape.trans h.tape,h'.output.trans h.output,Nat.le_trans h.size h'.size,fun k hk hne=>(h'.block k (Nat.lt_of_lt_of_le hk h.size) hne).trans (h.block k hk hne)⟩
set_option maxRecDepth 100000 in
set_option maxHeartbeats 1000000 in
theorem again_any (K:Nat→ByteArray) (w:World):Calls Tryz.prog 126 #[] w fun e w' => ∃ b m,e = .returned (.func (.func 144) #[] #[.pointer (some ⟨b,0,none⟩)])∧w.heap.size≤b∧w.heap.size≤m∧Asked w' b m K 0∧Below w.heap.size w w':=by
 have hmf:∀ (fn:Fn) (first cap:Array Value) (w:World),(Instr.makeFunc fn first cap).run Tryz.prog w = .ok (.func fn first cap) w:=fun _ _ _ _=>rfl
 have hmm:=@run_makeMap Tryz.prog
 go_enter Tryz.func126,Tryz.ntmps126
 go_wp2_with fail
 go_ret
 refine ⟨_,_,rfl,by omega,Nat.le_refl _,⟨?_,?_⟩,below2 _ _ _⟩
 ·exact (show w.heap.size + 1=(w.alloc (Obj.map #[] 0)).heap.size by simp) ▸ heap_alloc_new _ _
 ·exact (TMap.made w).kept (below1 _ _)
set_option maxRecDepth 100000 in
set_option maxHeartbeats 1000000 in
theorem again1_any (b m k:Nat) (K:Nat→ByteArray) (w:World) (hs:Small (K k)) (hk:k < maxLen) (h:Asked w b m K k) :
  Calls Tryz.prog 144 #[.string (K k),.pointer (some ⟨b,0,none⟩)] w fun e w'=>e = .returned (.bool (stood K k))∧Asked w' b m K (k + 1)∧w.grownBy w' (some m):=by
 have hc:w.cell? ⟨b,0,none⟩=some (.map (some m)):=by simp [World.cell?,h.box]
 have hl:=h.map.look hs
 rw [cnt_getD] at hl
 have hle:=cntN_le K k (K k)
 have hkm:k < 9223372036854775807:=hk
 obtain ⟨w1,hst,hM1,hT1⟩:=h.map.store hk hs (x:=(cntN K k (K k):Int) + 1) (wf_small (by omega) (by omega))
 have hG:w.grownBy w1 (some m):=hT1.grown
 have hb1:=(hG.block b (lt_of_block h.box) (fun e=>h.ne (by cases e; rfl))).trans h.box
 have hc1:w1.cell? ⟨b,0,none⟩=some (.map (some m)):=by simp [World.cell?,hb1]
 have hM2:TMap w1 m (k + 1) (cnt K (k + 1)):=hM1.congr fun s _=>(cnt_succ K k s).symm
 have hl1:=hM2.look hs
 rw [cnt_succ,eqs_iff.2 rfl] at hl1
 simp only [if_true,Option.getD_some] at hl1
 have HF:Hid (Asked w1 b m K (k + 1)∧w.grownBy w1 (some m)):=⟨⟨hb1,hM2⟩,hG⟩
 have HS:Hid (stood K k=decide (1 < (cntN K k (K k):Int) + 1)):=stood_cnt K k
 clear h hM1 hM2 hT1 hG hb1
 generalize cntN K k (K k)=c at *
 go_enter Tryz.func144,Tryz.ntmps144
 go_wp2_with fail
 go_ret
 exact ⟨by rw [HS.out]; rfl,HF.out⟩
end Go.Proofs.YtjjggefmmeminacGreat
namespace Go.Proofs.YtjjggefmmeminacGreat
open Go.RowKit Go.Sort
theorem Row.lower {w:World} {base base' e size n:Nat} {v:Value} {f : Nat→Value} (h:Row w base e size v n f) (hb:base'≤base):Row w base' e size v n f:=by
 refine ⟨h.1,?_⟩
 rcases h.2 with h | ⟨g,cap,cur,hv,hg,r⟩
 ·exact .inl h
 ·exact .inr ⟨g,cap,cur,hv,Nat.le_trans hb hg,r⟩
def noVal:LVal:=⟨⟨#[]⟩,⟨#[]⟩,none,0,0,fun _=>⟨#[]⟩⟩
def nthV (L:List LVal) (i:Nat):LVal:=L.getD i noVal
theorem nthV_left {L M:List LVal} {i:Nat} (h:i < L.length):nthV (L ++ M) i=nthV L i:=by
 unfold nthV; simp [List.getD_eq_getElem?_getD,List.getElem?_append_left h]
theorem nthV_last (L:List LVal) (y:LVal):nthV (L ++ [y]) L.length=y:=by
 unfold nthV; simp [List.getD_eq_getElem?_getD]
def cellOf (y:LVal) (u:Value) (j:Nat):Value:=if j=0 then .string y.field else if j=1 then .string y.text else u
def valCell (L:List LVal) (kv:Nat→Value) (j:Nat):Value:=cellOf (nthV L (j / 3)) (kv (j / 3)) (j % 3)
theorem cellOf_one {y:LVal} {u:Value} (h:u.oneCell'=true) (j:Nat):(cellOf y u j).oneCell'=true:=by
 unfold cellOf; split
 ·rfl
 ·split
  ·rfl
  ·exact h
def KeysIn (w:World) (u:Value) (n:Nat) (K:Nat→ByteArray):Prop := ∃ a cap,u = .slice a n cap∧n≤cap∧KeysAt w a n K
def tsK (t:Nat):Bool:=t == 4 || t == 60 || t == 123 || t == 59
def tsV (t:Nat):Bool:=t == 59
def tsA (t:Nat):Bool:=t == 4 || t == 60 || t == 123
theorem tsV_K:∀ t,tsV t=true→tsK t=true:=fun t h=>by simp [tsV,tsK] at *; simp [h]
theorem tsA_K:∀ t,tsA t=true→tsK t=true:=fun t h=>by
 simp only [tsA,tsK,Bool.or_eq_true] at *
 exact .inl h
structure ValRows (w:World) (B base:Nat) (v:Value) (L:List LVal) (kv:Nat→Value):Prop where
 row:Row w B 59 3 v L.length (valCell L kv)
 keys:∀ i,i < L.length→Stays tsK base w (fun w'=>KeysIn w' (kv i) (nthV L i).nk (nthV L i).K)
 good:∀ i,i < L.length→Small (nthV L i).field∧Small (nthV L i).text
theorem ValRows.lower {w:World} {B B' base:Nat} {v:Value} {L:List LVal} {kv:Nat→Value} (h:ValRows w B base v L kv) (hb:B'≤B):ValRows w B' base v L kv:=⟨h.row.lower hb,h.keys,h.good⟩
theorem ValRows.kept {w w':World} {B base:Nat} {v:Value} {L:List LVal} {kv:Nat→Value} (h:ValRows w B base v L kv) (hB:Below w.heap.size w w') (hb:base≤w.heap.size):ValRows w' B base v L kv :=
 ⟨h.row.kept hB,fun i hi=>(h.keys i hi).then (steady_new hB hb),h.good⟩
theorem ValRows.steady {w w':World} {B base:Nat} {v:Value} {L:List LVal} {kv:Nat→Value} (h:ValRows w B base v L kv) (hS:Steady tsA base w w'):ValRows w' B base v L kv :=
 ⟨h.row.steady hS (by decide),fun i hi=>(h.keys i hi).then (hS.mono tsA_K),h.good⟩
theorem ValRows.snoc {w w':World} {B base:Nat} {v v':Value} {L:List LVal} {kv:Nat→Value} (h:ValRows w B base v L kv) (hb:base≤B) (hB:B≤w.heap.size) {y:LVal} {u:Value} (hy:Small y.field∧Small y.text) (hu:Stays tsK base w (fun w'=>KeysIn w' u y.nk y.K))
  (hrow:Row w' B 59 3 v' (L.length + 1) (fun j=>if j < L.length * 3 then valCell L kv j else cellOf y u (j - L.length * 3))) (hg:w.grownBy w' v.ownBlock):ValRows w' B base v' (L ++ [y]) (fun i=>if i=L.length then u else kv i):=by
 have hS:Steady tsK base w w':=(steady_grown (ts:=tsV) (h.row.lower hb) (by decide) hg (by omega)).mono tsV_K
 refine ⟨?_,fun i hi=>?_,fun i hi=>?_⟩
 ·have hl:(L ++ [y]).length=L.length + 1:=by simp
  rw [hl]
  refine hrow.congr fun j hj=>?_
  unfold valCell
  by_cases h1:j < L.length * 3
  ·have h2 : ¬ j / 3=L.length:=by omega
   simp only [if_pos h1,if_neg h2]
   rw [nthV_left (by omega)]
  ·have h2:j / 3=L.length:=by omega
   simp only [if_neg h1,h2,if_true]
   rw [nthV_last,show j % 3=j - L.length * 3 by omega]
 ·by_cases h1:i=L.length
  ·subst h1
   simp only [if_true,nthV_last]
   exact hu.then hS
  ·have h2:i < L.length:=by simp at hi; omega
   simp only [if_neg h1,nthV_left h2]
   exact (h.keys i h2).then hS
 ·by_cases h1:i=L.length
  ·subst h1
   rw [nthV_last]; exact hy
  ·have h2:i < L.length:=by simp at hi; omega
   rw [nthV_left h2]; exact h.good i h2
def SameV (x y:LVal):Prop:=x.field=y.field∧x.text=y.text∧x.nk=y.nk∧∀ j,j < x.nk→x.K j=y.K j
theorem ValRows.valsAt {w:World} {B base:Nat} {v:Value} {L:List LVal} {kv:Nat→Value} (h:ValRows w B base v L kv) (hm:L.length≤maxLen):∃ a cap V,v = .slice a L.length cap∧L.length≤cap∧ValsAt w a L.length V∧∀ i,i < L.length→SameV (V i) (nthV L i):=by
 have hk:∀ i,i < L.length→∃ p:Option Addr × Nat,kv i = .slice p.1 (nthV L i).nk p.2∧(nthV L i).nk≤p.2∧KeysAt w p.1 (nthV L i).nk (nthV L i).K:=fun i hi=>by
  obtain ⟨a,cap,h1,h2,h3⟩:=(h.keys i hi).now
  exact ⟨(a,cap),h1,h2,h3⟩
 obtain ⟨p,hp⟩:=Go.Deep.choose_lt (α:=Option Addr × Nat) (n:=L.length) (p:=fun i p=>kv i = .slice p.1 (nthV L i).nk p.2∧(nthV L i).nk≤p.2∧KeysAt w p.1 (nthV L i).nk (nthV L i).K) hk
 rcases h.row.shape with ⟨rfl,h0⟩ | ⟨g,cap,rfl,-,hc,-⟩
 ·exact ⟨none,0,fun _=>noVal,by rw [h0],by omega,⟨by omega,fun i hi=>by omega⟩,fun i hi=>by omega⟩
 ·refine ⟨_,cap,fun i=>⟨(nthV L i).field,(nthV L i).text,(p i).1,(nthV L i).nk,(p i).2,(nthV L i).K⟩,rfl,hc,⟨hm,fun i hi=>⟨g,0,rfl,?_,?_,?_,(hp i hi).2.1,(h.good i hi).1,(h.good i hi).2,(hp i hi).2.2⟩⟩,fun i hi=>⟨rfl,rfl,rfl,fun _ _=>rfl⟩⟩
  ·rw [h.row.cell (by omega)]
   unfold valCell cellOf
   rw [show (0 + i * 3) / 3=i by omega,if_pos (by omega)]
  ·rw [h.row.cell (by omega)]
   unfold valCell cellOf
   rw [show (0 + i * 3 + 1) / 3=i by omega,if_neg (by omega),if_pos (by omega)]
  ·rw [h.row.cell (by omega)]
   unfold valCell cellOf
   rw [show (0 + i * 3 + 2) / 3=i by omega,if_neg (by omega),if_neg (by omega),(hp i hi).1]
theorem Row.stays {w:World} {B n:Nat} {u:Value} {K:Nat→ByteArray} (h:Row w B 9 1 u n (textCell K)) (hn:n≤maxLen) (hg:∀ j,j < n→Small (K j)) (base:Nat):Stays tsK base w (fun w'=>KeysIn w' u n K):=fun w' hS=>by
 obtain ⟨a,cap,h1,h2,h3⟩:=(h.steady hS (by decide)).keysAt hn hg
 exact ⟨a,cap,h1,h2,h3⟩
theorem KeysAt.stays {w0 w:World} {a:Option Addr} {n cap:Nat} {K:Nat→ByteArray} (h:KeysAt w0 a n K) (hB:Below w0.heap.size w0 w) (hc:n≤cap):Stays tsK w0.heap.size w (fun w'=>KeysIn w' (.slice a n cap) n K):=fun _ hS =>
 ⟨a,cap,rfl,hc,h.kept (hB.trans hS.below)⟩
theorem Tryz.info59:(Tryz.prog.info? 59).map (fun i=>(i.zero,i.size,i.bytes))=some (some (.agg #[.string ⟨#[]⟩,.string ⟨#[]⟩,.slice none 0 0]),3,56):=by kernel_rfl
theorem Row.one {P:Program} {w:World} {base e size n:Nat} {v:Value} {f : Nat→Value} (cs:Array Value) (hR:Row w base e size v n f) (hbase:base≤w.heap.size) (t:TypeId) (i:TypeInfo) (z:Value) (bytes:Nat) (ht:P.underlying t=some (.slice e)) (hi:P.info? e=some i) (hz:i.zero=some z)
  (hsize:i.size=size) (hby:i.bytes=bytes) (hzs:z.cells.size=size) (hsz:0 < size) (g:Nat→Value) (hcs:∀ j,j < size→cs[j]? = some (g j)) (h1:∀ j,j < size→(g j).oneCell'=true) (h63:n + 1≤maxLen) (hbytes:(5 * (n + 1) + 768) * bytes≤1125899906842624) {m:Nat} (hm:m=w.heap.size) (ty:TypeId) :
  ∃ v' w',(Builtin.append_ #[t,t] ty #[v,.slice (some ⟨m,0,none⟩) 1 1]).run P (w.alloc (.cells cs e)) = .ok v' w'∧Row w' base e size v' (n + 1) (fun j=>if j < n * size then f j else g (j - n * size))∧(w.alloc (.cells cs e)).grownBy w' v.ownBlock:=by
 subst hm
 obtain ⟨v',w',h1,h2,h3,-⟩:=(hR.kept (below1 w (.cells cs e))).far t ty i z bytes ht hi hz hsize hby hzs hsz (some ⟨w.heap.size,0,none⟩) 1 1 g
  (fun j hj=>⟨w.heap.size,0,rfl,by rw [World.cell?_alloc_at _ _ _ _ rfl,Nat.zero_add]; simpa using hcs j (by omega)⟩) (fun h=>by cases h) (fun j hj=>h1 j (by omega)) h63 hbytes (by simp; omega)
 exact ⟨v',w',h1,h2,h3⟩
end Go.Proofs.YtjjggefmmeminacGreat
namespace Go.Proofs.YtjjggefmmeminacGreat
open Go.RowKit Go.Sort
def thingV (x:LThing):Value:=.agg #[.string x.type,.string x.key,.slice x.va x.nv x.vcap]
theorem valsTo_le {x:LThing} {nf k j:Nat} {F:Nat→ByteArray} (hF:∀ i,i < nf→stood F i=false) (hk:k < nf) (hj:j≤x.nv):(valsL x k F ++ valsTo x (F k) j).length≤x.nv:=by
 have h1:=valsTo_few x (F k) hj
 have h2:=valsL_mono x F (k:=k + 1) (m:=nf) (by omega)
 have h3:=valsL_few (x:=x) hF
 rw [valsL_succ,List.length_append] at h2
 rw [List.length_append]
 omega
theorem copyKeys {w:World} {B:Nat} (hB:B≤w.heap.size) {a:Option Addr} {n cap:Nat} {K:Nat→ByteArray} (h:KeysAt w a n K) (hn:n * 16≤140737488355328) (ty:TypeId) :
  ∃ u w',(Builtin.append_ #[33,33] ty #[.slice none 0 0,.slice a n cap]).run Tryz.prog w = .ok u w'∧Row w' B 9 1 u n (textCell K)∧Below w.heap.size w w':=by
 obtain ⟨iS,si,sz0,sz1,sz2⟩:=info_parts' Tryz.info9
 have h0:Row w B 9 1 (.slice none 0 0) 0 (textCell K):=World.ownsRow_nil _ _ _ _
 obtain ⟨u,w',h1,h2,h3,-⟩:=h0.far 33 ty iS _ 16 Tryz.underlying33 si sz0 sz1 sz2 rfl (by decide) a n cap (textCell K) (fun j hj=>by
  obtain ⟨b,o,e,hc,-⟩:=h.2 j (by omega)
  exact ⟨b,o,e,hc⟩) (fun e=>by
  by_cases h0:n=0
  ·exact h0
  ·obtain ⟨b,o,e',-⟩:=h.2 0 (by omega)
   rw [e] at e'; cases e') (fun _ _=>rfl) (by have:=h.1; omega) (by omega) hB
 refine ⟨u,w',h1,?_,⟨h3.os,h3.tape,h3.output,h3.size,fun k hk=>h3.block k hk (by simp [Value.ownBlock])⟩⟩
 rw [Nat.zero_add] at h2
 exact h2.congr fun j _=>by simp
end Go.Proofs.YtjjggefmmeminacGreat
namespace Go.Proofs.YtjjggefmmeminacGreat
open Go.RowKit Go.Sort
theorem Tryz.e127:∀ args w,(callFunc 127 args).run Tryz.prog w = .ok (.enter 127 args) w:=enters_of Tryz.func127 (by kernel_rfl) rfl
def firsts (X:Nat→LThing) (typ:ByteArray) (k:Nat) (s:ByteArray):Option Int:=if idx k (sameThing X typ s) < 0 then none else some (idx k (sameThing X typ s))
theorem idx_succ (k:Nat) (p:Nat→Bool):idx (k + 1) p=if 0≤idx k p then idx k p else if p k then (k:Int) else -1:=by
 rcases idx_cases k p with ⟨h,hb⟩ | ⟨j,hj,h,hp,hb⟩
 ·rw [h,if_neg (by omega)]
  cases hk:p k
  ·rw [idx_none (fun j hj=>by
    rcases Nat.lt_succ_iff_lt_or_eq.1 hj with h | h
    ·exact hb j h
    ·rw [h]; exact hk)]
   rfl
  ·rw [idx_hit (Nat.lt_succ_self k) hk hb]; rfl
 ·rw [h,if_pos (by omega),idx_hit (Nat.lt_succ_of_lt hj) hp hb]
theorem firsts_miss {X:Nat→LThing} {typ:ByteArray} {k:Nat} (h:eqs (X k).type typ=false∨(firsts X typ k (X k).key).isSome=true) (s:ByteArray):firsts X typ k s=firsts X typ (k + 1) s:=by
 unfold firsts at *
 rw [idx_succ]
 by_cases h0:0≤idx k (sameThing X typ s)
 ·rw [if_pos h0]
 ·rw [if_neg h0,if_pos (by omega)]
  have hs:sameThing X typ s k=false:=by
   unfold sameThing
   rcases h with h | h
   ·rw [h]; rfl
   ·cases e:eqs (X k).key s
    ·simp
    ·rw [eqs_iff.1 e] at h
     rw [if_pos (by omega)] at h
     cases h
  rw [hs]
  rfl
theorem firsts_hit {X:Nat→LThing} {typ:ByteArray} {k:Nat} (h1:eqs (X k).type typ=true) (h2:(firsts X typ k (X k).key).isSome=false) (s:ByteArray):(if eqs s (X k).key then some (k:Int) else firsts X typ k s)=firsts X typ (k + 1) s:=by
 unfold firsts at *
 rw [idx_succ]
 have hs:sameThing X typ s k=eqs s (X k).key:=by
  unfold sameThing
  rw [h1,eqs_comm]; rfl
 rw [hs]
 cases e:eqs s (X k).key
 ·by_cases h0:0≤idx k (sameThing X typ s)
  ·rw [if_pos h0]; rfl
  ·rw [if_neg h0,if_pos (show idx k (sameThing X typ s) < 0 by omega)]; rfl
 ·rw [eqs_iff.1 e]
  have h0:idx k (sameThing X typ (X k).key) < 0:=by
   by_cases h:idx k (sameThing X typ (X k).key) < 0
   ·exact h
   ·rw [if_neg h] at h2; cases h2
  rw [if_neg (show ¬ 0≤idx k (sameThing X typ (X k).key) by omega)]
  simp only [if_true]
  rw [if_neg (show ¬ (k:Int) < 0 by omega)]
theorem TMap.more {w:World} {b n:Nat} {f : ByteArray→Option Int} (h:TMap w b n f):TMap w b (n + 1) f:=by
 obtain ⟨D,h1,h2⟩:=h
 exact ⟨D,h1.mono (Nat.le_succ n),h2⟩
structure Finds (w:World) (bm bt m:Nat) (typ:ByteArray) (s:SServ):Prop where
 boxM:w.heap[bm]? = some (.cells #[.map (some m)] 85 (0,0))
 boxT:w.heap[bt]? = some (.cells #[.slice s.xa s.nx s.xcap] 38 (0,0))
 map:TMap w m s.nx (firsts s.X typ s.nx)
theorem Finds.kept {w w':World} {bm bt m:Nat} {typ:ByteArray} {s:SServ} (h:Finds w bm bt m typ s) (hB:Below w.heap.size w w'):Finds w' bm bt m typ s :=
 ⟨(hB.block _ (lt_of_block h.boxM)).trans h.boxM,(hB.block _ (lt_of_block h.boxT)).trans h.boxT,h.map.kept hB⟩
theorem Finds.steady {w w':World} {bm bt m base:Nat} {typ:ByteArray} {s:SServ} (h:Finds w bm bt m typ s) (hS:Steady tsA base w w'):Finds w' bm bt m typ s :=
 ⟨hS.block h.boxM (by decide),hS.block h.boxT (by decide),h.map.steady hS⟩
def finderV (bm bt:Nat):Value:=.func (.func 127) #[] #[.pointer (some ⟨bm,0,none⟩),.pointer (some ⟨bt,0,none⟩)]
set_option maxRecDepth 100000 in
set_option maxHeartbeats 1000000 in
theorem finder_any (s:SServ) (typ:ByteArray) (w:World) (hX:ThingsAt w s.xa s.nx s.X) :
  Calls Tryz.prog 95 #[.slice s.xa s.nx s.xcap,.string typ] w fun e w' => ∃ bm bt m,e = .returned (finderV bm bt)∧Finds w' bm bt m typ s∧Below w.heap.size w w':=by
 have hmf:∀ (fn:Fn) (first cap:Array Value) (w:World),(Instr.makeFunc fn first cap).run Tryz.prog w = .ok (.func fn first cap) w:=fun _ _ _ _=>rfl
 have hmm:=@run_makeMap Tryz.prog
 have hn:s.nx≤9223372036854775807:=hX.1
 have HX:=Hid.intro hX
 clear hX
 obtain ⟨xa,hxa⟩:∃ xa,xa=s.xa:=⟨_,rfl⟩
 have HXA:=Hid.intro hxa
 rw [← hxa] at HX
 rw [← hxa]
 clear hxa
 go_enter Tryz.func95,Tryz.ntmps95
 go_wp2_with fail
 generalize hW:((w.alloc (Obj.cells #[Value.slice xa s.nx s.xcap] 38)).alloc (Obj.map #[] 0)).alloc (Obj.cells #[Value.map (some (w.heap.size + 1))] 85)=W
 have hBW:Below w.heap.size w W:=by rw [← hW]; exact below3 _ _ _ _
 have hT0:W.heap[w.heap.size]? = some (.cells #[.slice xa s.nx s.xcap] 38 (0,0)):=by
  rw [← hW]
  exact (Below.heap_alloc _ _ _ (by simp; omega)).trans ((Below.heap_alloc _ _ _ (by simp)).trans (heap_alloc_new _ _))
 have hM0:W.heap[w.heap.size + 1 + 1]? = some (.cells #[.map (some (w.heap.size + 1))] 85 (0,0)):=by
  rw [← hW]
  exact (show w.heap.size + 1 + 1=((w.alloc (Obj.cells #[Value.slice xa s.nx s.xcap] 38)).alloc (Obj.map #[] 0)).heap.size by simp) ▸ heap_alloc_new _ _
 have hE0:TMap W (w.heap.size + 1) 0 (firsts s.X typ 0):=by
  rw [← hW]
  have h1:=(TMap.made (w.alloc (Obj.cells #[Value.slice xa s.nx s.xcap] 38))).kept (below1 _ (Obj.cells #[Value.map (some (w.heap.size + 1))] 85))
  rw [show (w.alloc (Obj.cells #[Value.slice xa s.nx s.xcap] 38)).heap.size=w.heap.size + 1 by simp] at h1
  exact h1.congr fun s _=>rfl
 have HBW:=Hid.intro hBW
 have HT0:=Hid.intro hT0
 have HM0:=Hid.intro hM0
 have HE0:=Hid.intro hE0
 clear hW hBW hT0 hM0 hE0
 obtain ⟨bt,hbt⟩:∃ bt,bt=w.heap.size:=⟨_,rfl⟩
 obtain ⟨m,hm⟩:∃ m,m=w.heap.size + 1:=⟨_,rfl⟩
 obtain ⟨bm,hbm⟩:∃ bm,bm=w.heap.size + 1 + 1:=⟨_,rfl⟩
 have hmle:w.heap.size≤m:=by omega
 have hne1:bt≠m:=by omega
 have hne2:bm≠m:=by omega
 rw [← hbt] at HT0
 rw [← hbm,← hm] at HM0
 rw [← hm] at HE0
 rw [← hbm,← hm,← hbt]
 clear hbt hm hbm
 go_loopw [13] (fun i wr => ∃ k:Nat,k≤s.nx∧i = .int .i64 k∧wr.heap[bt]? = some (.cells #[.slice xa s.nx s.xcap] 38 (0,0))∧wr.heap[bm]? = some (.cells #[.map (some m)] 85 (0,0))∧TMap wr m k (firsts s.X typ k)∧Below w.heap.size w wr) (fun i _=>s.nx - (intOf i).toNat)
 case atStart=>exact ⟨0,Nat.zero_le _,rfl,HT0.out,HM0.out,HE0.out,HBW.out⟩
 case round =>
  obtain ⟨k,hk,rfl,hT,hM,hE,hw⟩:=hrel
  by_cases hlt:k < s.nx
  ·obtain ⟨b,o,rfl,c0,c1,c2,-,-,hs,-⟩:=(HX.out.kept hw).2 k hlt
   have hlt':(k:Int) < (s.nx:Int):=by omega
   have hk0:(0:Int)≤(k:Int):=by omega
   generalize hX1:wr.alloc (Obj.cells #[.string (s.X k).type,.string (s.X k).key,.slice (s.X k).va (s.X k).nv (s.X k).vcap] 62)=X1
   have hB1:Below wr.heap.size wr X1:=by rw [← hX1]; exact below1 _ _
   have e0:X1.cell? ⟨wr.heap.size,0,none⟩=some (.string (s.X k).type):=by rw [← hX1,World.cell?_alloc_at _ _ _ _ rfl]; rfl
   have e1:X1.cell? ⟨wr.heap.size,1,none⟩=some (.string (s.X k).key):=by rw [← hX1,World.cell?_alloc_at _ _ _ _ rfl]; rfl
   have HT1:=Hid.intro ((hB1.block _ (lt_of_block hT)).trans hT)
   have HM1:=Hid.intro ((hB1.block _ (lt_of_block hM)).trans hM)
   have HE1:=Hid.intro (hE.kept hB1)
   have hm0:X1.cell? ⟨bm,0,none⟩=some (.map (some m)):=by simp [World.cell?,HM1.out]
   have hlk:=HE1.out.look_ok hs
   have HW1:Hid (Below w.heap.size w X1):=hw.trans (hB1.mono hw.size)
   have HS:=Hid.intro hs
   clear hT hM hE hw hB1 hs
   cases hf:firsts s.X typ k (s.X k).key with
   | some r =>
    have HF:Hid (∀ u,firsts s.X typ k u=firsts s.X typ (k + 1) u):=firsts_miss (.inr (by rw [hf]; rfl))
    rw [hf] at hlk
    simp only [Option.getD_some,Option.isSome_some] at hlk
    clear hf
    cases he:((s.X k).type.toList == typ.toList)
    ·go_wp2_with fail
     clear hX1
     go_roundw
     case rel=>exact ⟨k + 1,by omega,by go_num,HT1.out,HM1.out,(HE1.out.congr fun u _=>HF.out u).more,HW1.out⟩
     case measure=>simp [intOf]; omega
    ·go_wp2_with fail
     clear hX1
     go_roundw
     case rel=>exact ⟨k + 1,by omega,by go_num,HT1.out,HM1.out,(HE1.out.congr fun u _=>HF.out u).more,HW1.out⟩
     case measure=>simp [intOf]; omega
   | none =>
    rw [hf] at hlk
    simp only [Option.getD_none,Option.isSome_none] at hlk
    cases he:((s.X k).type.toList == typ.toList)
    ·have HF:Hid (∀ u,firsts s.X typ k u=firsts s.X typ (k + 1) u):=firsts_miss (.inl (by rw [← eqs_eq]; exact he))
     clear hf
     go_wp2_with fail
     clear hX1
     go_roundw
     case rel=>exact ⟨k + 1,by omega,by go_num,HT1.out,HM1.out,(HE1.out.congr fun u _=>HF.out u).more,HW1.out⟩
     case measure=>simp [intOf]; omega
    ·have HF:Hid (∀ u,(if eqs u (s.X k).key then some (k:Int) else firsts s.X typ k u)=firsts s.X typ (k + 1) u):=firsts_hit (by rw [← eqs_eq]; exact he) (by rw [hf]; rfl)
     obtain ⟨w2,hst,hM2,hT2⟩:=HE1.out.store (by unfold maxLen; omega) HS.out (x:=(k:Int)) (wf_small (by omega) (by omega))
     have HM2:=Hid.intro (hM2.congr fun u _=>HF.out u)
     have hg2:=hT2.grown
     have HT3:=Hid.intro ((hg2.block _ (lt_of_block HT1.out) (fun e=>hne1 (by cases e; rfl))).trans HT1.out)
     have HM3:=Hid.intro ((hg2.block _ (lt_of_block HM1.out) (fun e=>hne2 (by cases e; rfl))).trans HM1.out)
     have HW2:Hid (Below w.heap.size w w2):=HW1.out.trans ⟨hg2.os,hg2.tape,hg2.output,hg2.size,fun q hq=>hg2.block q (by have:=HW1.out.size; omega) (fun e=>by cases e; omega)⟩
     clear hf hM2 hT2 hg2
     go_wp2_with fail
     clear hX1
     go_roundw
     case rel=>exact ⟨k + 1,by omega,by go_num,HT3.out,HM3.out,HM2.out,HW2.out⟩
     case measure=>simp [intOf]; omega
  ·have hkn:k=s.nx:=by omega
   have HF:Hid (Finds wr bm bt m typ s∧Below w.heap.size w wr):=by
    rw [hkn] at hE
    rw [HXA.out] at hT
    exact ⟨⟨hM,hT,hE⟩,hw⟩
   clear hT hM hE hw
   go_wp2_with fail
   go_ret
   exact ⟨bm,bt,m,rfl,HF.out⟩
set_option maxRecDepth 100000 in
set_option maxHeartbeats 1000000 in
theorem finder1_any (bm bt m:Nat) (s:SServ) (typ key:ByteArray) (w:World) (hX:ThingsAt w s.xa s.nx s.X) (hk:Small key) (h:Finds w bm bt m typ s) :
  Calls Tryz.prog 127 #[.string key,.pointer (some ⟨bm,0,none⟩),.pointer (some ⟨bt,0,none⟩)] w fun e w'=>e = .returned (.tuple #[thingV (thingOf s typ key),.bool (foundI s typ key)])∧Below w.heap.size w w':=by
 have hlk:=(h.map.kept (below1 w (Obj.cells #[.string ⟨#[]⟩,.string ⟨#[]⟩,.slice none 0 0] 62))).look_ok hk
 have hm0:w.cell? ⟨bm,0,none⟩=some (.map (some m)):=by simp [World.cell?,h.boxM]
 have ht0:w.cell? ⟨bt,0,none⟩=some (.slice s.xa s.nx s.xcap):=by simp [World.cell?,h.boxT]
 have hbm:=lt_of_block h.boxM
 have hbt:=lt_of_block h.boxT
 have hn:s.nx≤9223372036854775807:=hX.1
 unfold firsts at hlk
 rcases idx_cases s.nx (sameThing s.X typ key) with ⟨hi,-⟩ | ⟨k,hkn,hi,-⟩
 ·obtain ⟨f1,f2⟩:=foundI_none (s:=s) (typ:=typ) (key:=key) (by rw [hi]; decide)
  rw [hi] at hlk
  simp only [show ((-1:Int) < 0)=True by simp,if_true,Option.getD_none,Option.isSome_none] at hlk
  rw [f1,f2]
  clear f1 f2 hi h hX
  go_enter Tryz.func127,Tryz.ntmps127
  go_wp2_with fail
  exact bodyPost_ret (v:=.tuple #[.agg #[.string ⟨#[]⟩,.string ⟨#[]⟩,.slice none 0 0],.bool false]) (by simp [results,Tryz.results127,go_sem]) rfl ⟨rfl,below1 _ _⟩
 ·obtain ⟨f1,f2⟩:=foundI_some hi
  obtain ⟨b,o,hxa,c0,c1,c2,-⟩:=hX.2 k hkn
  rw [hi] at hlk
  rw [if_neg (by omega)] at hlk
  simp only [Option.getD_some,Option.isSome_some] at hlk
  rw [f1,f2]
  rw [hxa] at ht0
  have hlt':(k:Int) < (s.nx:Int):=by omega
  have hk0:(0:Int)≤(k:Int):=by omega
  have hbb:b < w.heap.size:=block_lt_of_cell c0
  clear f1 f2 hi h hX hxa
  go_enter Tryz.func127,Tryz.ntmps127
  go_wp2_with fail
  exact bodyPost_ret (v:=.tuple #[.agg #[.string (s.X k).type,.string (s.X k).key,.slice (s.X k).va (s.X k).nv (s.X k).vcap],.bool true]) (by simp [results,Tryz.results127,go_sem]) rfl ⟨rfl,below1 _ _⟩
end Go.Proofs.YtjjggefmmeminacGreat
namespace Go.Proofs.YtjjggefmmeminacGreat
open Go.RowKit Go.Sort
structure ValRowsO (w:World) (B base:Nat) (v:Value) (L:List LVal) (kv:Nat→Value):Prop where
 row:Row w B 59 3 v L.length (valCell L kv)
 keys:∀ i,i < L.length→(nthV L i).nk≤maxLen∧Row w B 9 1 (kv i) (nthV L i).nk (textCell (nthV L i).K)∧∀ j,j < (nthV L i).nk→Small ((nthV L i).K j)
 good:∀ i,i < L.length→Small (nthV L i).field∧Small (nthV L i).text
theorem valRowsO_nil (w:World) (B base:Nat) (kv:Nat→Value):ValRowsO w B base (.slice none 0 0) [] kv :=
 ⟨World.ownsRow_nil _ _ _ _,fun _ hi=>absurd hi (Nat.not_lt_zero _),fun _ hi=>absurd hi (Nat.not_lt_zero _)⟩
theorem ValRowsO.lower {w:World} {B B' base:Nat} {v:Value} {L:List LVal} {kv:Nat→Value} (h:ValRowsO w B base v L kv) (hb:B'≤B):ValRowsO w B' base v L kv:=⟨h.row.lower hb,fun i hi=>let ⟨h1,h2,h3⟩:=h.keys i hi; ⟨h1,h2.lower hb,h3⟩,h.good⟩
theorem ValRowsO.kept {w w':World} {B base:Nat} {v:Value} {L:List LVal} {kv:Nat→Value} (h:ValRowsO w B base v L kv) (hB:Below w.heap.size w w') (_:base≤w.heap.size):ValRowsO w' B base v L kv :=
 ⟨h.row.kept hB,fun i hi=>let ⟨h1,h2,h3⟩:=h.keys i hi; ⟨h1,h2.kept hB,h3⟩,h.good⟩
theorem ValRowsO.steady {w w':World} {B base:Nat} {v:Value} {L:List LVal} {kv:Nat→Value} (h:ValRowsO w B base v L kv) (hS:Steady tsA base w w'):ValRowsO w' B base v L kv :=
 ⟨h.row.steady hS (by decide),fun i hi=>let ⟨h1,h2,h3⟩:=h.keys i hi; ⟨h1,h2.steady hS (by decide),h3⟩,h.good⟩
theorem ValRowsO.snoc {w w':World} {B base:Nat} {v v':Value} {L:List LVal} {kv:Nat→Value} (h:ValRowsO w B base v L kv) (hb:base≤B) (hB:B≤w.heap.size) {y:LVal} {u:Value} (hy:Small y.field∧Small y.text) (hu:y.nk≤maxLen∧Row w B 9 1 u y.nk (textCell y.K)∧∀ j,j < y.nk→Small (y.K j))
  (hrow:Row w' B 59 3 v' (L.length + 1) (fun j=>if j < L.length * 3 then valCell L kv j else cellOf y u (j - L.length * 3))) (hg:w.grownBy w' v.ownBlock):ValRowsO w' B base v' (L ++ [y]) (fun i=>if i=L.length then u else kv i):=by
 have hS:Steady tsK base w w':=(steady_grown (ts:=tsV) (h.row.lower hb) (by decide) hg (by omega)).mono tsV_K
 refine ⟨?_,fun i hi=>?_,fun i hi=>?_⟩
 ·have hl:(L ++ [y]).length=L.length + 1:=by simp
  rw [hl]
  refine hrow.congr fun j hj=>?_
  unfold valCell
  by_cases h1:j < L.length * 3
  ·have h2 : ¬ j / 3=L.length:=by omega
   simp only [if_pos h1,if_neg h2]
   rw [nthV_left (by omega)]
  ·have h2:j / 3=L.length:=by omega
   simp only [if_neg h1,h2,if_true]
   rw [nthV_last,show j % 3=j - L.length * 3 by omega]
 ·by_cases h1:i=L.length
  ·subst h1
   simp only [if_true,nthV_last]
   exact ⟨hu.1,hu.2.1.steady hS (by decide),hu.2.2⟩
  ·have h2:i < L.length:=by simp at hi; omega
   simp only [if_neg h1,nthV_left h2]
   exact let ⟨h1,h2,h3⟩:=h.keys i h2; ⟨h1,h2.steady hS (by decide),h3⟩
 ·by_cases h1:i=L.length
  ·subst h1
   rw [nthV_last]; exact hy
  ·have h2:i < L.length:=by simp at hi; omega
   rw [nthV_left h2]; exact h.good i h2
end Go.Proofs.YtjjggefmmeminacGreat
namespace Go.Proofs.YtjjggefmmeminacGreat
open Go.RowKit Go.Sort
set_option maxRecDepth 100000 in
set_option maxHeartbeats 4000000 in
theorem valsO_any (x:LThing) (fa:Option Addr) (nf fcap:Nat) (F:Nat→ByteArray) (w:World) (hX:ValsAt w x.va x.nv x.V) (hL:LightX x) (hF:KeysAt w fa nf F) (hD:∀ i,i < nf→stood F i=false) (base:Nat) (hbase:base≤w.heap.size) :
  Calls Tryz.prog 96 #[thingV x,.slice fa nf fcap] w fun e w' => ∃ v kv,e = .returned v∧ValRowsO w' w.heap.size base v (valsL x nf F) kv∧Below w.heap.size w w':=by
 obtain ⟨iV,vi,vz0,vz1,vz2⟩:=info_parts' Tryz.info59
 obtain ⟨iS,si,sz0,sz1,sz2⟩:=info_parts' Tryz.info9
 have hnf:nf≤9223372036854775807:=hF.1
 have hnv:x.nv≤9223372036854775807:=hX.1
 have hl1:=hL.1
 unfold thingV
 obtain ⟨va,hva⟩:∃ va,va=x.va:=⟨_,rfl⟩
 rw [← hva] at hX
 rw [← hva]
 clear hva
 generalize hW:w.alloc (Obj.cells #[.string x.type,.string x.key,.slice va x.nv x.vcap] 62)=W
 have hB:Below w.heap.size w W:=by rw [← hW]; exact below1 _ _
 have hWs:w.heap.size < W.heap.size:=by rw [← hW]; simp
 have k2:W.cell? ⟨w.heap.size,2,none⟩=some (.slice va x.nv x.vcap):=by rw [← hW,World.cell?_alloc_at _ _ _ _ rfl]; rfl
 have HX:=Hid.intro (hX.kept hB)
 have HF:=Hid.intro (hF.kept hB)
 have HL:=Hid.intro hL
 have HD:=Hid.intro hD
 have HB:=Hid.intro hB
 clear hX hL hF hD hB
 go_enter Tryz.func96,Tryz.ntmps96
 go_wp2_with fail
 clear hW
 go_loopw [5,12] (fun v i wr => ∃ k:Nat,k≤nf∧i = .int .i64 k∧(∃ kv,ValRowsO wr W.heap.size base v (valsL x k F) kv)∧Below W.heap.size W wr) (fun _ i _=>nf - (intOf i).toNat)
 case atStart=>exact ⟨0,Nat.zero_le _,rfl,⟨fun _=>.slice none 0 0,valRowsO_nil _ _ _ _⟩,Below.refl _ _⟩
 case round =>
  obtain ⟨k,hk,rfl,⟨kv,hR⟩,hw⟩:=hrel
  by_cases hlt:k < nf
  ·obtain ⟨b,o,rfl,f0,-⟩:=(HF.out.kept hw).2 k hlt
   have hlt':(k:Int) < (nf:Int):=by omega
   have hk0:(0:Int)≤(k:Int):=by omega
   have t2:=keptCell hw k2
   have HR:=Hid.intro hR
   have HW:=Hid.intro hw
   clear hR hw
   go_wp2_with fail
   obtain ⟨wo,hren⟩:∃ wo,wo=wr:=⟨_,rfl⟩
   rw [← hren] at HR HW
   rw [← hren]
   clear hren f0 t2
   go_loopw [5,19] (fun v i wr => ∃ j:Nat,j≤x.nv∧i = .int .i64 j∧(∃ kv,ValRowsO wr W.heap.size base v (valsL x k F ++ valsTo x (F k) j) kv)∧Below W.heap.size W wr) (fun _ i _=>x.nv - (intOf i).toNat)
   case atStart=>exact ⟨0,Nat.zero_le _,rfl,⟨kv,by show ValRowsO _ _ _ _ (valsL x k F ++ []) kv; rw [List.append_nil]; exact HR.out⟩,HW.out⟩
   case round =>
    obtain ⟨j,hj,rfl,⟨kv2,hR⟩,hw⟩:=hrel
    by_cases hltj:j < x.nv
    ·obtain ⟨b2,o2,hv2,v0,v1,v2,hcap,s1,s2,hKs⟩:=(HX.out.kept hw).2 j hltj
     subst hv2
     have hltj':(j:Int) < (x.nv:Int):=by omega
     have hj0:(0:Int)≤(j:Int):=by omega
     generalize hX1:wr.alloc (Obj.cells #[.string (x.V j).field,.string (x.V j).text,.slice (x.V j).ka (x.V j).nk (x.V j).kcap] 59)=X1
     have hB1:Below wr.heap.size wr X1:=by rw [← hX1]; exact below1 _ _
     have b0:X1.cell? ⟨wr.heap.size,0,none⟩=some (.string (x.V j).field):=by rw [← hX1,World.cell?_alloc_at _ _ _ _ rfl]; rfl
     have b1:X1.cell? ⟨wr.heap.size,1,none⟩=some (.string (x.V j).text):=by rw [← hX1,World.cell?_alloc_at _ _ _ _ rfl]; rfl
     have b2:X1.cell? ⟨wr.heap.size,2,none⟩=some (.slice (x.V j).ka (x.V j).nk (x.V j).kcap):=by rw [← hX1,World.cell?_alloc_at _ _ _ _ rfl]; rfl
     have z2:X1.frozen? ⟨wr.heap.size,2,none⟩=false:=by rw [← hX1]; exact World.frozen?_alloc_at _ _ _ _ rfl
     have hz:wr.heap.size < X1.heap.size:=by rw [← hX1]; simp
     have HR2:=Hid.intro hR
     have HW2:=Hid.intro hw
     have HB1:=Hid.intro hB1
     have HKs:=Hid.intro (hKs.kept hB1)
     have HSm:=Hid.intro (And.intro s1 s2)
     have hW1:W.heap.size≤wr.heap.size:=hw.size
     clear hR hw hB1 hKs s1 s2 hcap
     cases he:((x.V j).field.toList == (F k).toList)
     ·have HV:Hid (valsTo x (F k) (j + 1)=valsTo x (F k) j):=valsTo_miss (by rw [← eqs_eq]; exact he)
      go_wp2_with fail
      clear hX1
      go_roundw
      case rel=>exact ⟨j + 1,by omega,by go_num,⟨kv2,by rw [HV.out]; exact HR2.out.kept HB1.out (by omega)⟩,HW2.out.trans (HB1.out.mono hW1)⟩
      case measure=>simp [intOf]; omega
     ·have HV:Hid (valsTo x (F k) (j + 1)=valsTo x (F k) j ++ [x.V j]):=valsTo_hit (by rw [← eqs_eq]; exact he)
      have hap:=copyKeys (w:=X1) (B:=X1.heap.size) (cap:=(x.V j).kcap) (Nat.le_refl _) HKs.out (HL.out.2 j hltj)
      go_wp2_with (at_builtin; refine wpList_append_run _ rfl _ _ 33 rfl _ _ rfl rfl (fun u w'=>Row w' X1.heap.size 9 1 u (x.V j).nk (textCell (x.V j).K)∧Below X1.heap.size X1 w') hap ?_)
      intro u w2 hRu hB2
      obtain ⟨ua,uc,rfl,-⟩:=hRu.slice
      clear hap hX1
      have c0:=keptCell hB2 b0
      have c1:=keptCell hB2 b1
      have c2:=keptCell hB2 b2
      have y2:=(hB2.frozen (p:=⟨wr.heap.size,2,none⟩) hz).trans z2
      have HRu:=Hid.intro hRu
      have HB2:=Hid.intro hB2
      clear hRu hB2 b0 b1 b2 z2
      obtain ⟨X3,hX3⟩:∃ X3,X3=w2.setCell ⟨wr.heap.size,2,none⟩ (.slice ua (x.V j).nk uc):=⟨_,rfl⟩
      have hB3:Below wr.heap.size wr X3:=by
       rw [hX3]
       exact (HB1.out.trans (HB2.out.mono (Nat.le_of_lt hz))).trans ⟨rfl,rfl,rfl,by simp,fun k hk=>Below.heap_setCell _ _ _ _ (by show k≠wr.heap.size; omega)⟩
      have hzx:X1.heap.size≤X3.heap.size:=by rw [hX3]; have:=HB2.out.size; simpa using this
      have HRx:Hid (Row X3 X1.heap.size 9 1 (.slice ua (x.V j).nk uc) (x.V j).nk (textCell (x.V j).K)):=by
       rw [hX3]
       exact HRu.out.set_other (p:=⟨wr.heap.size,2,none⟩) (fun e=>by have:=(HRu.out.lt e).1; simp at this; omega) _
      have HR3:=Hid.intro (HR2.out.kept hB3 (by omega))
      have HB3:Hid (Below W.heap.size W X3):=HW2.out.trans (hB3.mono hW1)
      have hle:=valsTo_le (x:=x) HD.out hlt (j:=j + 1) hltj
      rw [HV.out,← List.append_assoc,List.length_append] at hle
      have hap:=Row.one #[.string (x.V j).field,.string (x.V j).text,.slice ua (x.V j).nk uc] HR3.out.row (Nat.le_trans hW1 (by omega)) 60 iV _ 56 Tryz.underlying60 vi vz0 vz1 vz2 rfl (by decide) (cellOf (x.V j) (.slice ua (x.V j).nk uc)) (fun i hi=>by
       match i,hi with
       | 0,_=>rfl
       | 1,_=>rfl
       | 2,_=>rfl) (fun i _=>cellOf_one rfl i) (by simp only [List.length_cons,List.length_nil] at hle; unfold maxLen; omega) (by simp only [List.length_cons,List.length_nil] at hle; omega) (m:=w2.heap.size) (by rw [hX3]; simp)
      rw [hX3] at hap
      have HX3:=Hid.intro hX3
      clear hB3 hle HB1 HB2 HRu HR2 hX3
      go_wp2_with (at_builtin; refine wpList_append_run _ rfl _ _ 60 rfl _ _ rfl rfl (fun v' w'=>Row w' W.heap.size 59 3 v' ((valsL x k F ++ valsTo x (F k) j).length + 1) _∧World.grownBy _ w' u5.ownBlock) hap ?_)
      intro v' w6 hrow hg
      have HE:Hid (ValRowsO w6 W.heap.size base v' (valsL x k F ++ valsTo x (F k) j ++ [x.V j]) (fun i=>if i=(valsL x k F ++ valsTo x (F k) j).length then .slice ua (x.V j).nk uc else kv2 i)∧Below W.heap.size W w6):=by
       rw [← HX3.out] at hg
       rw [← List.length_append] at hrow
       have hA:=below1 X3 (Obj.cells #[.string (x.V j).field,.string (x.V j).text,.slice ua (x.V j).nk uc] 59)
       have hb0:W.heap.size≤X3.heap.size:=HB3.out.size
       refine ⟨(HR3.out.kept hA (by omega)).snoc (by omega) (by simp; omega) HSm.out ⟨HKs.out.1,(HRx.out.kept hA).lower (by omega),(fun i hi=>by obtain ⟨_,_,_,_,h⟩:=HKs.out.2 i hi; exact h)⟩ hrow hg,?_⟩
       exact (HB3.out.trans (hA.mono hb0)).grown hg (by simp; omega) (fun k' hk'=>(HR3.out.row.lt hk').1)
      clear hrow hg hap
      go_wp2_with fail
      go_roundw
      case rel=>exact ⟨j + 1,by omega,by go_num,⟨_,by rw [HV.out,← List.append_assoc]; exact HE.out.1⟩,HE.out.2⟩
      case measure=>simp [intOf]; omega
    ·have hjn:j=x.nv:=by omega
     subst hjn
     have HR2:=Hid.intro hR
     have HW2:=Hid.intro hw
     have HV:Hid (valsL x (k + 1) F=valsL x k F ++ valsTo x (F k) x.nv):=valsL_succ x k F
     clear hR hw
     go_wp2_with fail
     go_roundw
     case rel=>exact ⟨k + 1,by omega,by go_num,⟨kv2,by rw [HV.out]; exact HR2.out⟩,HW2.out⟩
     case measure=>simp [intOf]; omega
  ·have hkn:k=nf:=by omega
   subst hkn
   have HR:=Hid.intro hR
   have HW:=Hid.intro hw
   clear hR hw
   go_wp2_with fail
   go_ret
   exact ⟨_,kv,rfl,HR.out.lower (Nat.le_of_lt hWs),HB.out.trans (HW.out.mono HB.out.size)⟩
end Go.Proofs.YtjjggefmmeminacGreat
