import Derived.Test.YtjjggefmmeminacGreatGrMem
import Derived.Test.YtjjggefmmeminacGreatJSv
import Derived.WalkKit
import Derived.WalkSpells
namespace Go.Proofs.YtjjggefmmeminacGreat
open Go.RowKit Go.Sort Go.PlainAid
def TRow (w:World) (base:Nat) (v:Value) (l:List ByteArray):Prop:=Row w base 9 1 v l.length (textCell (txtN l))
theorem TRow.nil (w:World) (base:Nat):TRow w base (.slice none 0 0) []:=⟨rfl,.inl ⟨rfl,rfl⟩⟩
theorem TRow.kept {w w':World} {base:Nat} {v:Value} {l:List ByteArray} (h:TRow w base v l) (hB:Below w.heap.size w w'):TRow w' base v l:=Row.kept h hB
theorem TRow.base {w:World} {base base':Nat} {v:Value} {l:List ByteArray} (h:TRow w base v l) (hb:base'≤base):TRow w base' v l :=
 ⟨h.1,h.2.imp id fun ⟨g,cap,cur,e,hg,r⟩=>⟨g,cap,cur,e,Nat.le_trans hb hg,r⟩⟩
theorem TRow.app {w:World} {base:Nat} {v:Value} {l:List ByteArray} {x:ByteArray} (h:w.ownsRow base 9 1 v (l.length + 1) ((List.range (l.length * 1)).map (textCell (txtN l)) ++ [.string x])):TRow w base v (l ++ [x]):=by
 have hl:(l ++ [x]).length=l.length + 1:=by simp
 unfold TRow Row
 rw [hl]
 have e:(List.range ((l.length + 1) * 1)).map (textCell (txtN (l ++ [x])))=(List.range (l.length * 1)).map (textCell (txtN l)) ++ [.string x]:=by
  rw [Nat.mul_one,Nat.mul_one,List.range_succ,List.map_append]
  congr 1
  ·refine range_map_congr fun j hj=>?_
   unfold textCell txtN
   rw [List.getD_eq_getElem?_getD,List.getElem?_append_left hj,← List.getD_eq_getElem?_getD]
  ·show [textCell (txtN (l ++ [x])) l.length]=_
   unfold textCell txtN
   simp [List.getD_eq_getElem?_getD]
 rw [e]; exact h
theorem TRow.slice {w:World} {base:Nat} {v:Value} {l:List ByteArray} (h:TRow w base v l):∃ a cap,v = .slice a l.length cap∧l.length≤cap:=Row.slice h
theorem txtN_mem {l:List ByteArray} {j:Nat} (h:j < l.length):txtN l j ∈ l:=by
 have:txtN l j=l[j]:=by simp [txtN,List.getD,h]
 rw [this]; exact List.getElem_mem h
theorem TRow.at {w:World} {base:Nat} {v:Value} {l:List ByteArray} (h:TRow w base v l) (hn:l.length≤maxLen) (hs:∀ x,x ∈ l→Small x):∃ a cap,v = .slice a l.length cap∧l.length≤cap∧TxtAt w a l :=
 Row.keysAt h hn fun _ hj=>hs _ (txtN_mem hj)
theorem txt_take {l:List ByteArray} {k:Nat} (h:k < l.length):l.take (k + 1)=l.take k ++ [txtN l k]:=by
 rw [List.take_succ_eq_append_getElem h]
 simp [txtN,List.getD,h]
set_option maxRecDepth 100000 in
set_option maxHeartbeats 400000 in
theorem sindex_any (a:Option Addr) (cap:Nat) (l:List ByteArray) (x:ByteArray) (w:World) (hl:TxtAt w a l) :
  Calls Tryz.prog 97 #[.slice a l.length cap,.string x] w fun e w'=>e = .returned (.int .i64 (idx l.length (fun j=>eqs x (txtN l j))))∧w'=w:=by
 have hn:l.length≤9223372036854775807:=hl.1
 have HL:=Hid.intro hl
 clear hl
 generalize hm:l.length=m at *
 go_enter Tryz.func97,Tryz.ntmps97
 go_wp2_with fail
 go_loopw [8] (fun i wr => ∃ k:Nat,k≤m∧i = .int .i64 k∧Hid (∀ j,j < k→eqs x (txtN l j)=false)∧wr=w) (fun i _=>m - (intOf i).toNat)
 case atStart=>exact ⟨0,Nat.zero_le _,rfl,(fun j hj=>absurd hj (Nat.not_lt_zero _)),rfl⟩
 case round =>
  obtain ⟨k,hk,rfl,hb,rfl⟩:=hrel
  by_cases hlt:k < m
  ·obtain ⟨g,o,rfl,k0,-⟩:=HL.out.2 k (by omega)
   have hlt':(k:Int) < (m:Int):=by omega
   have hk0:(0:Int)≤(k:Int):=by omega
   cases hpk:(x.toList == (txtN l k).toList) with
   | true =>
    have hfin:Hid (idx m (fun j=>eqs x (txtN l j))=(k:Int)):=idx_hit hlt (by rw [← eqs_eq]; exact hpk) hb
    go_wp2_with fail
    go_ret
    exact ⟨by rw [hfin.out]; rfl,rfl⟩
   | false =>
    have hb2:Hid (∀ j,j < k + 1→eqs x (txtN l j)=false):=fun j hj=>by
     rcases Nat.lt_succ_iff_lt_or_eq.1 hj with h | h
     ·exact hb j h
     ·rw [h,← eqs_eq]; exact hpk
    go_wp2_with fail
    go_roundw
    case rel=>exact ⟨k + 1,by omega,by go_num,hb2,trivial⟩
    case measure=>simp [intOf]; omega
  ·have hfin:Hid (idx m (fun j=>eqs x (txtN l j)) = -1):=idx_none (fun j hj=>hb j (by omega))
   go_wp2_with fail
   go_ret
   exact ⟨by rw [hfin.out]; rfl,rfl⟩
theorem any_idx (l:List ByteArray) (x:ByteArray):decide (0≤idx l.length (fun j=>eqs x (txtN l j)))=l.any (fun y=>eqs y x):=by
 have hget:∀ i (h:i < l.length),txtN l i=l[i]:=fun i h=>by simp [txtN,List.getD,h]
 rcases idx_cases l.length (fun j=>eqs x (txtN l j)) with ⟨h,hb⟩ | ⟨k,hk,h,hp,-⟩
 ·rw [h]
  symm
  show _=false
  rw [List.any_eq_false]
  intro y hy
  obtain ⟨i,hi,rfl⟩:=List.getElem_of_mem hy
  have:=hb i hi
  rw [hget i hi] at this
  intro e
  rw [eqs_iff] at e
  rw [e,eqs_iff.2 rfl] at this
  cases this
 ·rw [h]
  symm
  rw [show decide ((0:Int)≤(k:Int))=true by simp,List.any_eq_true]
  refine ⟨l[k],List.getElem_mem hk,?_⟩
  have h1:eqs x (txtN l k)=true:=hp
  rw [hget k hk,eqs_iff] at h1
  rw [eqs_iff,h1]
set_option maxRecDepth 100000 in
set_option maxHeartbeats 400000 in
theorem scontains_any (a:Option Addr) (cap:Nat) (l:List ByteArray) (x:ByteArray) (w:World) (hl:TxtAt w a l) :
  Calls Tryz.prog 70 #[.slice a l.length cap,.string x] w fun e w'=>e = .returned (.bool (l.any (fun y=>eqs y x)))∧w'=w:=by
 have hcl:=sindex_any a cap l x w hl
 rw [← any_idx l x]
 clear hl
 generalize idx l.length (fun j=>eqs x (txtN l j))=i at *
 go_enter Tryz.func70,Tryz.ntmps70
 go_wp2_with fail
 refine hcl.mono ?_
 clear hcl
 rintro e w1 ⟨rfl,rfl⟩
 go_wp2_with fail
 go_ret
 exact ⟨rfl,rfl⟩
theorem row_empty (w:World) (e:TypeId) (f:Nat→Value):Row (w.alloc (.cells #[] e)) w.heap.size e 1 (.slice (some ⟨w.heap.size,0,none⟩) 0 0) 0 f :=
 ⟨rfl,.inr ⟨w.heap.size,0,#[],rfl,Nat.le_refl _,heap_alloc_new _ _,Nat.le_refl _,Nat.zero_le _,rfl,rfl⟩⟩
set_option maxRecDepth 100000 in
set_option maxHeartbeats 400000 in
theorem clone_any (a:Option Addr) (cap:Nat) (l:List ByteArray) (w:World) (hl:TxtAt w a l) (h0:l≠[]) (hn:l.length * 16≤140737488355328) :
  Calls Tryz.prog 68 #[.slice a l.length cap] w fun e w'=>(∃ v,e = .returned v∧TRow w' w.heap.size v l)∧Below w.heap.size w w':=by
 obtain ⟨iS,si,sz0,sz1,sz2⟩:=info_parts' Tryz.info9
 have hpos:0 < l.length:=List.length_pos_iff.2 h0
 obtain ⟨b,o,rfl,-,-⟩:=hl.2 0 hpos
 have hb1:=below1 w (Obj.cells #[] 9)
 have hap:∀ ty,∃ v' w',(Builtin.append_ #[33,33] ty #[.slice (some ⟨w.heap.size,0,none⟩) 0 0,.slice (some ⟨b,o,none⟩) l.length cap]).run Tryz.prog (w.alloc (Obj.cells #[] 9)) = .ok v' w'∧(TRow w' w.heap.size v' l∧Below w.heap.size w w'):=fun ty=>by
  obtain ⟨v',w',h1,h2,h3,-⟩:=(row_empty w 9 (textCell (txtN l))).far 33 ty iS _ 16 Tryz.underlying33 si sz0 sz1 sz2 rfl (by decide) (some ⟨b,o,none⟩) l.length cap (textCell (txtN l)) (fun j hj=>by
   obtain ⟨b',o',e,hc,-⟩:=(hl.kept hb1).2 j (by omega)
   exact ⟨b',o',e,hc⟩) (fun e=>by cases e) (fun _ _=>rfl) (by have:=hl.1; omega) (by omega) hb1.size
  refine ⟨v',w',h1,?_,hb1.trans ⟨h3.os,h3.tape,h3.output,h3.size,fun k hk=>h3.block k (by simp; omega) (fun e=>by simp [Value.ownBlock] at e; omega)⟩⟩
  unfold TRow
  rw [Nat.zero_add] at h2
  exact h2.congr fun j _=>by simp
 have hn9:l.length≤9223372036854775807:=by omega
 have hnil:∀ (n:Nat) (w:World),Sem.run Tryz.prog (binOp BinOp.eql 33 (.slice (some ⟨b,o,none⟩) n cap) (.slice none 0 0)) w = .ok (.bool false) w:=fun _ _=>by kernel_rfl
 clear hl h0 hb1 hn hpos
 generalize l.length=m at *
 go_enter Tryz.func68,Tryz.ntmps68
 go_wp2_with (at_builtin; refine wpList_append_run _ rfl _ _ 33 rfl _ _ rfl rfl (fun v' w'=>TRow w' w.heap.size v' l∧Below w.heap.size w w') hap ?_)
 intro v' w' h1 h2
 have H1:=Hid.intro h1
 have H2:=Hid.intro h2
 clear h1 h2 hap
 go_wp2_with fail
 go_ret
 exact ⟨⟨_,rfl,H1.out⟩,H2.out⟩
theorem ff_take {d:Nat} {p:PPart} {h:POwner} {ps:List (Pick (d + 1))} {k:Nat} (hk:k < ps.length):fieldsFor p h (ps.take (k + 1))=if ofHome p h (pickN ps k)=true then addNew (fieldsFor p h (ps.take k)) (oOf p (pfield (pickN ps k))).field else fieldsFor p h (ps.take k):=by
 unfold fieldsFor
 rw [List.take_succ_eq_append_getElem hk,List.filter_append,List.map_append,pickN_get hk]
 by_cases e:ofHome p h ps[k]=true
 ·rw [if_pos e]
  have : [ps[k]].filter (ofHome p h) = [ps[k]]:=by simp [e]
  rw [this]
  show once (_ ++ [_])=_
  rw [once_snoc]
 ·rw [if_neg e]
  have : [ps[k]].filter (ofHome p h) = []:=by simp [e]
  rw [this,List.map_nil,List.append_nil]
set_option maxRecDepth 100000 in
set_option maxHeartbeats 2000000 in
theorem fieldsOf_any (d base:Nat) (p:PPart) (ps:List (Pick (d + 1))) (la:Option Addr) (lc:Nat) (m1 m2:Option Nat) (pv:Nat→Value) (nx:Nat→LV) (h:POwner) (w:World)
  (hR:Row w base 127 11 (.slice la ps.length lc) ps.length (chCell p ps pv nx)) (hpv:∀ i,i < ps.length→∃ a n c,pv i = .slice a n c) (hsm:∀ i,i < ps.length→Small (oOf p (pfield (pickN ps i))).field) (hps:ps.length≤60) :
  Calls Tryz.prog 46 #[.agg #[.slice la ps.length lc,.map m1,.map m2],.agg #[.int .i64 h.svc,.string h.type,.string h.field]] w fun e w'=>(∃ v,e = .returned v∧TRow w' w.heap.size v (fieldsFor p h ps))∧Below w.heap.size w w':=by
 obtain ⟨i0,hi0,hz0,hz1,hz2⟩:=info_parts' Tryz.info9
 generalize hW:(w.alloc (Obj.cells #[.slice la ps.length lc,.map m1,.map m2] 88)).alloc (Obj.cells #[.int .i64 h.svc,.string h.type,.string h.field] 118)=W
 have hBW:Below w.heap.size w W:=by rw [← hW]; exact below2 _ _ _
 have hWs:W.heap.size=w.heap.size + 1 + 1:=by rw [← hW]; simp
 have l0:W.cell? ⟨w.heap.size,0,none⟩=some (.slice la ps.length lc):=by rw [← hW,World.cell?_alloc_past _ _ _ (by simp),World.cell?_alloc_at _ _ _ _ rfl]; rfl
 have o0:W.cell? ⟨w.heap.size + 1,0,none⟩=some (.int .i64 h.svc):=by rw [← hW,World.cell?_alloc_at _ _ _ _ (by simp)]; rfl
 have o1:W.cell? ⟨w.heap.size + 1,1,none⟩=some (.string h.type):=by rw [← hW,World.cell?_alloc_at _ _ _ _ (by simp)]; rfl
 have HR:=Hid.intro (hR.kept hBW)
 have HPV:=Hid.intro hpv
 have HSM:=Hid.intro hsm
 have HBW:=Hid.intro hBW
 have hpl:(ps.length:Int)≤60:=by omega
 clear hR hpv hsm hBW
 go_enter Tryz.func46,Tryz.ntmps46
 go_wp2_with fail
 clear hW
 obtain ⟨bo,hbo⟩:∃ bo,bo=w.heap.size + 1:=⟨_,rfl⟩
 rw [← hbo] at o0 o1
 rw [← hbo]
 have hboW:bo < W.heap.size:=by omega
 clear hbo l0 hWs
 go_loopw [5,11] (fun v i wr => ∃ k:Nat,k≤ps.length∧i = .int .i64 k∧Below W.heap.size W wr∧TRow wr W.heap.size v (fieldsFor p h (ps.take k))) (fun _ i _=>ps.length - (intOf i).toNat)
 case atStart=>exact ⟨0,Nat.zero_le _,rfl,Below.refl _ _,TRow.nil _ _⟩
 case round =>
  obtain ⟨k,hk,rfl,hw,hT⟩:=hrel
  obtain ⟨S,hSd⟩:∃ S,S=fieldsFor p h (ps.take k):=⟨_,rfl⟩
  rw [← hSd] at hT
  obtain ⟨va,vc,rfl,hvc⟩:=hT.slice
  by_cases hlt:k < ps.length
  ·have hrow:=HR.out.kept hw
   obtain ⟨ge,cp,hea⟩:∃ g cap,Value.slice la ps.length lc = .slice (some ⟨g,0,none⟩) ps.length cap:=by
    rcases hrow.shape with ⟨-,h0⟩ | ⟨g,cap,hv,-,-,-⟩
    ·omega
    ·exact ⟨g,cap,hv⟩
   cases hea
   obtain ⟨c0,c1,c2,c3,c4,c5,c6,c7,c8,c9,c10⟩:=chCells hrow hlt
   obtain ⟨pa,pn,pc,hpk⟩:=HPV.out k hlt
   rw [hpk] at c1
   have hSl:S.length≤k:=by
    rw [hSd]
    refine Nat.le_trans (fieldsFor_len _ _ _) ?_
    rw [List.length_take]; omega
   have hSs:∀ x,x ∈ S→Small x:=fun x hx=>by
    rw [hSd] at hx
    obtain ⟨q,hq,-,-,rfl⟩:=field_of hx
    obtain ⟨j,hj,rfl⟩:=List.getElem_of_mem hq
    rw [List.getElem_take]
    have hj':j < ps.length:=by rw [List.length_take] at hj; omega
    have:=HSM.out j hj'
    rw [pickN_get hj'] at this
    exact this
   have HT:Hid (fieldsFor p h (ps.take (k + 1))=if ofHome p h (pickN ps k)=true then addNew S (oOf p (pfield (pickN ps k))).field else S):=Hid.intro (by rw [ff_take hlt,← hSd])
   unfold ofHome at HT
   have q0:=keptCell hw o0
   have q1:=keptCell hw o1
   have hlt':(k:Int) < (ps.length:Int):=by omega
   have hk0:(0:Int)≤(k:Int):=by omega
   have hbw:bo < wr.heap.size:=Nat.lt_of_lt_of_le hboW hw.size
   generalize fOf p (pfield (pickN ps k))=fl at *
   generalize oOf p (pfield (pickN ps k))=o at *
   generalize called (pickN ps k)=nm at *
   generalize nx k=nk at *
   obtain ⟨X,hX⟩:∃ X,X=wr.alloc (Obj.cells #[.string nm,.slice pa pn pc,.string fl.name,.int .i64 fl.kind,.string fl.type,.int .i64 o.svc,.string o.type,.string o.field,.slice nk.a nk.n nk.c,.map nk.h,.map nk.v] 127):=⟨_,rfl⟩
   have hBX:Below wr.heap.size wr X:=by rw [hX]; exact below1 _ _
   have HTX:=Hid.intro (hT.kept hBX)
   have HWX:Hid (Below W.heap.size W X):=hw.trans (hBX.mono hw.size)
   have hNX:W.heap.size≤X.heap.size:=HWX.out.size
   obtain ⟨sa,sc,hse,hsc,hta⟩:=HTX.out.at (by unfold maxLen; omega) hSs
   cases hse
   have hcl:=scontains_any va vc S o.field X hta
   have HSS:=Hid.intro hSs
   clear hT hSd hrow hBX hpk hw hSs hta
   by_cases e1:o.svc=h.svc
   ·by_cases e2:o.type=h.type
    ·have hs1:(o.svc == h.svc)=true:=by rw [e1]; simp
     have hs2:(o.type.toList == h.type.toList)=true:=by rw [e2]; simp
     have HT2:Hid (fieldsFor p h (ps.take (k + 1))=addNew S o.field):=Hid.intro (by rw [HT.out,e1,e2,eqs_iff.2 rfl]; simp)
     clear HT e1 e2
     rw [hX] at hcl
     cases hb:S.any (fun y=>eqs y o.field) with
     | true =>
      rw [hb] at hcl
      have HE:Hid (addNew S o.field=S):=Hid.intro (by unfold addNew; rw [if_pos hb])
      clear hb
      go_wp2_with fail
      refine hcl.mono ?_
      clear hcl
      rintro e w3 ⟨rfl,rfl⟩
      go_wp2_with fail
      rw [← hX]
      go_roundw
      case rel=>exact ⟨k + 1,by omega,by go_num,HWX.out,by rw [HT2.out,HE.out]; exact HTX.out⟩
      case measure=>simp [intOf]; omega
     | false =>
      rw [hb] at hcl
      have HE:Hid (addNew S o.field=S ++ [o.field]):=Hid.intro (by unfold addNew; rw [if_neg (by rw [hb]; decide)])
      clear hb
      have HOW:=Hid.intro (HTX.out.kept (below1 X (Obj.cells #[.string o.field] 9)))
      have HW2:Hid (Below W.heap.size W (X.alloc (Obj.cells #[.string o.field] 9))):=HWX.out.trans ((below1 X _).mono hNX)
      have hNa:W.heap.size≤(X.alloc (Obj.cells #[.string o.field] 9)).heap.size:=HW2.out.size
      go_wp2_with fail
      refine hcl.mono ?_
      clear hcl
      rintro e w3 ⟨rfl,rfl⟩
      rw [← hX]
      have f5:X.cell? ⟨wr.heap.size,7,none⟩=some (.string o.field):=by rw [hX,World.cell?_alloc_at _ _ _ _ rfl]; rfl
      unfold TRow Row at HOW
      clear HTX HWX hX c0 c1 c2 c3 c4 c5 c6 c7 c8 c9 c10
      go_wp2_with (at_builtin; refine wpList_append_any _ rfl _ _ 33 rfl W.heap.size 9 i0 _ 1 16 Tryz.underlying33 hi0 hz0 hz1 hz2 rfl (by decide) _ S.length _ rfl HOW.out (some ⟨X.heap.size,0,none⟩) 1 1 [.string o.field] rfl rfl (alloc_news X #[.string o.field] _) (fun h=>by cases h) (by intro u hu; simp at hu; subst hu; rfl) (by unfold maxLen; omega) (by omega) hNa ?_)
      intro v' w4 hown hgr hvb
      have HS4:Hid (TRow w4 W.heap.size v' (fieldsFor p h (ps.take (k + 1)))):=by
       rw [HT2.out,HE.out]
       exact TRow.app (by rw [Nat.mul_one]; exact hown)
      have HW4:Hid (Below W.heap.size W w4):=HW2.out.grown hgr hNa (fun q hq=>(World.ownsRow.lt HOW.out q hq).1)
      clear hown hgr hvb HOW HE HT2
      go_wp2_with fail
      go_roundw
      case rel=>exact ⟨k + 1,by omega,by go_num,HW4.out,HS4.out⟩
      case measure=>simp [intOf]; omega
    ·have hs1:(o.svc == h.svc)=true:=by rw [e1]; simp
     have hs2:(o.type.toList == h.type.toList)=false:=by rw [eqs_eq]; exact eqs_false.2 e2
     have HT2:Hid (fieldsFor p h (ps.take (k + 1))=S):=Hid.intro (by rw [HT.out,eqs_false.2 e2]; simp)
     clear HT e1 e2 hcl
     go_wp2_with fail
     rw [← hX]
     go_roundw
     case rel=>exact ⟨k + 1,by omega,by go_num,HWX.out,by rw [HT2.out]; exact HTX.out⟩
     case measure=>simp [intOf]; omega
   ·have hs1:(o.svc == h.svc)=false:=by rw [beq_eq_false_iff_ne]; exact e1
    have HT2:Hid (fieldsFor p h (ps.take (k + 1))=S):=Hid.intro (by rw [HT.out,decide_eq_false e1]; simp)
    clear HT e1 hcl
    go_wp2_with fail
    rw [← hX]
    go_roundw
    case rel=>exact ⟨k + 1,by omega,by go_num,HWX.out,by rw [HT2.out]; exact HTX.out⟩
    case measure=>simp [intOf]; omega
  ·have HF:Hid (TRow wr w.heap.size (.slice va S.length vc) (fieldsFor p h ps)):=by
    have e2:fieldsFor p h (ps.take k)=fieldsFor p h ps:=by rw [List.take_of_length_le (by omega)]
    rw [← e2,← hSd]
    exact hT.base HBW.out.size
   have HW:Hid (Below w.heap.size w wr):=HBW.out.trans (hw.mono HBW.out.size)
   clear hT hw hSd
   go_wp2_with fail
   go_ret
   exact ⟨⟨_,rfl,HF.out⟩,HW.out⟩
end Go.Proofs.YtjjggefmmeminacGreat
namespace Go.Proofs.YtjjggefmmeminacGreat
open Go.RowKit Go.Sort Go.PlainAid
theorem KeepX.set_turned {X:Nat→Prop} {w w1 w2:World} {b:Nat} (h:KeepX X w w1) (ht:w1.mapTurned w2 b) (hb:X b):KeepX X w w2:=by
 have hg:=ht.grown
 exact ⟨hg.os.trans h.os,hg.tape.trans h.tape,hg.output.trans h.output,Nat.le_trans h.size hg.size,fun k hk=>by
  rw [turned_block ht (Nat.lt_of_lt_of_le hk.1 h.size) (fun e=>hk.2 (by rw [e]; exact hb)),h.block k hk]⟩
theorem KeepX.grown {X:Nat→Prop} {w w1 w2:World} {row:Option Nat} (h:KeepX X w w1) (hg:w1.grownBy w2 row) (hr:∀ q,row=some q→w.heap.size≤q):KeepX X w w2 :=
 ⟨hg.os.trans h.os,hg.tape.trans h.tape,hg.output.trans h.output,Nat.le_trans h.size hg.size,fun k hk=>by
  rw [hg.block k (Nat.lt_of_lt_of_le hk.1 h.size) (fun e=>by have:=hr k e.symm; have:=hk.1; omega),h.block k hk]⟩
theorem KeepX.kept {X:Nat→Prop} {w w1 w2:World} (h:KeepX X w w1) (hB:Below w1.heap.size w1 w2):KeepX X w w2 :=
 ⟨hB.os.trans h.os,hB.tape.trans h.tape,hB.output.trans h.output,Nat.le_trans h.size hB.size,fun k hk=>by
  rw [hB.block k (Nat.lt_of_lt_of_le hk.1 h.size),h.block k hk]⟩
theorem LMap.keepX {N:Nat} {w w':World} {b n bt:Nat} {v:Int→ByteArray→ByteArray→ByteArray→Option LVal} (h:LMap N w b n v) (hk:KeepX (fun k=>k=bt) w w') (hb:b≠bt) (ht:∃ es c,w.heap[bt]? = some (.map es c)):LMap N w' b n v :=
 h.at (hk.block b ⟨h.lt,hb⟩) fun k cs _ hlt ho=>hk.block k ⟨hlt,fun e=>by
  obtain ⟨es,c,ht⟩:=ht
  have e:k=bt:=e
  subst e
  rw [ho] at ht; cases ht⟩
theorem TRow.turned {w w':World} {base bt:Nat} {v:Value} {l:List ByteArray} (h:TRow w base v l) (ht:w.mapTurned w' bt):TRow w' base v l:=by
 obtain ⟨es,c,es',c',h1,h2⟩:=ht
 refine Row.at h fun k hk=>turned_block ⟨es,c,es',c',h1,h2⟩ (Row.lt h hk).2 fun e=>?_
 subst e
 obtain ⟨cs,ho⟩:=Row.obj h hk
 rw [h1] at ho; cases ho
theorem LMap.look_in {N:Nat} {w w':World} {b n:Nat} {v:Int→ByteArray→ByteArray→ByteArray→Option LVal} (h:LMap N w b n v) (hb:w'.heap[b]? = w.heap[b]?) {s:Int} {ty f key:ByteArray} (hs:(Lit.int .i64 s).wf=true) (ht:Small ty) (hf:Small f) (hk:Small key) :
  ∃ A nk C,∃ K:Nat→ByteArray,∃ fx tx,(Instr.lookup 86 (.map (some b)) (.agg #[.int .i64 s,.string ty,.string f,.string key]) false).run Tryz.prog w' = .ok (.agg #[.string fx,.string tx,.slice A nk C]) w'∧keysO (v s ty f key)=(List.range nk).map K∧KeysAt w A nk K:=by
 obtain ⟨g,h1,h2⟩:=h
 have l2:=(h1.at hb).look hs ht hf hk
 have:=h2 s ty f key hs ht hf hk
 cases e:v s ty f key with
 | none =>
  rw [e] at this
  have this:g s ty f key=none:=this
  rw [this] at l2
  exact ⟨none,0,0,fun _=>⟨#[]⟩,⟨#[]⟩,⟨#[]⟩,l2,rfl,Nat.zero_le _,fun i hi=>absurd hi (Nat.not_lt_zero _)⟩
 | some x =>
  rw [e] at this
  obtain ⟨u,e1,e2⟩:=this
  obtain ⟨A,C,rfl,hC,hK⟩:=e2.keys
  rw [e1] at l2
  exact ⟨A,x.nk,C,x.K,x.field,x.text,l2,rfl,hK⟩
theorem KeysAt.keepX {w w':World} {a:Option Addr} {n bt:Nat} {K:Nat→ByteArray} (h:KeysAt w a n K) (hk:KeepX (fun k=>k=bt) w w') (ht:∃ es c,w.heap[bt]? = some (.map es c)):KeysAt w' a n K :=
 ⟨h.1,fun i hi=>by
  obtain ⟨b,o',e,c,s⟩:=h.2 i hi
  have hne:b≠bt:=fun e9=>by
   obtain ⟨es,cc,hm⟩:=ht
   rw [e9] at c
   simp [World.cell?,hm] at c
  exact ⟨b,o',e,hk.cell c hne,s⟩⟩
set_option maxRecDepth 100000 in
set_option maxHeartbeats 4000000 in
theorem keysOf_any (N:Nat) (la:Option Addr) (ln lc bv m2:Nat) (m1:Option Nat) (o:POwner) (v:Int→ByteArray→ByteArray→ByteArray→Option LVal) (ka:Option Addr) (kcap:Nat) (keys:List ByteArray) (w:World)
  (hM:LMap N w bv m2 v) (hs:(Lit.int .i64 o.svc).wf=true) (ht:Small o.type) (hf:Small o.field) (hK:TxtAt w ka keys) (hlen:(keys.flatMap (fun key=>keysO (v o.svc o.type o.field key))).length≤1200) :
  Calls Tryz.prog 47 #[.agg #[.slice la ln lc,.map m1,.map (some bv)],.agg #[.int .i64 o.svc,.string o.type,.string o.field],.slice ka keys.length kcap] w fun e w'=>(∃ u,e = .returned u∧TRow w' w.heap.size u (once (keys.flatMap (fun key=>keysO (v o.svc o.type o.field key)))))∧Below w.heap.size w w':=by
 obtain ⟨i0,hi0,hz0,hz1,hz2⟩:=info_parts' Tryz.info9
 have hmm:=@run_makeMap Tryz.prog
 have hn:keys.length≤9223372036854775807:=hK.1
 obtain ⟨g,hg⟩:∃ g:ByteArray→List ByteArray,g=fun key=>keysO (v o.svc o.type o.field key):=⟨_,rfl⟩
 rw [← hg] at hlen
 rw [← hg]
 have HG:Hid (∀ key,g key=keysO (v o.svc o.type o.field key)):=Hid.intro fun key=>by rw [hg]
 clear hg
 have HF:Hid (∀ k,k < keys.length→(keys.take (k + 1)).flatMap g=(keys.take k).flatMap g ++ g (txtN keys k)):=Hid.intro fun k hk=>by
  rw [txt_take hk,List.flatMap_append]; simp
 have HLE:Hid (∀ k,k < keys.length→((keys.take k).flatMap g ++ g (txtN keys k)).length≤1200):=Hid.intro fun k hk=>by
  rw [← HF.out k hk]
  have e:(keys.flatMap g).length=((keys.take (k + 1)).flatMap g).length + ((keys.drop (k + 1)).flatMap g).length:=by
   rw [← List.length_append,← List.flatMap_append,List.take_append_drop]
  omega
 have HA:Hid ((keys.take keys.length).flatMap g=keys.flatMap g):=Hid.intro (by rw [List.take_length])
 clear hlen
 generalize hW:((w.alloc (Obj.cells #[.slice la ln lc,.map m1,.map (some bv)] 88)).alloc (Obj.cells #[.int .i64 o.svc,.string o.type,.string o.field] 118)).alloc (Obj.map #[] 0)=W
 have hBW:Below w.heap.size w W:=by rw [← hW]; exact below3 _ _ _ _
 have hWs:W.heap.size=w.heap.size + 1 + 1 + 1:=by rw [← hW]; simp
 have hE0:CMap W (w.heap.size + 1 + 1) 0 (fun _=>0):=by
  have h1:=CMap.made ((w.alloc (Obj.cells #[.slice la ln lc,.map m1,.map (some bv)] 88)).alloc (Obj.cells #[.int .i64 o.svc,.string o.type,.string o.field] 118))
  rw [hW,show ((w.alloc (Obj.cells #[.slice la ln lc,.map m1,.map (some bv)] 88)).alloc (Obj.cells #[.int .i64 o.svc,.string o.type,.string o.field] 118)).heap.size=w.heap.size + 1 + 1 by simp] at h1
  exact h1
 have l2:W.cell? ⟨w.heap.size,2,none⟩=some (.map (some bv)):=by rw [← hW,World.cell?_alloc_past _ _ _ (by simp; omega),World.cell?_alloc_past _ _ _ (by simp),World.cell?_alloc_at _ _ _ _ rfl]; rfl
 have o0:W.cell? ⟨w.heap.size + 1,0,none⟩=some (.int .i64 o.svc):=by rw [← hW,World.cell?_alloc_past _ _ _ (by simp),World.cell?_alloc_at _ _ _ _ (by simp)]; rfl
 have o1:W.cell? ⟨w.heap.size + 1,1,none⟩=some (.string o.type):=by rw [← hW,World.cell?_alloc_past _ _ _ (by simp),World.cell?_alloc_at _ _ _ _ (by simp)]; rfl
 have o2:W.cell? ⟨w.heap.size + 1,2,none⟩=some (.string o.field):=by rw [← hW,World.cell?_alloc_past _ _ _ (by simp),World.cell?_alloc_at _ _ _ _ (by simp)]; rfl
 have hbv:bv < w.heap.size:=hM.lt
 have HM:=Hid.intro (hM.kept hBW)
 have HK:=Hid.intro (hK.kept hBW)
 have HB0:=Hid.intro hBW
 clear hM hK hBW
 go_enter Tryz.func47,Tryz.ntmps47
 go_wp2_with fail
 clear hW
 obtain ⟨bt,hbt⟩:∃ bt,bt=w.heap.size + 1 + 1:=⟨_,rfl⟩
 obtain ⟨bo,hbo⟩:∃ bo,bo=w.heap.size + 1:=⟨_,rfl⟩
 obtain ⟨bl,hbl⟩:∃ bl,bl=w.heap.size:=⟨_,rfl⟩
 have n1:bl≠bt:=by omega
 have n2:bo≠bt:=by omega
 have n3:bv≠bt:=by omega
 have n4:w.heap.size≤bt∧bt < W.heap.size:=by omega
 have HKB:Hid (∀ w1,KeepX (fun k=>k=bt) W w1→Below w.heap.size w w1):=Hid.intro fun w1 h1=>⟨h1.os.trans HB0.out.os,h1.tape.trans HB0.out.tape,h1.output.trans HB0.out.output,Nat.le_trans HB0.out.size h1.size,fun k hk=>by
  rw [h1.block k ⟨by have:=HB0.out.size; omega,fun e=>by have e:k=bt:=e; omega⟩,HB0.out.block k hk]⟩
 rw [← hbt] at hE0
 rw [← hbo] at o0 o1 o2
 rw [← hbl] at l2
 rw [← hbt,← hbo,← hbl]
 have HMT:Hid (∃ es c,W.heap[bt]? = some (.map es c)):=hE0.obj
 have HE0:=Hid.intro hE0
 have HN4:=Hid.intro n4
 clear hbt hbo hbl hE0 hWs n4
 go_loopw [7,16] (fun u i wr => ∃ k:Nat,k≤keys.length∧i = .int .i64 k∧KeepX (fun k=>k=bt) W wr∧TRow wr W.heap.size u (once ((keys.take k).flatMap g))∧CMap wr bt ((keys.take k).flatMap g).length (timesL ((keys.take k).flatMap g))) (fun _ i _=>keys.length - (intOf i).toNat)
 case atStart=>exact ⟨0,Nat.zero_le _,rfl,KeepX.refl _ _,TRow.nil _ _,HE0.out⟩
 case round =>
  obtain ⟨k,hk,rfl,hw,hT,hC⟩:=hrel
  by_cases hlt:k < keys.length
  ·have hKe:TxtAt wr ka keys:=KeysAt.keepX HK.out hw HMT.out
   obtain ⟨b,o',rfl,c0,hsm⟩:=hKe.2 k hlt
   have hlt':(k:Int) < (keys.length:Int):=by omega
   have hk0:(0:Int)≤(k:Int):=by omega
   have m2':=hw.cell l2 n1
   have p0:=hw.cell o0 n2
   have p1:=hw.cell o1 n2
   have p2:=hw.cell o2 n2
   obtain ⟨A,nk,C,K,fx,tx,hlk,hgk,hxK⟩:=HM.out.look_in (hw.block bv ⟨HM.out.lt,n3⟩) hs ht hf hsm
   rw [← HG.out (txtN keys k)] at hgk
   have HFk:=Hid.intro (HF.out k hlt)
   have HLk:=Hid.intro (HLE.out k hlt)
   obtain ⟨S,hSd⟩:∃ S,S=(keys.take k).flatMap g:=⟨_,rfl⟩
   rw [← hSd] at hT hC HFk HLk
   obtain ⟨va,vc,rfl,hvc⟩:=hT.slice
   have HT:=Hid.intro hT
   have HC:=Hid.intro hC
   have HW:=Hid.intro hw
   clear hT hC hw hKe hSd
   obtain ⟨M,hM⟩:∃ M,M=(List.range nk).map K:=⟨_,rfl⟩
   rw [hgk,← hM] at HFk HLk
   have hMl:M.length=nk:=by rw [hM]; simp
   have HMT2:Hid (∀ j,j < nk→M.take (j + 1)=M.take j ++ [K j]):=Hid.intro fun j hj=>by
    rw [hM,← List.map_take,← List.map_take,List.take_range,List.take_range,show min (j + 1) nk=j + 1 by omega,show min j nk=j by omega,List.range_succ,List.map_append]; rfl
   have hnk:nk≤1200:=by have:=HLk.out; rw [List.length_append] at this; omega
   have hfld:∀ w,(Instr.field 59 (.agg #[.string fx,.string tx,.slice A nk C]) 2).run Tryz.prog w = .ok (.slice A nk C) w:=fun _=>by kernel_rfl
   have HXK:=Hid.intro hxK
   clear hgk hxK hM
   go_wp2_with fail
   obtain ⟨wo,hren⟩:∃ wo,wo=wr:=⟨_,rfl⟩
   rw [← hren] at HT HC HW
   rw [← hren]
   clear hren c0 m2' p0 p1 p2 hlk hfld
   go_loopw [7,28] (fun u i wr => ∃ j:Nat,j≤nk∧i = .int .i64 j∧KeepX (fun k=>k=bt) W wr∧TRow wr W.heap.size u (once (S ++ M.take j))∧CMap wr bt (S ++ M.take j).length (timesL (S ++ M.take j))) (fun _ i _=>nk - (intOf i).toNat)
   case atStart=>exact ⟨0,Nat.zero_le _,rfl,HW.out,by show TRow _ _ _ (once (S ++ [])); rw [List.append_nil]; exact HT.out,by show CMap _ _ (S ++ []).length (timesL (S ++ [])); rw [List.append_nil]; exact HC.out⟩
   case round =>
    obtain ⟨j,hj,rfl,hw,hT,hC⟩:=hrel
    obtain ⟨R,hRd⟩:∃ R,R=S ++ M.take j:=⟨_,rfl⟩
    rw [← hRd] at hT hC
    obtain ⟨ua,uc,rfl,huc⟩:=hT.slice
    by_cases hltj:j < nk
    ·obtain ⟨b2,o2',rfl,d0,hsm2⟩:=(HXK.out.keepX hw HMT.out).2 j hltj
     have hltj':(j:Int) < (nk:Int):=by omega
     have hj0:(0:Int)≤(j:Int):=by omega
     have HN:Hid (S ++ M.take (j + 1)=R ++ [K j]):=Hid.intro (by rw [HMT2.out j hltj,hRd,List.append_assoc])
     have hRl:R.length + 1≤1200:=by
      have h1:=HLk.out
      have h2:(R ++ [K j]).length≤(S ++ M).length:=by
       rw [← HN.out,List.length_append,List.length_append,List.length_take]; omega
      simp at h2 h1
      omega
     have hRo:(once R).length≤R.length:=once_len R
     have hlk:=hC.look hsm2
     obtain ⟨tt,htt⟩:∃ tt,tt=timesL R (K j):=⟨_,rfl⟩
     have htl:tt≤R.length:=by rw [htt]; exact timesL_le _ _
     have HTZ:Hid (tt=0 ↔ K j ∉ R):=Hid.intro (by rw [htt]; exact timesL_zero)
     have HTB:Hid (bump (timesL R) (K j)=timesL (R ++ [K j])):=Hid.intro (timesL_snoc _ _).symm
     have HBU:Hid (∀ w1,CMap w1 bt R.length (timesL R)→∃ w',(Instr.mapUpdate 85 (.map (some bt)) (.string (K j)) (.int .i64 ((tt:Int) + 1))).run Tryz.prog w1 = .ok () w'∧CMap w' bt (R.length + 1) (bump (timesL R) (K j))∧w1.mapTurned w' bt):=Hid.intro fun w1 h1=>by
      rw [htt]
      exact h1.bump (by unfold maxLen; omega) hsm2 (by rw [← htt]; omega)
     rw [← htt] at hlk
     have HT:=Hid.intro hT
     have HC:=Hid.intro hC
     have HW:=Hid.intro hw
     clear hT hC hw hRd htt
     by_cases h0:tt=0
     ·have hz:((tt:Int) == 0)=true:=by rw [h0]; rfl
      have HNE:Hid (once (R ++ [K j])=once R ++ [K j]):=Hid.intro (once_new (HTZ.out.1 h0))
      have HOW:=Hid.intro (HT.out.kept (below1 wr (Obj.cells #[.string (K j)] 9)))
      have hNr:W.heap.size≤wr.heap.size:=HW.out.size
      have hNa:W.heap.size≤(wr.alloc (Obj.cells #[.string (K j)] 9)).heap.size:=by simp; omega
      unfold TRow Row at HOW
      go_wp2_with (at_builtin; refine wpList_append_any _ rfl _ _ 33 rfl W.heap.size 9 i0 _ 1 16 Tryz.underlying33 hi0 hz0 hz1 hz2 rfl (by decide) _ (once R).length _ rfl HOW.out (some ⟨wr.heap.size,0,none⟩) 1 1 [.string (K j)] rfl rfl (alloc_news wr #[.string (K j)] _) (fun h=>by cases h) (by intro u hu; simp at hu; subst hu; rfl) (by unfold maxLen; omega) (by omega) hNa ?_)
      intro v' w4 hown hgr hvb
      have HT4:Hid (TRow w4 W.heap.size v' (once (S ++ M.take (j + 1)))):=by
       rw [HN.out,HNE.out]
       exact TRow.app (by rw [Nat.mul_one]; exact hown)
      have hK4:KeepX (fun k=>k=bt) W w4:=(HW.out.kept (below1 wr _)).grown hgr (fun q hq=>(World.ownsRow.lt HOW.out q hq).1)
      have hC4:CMap w4 bt R.length (timesL R):=by
       refine (HC.out.kept (below1 wr (Obj.cells #[.string (K j)] 9))).at (hgr.block bt (by have:=HC.out.lt; simp; omega) fun e=>?_)
       have:=(World.ownsRow.lt HOW.out bt e.symm).1
       have:=HN4.out
       omega
      have hlk4:=hC4.look hsm2
      have htt2:timesL R (K j)=tt:=by
       rw [h0]; exact timesL_zero.2 (HTZ.out.1 h0)
      rw [htt2] at hlk4
      obtain ⟨w5,hst,hC5,hT5⟩:=HBU.out w4 hC4
      have HT5:=Hid.intro (HT4.out.turned hT5)
      have HK5:=Hid.intro (hK4.set_turned hT5 rfl)
      have HC5:Hid (CMap w5 bt (S ++ M.take (j + 1)).length (timesL (S ++ M.take (j + 1)))):=by
       rw [HN.out,← HTB.out,List.length_append]
       exact hC5
      obtain ⟨ua',uc',hv',-⟩:=HT4.out.slice
      subst hv'
      clear hown hgr hvb HOW hK4 hC4 hC5 hT5 HT HC HW HT4 h0 htt2 hlk
      go_wp2_with fail
      go_roundw
      case rel=>exact ⟨j + 1,by omega,by go_num,HK5.out,HT5.out,HC5.out⟩
      case measure=>simp [intOf]; omega
     ·have hz:((tt:Int) == 0)=false:=by rw [beq_eq_false_iff_ne]; omega
      have hin:K j ∈ R:=by
       by_cases h:K j ∈ R
       ·exact h
       ·exact absurd (HTZ.out.2 h) h0
      have HNE:Hid (once (R ++ [K j])=once R):=Hid.intro (once_had hin)
      obtain ⟨w5,hst,hC5,hT5⟩:=HBU.out wr HC.out
      have HT5:Hid (TRow w5 W.heap.size (.slice ua (once R).length uc) (once (S ++ M.take (j + 1)))):=by
       rw [HN.out,HNE.out]
       exact HT.out.turned hT5
      have HK5:=Hid.intro (HW.out.set_turned hT5 rfl)
      have HC5:Hid (CMap w5 bt (S ++ M.take (j + 1)).length (timesL (S ++ M.take (j + 1)))):=by
       rw [HN.out,← HTB.out,List.length_append]
       exact hC5
      clear hC5 hT5 HT HC HW h0 hin
      go_wp2_with fail
      go_roundw
      case rel=>exact ⟨j + 1,by omega,by go_num,HK5.out,HT5.out,HC5.out⟩
      case measure=>simp [intOf]; omega
    ·have hjn:j=nk:=by omega
     have HR:Hid (KeepX (fun k=>k=bt) W wr∧TRow wr W.heap.size (.slice ua (once R).length uc) (once ((keys.take (k + 1)).flatMap g))∧CMap wr bt ((keys.take (k + 1)).flatMap g).length (timesL ((keys.take (k + 1)).flatMap g))):=by
      rw [HFk.out]
      have e:R=S ++ M:=by rw [hRd,List.take_of_length_le (by omega)]
      rw [← e]
      exact ⟨hw,hT,hC⟩
     clear hw hT hC hRd
     go_wp2_with fail
     go_roundw
     case rel=>exact ⟨k + 1,by omega,by go_num,HR.out.1,HR.out.2.1,HR.out.2.2⟩
     case measure=>simp [intOf]; omega
  ·have hkn:k=keys.length:=by omega
   have HR:Hid (TRow wr w.heap.size u7 (once (keys.flatMap g))∧Below w.heap.size w wr):=by
    rw [hkn,HA.out] at hT
    exact ⟨hT.base (by have:=HN4.out; omega),HKB.out wr hw⟩
   clear hw hT hC
   go_wp2_with fail
   go_ret
   exact ⟨⟨_,rfl,HR.out.1⟩,HR.out.2⟩
end Go.Proofs.YtjjggefmmeminacGreat
