import Derived.Test.YtjjggefmmeminacJCh
namespace Go.Proofs.Ytjjggefmmeminac
open Go.RowKit Go.Sort
theorem Try.info52:(Try.prog.info? 52).map (fun i=>(i.zero,i.size,i.bytes))=some (some (.agg #[.string ⟨#[]⟩,.slice none 0 0,.string ⟨#[]⟩,.slice none 0 0]),4,80):=by kernel_rfl
theorem seenCells_succ (S:Nat→PSeen) (fv ov:Nat→Value) (k:Nat):(List.range ((k + 1) * 4)).map (seenCell S fv ov)=(List.range (k * 4)).map (seenCell S fv ov) ++ [.string (S k).name,fv k,.string (S k).own,ov k]:=by
 rw [show (k + 1) * 4=k * 4 + 1 + 1 + 1 + 1 by omega,List.range_succ,List.range_succ,List.range_succ,List.range_succ]
 simp only [List.map_append,List.map_cons,List.map_nil,List.append_assoc]
 rw [seenCell0,seenCell1,show k * 4 + 1 + 1=k * 4 + 2 by omega,seenCell2,show k * 4 + 2 + 1=k * 4 + 3 by omega,seenCell3]
 rfl
theorem all_step {w w2 w4:World} {base k:Nat} {v v':Value} {fv ov:Nat→Value} {S:Nat→PSeen} {f o:Value} {X:Obj} (h:Seens w base v k fv ov S) (hk:k < 1000) (hb:Below w.heap.size w w2) (hbase:base≤w.heap.size)
  (hf:Row w2 w.heap.size 94 3 f (S k).nf (fieldCell (S k).F)) (ho:Row w2 w.heap.size 9 1 o (S k).nf (textCell (S k).O)) (hgood:GoodS (S k))
  (hg:(w2.alloc X).grownBy w4 v.ownBlock) (hr:w4.ownsRow base 52 4 v' (k + 1) ((List.range (k * 4)).map (seenCell S fv ov) ++ [.string (S k).name,f,.string (S k).own,o])) :
  Seens w4 base v' (k + 1) (fun i=>if i=k then f else fv i) (fun i=>if i=k then o else ov i) S:=by
 have h':=(h.kept hb).kept (below1 w2 X)
 have hf':=hf.kept (below1 w2 X)
 have ho':=ho.kept (below1 w2 X)
 refine ⟨by unfold maxLen; omega,?_,fun i hi=>?_,fun i hi=>?_,fun i j hi hj hij b hb1 hb2=>?_,fun i j hi hj hij b hb1 hb2=>?_,fun i hi=>?_⟩
 ·unfold Row
  rw [seenCells_succ]
  simp only [if_pos]
  have e:(List.range (k * 4)).map (seenCell S (fun i=>if i=k then f else fv i) (fun i=>if i=k then o else ov i))=(List.range (k * 4)).map (seenCell S fv ov):=range_map_congr fun j hj=>by
   unfold seenCell; simp [show ¬ j / 4=k by omega]
  rw [e]; exact hr
 ·by_cases e:i=k
  ·subst e
   rw [if_pos rfl]
   exact (hf'.grown hg fun b hb1=>hf'.ne h'.row (by decide) hb1).base hbase
  ·rw [if_neg e]
   exact (h'.fields i (by omega)).grown hg fun b hb1=>(h'.fields i (by omega)).ne h'.row (by decide) hb1
 ·by_cases e:i=k
  ·subst e
   rw [if_pos rfl]
   exact (ho'.grown hg fun b hb1=>ho'.ne h'.row (by decide) hb1).base hbase
  ·rw [if_neg e]
   exact (h'.owns i (by omega)).grown hg fun b hb1=>(h'.owns i (by omega)).ne h'.row (by decide) hb1
 ·by_cases e:i=k
  ·have e2 : ¬ j=k:=by omega
   simp only [e,e2,if_pos,if_false] at hb1 hb2
   have q1:=(hf.lt hb1).1
   have q2:=((h.fields j (by omega)).lt hb2).2
   omega
  ·by_cases e2:j=k
   ·simp only [e,e2,if_pos,if_false] at hb1 hb2
    have q1:=(hf.lt hb2).1
    have q2:=((h.fields i (by omega)).lt hb1).2
    omega
   ·simp only [e,e2,if_false] at hb1 hb2
    exact h.fapart i j (by omega) (by omega) hij b hb1 hb2
 ·by_cases e:i=k
  ·have e2 : ¬ j=k:=by omega
   simp only [e,e2,if_pos,if_false] at hb1 hb2
   have q1:=(ho.lt hb1).1
   have q2:=((h.owns j (by omega)).lt hb2).2
   omega
  ·by_cases e2:j=k
   ·simp only [e,e2,if_pos,if_false] at hb1 hb2
    have q1:=(ho.lt hb2).1
    have q2:=((h.owns i (by omega)).lt hb1).2
    omega
   ·simp only [e,e2,if_false] at hb1 hb2
    exact h.oapart i j (by omega) (by omega) hij b hb1 hb2
 ·by_cases e:i=k
  ·rw [e]; exact hgood
  ·exact h.good i (by omega)
set_option maxRecDepth 100000 in
set_option maxHeartbeats 4000000 in
theorem all_any (a:Option Addr) (n cap:Nat) (T:Nat→LType) (w:World) (hT:TypesAt w a n T) (hn:n≤1000) (hnf:∀ i,i < n→(T i).nf≤1000) :
  Calls Try.prog 23 #[.slice a n cap] w fun e w'=>(∃ v fv ov,e = .returned v∧Seens w' w.heap.size v n fv ov (initS T))∧Below w.heap.size w w':=by
 obtain ⟨i0,hi,hz0,hz1,hz2⟩:=info_parts' Try.info52
 have HT:Hid (TypesAt w a n T):=hT
 have HNF:Hid (∀ i,i < n→(T i).nf≤1000):=hnf
 clear hT hnf
 go_enter Try.func23,Try.ntmps23
 go_wp2_with fail
 go_loopw [3,8] (fun v i wr => ∃ k:Nat,k≤n∧i = .int .i64 k∧Below w.heap.size w wr∧∃ fv ov,Seens wr w.heap.size v k fv ov (initS T)) (fun _ i _=>n - (intOf i).toNat)
 case atStart=>exact ⟨0,Nat.zero_le _,rfl,Below.refl _ _,fun _=>.slice none 0 0,fun _=>.slice none 0 0,Nat.zero_le _,World.ownsRow_nil _ _ _ _,fun i hi=>absurd hi (Nat.not_lt_zero _),fun i hi=>absurd hi (Nat.not_lt_zero _),fun i _ hi=>absurd hi (Nat.not_lt_zero _),fun i _ hi=>absurd hi (Nat.not_lt_zero _),fun i hi=>absurd hi (Nat.not_lt_zero _)⟩
 case round =>
  obtain ⟨k,hk,rfl,hw,fv,ov,hSk⟩:=hrel
  obtain ⟨a',c',hv,-⟩:=hSk.slice
  subst hv
  by_cases hlt:k < n
  ·obtain ⟨b,o,rfl,t0,t1,hfc,hs,hF⟩:=(HT.out.kept hw).2 k hlt
   have hlt':(k:Int) < (n:Int):=by omega
   have hk0:(0:Int)≤(k:Int):=by omega
   generalize hW:wr.alloc (Obj.cells #[.string (T k).name,.slice (T k).fa (T k).nf (T k).fcap] 50)=W
   have hB:Below wr.heap.size wr W:=by rw [← hW]; exact below1 _ _
   have m0:W.cell? ⟨wr.heap.size,0,none⟩=some (.string (T k).name):=by rw [← hW,World.cell?_alloc_at _ _ _ _ rfl]; rfl
   have m1:W.cell? ⟨wr.heap.size,1,none⟩=some (.slice (T k).fa (T k).nf (T k).fcap):=by rw [← hW,World.cell?_alloc_at _ _ _ _ rfl]; rfl
   have HC:Hid (∀ w1,Below W.heap.size W w1→Calls Try.prog 49 #[.agg #[.string (T k).name,.slice (T k).fa (T k).nf (T k).fcap]] w1 fun e w'=>(∃ a cap,e = .returned (.agg #[.string (T k).name,.slice a (T k).nf cap])∧Row w' wr.heap.size 94 3 (.slice a (T k).nf cap) (T k).nf (fieldCell (T k).F))∧Below w1.heap.size w1 w'∧Below W.heap.size W w'):=fun w1 hb1=>(copyType_any _ _ _ _ (T k).F w1 ((hF.kept hB).kept hb1) (HNF.out k hlt)).mono fun e w' h=>by
    obtain ⟨⟨a,cap,h1,-,h2⟩,h3⟩:=h
    exact ⟨⟨a,cap,h1,h2.base (Nat.le_trans hB.size hb1.size)⟩,h3,hb1.trans (h3.mono hb1.size)⟩
   have HM:Hid (∀ w1,Below W.heap.size W w1→Calls Try.prog 50 #[.slice (T k).fa (T k).nf (T k).fcap] w1 fun e w'=>(∃ a cap,e = .returned (.slice a (T k).nf cap)∧Row w' wr.heap.size 9 1 (.slice a (T k).nf cap) (T k).nf (textCell (fun j=>((T k).F j).name)))∧Below w1.heap.size w1 w'∧Below W.heap.size W w'):=fun w1 hb1=>(names_any _ _ _ (T k).F w1 ((hF.kept hB).kept hb1) (HNF.out k hlt)).mono fun e w' h=>by
    obtain ⟨⟨a,cap,h1,-,h2⟩,h3⟩:=h
    exact ⟨⟨a,cap,h1,h2.base (Nat.le_trans hB.size hb1.size)⟩,h3,hb1.trans (h3.mono hb1.size)⟩
   have HGd:Hid (GoodS (initS T k)):=⟨hs,hs,hF.1,fun j hj=>by obtain ⟨_,_,_,_,_,_,q⟩:=hF.2 j hj; exact q,fun j hj=>by obtain ⟨_,_,_,_,_,_,q,_⟩:=hF.2 j hj; exact q⟩
   have HBW:Hid (Below wr.heap.size wr W):=hB
   have HW:Hid (Below w.heap.size w wr):=hw
   have HS:Hid (Seens wr w.heap.size (.slice a' k c') k fv ov (initS T)):=hSk
   have hb0:Below W.heap.size W W.drew:=(Below.refl _ _).drew
   have hz:wr.heap.size < W.heap.size:=by rw [← hW]; simp
   have hzr:w.heap.size≤wr.heap.size:=hw.size
   clear hSk hw hB hF
   go_wp2_with fail
   clear hW t0 t1
   go_region_law (first
    | (refine step_append_any rfl (.tmp 12) (.tmp 21) 38 rfl w.heap.size 52 i0 _ 4 80 Try.underlying38 hi hz0 hz1 hz2 rfl (by decide) (.slice a' k c') k _ (by simp [Act.eval]) ((HS.out.kept HB2.out).kept (below1 w2 _)).row (some ⟨w2.heap.size,0,none⟩) 1 1 [.string (T k).name,.slice a1 (T k).nf c1,.string (T k).name,.slice a2 (T k).nf c2] (by simp [Act.eval]) rfl (alloc_news w2 #[.string (T k).name,.slice a1 (T k).nf c1,.string (T k).name,.slice a2 (T k).nf c2] _) (fun h=>by cases h) (by intro u hu; simp at hu; rcases hu with rfl | rfl | rfl | rfl <;> rfl) (by unfold maxLen; omega) (by omega) (by have:=HB2.out.size; simp; omega) ?_; intro v' w4 hown hgr; have HE:Hid (Seens w4 w.heap.size v' (k + 1) _ _ (initS T)):=all_step HS.out (by omega) HB2.out hzr HRF.out HRN.out HGd.out hgr hown; have HB4:Hid (Below w.heap.size w w4):=((HW.out.trans (HB2.out.mono hzr)).trans ((below1 w2 _).mono (by have:=HB2.out.size; omega))).grown hgr (by have:=HB2.out.size; simp; omega) (fun k' hk'=>(HS.out.row.lt hk').1); clear hown hgr)
    | (go_simp; go_at_call 49; refine (HC.out _ hbN).mono ?_; rintro e w2 ⟨⟨a1,c1,rfl,hrF⟩,hb2,hbW⟩; have HRN:Hid (Row w2 wr.heap.size 9 1 (.slice a2 (T k).nf c2) (T k).nf (textCell (fun j=>((T k).F j).name))):=HRN1.out.kept hb2; have HRF:Hid (Row w2 wr.heap.size 94 3 (.slice a1 (T k).nf c1) (T k).nf (fieldCell (T k).F)):=hrF; have HB2:Hid (Below wr.heap.size wr w2):=HBW.out.trans (hbW.mono HBW.out.size); have m0':=keptCell hbW m0; have m1':=keptCell hbW m1; clear hrF hb2 hbW hbN)
    | (go_simp; go_at_call 50; refine (HM.out _ hbF).mono ?_; rintro e w2 ⟨⟨a2,c2,rfl,hrN⟩,hb2,hbW⟩; have HRF:Hid (Row w2 wr.heap.size 94 3 (.slice a1 (T k).nf c1) (T k).nf (fieldCell (T k).F)):=HRF1.out.kept hb2; have HRN:Hid (Row w2 wr.heap.size 9 1 (.slice a2 (T k).nf c2) (T k).nf (textCell (fun j=>((T k).F j).name))):=hrN; have HB2:Hid (Below wr.heap.size wr w2):=HBW.out.trans (hbW.mono HBW.out.size); have m0':=keptCell hbW m0; have m1':=keptCell hbW m1; clear hrN hb2 hbW hbF)
    | (go_simp; go_at_call 49; refine (HC.out _ hb0).mono ?_; rintro e wF ⟨⟨a1,c1,rfl,hrF⟩,-,hbF⟩; have HRF1:Hid (Row wF wr.heap.size 94 3 (.slice a1 (T k).nf c1) (T k).nf (fieldCell (T k).F)):=hrF; have mF0:=keptCell hbF m0; have mF1:=keptCell hbF m1; clear hrF)
    | (go_simp; go_at_call 50; refine (HM.out _ hb0).mono ?_; rintro e wN ⟨⟨a2,c2,rfl,hrN⟩,-,hbN⟩; have HRN1:Hid (Row wN wr.heap.size 9 1 (.slice a2 (T k).nf c2) (T k).nf (textCell (fun j=>((T k).F j).name))):=hrN; have mN0:=keptCell hbN m0; have mN1:=keptCell hbN m1; clear hrN))
   all_goals (
    go_wp2_with fail
    go_roundw
    case rel=>exact ⟨k + 1,by omega,by go_num,HB4.out,_,_,HE.out⟩
    case measure=>simp [intOf]; omega)
  ·have hkn:k=n:=by omega
   subst hkn
   have HS:Hid (Seens wr w.heap.size (.slice a' k c') k fv ov (initS T)):=hSk
   have HW:Hid (Below w.heap.size w wr):=hw
   clear hSk hw
   go_wp2_with fail
   go_ret
   exact ⟨⟨_,fv,ov,rfl,HS.out⟩,HW.out⟩
end Go.Proofs.Ytjjggefmmeminac
