import Derived.Test.YtjjggefmmeminacGreatJCh
namespace Go.Proofs.YtjjggefmmeminacGreat
open Go.RowKit Go.Sort
theorem Tryz.info147:(Tryz.prog.info? 147).map (fun i=>(i.zero,i.size,i.bytes))=some (some (.agg #[.string ⟨#[]⟩,.slice none 0 0,.string ⟨#[]⟩,.slice none 0 0]),4,80):=by kernel_rfl
theorem seenCells_succ (S:Nat→PSeen) (fv ov:Nat→Value) (k:Nat):(List.range ((k + 1) * 4)).map (seenCell S fv ov)=(List.range (k * 4)).map (seenCell S fv ov) ++ [.string (S k).name,fv k,.string (S k).own,ov k]:=by
 rw [show (k + 1) * 4=k * 4 + 1 + 1 + 1 + 1 by omega,List.range_succ,List.range_succ,List.range_succ,List.range_succ]
 simp only [List.map_append,List.map_cons,List.map_nil,List.append_assoc]
 rw [seenCell0,seenCell1,show k * 4 + 1 + 1=k * 4 + 2 by omega,seenCell2,show k * 4 + 2 + 1=k * 4 + 3 by omega,seenCell3]
 rfl
theorem all_step {w w2 w4:World} {base k:Nat} {v v':Value} {fv ov:Nat→Value} {S:Nat→PSeen} {f o:Value} {X:Obj} (h:Seens w base v k fv ov S) (hk:k < 1000) (hb:Below w.heap.size w w2) (hbase:base≤w.heap.size)
  (hf:Row w2 w.heap.size 66 3 f (S k).nf (fieldCell (S k).F)) (ho:Row w2 w.heap.size 9 1 o (S k).nf (textCell (S k).O)) (hgood:GoodS (S k))
  (hg:(w2.alloc X).grownBy w4 v.ownBlock) (hr:w4.ownsRow base 147 4 v' (k + 1) ((List.range (k * 4)).map (seenCell S fv ov) ++ [.string (S k).name,f,.string (S k).own,o])) :
  Seens w4 base v' (k + 1) (fun i=>if i=k then f else fv i) (fun i=>if i=k then o else ov i) S:=by
 have h':=(h.kept hb).kept (below1 w2 X)
 have hf':=hf.kept (below1 w2 X)
 have ho':=ho.kept (below1 w2 X)
 refine ⟨by unfold maxLen; omega,?_,fun i hi=>?_,fun i hi=>?_,fun i j hi hj hij b hb1 hb2=>?_,fun i j hi hj hij b hb1 hb2=>?_,fun i hi=>?_⟩
 ·unfold Row
  rw [seenCells_succ]
  simp only [if_pos]
  have e:(List.range (k * 4)).map (seenCell S (fun i=>if i=k then f else fv i) (fun i=>if i=k then o else ov i))=(List.range (k * 4)).map (seenCell S fv ov):=range_map_congr fun j hj=>by
   unfold seenCell; simp [show ¬ j / 4=k by omega]
  rw [e]; exact hr
 ·by_cases e:i=k
  ·subst e
   rw [if_pos rfl]
   exact (hf'.grown hg fun b hb1=>hf'.ne h'.row (by decide) hb1).base hbase
  ·rw [if_neg e]
   exact (h'.fields i (by omega)).grown hg fun b hb1=>(h'.fields i (by omega)).ne h'.row (by decide) hb1
 ·by_cases e:i=k
  ·subst e
   rw [if_pos rfl]
   exact (ho'.grown hg fun b hb1=>ho'.ne h'.row (by decide) hb1).base hbase
  ·rw [if_neg e]
   exact (h'.owns i (by omega)).grown hg fun b hb1=>(h'.owns i (by omega)).ne h'.row (by decide) hb1
 ·by_cases e:i=k
  ·have e2 : ¬ j=k:=by omega
   simp only [e,e2,if_pos,if_false] at hb1 hb2
   have q1:=(hf.lt hb1).1
   have q2:=((h.fields j (by omega)).lt hb2).2
   omega
  ·by_cases e2:j=k
   ·simp only [e,e2,if_pos,if_false] at hb1 hb2
    have q1:=(hf.lt hb2).1
    have q2:=((h.fields i (by omega)).lt hb1).2
    omega
   ·simp only [e,e2,if_false] at hb1 hb2
    exact h.fapart i j (by omega) (by omega) hij b hb1 hb2
 ·by_cases e:i=k
  ·have e2 : ¬ j=k:=by omega
   simp only [e,e2,if_pos,if_false] at hb1 hb2
   have q1:=(ho.lt hb1).1
   have q2:=((h.owns j (by omega)).lt hb2).2
   omega
  ·by_cases e2:j=k
   ·simp only [e,e2,if_pos,if_false] at hb1 hb2
    have q1:=(ho.lt hb2).1
    have q2:=((h.owns i (by omega)).lt hb1).2
    omega
   ·simp only [e,e2,if_false] at hb1 hb2
    exact h.oapart i j (by omega) (by omega) hij b hb1 hb2
 ·by_cases e:i=k
  ·rw [e]; exact hgood
  ·exact h.good i (by omega)
set_option maxRecDepth 100000 in
set_option maxHeartbeats 4000000 in
theorem all_any (a:Option Addr) (n cap:Nat) (T:Nat→LType) (w:World) (hT:TypesAt w a n T) (hn:n≤1000) (hnf:∀ i,i < n→(T i).nf≤1000) :
  Calls Tryz.prog 85 #[.slice a n cap] w fun e w'=>(∃ v fv ov,e = .returned v∧Seens w' w.heap.size v n fv ov (initS T))∧Below w.heap.size w w':=by
 obtain ⟨i0,hi,hz0,hz1,hz2⟩:=info_parts' Tryz.info147
 have HT:Hid (TypesAt w a n T):=hT
 have HNF:Hid (∀ i,i < n→(T i).nf≤1000):=hnf
 clear hT hnf
 go_enter Tryz.func85,Tryz.ntmps85
 go_wp2_with fail
 go_loopw [3,8] (fun v i wr => ∃ k:Nat,k≤n∧i = .int .i64 k∧Below w.heap.size w wr∧∃ fv ov,Seens wr w.heap.size v k fv ov (initS T)) (fun _ i _=>n - (intOf i).toNat)
 case atStart=>exact ⟨0,Nat.zero_le _,rfl,Below.refl _ _,fun _=>.slice none 0 0,fun _=>.slice none 0 0,Nat.zero_le _,World.ownsRow_nil _ _ _ _,fun i hi=>absurd hi (Nat.not_lt_zero _),fun i hi=>absurd hi (Nat.not_lt_zero _),fun i _ hi=>absurd hi (Nat.not_lt_zero _),fun i _ hi=>absurd hi (Nat.not_lt_zero _),fun i hi=>absurd hi (Nat.not_lt_zero _)⟩
 case round =>
  obtain ⟨k,hk,rfl,hw,fv,ov,hSk⟩:=hrel
  obtain ⟨a',c',hv,-⟩:=hSk.slice
  subst hv
  by_cases hlt:k < n
  ·obtain ⟨b,o,rfl,t0,t1,hfc,hs,hF⟩:=(HT.out.kept hw).2 k hlt
   have hlt':(k:Int) < (n:Int):=by omega
   have hk0:(0:Int)≤(k:Int):=by omega
   generalize hW:wr.alloc (Obj.cells #[.string (T k).name,.slice (T k).fa (T k).nf (T k).fcap] 70)=W
   have hB:Below wr.heap.size wr W:=by rw [← hW]; exact below1 _ _
   have m0:W.cell? ⟨wr.heap.size,0,none⟩=some (.string (T k).name):=by rw [← hW,World.cell?_alloc_at _ _ _ _ rfl]; rfl
   have m1:W.cell? ⟨wr.heap.size,1,none⟩=some (.slice (T k).fa (T k).nf (T k).fcap):=by rw [← hW,World.cell?_alloc_at _ _ _ _ rfl]; rfl
   have HC:Hid (∀ w1,Below W.heap.size W w1→Calls Tryz.prog 112 #[.agg #[.string (T k).name,.slice (T k).fa (T k).nf (T k).fcap]] w1 fun e w'=>(∃ a cap,e = .returned (.agg #[.string (T k).name,.slice a (T k).nf cap])∧Row w' wr.heap.size 66 3 (.slice a (T k).nf cap) (T k).nf (fieldCell (T k).F))∧Below w1.heap.size w1 w'∧Below W.heap.size W w'):=fun w1 hb1=>(copyType_any _ _ _ _ (T k).F w1 ((hF.kept hB).kept hb1) (HNF.out k hlt)).mono fun e w' h=>by
    obtain ⟨⟨a,cap,h1,-,h2⟩,h3⟩:=h
    exact ⟨⟨a,cap,h1,h2.base (Nat.le_trans hB.size hb1.size)⟩,h3,hb1.trans (h3.mono hb1.size)⟩
   have HM:Hid (∀ w1,Below W.heap.size W w1→Calls Tryz.prog 113 #[.slice (T k).fa (T k).nf (T k).fcap] w1 fun e w'=>(∃ a cap,e = .returned (.slice a (T k).nf cap)∧Row w' wr.heap.size 9 1 (.slice a (T k).nf cap) (T k).nf (textCell (fun j=>((T k).F j).name)))∧Below w1.heap.size w1 w'∧Below W.heap.size W w'):=fun w1 hb1=>(names_any _ _ _ (T k).F w1 ((hF.kept hB).kept hb1) (HNF.out k hlt)).mono fun e w' h=>by
    obtain ⟨⟨a,cap,h1,-,h2⟩,h3⟩:=h
    exact ⟨⟨a,cap,h1,h2.base (Nat.le_trans hB.size hb1.size)⟩,h3,hb1.trans (h3.mono hb1.size)⟩
   have HGd:Hid (GoodS (initS T k)):=⟨hs,hs,hF.1,fun j hj=>by obtain ⟨_,_,_,_,_,_,q⟩:=hF.2 j hj; exact q,fun j hj=>by obtain ⟨_,_,_,_,_,_,q,_⟩:=hF.2 j hj; exact q⟩
   have HBW:Hid (Below wr.heap.size wr W):=hB
   have HW:Hid (Below w.heap.size w wr):=hw
   have HS:Hid (Seens wr w.heap.size (.slice a' k c') k fv ov (initS T)):=hSk
   have hb0:Below W.heap.size W W.drew:=(Below.refl _ _).drew
   have hz:wr.heap.size < W.heap.size:=by rw [← hW]; simp
   have hzr:w.heap.size≤wr.heap.size:=hw.size
   clear hSk hw hB hF
   go_wp2_with fail
   clear hW t0 t1
   go_region_law (first
    | (refine step_append_any rfl (.tmp 12) (.tmp 21) 143 rfl w.heap.size 147 i0 _ 4 80 Tryz.underlying143 hi hz0 hz1 hz2 rfl (by decide) (.slice a' k c') k _ (by simp [Act.eval]) ((HS.out.kept HB2.out).kept (below1 w2 _)).row (some ⟨w2.heap.size,0,none⟩) 1 1 [.string (T k).name,.slice a1 (T k).nf c1,.string (T k).name,.slice a2 (T k).nf c2] (by simp [Act.eval]) rfl (alloc_news w2 #[.string (T k).name,.slice a1 (T k).nf c1,.string (T k).name,.slice a2 (T k).nf c2] _) (fun h=>by cases h) (by intro u hu; simp at hu; rcases hu with rfl | rfl | rfl | rfl <;> rfl) (by unfold maxLen; omega) (by omega) (by have:=HB2.out.size; simp; omega) ?_; intro v' w4 hown hgr; have HE:Hid (Seens w4 w.heap.size v' (k + 1) _ _ (initS T)):=all_step HS.out (by omega) HB2.out hzr HRF.out HRN.out HGd.out hgr hown; have HB4:Hid (Below w.heap.size w w4):=((HW.out.trans (HB2.out.mono hzr)).trans ((below1 w2 _).mono (by have:=HB2.out.size; omega))).grown hgr (by have:=HB2.out.size; simp; omega) (fun k' hk'=>(HS.out.row.lt hk').1); clear hown hgr)
    | (go_simp; go_at_call 112; refine (HC.out _ hbN).mono ?_; rintro e w2 ⟨⟨a1,c1,rfl,hrF⟩,hb2,hbW⟩; have HRN:Hid (Row w2 wr.heap.size 9 1 (.slice a2 (T k).nf c2) (T k).nf (textCell (fun j=>((T k).F j).name))):=HRN1.out.kept hb2; have HRF:Hid (Row w2 wr.heap.size 66 3 (.slice a1 (T k).nf c1) (T k).nf (fieldCell (T k).F)):=hrF; have HB2:Hid (Below wr.heap.size wr w2):=HBW.out.trans (hbW.mono HBW.out.size); have m0':=keptCell hbW m0; have m1':=keptCell hbW m1; clear hrF hb2 hbW hbN)
    | (go_simp; go_at_call 113; refine (HM.out _ hbF).mono ?_; rintro e w2 ⟨⟨a2,c2,rfl,hrN⟩,hb2,hbW⟩; have HRF:Hid (Row w2 wr.heap.size 66 3 (.slice a1 (T k).nf c1) (T k).nf (fieldCell (T k).F)):=HRF1.out.kept hb2; have HRN:Hid (Row w2 wr.heap.size 9 1 (.slice a2 (T k).nf c2) (T k).nf (textCell (fun j=>((T k).F j).name))):=hrN; have HB2:Hid (Below wr.heap.size wr w2):=HBW.out.trans (hbW.mono HBW.out.size); have m0':=keptCell hbW m0; have m1':=keptCell hbW m1; clear hrN hb2 hbW hbF)
    | (go_simp; go_at_call 112; refine (HC.out _ hb0).mono ?_; rintro e wF ⟨⟨a1,c1,rfl,hrF⟩,-,hbF⟩; have HRF1:Hid (Row wF wr.heap.size 66 3 (.slice a1 (T k).nf c1) (T k).nf (fieldCell (T k).F)):=hrF; have mF0:=keptCell hbF m0; have mF1:=keptCell hbF m1; clear hrF)
    | (go_simp; go_at_call 113; refine (HM.out _ hb0).mono ?_; rintro e wN ⟨⟨a2,c2,rfl,hrN⟩,-,hbN⟩; have HRN1:Hid (Row wN wr.heap.size 9 1 (.slice a2 (T k).nf c2) (T k).nf (textCell (fun j=>((T k).F j).name))):=hrN; have mN0:=keptCell hbN m0; have mN1:=keptCell hbN m1; clear hrN))
   all_goals (
    go_wp2_with fail
    go_roundw
    case rel=>exact ⟨k + 1,by omega,by go_num,HB4.out,_,_,HE.out⟩
    case measure=>simp [intOf]; omega)
  ·have hkn:k=n:=by omega
   subst hkn
   have HS:Hid (Seens wr w.heap.size (.slice a' k c') k fv ov (initS T)):=hSk
   have HW:Hid (Below w.heap.size w wr):=hw
   clear hSk hw
   go_wp2_with fail
   go_ret
   exact ⟨⟨_,fv,ov,rfl,HS.out⟩,HW.out⟩
end Go.Proofs.YtjjggefmmeminacGreat
namespace Go.Proofs.YtjjggefmmeminacGreat
open Go.RowKit Go.Sort
def ChangeAt (w:World) (b o:Nat) (c:PChange):Prop :=
 w.cell? ⟨b,o,none⟩=some (.int .i64 c.kind)∧w.cell? ⟨b,o + 1,none⟩=some (.string c.type)∧w.cell? ⟨b,o + 2,none⟩=some (.string c.field)∧w.cell? ⟨b,o + 3,none⟩=some (.string c.to)∧Small c.type∧Small c.field∧Small c.to
def ChangesAt (w:World) (a:Option Addr) (n:Nat) (C:Nat→PChange):Prop:=n≤maxLen∧∀ i,i < n→∃ b o,a=some ⟨b,o,none⟩∧ChangeAt w b (o + i * 4) (C i)
theorem ChangesAt.kept {w w':World} (h:Below w.heap.size w w') {a:Option Addr} {n:Nat} {C:Nat→PChange} (hc:ChangesAt w a n C):ChangesAt w' a n C :=
 ⟨hc.1,fun i hi=>let ⟨b,o,e,h0,h1,h2,h3,hs⟩:=hc.2 i hi; ⟨b,o,e,keptCell h h0,keptCell h h1,keptCell h h2,keptCell h h3,hs⟩⟩
theorem ChangesAt.less {w:World} {a:Option Addr} {n m:Nat} {C:Nat→PChange} (h:ChangesAt w a n C) (hm:m≤n):ChangesAt w a m C :=
 ⟨Nat.le_trans hm h.1,fun i hi=>h.2 i (Nat.lt_of_lt_of_le hi hm)⟩
structure FB (w wr:World):Prop where
 below:Below w.heap.size w wr
 lt:w.heap.size < wr.heap.size
 c0:wr.cell? ⟨w.heap.size,0,none⟩=some (.int .i64 0)
 c1:wr.cell? ⟨w.heap.size,1,none⟩=some (.int .i64 0)
 z0:wr.frozen? ⟨w.heap.size,0,none⟩=false
 z1:wr.frozen? ⟨w.heap.size,1,none⟩=false
theorem FB.next {w wr w':World} {B:Nat} (h:FB w wr) (hb:Below B wr w') (hB:w.heap.size < B):FB w w' :=
 ⟨h.below.trans (hb.mono (Nat.le_of_lt hB)),Nat.lt_of_lt_of_le h.lt hb.size,(hb.cell (p:=⟨w.heap.size,0,none⟩) hB).trans h.c0,(hb.cell (p:=⟨w.heap.size,1,none⟩) hB).trans h.c1,(hb.frozen (p:=⟨w.heap.size,0,none⟩) hB).trans h.z0,(hb.frozen (p:=⟨w.heap.size,1,none⟩) hB).trans h.z1⟩
theorem FB.start (w:World) (t:TypeId):FB w (w.alloc (.cells #[.int .i64 0,.int .i64 0] t)) :=
 ⟨(Below.refl _ _).alloc (Nat.le_refl _) _,by simp,by rw [World.cell?_alloc_at _ _ _ _ rfl]; rfl,by rw [World.cell?_alloc_at _ _ _ _ rfl]; rfl,World.frozen?_alloc_at _ _ _ _ rfl,World.frozen?_alloc_at _ _ _ _ rfl⟩
theorem FB.set {w wr:World} (h:FB w wr) (u v:Value):Below w.heap.size w ((wr.setCell ⟨w.heap.size,0,none⟩ u).setCell ⟨w.heap.size,1,none⟩ v) :=
 (h.below.setCell (Nat.le_refl _) _).setCell (Nat.le_refl _) _
theorem Seens.low {w:World} {base n:Nat} {v:Value} {fv ov:Nat→Value} {S:Nat→PSeen} (h:Seens w base v n fv ov S) {p:Addr} (hp:p.block < base) (u:Value):Seens (w.setCell p u) base v n fv ov S :=
 ⟨h.nmax,h.row.set_other (fun e=>by have:=(h.row.lt e).1; omega) _,fun i hi=>(h.fields i hi).set_other (fun e=>by have:=((h.fields i hi).lt e).1; omega) _,fun i hi=>(h.owns i hi).set_other (fun e=>by have:=((h.owns i hi).lt e).1; omega) _,h.fapart,h.oapart,h.good⟩
theorem Seens.base {w:World} {base base' n:Nat} {v:Value} {fv ov:Nat→Value} {S:Nat→PSeen} (h:Seens w base v n fv ov S) (hb:base'≤base):Seens w base' v n fv ov S :=
 ⟨h.nmax,h.row.base hb,fun i hi=>(h.fields i hi).base hb,fun i hi=>(h.owns i hi).base hb,h.fapart,h.oapart,h.good⟩
theorem seeF_wrong {n m:Nat} {T:Nat→LType} {C:Nat→PChange} (h:(wrongS n T).1≠0):seeF n T m C=wrongS n T:=by unfold seeF; rw [if_pos h]
theorem seeF_many {n m:Nat} {T:Nat→LType} {C:Nat→PChange} (h:(wrongS n T).1=0) (hm:12 < m):seeF n T m C=(4,0):=by unfold seeF; rw [if_neg (by omega),if_pos hm]
theorem seeF_run {n m:Nat} {T:Nat→LType} {C:Nat→PChange} (h:(wrongS n T).1=0) (hm : ¬ 12 < m):seeF n T m C=fault m (errS n (initS T) C):=by unfold seeF; rw [if_neg (by omega),if_neg hm]
set_option maxRecDepth 100000 in
set_option maxHeartbeats 4000000 in
theorem see_any (a ca:Option Addr) (n cap m ccap:Nat) (T:Nat→LType) (C:Nat→PChange) (w:World) (hT:TypesAt w a n T) (hC:ChangesAt w ca m C) (hcap:n≤cap) :
  Calls Tryz.prog 59 #[.slice a n cap,.slice ca m ccap] w fun e w'=>(∃ v,e = .returned (.tuple #[v,faultV (seeF n T m C)])∧((seeF n T m C).1≠0→v = .slice none 0 0)∧((seeF n T m C).1=0→∃ fv ov,Seens w' w.heap.size v n fv ov (runS n (initS T) C m)))∧Below w.heap.size w w':=by
 have hm:m≤9223372036854775807:=hC.1
 have HT:Hid (TypesAt w a n T):=hT
 have HC:Hid (ChangesAt w ca m C):=hC
 have hfd:=field0_run
 clear hT hC
 go_enter Tryz.func59,Tryz.ntmps59
 go_wp2_with fail
 have hF0:=FB.start w 45
 generalize w.alloc (Obj.cells #[.int .i64 0,.int .i64 0] 45)=W at *
 refine (wrong_any a n cap T W (HT.out.kept hF0.below) hcap).mono ?_
 rintro e w1 ⟨rfl,hw1⟩
 have hF1:=hF0.next hw1 hF0.lt
 clear hw1 hF0
 unfold faultV
 by_cases h1:(wrongS n T).1=0
 case neg =>
  have hfin:Hid (seeF n T m C=wrongS n T):=seeF_wrong h1
  have h1b:((wrongS n T).1 != 0)=true:=by simpa using h1
  have H1:Hid ((wrongS n T).1≠0):=h1
  clear h1
  generalize wrongS n T=r at *
  have hF2:=hF1.next (below1 w1 (Obj.cells #[.int .i64 r.1,.int .i64 r.2] 45)) hF1.lt
  generalize hW2:w1.alloc (Obj.cells #[.int .i64 r.1,.int .i64 r.2] 45)=W2 at *
  have k0:W2.cell? ⟨w1.heap.size,0,none⟩=some (.int .i64 r.1):=by rw [← hW2,World.cell?_alloc_at _ _ _ _ rfl]; rfl
  have k1:W2.cell? ⟨w1.heap.size,1,none⟩=some (.int .i64 r.2):=by rw [← hW2,World.cell?_alloc_at _ _ _ _ rfl]; rfl
  have r0:=hF2.c0
  have r1:=hF2.c1
  have z0:=hF2.z0
  have z1:=hF2.z1
  have HF2:Hid (FB w W2):=hF2
  clear hF1 hF2
  go_wp2_with fail
  clear hW2
  go_region
  go_wp2_with fail
  exact bodyPost_ret (v:=.tuple #[.slice none 0 0,.agg #[.int .i64 r.1,.int .i64 r.2]]) (by simp [results,Tryz.results59,go_sem,r0,r1]) rfl ⟨⟨_,by rw [hfin.out]; rfl,fun _=>rfl,fun h=>absurd (by rw [← hfin.out]; exact h) H1.out⟩,(HF2.out.set _ _).drew⟩
 have h1b:((wrongS n T).1 != 0)=false:=by simpa using h1
 have H1:Hid ((wrongS n T).1=0):=h1
 clear h1
 generalize hr:wrongS n T=r at *
 have hF2:=hF1.next (below1 w1 (Obj.cells #[.int .i64 r.1,.int .i64 r.2] 45)) hF1.lt
 generalize hW2:w1.alloc (Obj.cells #[.int .i64 r.1,.int .i64 r.2] 45)=W2 at *
 have k0:W2.cell? ⟨w1.heap.size,0,none⟩=some (.int .i64 r.1):=by rw [← hW2,World.cell?_alloc_at _ _ _ _ rfl]; rfl
 have HR:Hid (wrongS n T=r):=hr
 clear hr
 by_cases h2:12 < (m:Int)
 ·have hfin:Hid (seeF n T m C=(4,0)):=seeF_many (by rw [HR.out]; exact H1.out) (by omega)
  have r0:=hF2.c0
  have r1:=hF2.c1
  have z0:=hF2.z0
  have z1:=hF2.z1
  have HF2:Hid (FB w W2):=hF2
  clear hF1 hF2
  go_wp2_with fail
  exact bodyPost_ret (v:=.tuple #[.slice none 0 0,.agg #[.int .i64 4,.int .i64 0]]) (by simp [results,Tryz.results59,go_sem,r0,r1]) rfl ⟨⟨_,by rw [hfin.out]; rfl,fun _=>rfl,fun h=>by rw [hfin.out] at h; simp at h⟩,HF2.out.set _ _⟩
 have HM:Hid (¬ 12 < m):=by unfold Hid; omega
 have HF2:Hid (FB w W2):=hF2
 have hright:=right_iff.1 (show (wrongS n T).1=0 by rw [HR.out]; exact H1.out)
 have HFE:Hid (seeF n T m C=fault m (errS n (initS T) C)):=seeF_run (by rw [HR.out]; exact H1.out) HM.out
 have hal:=all_any a n cap T W2 (HT.out.kept hF2.below) (by have:=hright.few; omega) (fun i hi=>by have:=(hright.fld i hi).few; omega)
 clear hF1 hF2 hright H1 HR
 go_wp2_with fail
 clear hW2 k0
 refine hal.mono ?_
 clear hal
 rintro e w3 ⟨⟨v,fv,ov,rfl,hS3⟩,hb3⟩
 have hF3:=HF2.out.next hb3 HF2.out.lt
 have hbl:w.heap.size < W2.heap.size:=HF2.out.lt
 have hz3:W2.heap.size≤w3.heap.size:=hb3.size
 generalize W2.heap.size=base at *
 have HF3:Hid (FB w w3):=hF3
 have HS3:Hid (Seens w3 base v n fv ov (initS T)):=hS3
 obtain ⟨va,vc,rfl,-⟩:=hS3.slice
 clear hF3 hS3 hb3 HF2
 go_wp2_with fail
 go_loopw [25] (fun i wr => ∃ k:Nat,k≤m∧i = .int .i64 k∧Hid (∀ j,j < k→errS n (initS T) C j=0)∧FB w wr∧base≤wr.heap.size∧∃ fv ov,Seens wr base (.slice va n vc) n fv ov (runS n (initS T) C k)) (fun i _=>m - (intOf i).toNat)
 case atStart=>exact ⟨0,Nat.zero_le _,rfl,(fun j hj=>absurd hj (Nat.not_lt_zero _)),HF3.out,hz3,_,_,HS3.out⟩
 case round =>
  obtain ⟨k,hk,rfl,hb,hFr,hzr,fv',ov',hSr⟩:=hrel
  by_cases hlt:k < m
  ·obtain ⟨b,o,rfl,q0,q1,q2,q3,-,-,hsm⟩:=(HC.out.kept hFr.below).2 k hlt
   have hlt':(k:Int) < (m:Int):=by omega
   have hk0:(0:Int)≤(k:Int):=by omega
   generalize hW:wr.alloc (Obj.cells #[.int .i64 (C k).kind,.string (C k).type,.string (C k).field,.string (C k).to] 72)=W4
   have hB:Below wr.heap.size wr W4:=by rw [← hW]; exact below1 _ _
   have m0:W4.cell? ⟨wr.heap.size,0,none⟩=some (.int .i64 (C k).kind):=by rw [← hW,World.cell?_alloc_at _ _ _ _ rfl]; rfl
   have m1:W4.cell? ⟨wr.heap.size,1,none⟩=some (.string (C k).type):=by rw [← hW,World.cell?_alloc_at _ _ _ _ rfl]; rfl
   have m2:W4.cell? ⟨wr.heap.size,2,none⟩=some (.string (C k).field):=by rw [← hW,World.cell?_alloc_at _ _ _ _ rfl]; rfl
   have m3:W4.cell? ⟨wr.heap.size,3,none⟩=some (.string (C k).to):=by rw [← hW,World.cell?_alloc_at _ _ _ _ rfl]; rfl
   have hF4:=hFr.next hB hFr.lt
   have hcl:=apply_any base n _ fv' ov' (runS n (initS T) C k) (C k) W4 (hSr.kept hB) hsm (Nat.le_trans hzr hB.size)
   unfold changeV at hcl
   have HF4:Hid (FB w W4):=hF4
   have hz4:base≤W4.heap.size:=Nat.le_trans hzr hB.size
   clear hF4 hFr hSr hB
   go_wp2_with fail
   clear hW
   refine hcl.mono ?_
   clear hcl
   rintro e w5 ⟨rfl,hS5,hb5⟩
   have hF5:=HF4.out.next hb5 hbl
   have hz5:base≤w5.heap.size:=Nat.le_trans hz4 hb5.size
   have HS5:Hid (∃ fv ov,Seens w5 base (.slice va n vc) n fv ov (runS n (initS T) C (k + 1))):=hS5
   have r0:=hF5.c0
   have r1:=hF5.c1
   have z0:=hF5.z0
   have z1:=hF5.z1
   have HF5:Hid (FB w w5):=hF5
   clear hS5 hb5 hF5 HF4 hz4 m0 m1 m2 m3 q0 q1 q2 q3
   have HEk:Hid ((appS n (runS n (initS T) C k) (C k)).1=errS n (initS T) C k):=rfl
   generalize (appS n (runS n (initS T) C k) (C k)).1=ek at *
   by_cases h5:ek=0
   ·have h5b:(ek != 0)=false:=by simpa using h5
    have hb2:Hid (∀ j,j < k + 1→errS n (initS T) C j=0):=fun j hj=>by
     rcases Nat.lt_succ_iff_lt_or_eq.1 hj with h | h
     ·exact hb j h
     ·rw [h,← HEk.out]; exact h5
    clear h5
    go_wp2_with fail
    go_roundw
    case rel=>exact ⟨k + 1,by omega,by go_num,hb2,HF5.out,hz5,HS5.out⟩
    case measure=>simp [intOf]; omega
   ·have h5b:(ek != 0)=true:=by simpa using h5
    have hfin:Hid (seeF n T m C=(ek,(k:Int))):=by
     unfold Hid
     rw [HFE.out,fault_hit (g:=errS n (initS T) C) hlt (by rw [← HEk.out]; exact h5) hb.out,← HEk.out]
    have H5:Hid (¬ ek=0):=h5
    clear h5
    go_wp2_with fail
    exact bodyPost_ret (v:=.tuple #[.slice none 0 0,.agg #[.int .i64 ek,.int .i64 k]]) (by simp [results,Tryz.results59,go_sem,r0,r1]) rfl ⟨⟨_,by rw [hfin.out]; rfl,fun _=>rfl,fun h=>absurd (by rw [hfin.out] at h; exact h) H5.out⟩,HF5.out.set _ _⟩
  ·have hkm:k=m:=by omega
   have hfin:Hid (seeF n T m C=(0,0)):=by unfold Hid; rw [HFE.out]; exact fault_none fun j hj=>hb j (by omega)
   have HSm:Hid (∃ fv ov,Seens wr base (.slice va n vc) n fv ov (runS n (initS T) C m)):=by rw [← hkm]; exact ⟨_,_,hSr⟩
   have r0:=hFr.c0
   have r1:=hFr.c1
   have z0:=hFr.z0
   have z1:=hFr.z1
   have HFr:Hid (FB w wr):=hFr
   clear hkm hSr hFr
   go_wp2_with fail
   exact bodyPost_ret (v:=.tuple #[.slice va n vc,.agg #[.int .i64 0,.int .i64 0]]) (by simp [results,Tryz.results59,go_sem,r0,r1]) rfl ⟨⟨_,by rw [hfin.out]; rfl,fun h=>absurd (by rw [hfin.out]) h,fun _=>by
    obtain ⟨fv,ov,hS⟩:=HSm.out
    exact ⟨fv,ov,((hS.low (p:=⟨w.heap.size,0,none⟩) hbl _).low (p:=⟨w.heap.size,1,none⟩) hbl _).base (Nat.le_of_lt hbl)⟩⟩,HFr.out.set _ _⟩
end Go.Proofs.YtjjggefmmeminacGreat
