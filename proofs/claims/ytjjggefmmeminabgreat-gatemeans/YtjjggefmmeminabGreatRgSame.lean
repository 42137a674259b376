import Derived.Test.YtjjggefmmeminabGreatJBase
import Derived.Test.YtjjggefmmeminabGreatMnGot
import Derived.Deep.CutRange
namespace Go.Proofs.YtjjggefmmeminabGreat
open Go.RowKit Go.Sort
def sameTwoOps:List Oper:=[
 ⟨some 19, .move (.tmp 0), 26, "ref.go:399", #[], none⟩,
 ⟨some 20, .move (.tmp 5), 3, "ref.go:399", #[], none⟩,
 ⟨some 21, .indexAddr 26 (.tmp 19) (.tmp 20), 0, "ref.go:399", #[⟨0, .data⟩, ⟨1, .data⟩], none⟩,
 ⟨some 22, .load 56 (.tmp 21), 56, "ref.go:399", #[⟨2, .data⟩], none⟩,
 ⟨some 23, .move (.tmp 1), 26, "ref.go:399", #[{ on := 10, ground := Ground.gcOnly Departure.lateStores }], none⟩,
 ⟨some 24, .move (.tmp 5), 3, "ref.go:399", #[{ on := 10, ground := Ground.gcOnly Departure.lateStores }], none⟩,
 ⟨some 25, .indexAddr 26 (.tmp 23) (.tmp 24), 0, "ref.go:399", #[⟨4, .data⟩, ⟨5, .data⟩, { on := 10, ground := Ground.gcOnly Departure.lateStores }], none⟩,
 ⟨some 26, .load 56 (.tmp 25), 56, "ref.go:399", #[⟨6, .data⟩, { on := 10, ground := Ground.gcOnly Departure.lateStores }], none⟩,
 ⟨some 6, .alloc 56, 0, "ref.go:399", #[], none⟩,
 ⟨some 7, .alloc 56, 0, "ref.go:399", #[], none⟩,
 ⟨none, .store 56 (.tmp 6) (.tmp 22), 0, "ref.go:399", #[⟨8, .data⟩, ⟨3, .data⟩, ⟨0, .phase⟩, ⟨1, .phase⟩, ⟨2, .phase⟩, ⟨3, .phase⟩, { on := 4, ground := Ground.textOnly Departure.lateStores }, { on := 5, ground := Ground.textOnly Departure.lateStores }, { on := 6, ground := Ground.textOnly Departure.lateStores }, { on := 7, ground := Ground.textOnly Departure.lateStores }, ⟨8, .phase⟩, ⟨9, .phase⟩], none⟩,
 ⟨none, .store 56 (.tmp 7) (.tmp 26), 0, "ref.go:399", #[⟨9, .data⟩, ⟨7, .data⟩, ⟨10, .chain⟩, ⟨0, .phase⟩, ⟨1, .phase⟩, ⟨2, .phase⟩, ⟨3, .phase⟩, ⟨4, .phase⟩, ⟨5, .phase⟩, ⟨6, .phase⟩, ⟨7, .phase⟩, ⟨8, .phase⟩, ⟨9, .phase⟩, ⟨10, .phase⟩], none⟩]
set_option maxRecDepth 100000 in
set_option maxHeartbeats 4000000 in
theorem sameTwo {Q:Exit→Act→World→Prop} {a0:Act} {w5:World} {g o n ca g2 o2 cb k m C p D C' D':Nat} {nm tx:ByteArray} {kd:Int} {nl:Bool} {A B A' B':Option Addr}
  (hsz : [19,20,21,22,23,24,25,26,6,7].all (fun d=>decide (d < a0.tmps.size))=true)
  (s0:slots a0 0 = .slice (some ⟨g,o,none⟩) n ca) (s1:slots a0 1 = .slice (some ⟨g2,o2,none⟩) n cb) (s5:slots a0 5 = .int .i64 (k:Int)) (hk:k < n)
  (c0:w5.cell? ⟨g,o + k * 6,none⟩=some (.string nm)) (c1:w5.cell? ⟨g,o + k * 6 + 1,none⟩=some (.int .i64 kd)) (c2:w5.cell? ⟨g,o + k * 6 + 2,none⟩=some (.bool nl)) (c3:w5.cell? ⟨g,o + k * 6 + 3,none⟩=some (.string tx)) (c4:w5.cell? ⟨g,o + k * 6 + 4,none⟩=some (.slice A m C)) (c5:w5.cell? ⟨g,o + k * 6 + 5,none⟩=some (.slice B p D))
  (d0:w5.cell? ⟨g2,o2 + k * 6,none⟩=some (.string nm)) (d1:w5.cell? ⟨g2,o2 + k * 6 + 1,none⟩=some (.int .i64 kd)) (d2:w5.cell? ⟨g2,o2 + k * 6 + 2,none⟩=some (.bool nl)) (d3:w5.cell? ⟨g2,o2 + k * 6 + 3,none⟩=some (.string tx)) (d4:w5.cell? ⟨g2,o2 + k * 6 + 4,none⟩=some (.slice A' m C')) (d5:w5.cell? ⟨g2,o2 + k * 6 + 5,none⟩=some (.slice B' p D'))
  (hQ:∀ s w' b0 b1,Below w5.heap.size w5 w'→s 6 = .pointer (some ⟨b0,0,none⟩)→w5.heap.size≤b0→w'.heap[b0]? = some (.cells #[.string nm,.int .i64 kd,.bool nl,.string tx,.slice A m C,.slice B p D] 56 (0,0))→s 7 = .pointer (some ⟨b1,0,none⟩)→w5.heap.size≤b1→w'.heap[b1]? = some (.cells #[.string nm,.int .i64 kd,.bool nl,.string tx,.slice A' m C',.slice B' p D'] 56 (0,0))→Q .normal (putAll a0 s [19,20,21,22,23,24,25,26,6,7]) w') :
  (Code.region 6 sameTwoOps.toArray true).wp Tryz.prog Q a0 w5:=by
 refine wp_region_as (by kernel_rfl) (by kernel_rfl) [19,20,21,22,23,24,25,26,6,7] (by kernel_rfl) hsz (by kernel_rfl) (fun _=>99) (asV [8,9,10,11] [.slice (some ⟨g,o,none⟩) n ca,.int .i64 (k:Int),.pointer (some ⟨g,o + k * 6,none⟩),.agg #[.string nm,.int .i64 kd,.bool nl,.string tx,.slice A m C,.slice B p D],.slice (some ⟨g2,o2,none⟩) n cb,.int .i64 (k:Int),.pointer (some ⟨g2,o2 + k * 6,none⟩),.agg #[.string nm,.int .i64 kd,.bool nl,.string tx,.slice A' m C',.slice B' p D'],undef,undef,undef,undef]) (boxG w5 [⟨8,10,6,#[.string ⟨#[]⟩,.int .i64 0,.bool false,.string ⟨#[]⟩,.slice none 0 0,.slice none 0 0],#[.string nm,.int .i64 kd,.bool nl,.string tx,.slice A m C,.slice B p D],56⟩,⟨9,11,7,#[.string ⟨#[]⟩,.int .i64 0,.bool false,.string ⟨#[]⟩,.slice none 0 0,.slice none 0 0],#[.string nm,.int .i64 kd,.bool nl,.string tx,.slice A' m C',.slice B' p D'],56⟩]) boxG.start ?_ ?_
 ·intro Lz stz wz iz oz hGz hLz hcz hAz hFz hiz hlz haz
  have hk1:(k:Int) < (n:Int):=by omega
  have hk0:(0:Int)≤(k:Int):=by omega
  have h99:Lz 99=false:=by
   cases h:Lz 99 with
   | false=>rfl
   | true=>exact absurd (hLz 99 h) (by decide)
  obtain _ | iz:=iz
  ·obtain rfl:=Option.some.inj hiz
   have e1:stz 0 = .slice (some ⟨g,o,none⟩) n ca:=(hFz 0 (by decide)).trans s0
   exact opStep_value (v:=stz 0) (w':=wz) rfl ⟨hGz.step (Below.refl _ _) rfl _,e1,fun k _ _ _ h=>h⟩
  obtain _ | iz:=iz
  ·obtain rfl:=Option.some.inj hiz
   have e1:stz 5 = .int .i64 (k:Int):=(hFz 5 (by decide)).trans s5
   exact opStep_value (v:=stz 5) (w':=wz) rfl ⟨hGz.step (Below.refl _ _) rfl _,e1,fun k _ _ _ h=>h⟩
  obtain _ | iz:=iz
  ·obtain rfl:=Option.some.inj hiz
   have e0:stz 19 = .slice (some ⟨g,o,none⟩) n ca:=hAz 0 (haz ⟨0,.data⟩ (by simp) rfl) h99
   have e1:stz 20 = .int .i64 (k:Int):=hAz 1 (haz ⟨1,.data⟩ (by simp) rfl) h99
   refine opStep_value (v:=.pointer (some ⟨g,o + k * 6,none⟩)) (w':=wz) ?_ ⟨hGz.step (Below.refl _ _) rfl _,rfl,fun k _ _ _ h=>h⟩
   simp only [execOp,evalS,e0,e1]
   go_simp
  obtain _ | iz:=iz
  ·obtain rfl:=Option.some.inj hiz
   have e0:stz 21 = .pointer (some ⟨g,o + k * 6,none⟩):=hAz 2 (haz ⟨2,.data⟩ (by simp) rfl) h99
   have z0:=keptCell hGz.below c0
   have z1:=keptCell hGz.below c1
   have z2:=keptCell hGz.below c2
   have z3:=keptCell hGz.below c3
   have z4:=keptCell hGz.below c4
   have z5:=keptCell hGz.below c5
   refine opStep_value (v:=.agg #[.string nm,.int .i64 kd,.bool nl,.string tx,.slice A m C,.slice B p D]) (w':=wz) ?_ ⟨hGz.step (Below.refl _ _) rfl _,rfl,fun k _ _ _ h=>h⟩
   simp only [execOp,evalS,e0]
   go_simp
  obtain _ | iz:=iz
  ·obtain rfl:=Option.some.inj hiz
   have e1:stz 1 = .slice (some ⟨g2,o2,none⟩) n cb:=(hFz 1 (by decide)).trans s1
   exact opStep_value (v:=stz 1) (w':=wz) rfl ⟨hGz.step (Below.refl _ _) rfl _,e1,fun k _ _ _ h=>h⟩
  obtain _ | iz:=iz
  ·obtain rfl:=Option.some.inj hiz
   have e1:stz 5 = .int .i64 (k:Int):=(hFz 5 (by decide)).trans s5
   exact opStep_value (v:=stz 5) (w':=wz) rfl ⟨hGz.step (Below.refl _ _) rfl _,e1,fun k _ _ _ h=>h⟩
  obtain _ | iz:=iz
  ·obtain rfl:=Option.some.inj hiz
   have e0:stz 23 = .slice (some ⟨g2,o2,none⟩) n cb:=hAz 4 (haz ⟨4,.data⟩ (by simp) rfl) h99
   have e1:stz 24 = .int .i64 (k:Int):=hAz 5 (haz ⟨5,.data⟩ (by simp) rfl) h99
   refine opStep_value (v:=.pointer (some ⟨g2,o2 + k * 6,none⟩)) (w':=wz) ?_ ⟨hGz.step (Below.refl _ _) rfl _,rfl,fun k _ _ _ h=>h⟩
   simp only [execOp,evalS,e0,e1]
   go_simp
  obtain _ | iz:=iz
  ·obtain rfl:=Option.some.inj hiz
   have e0:stz 25 = .pointer (some ⟨g2,o2 + k * 6,none⟩):=hAz 6 (haz ⟨6,.data⟩ (by simp) rfl) h99
   have z0:=keptCell hGz.below d0
   have z1:=keptCell hGz.below d1
   have z2:=keptCell hGz.below d2
   have z3:=keptCell hGz.below d3
   have z4:=keptCell hGz.below d4
   have z5:=keptCell hGz.below d5
   refine opStep_value (v:=.agg #[.string nm,.int .i64 kd,.bool nl,.string tx,.slice A' m C',.slice B' p D']) (w':=wz) ?_ ⟨hGz.step (Below.refl _ _) rfl _,rfl,fun k _ _ _ h=>h⟩
   simp only [execOp,evalS,e0]
   go_simp
  obtain _ | iz:=iz
  ·obtain rfl:=Option.some.inj hiz
   have hs:Lz 10=false:=by
    cases h:Lz 10 with
    | false=>rfl
    | true=>rw [hcz 10 _ h rfl ⟨8,.data⟩ (by simp) rfl] at hlz; cases hlz
   refine opStep_value (v:=.pointer (some ⟨wz.heap.size,0,none⟩)) (w':=wz.alloc (.cells #[.string ⟨#[]⟩,.int .i64 0,.bool false,.string ⟨#[]⟩,.slice none 0 0,.slice none 0 0] 56)) ?_ ⟨hGz.alloc (q:=⟨8,10,6,#[.string ⟨#[]⟩,.int .i64 0,.bool false,.string ⟨#[]⟩,.slice none 0 0,.slice none 0 0],#[.string nm,.int .i64 kd,.bool nl,.string tx,.slice A m C,.slice B p D],56⟩) (by intro p hp; simp only [List.mem_cons,List.not_mem_nil,or_false] at hp; rcases hp with rfl | rfl <;> intro h <;> first | rfl | exact absurd h (Nat.ne_of_beq_eq_false rfl)) rfl (Nat.ne_of_beq_eq_false rfl) hs,trivial,fun k _ _ _ h=>h⟩
   simp only [execOp]
   go_simp
  obtain _ | iz:=iz
  ·obtain rfl:=Option.some.inj hiz
   have hs:Lz 11=false:=by
    cases h:Lz 11 with
    | false=>rfl
    | true=>rw [hcz 11 _ h rfl ⟨9,.data⟩ (by simp) rfl] at hlz; cases hlz
   refine opStep_value (v:=.pointer (some ⟨wz.heap.size,0,none⟩)) (w':=wz.alloc (.cells #[.string ⟨#[]⟩,.int .i64 0,.bool false,.string ⟨#[]⟩,.slice none 0 0,.slice none 0 0] 56)) ?_ ⟨hGz.alloc (q:=⟨9,11,7,#[.string ⟨#[]⟩,.int .i64 0,.bool false,.string ⟨#[]⟩,.slice none 0 0,.slice none 0 0],#[.string nm,.int .i64 kd,.bool nl,.string tx,.slice A' m C',.slice B' p D'],56⟩) (by intro p hp; simp only [List.mem_cons,List.not_mem_nil,or_false] at hp; rcases hp with rfl | rfl <;> intro h <;> first | rfl | exact absurd h (Nat.ne_of_beq_eq_false rfl)) rfl (Nat.ne_of_beq_eq_false rfl) hs,trivial,fun k _ _ _ h=>h⟩
   simp only [execOp]
   go_simp
  obtain _ | iz:=iz
  ·obtain rfl:=Option.some.inj hiz
   have hb:=haz ⟨8,.data⟩ (by simp) rfl
   obtain ⟨b,q1,q2,q3⟩:=hGz.box ⟨8,10,6,#[.string ⟨#[]⟩,.int .i64 0,.bool false,.string ⟨#[]⟩,.slice none 0 0,.slice none 0 0],#[.string nm,.int .i64 kd,.bool nl,.string tx,.slice A m C,.slice B p D],56⟩ (by simp) hb
   rw [hlz] at q3
   simp only [Bool.false_eq_true,if_false] at q3
   replace q1:stz 6=_:=q1
   have e2:stz 22 = .agg #[.string nm,.int .i64 kd,.bool nl,.string tx,.slice A m C,.slice B p D]:=hAz 3 (haz ⟨3,.data⟩ (by simp) rfl) h99
   obtain ⟨x0,x1,x2,x3,x4,x5⟩:wz.cell? ⟨b,0,none⟩=some (.string ⟨#[]⟩)∧wz.cell? ⟨b,1,none⟩=some (.int .i64 0)∧wz.cell? ⟨b,2,none⟩=some (.bool false)∧wz.cell? ⟨b,3,none⟩=some (.string ⟨#[]⟩)∧wz.cell? ⟨b,4,none⟩=some (.slice none 0 0)∧wz.cell? ⟨b,5,none⟩=some (.slice none 0 0):=by simp [World.cell?,q3]
   obtain ⟨y0,y1,y2,y3,y4,y5⟩:wz.frozen? ⟨b,0,none⟩=false∧wz.frozen? ⟨b,1,none⟩=false∧wz.frozen? ⟨b,2,none⟩=false∧wz.frozen? ⟨b,3,none⟩=false∧wz.frozen? ⟨b,4,none⟩=false∧wz.frozen? ⟨b,5,none⟩=false:=by simp [World.frozen?,q3]
   have g0:=heap_setCell_same _ b 0 _ 56 (.string nm) q3
   have g1:=heap_setCell_same _ b 1 _ 56 (.int .i64 kd) g0
   have g2:=heap_setCell_same _ b 2 _ 56 (.bool nl) g1
   have g3:=heap_setCell_same _ b 3 _ 56 (.string tx) g2
   have g4:=heap_setCell_same _ b 4 _ 56 (.slice A m C) g3
   have g5:=heap_setCell_same _ b 5 _ 56 (.slice B p D) g4
   refine opStep_skip (w':=(((((wz.setCell ⟨b,0,none⟩ (.string nm)).setCell ⟨b,1,none⟩ (.int .i64 kd)).setCell ⟨b,2,none⟩ (.bool nl)).setCell ⟨b,3,none⟩ (.string tx)).setCell ⟨b,4,none⟩ (.slice A m C)).setCell ⟨b,5,none⟩ (.slice B p D)) ?_ ⟨hGz.store (q:=⟨8,10,6,#[.string ⟨#[]⟩,.int .i64 0,.bool false,.string ⟨#[]⟩,.slice none 0 0,.slice none 0 0],#[.string nm,.int .i64 kd,.bool nl,.string tx,.slice A m C,.slice B p D],56⟩) (by intro p hp; simp only [List.mem_cons,List.not_mem_nil,or_false] at hp; rcases hp with rfl | rfl <;> intro h <;> first | rfl | exact absurd h (Nat.ne_of_beq_eq_false rfl)) rfl (by simp) (Nat.ne_of_beq_eq_false rfl) hb q1 q2 (by rw [g5]; rfl) (((((((OnlyB.refl _ _).set 0 _).set 1 _).set 2 _).set 3 _).set 4 _).set 5 _) _,trivial,fun k _ _ _ h=>h⟩
   simp only [execOp,evalS,q1,e2]
   go_simp
  obtain _ | iz:=iz
  ·obtain rfl:=Option.some.inj hiz
   have hb:=haz ⟨9,.data⟩ (by simp) rfl
   obtain ⟨b,q1,q2,q3⟩:=hGz.box ⟨9,11,7,#[.string ⟨#[]⟩,.int .i64 0,.bool false,.string ⟨#[]⟩,.slice none 0 0,.slice none 0 0],#[.string nm,.int .i64 kd,.bool nl,.string tx,.slice A' m C',.slice B' p D'],56⟩ (by simp) hb
   rw [hlz] at q3
   simp only [Bool.false_eq_true,if_false] at q3
   replace q1:stz 7=_:=q1
   have e2:stz 26 = .agg #[.string nm,.int .i64 kd,.bool nl,.string tx,.slice A' m C',.slice B' p D']:=hAz 7 (haz ⟨7,.data⟩ (by simp) rfl) h99
   obtain ⟨x0,x1,x2,x3,x4,x5⟩:wz.cell? ⟨b,0,none⟩=some (.string ⟨#[]⟩)∧wz.cell? ⟨b,1,none⟩=some (.int .i64 0)∧wz.cell? ⟨b,2,none⟩=some (.bool false)∧wz.cell? ⟨b,3,none⟩=some (.string ⟨#[]⟩)∧wz.cell? ⟨b,4,none⟩=some (.slice none 0 0)∧wz.cell? ⟨b,5,none⟩=some (.slice none 0 0):=by simp [World.cell?,q3]
   obtain ⟨y0,y1,y2,y3,y4,y5⟩:wz.frozen? ⟨b,0,none⟩=false∧wz.frozen? ⟨b,1,none⟩=false∧wz.frozen? ⟨b,2,none⟩=false∧wz.frozen? ⟨b,3,none⟩=false∧wz.frozen? ⟨b,4,none⟩=false∧wz.frozen? ⟨b,5,none⟩=false:=by simp [World.frozen?,q3]
   have g0:=heap_setCell_same _ b 0 _ 56 (.string nm) q3
   have g1:=heap_setCell_same _ b 1 _ 56 (.int .i64 kd) g0
   have g2:=heap_setCell_same _ b 2 _ 56 (.bool nl) g1
   have g3:=heap_setCell_same _ b 3 _ 56 (.string tx) g2
   have g4:=heap_setCell_same _ b 4 _ 56 (.slice A' m C') g3
   have g5:=heap_setCell_same _ b 5 _ 56 (.slice B' p D') g4
   refine opStep_skip (w':=(((((wz.setCell ⟨b,0,none⟩ (.string nm)).setCell ⟨b,1,none⟩ (.int .i64 kd)).setCell ⟨b,2,none⟩ (.bool nl)).setCell ⟨b,3,none⟩ (.string tx)).setCell ⟨b,4,none⟩ (.slice A' m C')).setCell ⟨b,5,none⟩ (.slice B' p D')) ?_ ⟨hGz.store (q:=⟨9,11,7,#[.string ⟨#[]⟩,.int .i64 0,.bool false,.string ⟨#[]⟩,.slice none 0 0,.slice none 0 0],#[.string nm,.int .i64 kd,.bool nl,.string tx,.slice A' m C',.slice B' p D'],56⟩) (by intro p hp; simp only [List.mem_cons,List.not_mem_nil,or_false] at hp; rcases hp with rfl | rfl <;> intro h <;> first | rfl | exact absurd h (Nat.ne_of_beq_eq_false rfl)) rfl (by simp) (Nat.ne_of_beq_eq_false rfl) hb q1 q2 (by rw [g5]; rfl) (((((((OnlyB.refl _ _).set 0 _).set 1 _).set 2 _).set 3 _).set 4 _).set 5 _) _,trivial,fun k _ _ _ h=>h⟩
   simp only [execOp,evalS,q1,e2]
   go_simp
  ·exfalso
   have hlen:iz + 12 < 12:=(List.getElem?_eq_some_iff.1 hiz).1
   omega
 ·intro Lz stz wz hGz _ hall _
  obtain ⟨b0,q0,r0,t0⟩:=hGz.box ⟨8,10,6,#[.string ⟨#[]⟩,.int .i64 0,.bool false,.string ⟨#[]⟩,.slice none 0 0,.slice none 0 0],#[.string nm,.int .i64 kd,.bool nl,.string tx,.slice A m C,.slice B p D],56⟩ (by simp) (hall 8 (by decide))
  rw [show Lz 10=true from hall 10 (by decide)] at t0
  obtain ⟨b1,q1,r1,t1⟩:=hGz.box ⟨9,11,7,#[.string ⟨#[]⟩,.int .i64 0,.bool false,.string ⟨#[]⟩,.slice none 0 0,.slice none 0 0],#[.string nm,.int .i64 kd,.bool nl,.string tx,.slice A' m C',.slice B' p D'],56⟩ (by simp) (hall 9 (by decide))
  rw [show Lz 11=true from hall 11 (by decide)] at t1
  exact hQ stz wz b0 b1 hGz.below q0 r0 t0 q1 r1 t1
def sameSubOps:List Oper:=[
 ⟨some 76, .fieldAddr 56 (.tmp 6) 5, 0, "ref.go:404", #[], none⟩,
 ⟨some 77, .load 54 (.tmp 76), 54, "ref.go:404", #[⟨0, .data⟩], none⟩,
 ⟨some 78, .move (.tmp 8), 3, "ref.go:404", #[], none⟩,
 ⟨some 79, .indexAddr 54 (.tmp 77) (.tmp 78), 0, "ref.go:404", #[⟨1, .data⟩, ⟨2, .data⟩], none⟩,
 ⟨some 80, .load 26 (.tmp 79), 26, "ref.go:404", #[⟨3, .data⟩], none⟩,
 ⟨some 81, .fieldAddr 56 (.tmp 7) 5, 0, "ref.go:404", #[], none⟩,
 ⟨some 82, .load 54 (.tmp 81), 54, "ref.go:404", #[⟨5, .data⟩], none⟩,
 ⟨some 83, .move (.tmp 8), 3, "ref.go:404", #[], none⟩,
 ⟨some 84, .indexAddr 54 (.tmp 82) (.tmp 83), 0, "ref.go:404", #[⟨6, .data⟩, ⟨7, .data⟩], none⟩,
 ⟨some 85, .load 26 (.tmp 84), 26, "ref.go:404", #[⟨8, .data⟩], none⟩,
 ⟨some 86, .call { callee := Callee.value (.func 8), args := #[.tmp 80, .tmp 85], argTypes := #[26, 26] }, 4, "ref.go:404", #[⟨4, .data⟩, ⟨9, .data⟩], none⟩,
 ⟨some 87, .unOp UnOp.not 4 (.tmp 86), 4, "ref.go:404", #[⟨10, .data⟩], none⟩]
set_option maxRecDepth 100000 in
set_option maxHeartbeats 4000000 in
theorem sameSub {Q:Exit→Act→World→Prop} {a0:Act} {w5:World} {bx bY p q m D p' q' D' j n C C':Nat} {A A':Option Addr}
  (hsz : [76,77,78,79,80,81,82,83,84,85,86,87].all (fun d=>decide (d < a0.tmps.size))=true)
  (s6:slots a0 6 = .pointer (some ⟨bx,0,none⟩)) (s7:slots a0 7 = .pointer (some ⟨bY,0,none⟩)) (s8:slots a0 8 = .int .i64 (j:Int)) (hj:j < m) (ca:w5.cell? ⟨bx,5,none⟩=some (.slice (some ⟨p,q,none⟩) m D)) (cb:w5.cell? ⟨bY,5,none⟩=some (.slice (some ⟨p',q',none⟩) m D')) (ea:w5.cell? ⟨p,q + j,none⟩=some (.slice A n C)) (eb:w5.cell? ⟨p',q' + j,none⟩=some (.slice A' n C'))
  (hcall:∀ w1,Below w5.heap.size w5 w1→Calls Tryz.prog 8 #[.slice A n C,.slice A' n C'] w1 fun e w'=>e = .returned (.bool true)∧Below w1.heap.size w1 w')
  (hQ:∀ s w',Below w5.heap.size w5 w'→s 87 = .bool false→Q .normal (putAll a0 s [76,77,78,79,80,81,82,83,84,85,86,87]) w') :
  (Code.region 12 sameSubOps.toArray true).wp Tryz.prog Q a0 w5:=by
 refine wp_region_as (by kernel_rfl) (by kernel_rfl) [76,77,78,79,80,81,82,83,84,85,86,87] (by kernel_rfl) hsz (by kernel_rfl) (fun _=>99) (asV [] [.pointer (some ⟨bx,5,none⟩),.slice (some ⟨p,q,none⟩) m D,.int .i64 (j:Int),.pointer (some ⟨p,q + j,none⟩),.slice A n C,.pointer (some ⟨bY,5,none⟩),.slice (some ⟨p',q',none⟩) m D',.int .i64 (j:Int),.pointer (some ⟨p',q' + j,none⟩),.slice A' n C',.bool true,.bool false]) (boxG w5 []) boxG.start ?_ ?_
 ·intro Lz stz wz iz oz hGz hLz hcz hAz hFz hiz hlz haz
  have hj1:(j:Int) < (m:Int):=by omega
  have hj0:(0:Int)≤(j:Int):=by omega
  have h99:Lz 99=false:=by
   cases h:Lz 99 with
   | false=>rfl
   | true=>exact absurd (hLz 99 h) (by decide)
  obtain _ | iz:=iz
  ·obtain rfl:=Option.some.inj hiz
   have e0:stz 6 = .pointer (some ⟨bx,0,none⟩):=(hFz 6 (by decide)).trans s6
   refine opStep_value (v:=.pointer (some ⟨bx,5,none⟩)) (w':=wz) ?_ ⟨hGz.step (Below.refl _ _) rfl _,rfl,fun k _ _ _ h=>h⟩
   simp only [execOp,evalS,e0]
   go_simp
  obtain _ | iz:=iz
  ·obtain rfl:=Option.some.inj hiz
   have e0:stz 76 = .pointer (some ⟨bx,5,none⟩):=hAz 0 (haz ⟨0,.data⟩ (by simp) rfl) h99
   have z0:=keptCell hGz.below ca
   refine opStep_value (v:=.slice (some ⟨p,q,none⟩) m D) (w':=wz) ?_ ⟨hGz.step (Below.refl _ _) rfl _,rfl,fun k _ _ _ h=>h⟩
   simp only [execOp,evalS,e0]
   go_simp
  obtain _ | iz:=iz
  ·obtain rfl:=Option.some.inj hiz
   have e1:stz 8 = .int .i64 (j:Int):=(hFz 8 (by decide)).trans s8
   exact opStep_value (v:=stz 8) (w':=wz) rfl ⟨hGz.step (Below.refl _ _) rfl _,e1,fun k _ _ _ h=>h⟩
  obtain _ | iz:=iz
  ·obtain rfl:=Option.some.inj hiz
   have e0:stz 77 = .slice (some ⟨p,q,none⟩) m D:=hAz 1 (haz ⟨1,.data⟩ (by simp) rfl) h99
   have e1:stz 78 = .int .i64 (j:Int):=hAz 2 (haz ⟨2,.data⟩ (by simp) rfl) h99
   refine opStep_value (v:=.pointer (some ⟨p,q + j,none⟩)) (w':=wz) ?_ ⟨hGz.step (Below.refl _ _) rfl _,rfl,fun k _ _ _ h=>h⟩
   simp only [execOp,evalS,e0,e1]
   go_simp
  obtain _ | iz:=iz
  ·obtain rfl:=Option.some.inj hiz
   have e0:stz 79 = .pointer (some ⟨p,q + j,none⟩):=hAz 3 (haz ⟨3,.data⟩ (by simp) rfl) h99
   have z0:=keptCell hGz.below ea
   refine opStep_value (v:=.slice A n C) (w':=wz) ?_ ⟨hGz.step (Below.refl _ _) rfl _,rfl,fun k _ _ _ h=>h⟩
   simp only [execOp,evalS,e0]
   go_simp
  obtain _ | iz:=iz
  ·obtain rfl:=Option.some.inj hiz
   have e0:stz 7 = .pointer (some ⟨bY,0,none⟩):=(hFz 7 (by decide)).trans s7
   refine opStep_value (v:=.pointer (some ⟨bY,5,none⟩)) (w':=wz) ?_ ⟨hGz.step (Below.refl _ _) rfl _,rfl,fun k _ _ _ h=>h⟩
   simp only [execOp,evalS,e0]
   go_simp
  obtain _ | iz:=iz
  ·obtain rfl:=Option.some.inj hiz
   have e0:stz 81 = .pointer (some ⟨bY,5,none⟩):=hAz 5 (haz ⟨5,.data⟩ (by simp) rfl) h99
   have z0:=keptCell hGz.below cb
   refine opStep_value (v:=.slice (some ⟨p',q',none⟩) m D') (w':=wz) ?_ ⟨hGz.step (Below.refl _ _) rfl _,rfl,fun k _ _ _ h=>h⟩
   simp only [execOp,evalS,e0]
   go_simp
  obtain _ | iz:=iz
  ·obtain rfl:=Option.some.inj hiz
   have e1:stz 8 = .int .i64 (j:Int):=(hFz 8 (by decide)).trans s8
   exact opStep_value (v:=stz 8) (w':=wz) rfl ⟨hGz.step (Below.refl _ _) rfl _,e1,fun k _ _ _ h=>h⟩
  obtain _ | iz:=iz
  ·obtain rfl:=Option.some.inj hiz
   have e0:stz 82 = .slice (some ⟨p',q',none⟩) m D':=hAz 6 (haz ⟨6,.data⟩ (by simp) rfl) h99
   have e1:stz 83 = .int .i64 (j:Int):=hAz 7 (haz ⟨7,.data⟩ (by simp) rfl) h99
   refine opStep_value (v:=.pointer (some ⟨p',q' + j,none⟩)) (w':=wz) ?_ ⟨hGz.step (Below.refl _ _) rfl _,rfl,fun k _ _ _ h=>h⟩
   simp only [execOp,evalS,e0,e1]
   go_simp
  obtain _ | iz:=iz
  ·obtain rfl:=Option.some.inj hiz
   have e0:stz 84 = .pointer (some ⟨p',q' + j,none⟩):=hAz 8 (haz ⟨8,.data⟩ (by simp) rfl) h99
   have z0:=keptCell hGz.below eb
   refine opStep_value (v:=.slice A' n C') (w':=wz) ?_ ⟨hGz.step (Below.refl _ _) rfl _,rfl,fun k _ _ _ h=>h⟩
   simp only [execOp,evalS,e0]
   go_simp
  obtain _ | iz:=iz
  ·obtain rfl:=Option.some.inj hiz
   have e0:stz 80 = .slice A n C:=hAz 4 (haz ⟨4,.data⟩ (by simp) rfl) h99
   have e1:stz 85 = .slice A' n C':=hAz 9 (haz ⟨9,.data⟩ (by simp) rfl) h99
   refine opStep_fn 8 #[.tmp 80,.tmp 85] #[26,26] rfl (enters_of Tryz.func8 (by kernel_rfl) rfl) #[.slice A n C,.slice A' n C'] (by simp [evalS,e0,e1]) ((hcall wz hGz.below).mono fun e w' h=>?_)
   obtain ⟨rfl,hw'⟩:=h
   exact ⟨_,rfl,hGz.step hw' rfl _,rfl,fun k _ _ _ h=>h⟩
  obtain _ | iz:=iz
  ·obtain rfl:=Option.some.inj hiz
   have e0:stz 86 = .bool true:=hAz 10 (haz ⟨10,.data⟩ (by simp) rfl) h99
   refine opStep_value (v:=.bool false) (w':=wz) ?_ ⟨hGz.step (Below.refl _ _) rfl _,rfl,fun k _ _ _ h=>h⟩
   simp only [execOp,evalS,e0]
   go_simp
  ·exfalso
   have hlen:iz + 12 < 12:=(List.getElem?_eq_some_iff.1 hiz).1
   omega
 ·intro Lz stz wz hGz hLz hall hvals
  have h99:Lz 99=false:=by
   cases h:Lz 99 with
   | false=>rfl
   | true=>exact absurd (hLz 99 h) (by decide)
  exact hQ stz wz hGz.below (hvals 11 (hall 11 (by decide)) h99)
def SameOk (d:Nat):Prop := ∀ (a b:Option Addr) (ca cb:Nat) (L:List (Got d)) (w:World),GotsAt w d a L→GotsAt w d b L→Calls Tryz.prog 8 #[.slice a L.length ca,.slice b L.length cb] w fun e w'=>e = .returned (.bool true)∧Below w.heap.size w w'
set_option maxRecDepth 100000 in
set_option maxHeartbeats 400000 in
theorem sameGot_zero:SameOk 0:=by
 intro a b ca cb L w _ _
 have h0:=got0 L
 subst h0
 go_enter Tryz.func8,Tryz.ntmps8
 go_wp2_with fail
 go_loopw [16] (fun i wr=>i = .int .i64 0∧Below w.heap.size w wr) (fun _ _=>0)
 case atStart=>exact ⟨rfl,Below.refl _ _⟩
 case round =>
  obtain ⟨rfl,hw⟩:=hrel
  go_wp2_with fail
  go_ret
  exact ⟨rfl,hw⟩
set_option maxRecDepth 100000 in
set_option maxHeartbeats 4000000 in
theorem sameGot_succ (d:Nat) (ih:SameOk d):SameOk (d + 1):=by
 intro a b ca cb L w hA hB
 have hn:L.length≤9223372036854775807:=hA.1
 have HA:=Hid.intro hA
 have HB:=Hid.intro hB
 have HIH:=Hid.intro ih
 clear hA hB ih
 go_enter Tryz.func8,Tryz.ntmps8
 go_wp2_with fail
 go_loopw [16] (fun i wr => ∃ k:Nat,k≤L.length∧i = .int .i64 k∧Below w.heap.size w wr) (fun i _=>L.length - (intOf i).toNat)
 case atStart=>exact ⟨0,Nat.zero_le _,rfl,Below.refl _ _⟩
 case round =>
  obtain ⟨k,hk,rfl,hw⟩:=hrel
  by_cases hlt:k < L.length
  ·obtain ⟨g,o,A,C,B,D,rfl,c0,c1,c2,c3,c4,c5,-,-,hsA,hsB⟩:=(HA.out.kept hw).2 k hlt
   obtain ⟨g2,o2,A',C',B',D',rfl,d0,d1,d2,d3,d4,d5,-,-,hsA',hsB'⟩:=(HB.out.kept hw).2 k hlt
   have hlt':(k:Int) < (L.length:Int):=by omega
   have HSA:=Hid.intro hsA
   have HSB:=Hid.intro hsB
   have HSA':=Hid.intro hsA'
   have HSB':=Hid.intro hsB'
   have hsl:(gSubs (gotN L k)).length≤9223372036854775807:=hsB.1
   clear hsA hsB hsA' hsB'
   go_upto_region 6 with fail
   refine sameTwo (g:=g) (o:=o) (n:=L.length) (g2:=g2) (o2:=o2) (k:=k) (by kernel_rfl) rfl rfl rfl hlt c0 c1 c2 c3 c4 c5 d0 d1 d2 d3 d4 d5 ?_
   intro s w2 bx by_ hB2 hs6 _ hbx hs7 _ hby
   have hB2w:Below w.heap.size w w2:=hw.trans (hB2.mono hw.size)
   obtain ⟨x0,x1,x2,x3,x4,x5⟩:w2.cell? ⟨bx,0,none⟩=some (.string (gName (gotN L k)))∧w2.cell? ⟨bx,1,none⟩=some (.int .i64 (gKind (gotN L k)))∧w2.cell? ⟨bx,2,none⟩=some (.bool (gNull (gotN L k)))∧w2.cell? ⟨bx,3,none⟩=some (.string (gText (gotN L k)))∧w2.cell? ⟨bx,4,none⟩=some (.slice A (gSub (gotN L k)).length C)∧w2.cell? ⟨bx,5,none⟩=some (.slice B (gSubs (gotN L k)).length D):=by simp [World.cell?,hbx]
   obtain ⟨y0,y1,y2,y3,y4,y5⟩:w2.cell? ⟨by_,0,none⟩=some (.string (gName (gotN L k)))∧w2.cell? ⟨by_,1,none⟩=some (.int .i64 (gKind (gotN L k)))∧w2.cell? ⟨by_,2,none⟩=some (.bool (gNull (gotN L k)))∧w2.cell? ⟨by_,3,none⟩=some (.string (gText (gotN L k)))∧w2.cell? ⟨by_,4,none⟩=some (.slice A' (gSub (gotN L k)).length C')∧w2.cell? ⟨by_,5,none⟩=some (.slice B' (gSubs (gotN L k)).length D'):=by simp [World.cell?,hby]
   have hcl:=HIH.out A A' C C' (gSub (gotN L k)) w2 (HSA.out.kept hB2) (HSA'.out.kept hB2)
   have HBW:=Hid.intro hB2w
   have HB2:=Hid.intro hB2
   have HX5:=Hid.intro x5
   have HY5:=Hid.intro y5
   clear hw hB2w hB2 hbx hby c0 c1 c2 c3 c4 c5 d0 d1 d2 d3 d4 d5 HSA HSA'
   simp only [putAll,Act.put,List.setIfInBounds_toArray,List.set_cons_succ,List.set_cons_zero,hs6,hs7]
   generalize s 19=t19
   generalize s 20=t20
   generalize s 21=t21
   generalize s 22=t22
   generalize s 23=t23
   generalize s 24=t24
   generalize s 25=t25
   generalize s 26=t26
   generalize gotN L k=gg at *
   have hkb:∀ z:Int,(z != z)=false:=fun z=>by simp
   have hnb:∀ z:Bool,(z != z)=false:=fun z=>by simp
   go_wp2_with fail
   refine hcl.mono ?_
   clear hcl
   rintro e w3 ⟨rfl,hw3⟩
   have x5:=keptCell hw3 x5
   have y5:=keptCell hw3 y5
   have HX5:=Hid.intro x5
   have HY5:=Hid.intro y5
   have HB3:=Hid.intro (HB2.out.trans (hw3.mono HB2.out.size))
   have HBW3:=Hid.intro (HBW.out.trans (hw3.mono HBW.out.size))
   clear hw3 HBW HB2 x0 x1 x2 x3 x4 y0 y1 y2 y3 y4
   go_wp2_with fail
   clear x5 y5
   obtain ⟨wo,hwo⟩:∃ wo,wo=wr:=⟨_,rfl⟩
   rw [← hwo] at HB3 HSB HSB'
   clear hwo
   go_loopw [73] (fun i wq => ∃ j:Nat,j≤(gSubs gg).length∧i = .int .i64 j∧Below w3.heap.size w3 wq) (fun i _=>(gSubs gg).length - (intOf i).toNat)
   case atStart=>exact ⟨0,Nat.zero_le _,rfl,Below.refl _ _⟩
   case round =>
    obtain ⟨j,hj,rfl,hwq⟩:=hrel
    by_cases hjt:j < (gSubs gg).length
    ·obtain ⟨p,q,A2,E2,rfl,ea,-,hG⟩:=HSB.out.2 j hjt
     obtain ⟨p',q',A3,E3,rfl,eb,-,hG'⟩:=HSB'.out.2 j hjt
     have hjt':(j:Int) < ((gSubs gg).length:Int):=by omega
     have hBq:Below wo.heap.size wo wr:=HB3.out.trans (hwq.mono HB3.out.size)
     have HG:=Hid.intro (hG.kept hBq)
     have HG':=Hid.intro (hG'.kept hBq)
     have HEA:=Hid.intro (keptCell hBq ea)
     have HEB:=Hid.intro (keptCell hBq eb)
     have HXQ:=Hid.intro (keptCell hwq HX5.out)
     have HYQ:=Hid.intro (keptCell hwq HY5.out)
     have HWQ:=Hid.intro hwq
     clear hG hG' ea eb hBq hwq
     go_upto_region 12 with fail
     refine sameSub (bx:=bx) (bY:=by_) (p:=p) (q:=q) (m:=(gSubs gg).length) (p':=p') (q':=q') (j:=j) (n:=(subN (gSubs gg) j).length) (by kernel_rfl) rfl rfl rfl hjt HXQ.out HYQ.out HEA.out HEB.out (fun w1 h1=>HIH.out A2 A3 E2 E3 (subN (gSubs gg) j) w1 (HG.out.kept h1) (HG'.out.kept h1)) ?_
     intro s w4 hB4 hs87
     have HW4:=Hid.intro (HWQ.out.trans (hB4.mono HWQ.out.size))
     clear hB4 HG HG' HEA HEB HXQ HYQ HWQ
     simp only [putAll,Act.put,List.setIfInBounds_toArray,List.set_cons_succ,List.set_cons_zero,hs87]
     generalize s 76=t76
     generalize s 77=t77
     generalize s 78=t78
     generalize s 79=t79
     generalize s 80=t80
     generalize s 81=t81
     generalize s 82=t82
     generalize s 83=t83
     generalize s 84=t84
     generalize s 85=t85
     generalize s 86=t86
     go_wp2_with fail
     go_roundw
     case rel=>exact ⟨j + 1,by omega,by go_num,HW4.out⟩
     case measure=>simp [intOf]; omega
    ·have HWE:=Hid.intro (HBW3.out.trans (hwq.mono HBW3.out.size))
     clear hwq
     go_wp2_with fail
     go_roundw
     case rel=>exact ⟨k + 1,by omega,by go_num,HWE.out⟩
     case measure=>simp [intOf]; omega
  ·go_wp2_with fail
   go_ret
   exact ⟨rfl,hw⟩
theorem sameGot_any:∀ d,SameOk d
 | 0=>sameGot_zero
 | d + 1=>sameGot_succ d (sameGot_any d)
end Go.Proofs.YtjjggefmmeminabGreat
