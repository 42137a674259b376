import Derived.Test.YtjjggefmmeminacGreatJBase
import Derived.Test.YtjjggefmmeminacGreatMnThere
import Derived.Test.YtjjggefmmeminacGreatJOf
namespace Go.Proofs.YtjjggefmmeminacGreat
open Go.RowKit Go.Sort
def getPartOps:List Oper:=[
 ⟨some 11, .fieldAddr 98 (.tmp 3) 0, 0, "mean.go:63", #[], none⟩,
 ⟨some 12, .load 77 (.tmp 11), 77, "mean.go:63", #[⟨0, .data⟩], none⟩,
 ⟨some 13, .fieldAddr 98 (.tmp 3) 0, 0, "mean.go:63", #[], none⟩,
 ⟨some 14, .load 77 (.tmp 13), 77, "mean.go:63", #[⟨2, .data⟩], none⟩,
 ⟨some 15, .move (.tmp 1), 9, "mean.go:63", #[], none⟩,
 ⟨some 16, .call { callee := Callee.value (.func 42), args := #[.tmp 14, .tmp 15], argTypes := #[77, 9] }, 3, "mean.go:63", #[⟨3, .data⟩, ⟨4, .data⟩], none⟩,
 ⟨some 17, .indexAddr 77 (.tmp 12) (.tmp 16), 0, "mean.go:63", #[⟨1, .data⟩, ⟨5, .data⟩], none⟩,
 ⟨some 18, .load 114 (.tmp 17), 114, "mean.go:63", #[⟨6, .data⟩], none⟩,
 ⟨some 7, .alloc 114, 0, "mean.go:63", #[], none⟩,
 ⟨none, .store 114 (.tmp 7) (.tmp 18), 0, "mean.go:63", #[⟨8, .data⟩, ⟨7, .data⟩, ⟨5, .chain⟩, ⟨0, .phase⟩, ⟨1, .phase⟩, ⟨2, .phase⟩, ⟨3, .phase⟩, ⟨4, .phase⟩, ⟨5, .phase⟩, ⟨6, .phase⟩, ⟨7, .phase⟩, ⟨8, .phase⟩], none⟩]
set_option maxRecDepth 100000 in
set_option maxHeartbeats 4000000 in
theorem getPart {Q:Exit→Act→World→Prop} {a0:Act} {w5:World} {bw g o pn pc i fn fc on oc hn hc:Nat} {fa oa ha:Option Addr} {nm typ:ByteArray}
  (hsz : [11,12,13,14,15,16,17,18,7].all (fun d=>decide (d < a0.tmps.size))=true)
  (s3:slots a0 3 = .pointer (some ⟨bw,0,none⟩)) (s1:slots a0 1 = .string typ) (ca:w5.cell? ⟨bw,0,none⟩=some (.slice (some ⟨g,o,none⟩) pn pc)) (hi:i < pn)
  (hcall:∀ w1,Below w5.heap.size w5 w1→Calls Tryz.prog 42 #[.slice (some ⟨g,o,none⟩) pn pc,.string typ] w1 fun e w'=>e = .returned (.int .i64 (i:Int))∧Below w1.heap.size w1 w')
  (c0:w5.cell? ⟨g,o + i * 4,none⟩=some (.string nm)) (c1:w5.cell? ⟨g,o + i * 4 + 1,none⟩=some (.slice fa fn fc)) (c2:w5.cell? ⟨g,o + i * 4 + 2,none⟩=some (.slice oa on oc)) (c3:w5.cell? ⟨g,o + i * 4 + 3,none⟩=some (.slice ha hn hc))
  (hQ:∀ s w' b0,Below w5.heap.size w5 w'→s 7 = .pointer (some ⟨b0,0,none⟩)→w5.heap.size≤b0→w'.heap[b0]? = some (.cells #[.string nm,.slice fa fn fc,.slice oa on oc,.slice ha hn hc] 114 (0,0))→Q .normal (putAll a0 s [11,12,13,14,15,16,17,18,7]) w') :
  (Code.region 1 getPartOps.toArray true).wp Tryz.prog Q a0 w5:=by
 refine wp_region_as (by kernel_rfl) (by kernel_rfl) [11,12,13,14,15,16,17,18,7] (by kernel_rfl) hsz (by kernel_rfl) (fun _=>99) (asV [8,9] [.pointer (some ⟨bw,0,none⟩),.slice (some ⟨g,o,none⟩) pn pc,.pointer (some ⟨bw,0,none⟩),.slice (some ⟨g,o,none⟩) pn pc,.string typ,.int .i64 (i:Int),.pointer (some ⟨g,o + i * 4,none⟩),.agg #[.string nm,.slice fa fn fc,.slice oa on oc,.slice ha hn hc],undef,undef]) (boxG w5 [⟨8,9,7,#[.string ⟨#[]⟩,.slice none 0 0,.slice none 0 0,.slice none 0 0],#[.string nm,.slice fa fn fc,.slice oa on oc,.slice ha hn hc],114⟩]) boxG.start ?_ ?_
 ·intro Lz stz wz iz oz hGz hLz hcz hAz hFz hiz hlz haz
  have hi1:(i:Int) < (pn:Int):=by omega
  have hi0:(0:Int)≤(i:Int):=by omega
  have h99:Lz 99=false:=by
   cases h:Lz 99 with
   | false=>rfl
   | true=>exact absurd (hLz 99 h) (by decide)
  obtain _ | iz:=iz
  ·obtain rfl:=Option.some.inj hiz
   have e0:stz 3 = .pointer (some ⟨bw,0,none⟩):=(hFz 3 (by decide)).trans s3
   refine opStep_value (v:=.pointer (some ⟨bw,0,none⟩)) (w':=wz) ?_ ⟨hGz.step (Below.refl _ _) rfl _,rfl,fun k _ _ _ h=>h⟩
   simp only [execOp,evalS,e0]
   go_simp
  obtain _ | iz:=iz
  ·obtain rfl:=Option.some.inj hiz
   have e0:stz 11 = .pointer (some ⟨bw,0,none⟩):=hAz 0 (haz ⟨0,.data⟩ (by simp) rfl) h99
   have z0:=keptCell hGz.below ca
   refine opStep_value (v:=.slice (some ⟨g,o,none⟩) pn pc) (w':=wz) ?_ ⟨hGz.step (Below.refl _ _) rfl _,rfl,fun k _ _ _ h=>h⟩
   simp only [execOp,evalS,e0]
   go_simp
  obtain _ | iz:=iz
  ·obtain rfl:=Option.some.inj hiz
   have e0:stz 3 = .pointer (some ⟨bw,0,none⟩):=(hFz 3 (by decide)).trans s3
   refine opStep_value (v:=.pointer (some ⟨bw,0,none⟩)) (w':=wz) ?_ ⟨hGz.step (Below.refl _ _) rfl _,rfl,fun k _ _ _ h=>h⟩
   simp only [execOp,evalS,e0]
   go_simp
  obtain _ | iz:=iz
  ·obtain rfl:=Option.some.inj hiz
   have e0:stz 13 = .pointer (some ⟨bw,0,none⟩):=hAz 2 (haz ⟨2,.data⟩ (by simp) rfl) h99
   have z0:=keptCell hGz.below ca
   refine opStep_value (v:=.slice (some ⟨g,o,none⟩) pn pc) (w':=wz) ?_ ⟨hGz.step (Below.refl _ _) rfl _,rfl,fun k _ _ _ h=>h⟩
   simp only [execOp,evalS,e0]
   go_simp
  obtain _ | iz:=iz
  ·obtain rfl:=Option.some.inj hiz
   have e1:stz 1 = .string typ:=(hFz 1 (by decide)).trans s1
   exact opStep_value (v:=stz 1) (w':=wz) rfl ⟨hGz.step (Below.refl _ _) rfl _,e1,fun k _ _ _ h=>h⟩
  obtain _ | iz:=iz
  ·obtain rfl:=Option.some.inj hiz
   have e0:stz 14 = .slice (some ⟨g,o,none⟩) pn pc:=hAz 3 (haz ⟨3,.data⟩ (by simp) rfl) h99
   have e1:stz 15 = .string typ:=hAz 4 (haz ⟨4,.data⟩ (by simp) rfl) h99
   refine opStep_fn 42 #[.tmp 14,.tmp 15] #[77,9] rfl (enters_of Tryz.func42 (by kernel_rfl) rfl) #[.slice (some ⟨g,o,none⟩) pn pc,.string typ] (by simp [evalS,e0,e1]) ((hcall wz hGz.below).mono fun e w' h=>?_)
   obtain ⟨rfl,hw'⟩:=h
   exact ⟨_,rfl,hGz.step hw' rfl _,rfl,fun k _ _ _ h=>h⟩
  obtain _ | iz:=iz
  ·obtain rfl:=Option.some.inj hiz
   have e0:stz 12 = .slice (some ⟨g,o,none⟩) pn pc:=hAz 1 (haz ⟨1,.data⟩ (by simp) rfl) h99
   have e1:stz 16 = .int .i64 (i:Int):=hAz 5 (haz ⟨5,.data⟩ (by simp) rfl) h99
   refine opStep_value (v:=.pointer (some ⟨g,o + i * 4,none⟩)) (w':=wz) ?_ ⟨hGz.step (Below.refl _ _) rfl _,rfl,fun k _ _ _ h=>h⟩
   simp only [execOp,evalS,e0,e1]
   go_simp
  obtain _ | iz:=iz
  ·obtain rfl:=Option.some.inj hiz
   have e0:stz 17 = .pointer (some ⟨g,o + i * 4,none⟩):=hAz 6 (haz ⟨6,.data⟩ (by simp) rfl) h99
   have z0:=keptCell hGz.below c0
   have z1:=keptCell hGz.below c1
   have z2:=keptCell hGz.below c2
   have z3:=keptCell hGz.below c3
   refine opStep_value (v:=.agg #[.string nm,.slice fa fn fc,.slice oa on oc,.slice ha hn hc]) (w':=wz) ?_ ⟨hGz.step (Below.refl _ _) rfl _,rfl,fun k _ _ _ h=>h⟩
   simp only [execOp,evalS,e0]
   go_simp
  obtain _ | iz:=iz
  ·obtain rfl:=Option.some.inj hiz
   have hs:Lz 9=false:=by
    cases h:Lz 9 with
    | false=>rfl
    | true=>rw [hcz 9 _ h rfl ⟨8,.data⟩ (by simp) rfl] at hlz; cases hlz
   refine opStep_value (v:=.pointer (some ⟨wz.heap.size,0,none⟩)) (w':=wz.alloc (.cells #[.string ⟨#[]⟩,.slice none 0 0,.slice none 0 0,.slice none 0 0] 114)) ?_ ⟨hGz.alloc (q:=⟨8,9,7,#[.string ⟨#[]⟩,.slice none 0 0,.slice none 0 0,.slice none 0 0],#[.string nm,.slice fa fn fc,.slice oa on oc,.slice ha hn hc],114⟩) (by intro p hp; simp only [List.mem_cons,List.not_mem_nil,or_false] at hp; subst hp; intro _; rfl) rfl (Nat.ne_of_beq_eq_false rfl) hs,trivial,fun k _ _ _ h=>h⟩
   simp only [execOp]
   go_simp
  obtain _ | iz:=iz
  ·obtain rfl:=Option.some.inj hiz
   have hb:=haz ⟨8,.data⟩ (by simp) rfl
   obtain ⟨b,q1,q2,q3⟩:=hGz.box ⟨8,9,7,#[.string ⟨#[]⟩,.slice none 0 0,.slice none 0 0,.slice none 0 0],#[.string nm,.slice fa fn fc,.slice oa on oc,.slice ha hn hc],114⟩ (by simp) hb
   rw [hlz] at q3
   simp only [Bool.false_eq_true,if_false] at q3
   replace q1:stz 7=_:=q1
   have e2:stz 18 = .agg #[.string nm,.slice fa fn fc,.slice oa on oc,.slice ha hn hc]:=hAz 7 (haz ⟨7,.data⟩ (by simp) rfl) h99
   obtain ⟨x0,x1,x2,x3⟩:wz.cell? ⟨b,0,none⟩=some (.string ⟨#[]⟩)∧wz.cell? ⟨b,1,none⟩=some (.slice none 0 0)∧wz.cell? ⟨b,2,none⟩=some (.slice none 0 0)∧wz.cell? ⟨b,3,none⟩=some (.slice none 0 0):=by simp [World.cell?,q3]
   obtain ⟨y0,y1,y2,y3⟩:wz.frozen? ⟨b,0,none⟩=false∧wz.frozen? ⟨b,1,none⟩=false∧wz.frozen? ⟨b,2,none⟩=false∧wz.frozen? ⟨b,3,none⟩=false:=by simp [World.frozen?,q3]
   have g0:=heap_setCell_same _ b 0 _ 114 (.string nm) q3
   have g1:=heap_setCell_same _ b 1 _ 114 (.slice fa fn fc) g0
   have g2:=heap_setCell_same _ b 2 _ 114 (.slice oa on oc) g1
   have g3:=heap_setCell_same _ b 3 _ 114 (.slice ha hn hc) g2
   refine opStep_skip (w':=(((wz.setCell ⟨b,0,none⟩ (.string nm)).setCell ⟨b,1,none⟩ (.slice fa fn fc)).setCell ⟨b,2,none⟩ (.slice oa on oc)).setCell ⟨b,3,none⟩ (.slice ha hn hc)) ?_ ⟨hGz.store (q:=⟨8,9,7,#[.string ⟨#[]⟩,.slice none 0 0,.slice none 0 0,.slice none 0 0],#[.string nm,.slice fa fn fc,.slice oa on oc,.slice ha hn hc],114⟩) (by intro p hp; simp only [List.mem_cons,List.not_mem_nil,or_false] at hp; subst hp; intro _; rfl) rfl (by simp) (Nat.ne_of_beq_eq_false rfl) hb q1 q2 (by rw [g3]; rfl) (((((OnlyB.refl _ _).set 0 _).set 1 _).set 2 _).set 3 _) _,trivial,fun k _ _ _ h=>h⟩
   simp only [execOp,evalS,q1,e2]
   go_simp
  ·exfalso
   have hlen:iz + 10 < 10:=(List.getElem?_eq_some_iff.1 hiz).1
   omega
 ·intro Lz stz wz hGz _ hall _
  obtain ⟨b0,q0,r0,t0⟩:=hGz.box ⟨8,9,7,#[.string ⟨#[]⟩,.slice none 0 0,.slice none 0 0,.slice none 0 0],#[.string nm,.slice fa fn fc,.slice oa on oc,.slice ha hn hc],114⟩ (by simp) (hall 8 (by decide))
  rw [show Lz 9=true from hall 9 (by decide)] at t0
  exact hQ stz wz b0 hGz.below q0 r0 t0
def pickTwoOps:List Oper:=[
 ⟨some 17, .fieldAddr 114 (.tmp 4) 0, 0, "mean.go:90", #[], none⟩,
 ⟨some 18, .fieldAddr 70 (.tmp 17) 1, 0, "mean.go:90", #[⟨0, .data⟩], none⟩,
 ⟨some 19, .load 68 (.tmp 18), 68, "mean.go:90", #[⟨1, .data⟩], none⟩,
 ⟨some 20, .move (.tmp 7), 3, "mean.go:90", #[], none⟩,
 ⟨some 21, .indexAddr 68 (.tmp 19) (.tmp 20), 0, "mean.go:90", #[⟨2, .data⟩, ⟨3, .data⟩], none⟩,
 ⟨some 22, .load 66 (.tmp 21), 66, "mean.go:90", #[⟨4, .data⟩], none⟩,
 ⟨some 23, .fieldAddr 114 (.tmp 4) 1, 0, "mean.go:90", #[{ on := 13, ground := Ground.gcOnly Departure.lateStores }], none⟩,
 ⟨some 24, .load 112 (.tmp 23), 112, "mean.go:90", #[⟨6, .data⟩, { on := 13, ground := Ground.gcOnly Departure.lateStores }], none⟩,
 ⟨some 25, .move (.tmp 7), 3, "mean.go:90", #[{ on := 13, ground := Ground.gcOnly Departure.lateStores }], none⟩,
 ⟨some 26, .indexAddr 112 (.tmp 24) (.tmp 25), 0, "mean.go:90", #[⟨7, .data⟩, ⟨8, .data⟩, { on := 13, ground := Ground.gcOnly Departure.lateStores }], none⟩,
 ⟨some 27, .load 118 (.tmp 26), 118, "mean.go:90", #[⟨9, .data⟩, { on := 13, ground := Ground.gcOnly Departure.lateStores }], none⟩,
 ⟨some 8, .alloc 66, 0, "mean.go:90", #[], none⟩,
 ⟨some 9, .alloc 118, 0, "mean.go:90", #[], none⟩,
 ⟨none, .store 66 (.tmp 8) (.tmp 22), 0, "mean.go:90", #[⟨11, .data⟩, ⟨5, .data⟩, ⟨0, .phase⟩, ⟨1, .phase⟩, ⟨2, .phase⟩, ⟨3, .phase⟩, ⟨4, .phase⟩, ⟨5, .phase⟩, { on := 6, ground := Ground.textOnly Departure.lateStores }, { on := 7, ground := Ground.textOnly Departure.lateStores }, { on := 8, ground := Ground.textOnly Departure.lateStores }, { on := 9, ground := Ground.textOnly Departure.lateStores }, { on := 10, ground := Ground.textOnly Departure.lateStores }, ⟨11, .phase⟩, ⟨12, .phase⟩], none⟩,
 ⟨none, .store 118 (.tmp 9) (.tmp 27), 0, "mean.go:90", #[⟨12, .data⟩, ⟨10, .data⟩, ⟨13, .chain⟩, ⟨0, .phase⟩, ⟨1, .phase⟩, ⟨2, .phase⟩, ⟨3, .phase⟩, ⟨4, .phase⟩, ⟨5, .phase⟩, ⟨6, .phase⟩, ⟨7, .phase⟩, ⟨8, .phase⟩, ⟨9, .phase⟩, ⟨10, .phase⟩, ⟨11, .phase⟩, ⟨12, .phase⟩, ⟨13, .phase⟩], none⟩]
set_option maxRecDepth 100000 in
set_option maxHeartbeats 4000000 in
theorem pickTwo {Q:Exit→Act→World→Prop} {a0:Act} {w5:World} {bp g o fn fc g2 o2 on oc i:Nat} {fnm fty oty ofl:ByteArray} {fk sv:Int}
  (hsz : [17,18,19,20,21,22,23,24,25,26,27,8,9].all (fun d=>decide (d < a0.tmps.size))=true)
  (s4:slots a0 4 = .pointer (some ⟨bp,0,none⟩)) (s7:slots a0 7 = .int .i64 (i:Int)) (hi:i < fn) (hi2:i < on) (ca:w5.cell? ⟨bp,1,none⟩=some (.slice (some ⟨g,o,none⟩) fn fc)) (cb:w5.cell? ⟨bp,2,none⟩=some (.slice (some ⟨g2,o2,none⟩) on oc))
  (c0:w5.cell? ⟨g,o + i * 3,none⟩=some (.string fnm)) (c1:w5.cell? ⟨g,o + i * 3 + 1,none⟩=some (.int .i64 fk)) (c2:w5.cell? ⟨g,o + i * 3 + 2,none⟩=some (.string fty))
  (d0:w5.cell? ⟨g2,o2 + i * 3,none⟩=some (.int .i64 sv)) (d1:w5.cell? ⟨g2,o2 + i * 3 + 1,none⟩=some (.string oty)) (d2:w5.cell? ⟨g2,o2 + i * 3 + 2,none⟩=some (.string ofl))
  (hQ:∀ s w' b0 b1,Below w5.heap.size w5 w'→s 8 = .pointer (some ⟨b0,0,none⟩)→w5.heap.size≤b0→w'.heap[b0]? = some (.cells #[.string fnm,.int .i64 fk,.string fty] 66 (0,0))→s 9 = .pointer (some ⟨b1,0,none⟩)→w5.heap.size≤b1→w'.heap[b1]? = some (.cells #[.int .i64 sv,.string oty,.string ofl] 118 (0,0))→Q .normal (putAll a0 s [17,18,19,20,21,22,23,24,25,26,27,8,9]) w') :
  (Code.region 2 pickTwoOps.toArray true).wp Tryz.prog Q a0 w5:=by
 refine wp_region_as (by kernel_rfl) (by kernel_rfl) [17,18,19,20,21,22,23,24,25,26,27,8,9] (by kernel_rfl) hsz (by kernel_rfl) (fun _=>99) (asV [11,12,13,14] [.pointer (some ⟨bp,0,none⟩),.pointer (some ⟨bp,1,none⟩),.slice (some ⟨g,o,none⟩) fn fc,.int .i64 (i:Int),.pointer (some ⟨g,o + i * 3,none⟩),.agg #[.string fnm,.int .i64 fk,.string fty],.pointer (some ⟨bp,2,none⟩),.slice (some ⟨g2,o2,none⟩) on oc,.int .i64 (i:Int),.pointer (some ⟨g2,o2 + i * 3,none⟩),.agg #[.int .i64 sv,.string oty,.string ofl],undef,undef,undef,undef]) (boxG w5 [⟨11,13,8,#[.string ⟨#[]⟩,.int .i64 0,.string ⟨#[]⟩],#[.string fnm,.int .i64 fk,.string fty],66⟩,⟨12,14,9,#[.int .i64 0,.string ⟨#[]⟩,.string ⟨#[]⟩],#[.int .i64 sv,.string oty,.string ofl],118⟩]) boxG.start ?_ ?_
 ·intro Lz stz wz iz oz hGz hLz hcz hAz hFz hiz hlz haz
  have hi1:(i:Int) < (fn:Int):=by omega
  have hi3:(i:Int) < (on:Int):=by omega
  have hi0:(0:Int)≤(i:Int):=by omega
  have h99:Lz 99=false:=by
   cases h:Lz 99 with
   | false=>rfl
   | true=>exact absurd (hLz 99 h) (by decide)
  obtain _ | iz:=iz
  ·obtain rfl:=Option.some.inj hiz
   have e0:stz 4 = .pointer (some ⟨bp,0,none⟩):=(hFz 4 (by decide)).trans s4
   refine opStep_value (v:=.pointer (some ⟨bp,0,none⟩)) (w':=wz) ?_ ⟨hGz.step (Below.refl _ _) rfl _,rfl,fun k _ _ _ h=>h⟩
   simp only [execOp,evalS,e0]
   go_simp
  obtain _ | iz:=iz
  ·obtain rfl:=Option.some.inj hiz
   have e0:stz 17 = .pointer (some ⟨bp,0,none⟩):=hAz 0 (haz ⟨0,.data⟩ (by simp) rfl) h99
   refine opStep_value (v:=.pointer (some ⟨bp,1,none⟩)) (w':=wz) ?_ ⟨hGz.step (Below.refl _ _) rfl _,rfl,fun k _ _ _ h=>h⟩
   simp only [execOp,evalS,e0]
   go_simp
  obtain _ | iz:=iz
  ·obtain rfl:=Option.some.inj hiz
   have e0:stz 18 = .pointer (some ⟨bp,1,none⟩):=hAz 1 (haz ⟨1,.data⟩ (by simp) rfl) h99
   have z0:=keptCell hGz.below ca
   refine opStep_value (v:=.slice (some ⟨g,o,none⟩) fn fc) (w':=wz) ?_ ⟨hGz.step (Below.refl _ _) rfl _,rfl,fun k _ _ _ h=>h⟩
   simp only [execOp,evalS,e0]
   go_simp
  obtain _ | iz:=iz
  ·obtain rfl:=Option.some.inj hiz
   have e1:stz 7 = .int .i64 (i:Int):=(hFz 7 (by decide)).trans s7
   exact opStep_value (v:=stz 7) (w':=wz) rfl ⟨hGz.step (Below.refl _ _) rfl _,e1,fun k _ _ _ h=>h⟩
  obtain _ | iz:=iz
  ·obtain rfl:=Option.some.inj hiz
   have e0:stz 19 = .slice (some ⟨g,o,none⟩) fn fc:=hAz 2 (haz ⟨2,.data⟩ (by simp) rfl) h99
   have e1:stz 20 = .int .i64 (i:Int):=hAz 3 (haz ⟨3,.data⟩ (by simp) rfl) h99
   refine opStep_value (v:=.pointer (some ⟨g,o + i * 3,none⟩)) (w':=wz) ?_ ⟨hGz.step (Below.refl _ _) rfl _,rfl,fun k _ _ _ h=>h⟩
   simp only [execOp,evalS,e0,e1]
   go_simp
  obtain _ | iz:=iz
  ·obtain rfl:=Option.some.inj hiz
   have e0:stz 21 = .pointer (some ⟨g,o + i * 3,none⟩):=hAz 4 (haz ⟨4,.data⟩ (by simp) rfl) h99
   have z0:=keptCell hGz.below c0
   have z1:=keptCell hGz.below c1
   have z2:=keptCell hGz.below c2
   refine opStep_value (v:=.agg #[.string fnm,.int .i64 fk,.string fty]) (w':=wz) ?_ ⟨hGz.step (Below.refl _ _) rfl _,rfl,fun k _ _ _ h=>h⟩
   simp only [execOp,evalS,e0]
   go_simp
  obtain _ | iz:=iz
  ·obtain rfl:=Option.some.inj hiz
   have e0:stz 4 = .pointer (some ⟨bp,0,none⟩):=(hFz 4 (by decide)).trans s4
   refine opStep_value (v:=.pointer (some ⟨bp,2,none⟩)) (w':=wz) ?_ ⟨hGz.step (Below.refl _ _) rfl _,rfl,fun k _ _ _ h=>h⟩
   simp only [execOp,evalS,e0]
   go_simp
  obtain _ | iz:=iz
  ·obtain rfl:=Option.some.inj hiz
   have e0:stz 23 = .pointer (some ⟨bp,2,none⟩):=hAz 6 (haz ⟨6,.data⟩ (by simp) rfl) h99
   have z0:=keptCell hGz.below cb
   refine opStep_value (v:=.slice (some ⟨g2,o2,none⟩) on oc) (w':=wz) ?_ ⟨hGz.step (Below.refl _ _) rfl _,rfl,fun k _ _ _ h=>h⟩
   simp only [execOp,evalS,e0]
   go_simp
  obtain _ | iz:=iz
  ·obtain rfl:=Option.some.inj hiz
   have e1:stz 7 = .int .i64 (i:Int):=(hFz 7 (by decide)).trans s7
   exact opStep_value (v:=stz 7) (w':=wz) rfl ⟨hGz.step (Below.refl _ _) rfl _,e1,fun k _ _ _ h=>h⟩
  obtain _ | iz:=iz
  ·obtain rfl:=Option.some.inj hiz
   have e0:stz 24 = .slice (some ⟨g2,o2,none⟩) on oc:=hAz 7 (haz ⟨7,.data⟩ (by simp) rfl) h99
   have e1:stz 25 = .int .i64 (i:Int):=hAz 8 (haz ⟨8,.data⟩ (by simp) rfl) h99
   refine opStep_value (v:=.pointer (some ⟨g2,o2 + i * 3,none⟩)) (w':=wz) ?_ ⟨hGz.step (Below.refl _ _) rfl _,rfl,fun k _ _ _ h=>h⟩
   simp only [execOp,evalS,e0,e1]
   go_simp
  obtain _ | iz:=iz
  ·obtain rfl:=Option.some.inj hiz
   have e0:stz 26 = .pointer (some ⟨g2,o2 + i * 3,none⟩):=hAz 9 (haz ⟨9,.data⟩ (by simp) rfl) h99
   have z0:=keptCell hGz.below d0
   have z1:=keptCell hGz.below d1
   have z2:=keptCell hGz.below d2
   refine opStep_value (v:=.agg #[.int .i64 sv,.string oty,.string ofl]) (w':=wz) ?_ ⟨hGz.step (Below.refl _ _) rfl _,rfl,fun k _ _ _ h=>h⟩
   simp only [execOp,evalS,e0]
   go_simp
  obtain _ | iz:=iz
  ·obtain rfl:=Option.some.inj hiz
   have hs:Lz 13=false:=by
    cases h:Lz 13 with
    | false=>rfl
    | true=>rw [hcz 13 _ h rfl ⟨11,.data⟩ (by simp) rfl] at hlz; cases hlz
   refine opStep_value (v:=.pointer (some ⟨wz.heap.size,0,none⟩)) (w':=wz.alloc (.cells #[.string ⟨#[]⟩,.int .i64 0,.string ⟨#[]⟩] 66)) ?_ ⟨hGz.alloc (q:=⟨11,13,8,#[.string ⟨#[]⟩,.int .i64 0,.string ⟨#[]⟩],#[.string fnm,.int .i64 fk,.string fty],66⟩) (by intro p hp; simp only [List.mem_cons,List.not_mem_nil,or_false] at hp; rcases hp with rfl | rfl <;> intro h <;> first | rfl | exact absurd h (Nat.ne_of_beq_eq_false rfl)) rfl (Nat.ne_of_beq_eq_false rfl) hs,trivial,fun k _ _ _ h=>h⟩
   simp only [execOp]
   go_simp
  obtain _ | iz:=iz
  ·obtain rfl:=Option.some.inj hiz
   have hs:Lz 14=false:=by
    cases h:Lz 14 with
    | false=>rfl
    | true=>rw [hcz 14 _ h rfl ⟨12,.data⟩ (by simp) rfl] at hlz; cases hlz
   refine opStep_value (v:=.pointer (some ⟨wz.heap.size,0,none⟩)) (w':=wz.alloc (.cells #[.int .i64 0,.string ⟨#[]⟩,.string ⟨#[]⟩] 118)) ?_ ⟨hGz.alloc (q:=⟨12,14,9,#[.int .i64 0,.string ⟨#[]⟩,.string ⟨#[]⟩],#[.int .i64 sv,.string oty,.string ofl],118⟩) (by intro p hp; simp only [List.mem_cons,List.not_mem_nil,or_false] at hp; rcases hp with rfl | rfl <;> intro h <;> first | rfl | exact absurd h (Nat.ne_of_beq_eq_false rfl)) rfl (Nat.ne_of_beq_eq_false rfl) hs,trivial,fun k _ _ _ h=>h⟩
   simp only [execOp]
   go_simp
  obtain _ | iz:=iz
  ·obtain rfl:=Option.some.inj hiz
   have hb:=haz ⟨11,.data⟩ (by simp) rfl
   obtain ⟨b,q1,q2,q3⟩:=hGz.box ⟨11,13,8,#[.string ⟨#[]⟩,.int .i64 0,.string ⟨#[]⟩],#[.string fnm,.int .i64 fk,.string fty],66⟩ (by simp) hb
   rw [hlz] at q3
   simp only [Bool.false_eq_true,if_false] at q3
   replace q1:stz 8=_:=q1
   have e2:stz 22 = .agg #[.string fnm,.int .i64 fk,.string fty]:=hAz 5 (haz ⟨5,.data⟩ (by simp) rfl) h99
   obtain ⟨x0,x1,x2⟩:wz.cell? ⟨b,0,none⟩=some (.string ⟨#[]⟩)∧wz.cell? ⟨b,1,none⟩=some (.int .i64 0)∧wz.cell? ⟨b,2,none⟩=some (.string ⟨#[]⟩):=by simp [World.cell?,q3]
   obtain ⟨y0,y1,y2⟩:wz.frozen? ⟨b,0,none⟩=false∧wz.frozen? ⟨b,1,none⟩=false∧wz.frozen? ⟨b,2,none⟩=false:=by simp [World.frozen?,q3]
   have g0:=heap_setCell_same _ b 0 _ 66 (.string fnm) q3
   have g1:=heap_setCell_same _ b 1 _ 66 (.int .i64 fk) g0
   have g2:=heap_setCell_same _ b 2 _ 66 (.string fty) g1
   refine opStep_skip (w':=((wz.setCell ⟨b,0,none⟩ (.string fnm)).setCell ⟨b,1,none⟩ (.int .i64 fk)).setCell ⟨b,2,none⟩ (.string fty)) ?_ ⟨hGz.store (q:=⟨11,13,8,#[.string ⟨#[]⟩,.int .i64 0,.string ⟨#[]⟩],#[.string fnm,.int .i64 fk,.string fty],66⟩) (by intro p hp; simp only [List.mem_cons,List.not_mem_nil,or_false] at hp; rcases hp with rfl | rfl <;> intro h <;> first | rfl | exact absurd h (Nat.ne_of_beq_eq_false rfl)) rfl (by simp) (Nat.ne_of_beq_eq_false rfl) hb q1 q2 (by rw [g2]; rfl) ((((OnlyB.refl _ _).set 0 _).set 1 _).set 2 _) _,trivial,fun k _ _ _ h=>h⟩
   simp only [execOp,evalS,q1,e2]
   go_simp
  obtain _ | iz:=iz
  ·obtain rfl:=Option.some.inj hiz
   have hb:=haz ⟨12,.data⟩ (by simp) rfl
   obtain ⟨b,q1,q2,q3⟩:=hGz.box ⟨12,14,9,#[.int .i64 0,.string ⟨#[]⟩,.string ⟨#[]⟩],#[.int .i64 sv,.string oty,.string ofl],118⟩ (by simp) hb
   rw [hlz] at q3
   simp only [Bool.false_eq_true,if_false] at q3
   replace q1:stz 9=_:=q1
   have e2:stz 27 = .agg #[.int .i64 sv,.string oty,.string ofl]:=hAz 10 (haz ⟨10,.data⟩ (by simp) rfl) h99
   obtain ⟨x0,x1,x2⟩:wz.cell? ⟨b,0,none⟩=some (.int .i64 0)∧wz.cell? ⟨b,1,none⟩=some (.string ⟨#[]⟩)∧wz.cell? ⟨b,2,none⟩=some (.string ⟨#[]⟩):=by simp [World.cell?,q3]
   obtain ⟨y0,y1,y2⟩:wz.frozen? ⟨b,0,none⟩=false∧wz.frozen? ⟨b,1,none⟩=false∧wz.frozen? ⟨b,2,none⟩=false:=by simp [World.frozen?,q3]
   have g0:=heap_setCell_same _ b 0 _ 118 (.int .i64 sv) q3
   have g1:=heap_setCell_same _ b 1 _ 118 (.string oty) g0
   have g2:=heap_setCell_same _ b 2 _ 118 (.string ofl) g1
   refine opStep_skip (w':=((wz.setCell ⟨b,0,none⟩ (.int .i64 sv)).setCell ⟨b,1,none⟩ (.string oty)).setCell ⟨b,2,none⟩ (.string ofl)) ?_ ⟨hGz.store (q:=⟨12,14,9,#[.int .i64 0,.string ⟨#[]⟩,.string ⟨#[]⟩],#[.int .i64 sv,.string oty,.string ofl],118⟩) (by intro p hp; simp only [List.mem_cons,List.not_mem_nil,or_false] at hp; rcases hp with rfl | rfl <;> intro h <;> first | rfl | exact absurd h (Nat.ne_of_beq_eq_false rfl)) rfl (by simp) (Nat.ne_of_beq_eq_false rfl) hb q1 q2 (by rw [g2]; rfl) ((((OnlyB.refl _ _).set 0 _).set 1 _).set 2 _) _,trivial,fun k _ _ _ h=>h⟩
   simp only [execOp,evalS,q1,e2]
   go_simp
  ·exfalso
   have hlen:iz + 15 < 15:=(List.getElem?_eq_some_iff.1 hiz).1
   omega
 ·intro Lz stz wz hGz _ hall _
  obtain ⟨b0,q0,r0,t0⟩:=hGz.box ⟨11,13,8,#[.string ⟨#[]⟩,.int .i64 0,.string ⟨#[]⟩],#[.string fnm,.int .i64 fk,.string fty],66⟩ (by simp) (hall 11 (by decide))
  rw [show Lz 13=true from hall 13 (by decide)] at t0
  obtain ⟨b1,q1,r1,t1⟩:=hGz.box ⟨12,14,9,#[.int .i64 0,.string ⟨#[]⟩,.string ⟨#[]⟩],#[.int .i64 sv,.string oty,.string ofl],118⟩ (by simp) (hall 12 (by decide))
  rw [show Lz 14=true from hall 14 (by decide)] at t1
  exact hQ stz wz b0 b1 hGz.below q0 r0 t0 q1 r1 t1
def pickNewOps:List Oper:=[
 ⟨some 11, .load 76 (.tmp 1), 76, "mean.go:93", #[], none⟩,
 ⟨some 12, .call { callee := Callee.value (.func 67), args := #[.tmp 11], argTypes := #[76] }, 9, "mean.go:93", #[⟨0, .data⟩], none⟩,
 ⟨some 13, .fieldAddr 66 (.tmp 2) 1, 0, "mean.go:93", #[], none⟩,
 ⟨some 14, .load 3 (.tmp 13), 3, "mean.go:93", #[⟨2, .data⟩], none⟩,
 ⟨some 15, .build 56 #[(0, .tmp 12), (1, .tmp 14)], 56, "mean.go:93", #[⟨1, .data⟩, ⟨3, .data⟩], none⟩,
 ⟨some 8, .alloc 56, 0, "mean.go:93", #[], none⟩,
 ⟨none, .store 56 (.tmp 8) (.tmp 15), 0, "mean.go:93", #[⟨5, .data⟩, ⟨4, .data⟩, ⟨1, .chain⟩, ⟨0, .phase⟩, ⟨1, .phase⟩, ⟨2, .phase⟩, ⟨3, .phase⟩, ⟨4, .phase⟩, ⟨5, .phase⟩], none⟩]
set_option maxRecDepth 100000 in
set_option maxHeartbeats 4000000 in
theorem pickNew {Q:Exit→Act→World→Prop} {a0:Act} {w5:World} {bp bf pn pc:Nat} {A:Option Addr} {nk pf nm:ByteArray} {kd:Int}
  (hsz : [11,12,13,14,15,8].all (fun d=>decide (d < a0.tmps.size))=true)
  (s1:slots a0 1 = .pointer (some ⟨bp,0,none⟩)) (s2:slots a0 2 = .pointer (some ⟨bf,0,none⟩)) (c0:w5.cell? ⟨bp,0,none⟩=some (.string nk)) (c1:w5.cell? ⟨bp,1,none⟩=some (.string pf)) (c2:w5.cell? ⟨bp,2,none⟩=some (.slice A pn pc)) (cf:w5.cell? ⟨bf,1,none⟩=some (.int .i64 kd))
  (hcall:∀ w1,Below w5.heap.size w5 w1→Calls Tryz.prog 67 #[.agg #[.string nk,.string pf,.slice A pn pc]] w1 fun e w'=>e = .returned (.string nm)∧Below w1.heap.size w1 w')
  (hQ:∀ s w' b0,Below w5.heap.size w5 w'→s 8 = .pointer (some ⟨b0,0,none⟩)→w5.heap.size≤b0→w'.heap[b0]? = some (.cells #[.string nm,.int .i64 kd,.bool false,.string ⟨#[]⟩,.slice none 0 0,.slice none 0 0] 56 (0,0))→Q .normal (putAll a0 s [11,12,13,14,15,8]) w') :
  (Code.region 1 pickNewOps.toArray true).wp Tryz.prog Q a0 w5:=by
 refine wp_region_as (by kernel_rfl) (by kernel_rfl) [11,12,13,14,15,8] (by kernel_rfl) hsz (by kernel_rfl) (fun _=>99) (asV [5,6] [.agg #[.string nk,.string pf,.slice A pn pc],.string nm,.pointer (some ⟨bf,1,none⟩),.int .i64 kd,.agg #[.string nm,.int .i64 kd,.bool false,.string ⟨#[]⟩,.slice none 0 0,.slice none 0 0],undef,undef]) (boxG w5 [⟨5,6,8,#[.string ⟨#[]⟩,.int .i64 0,.bool false,.string ⟨#[]⟩,.slice none 0 0,.slice none 0 0],#[.string nm,.int .i64 kd,.bool false,.string ⟨#[]⟩,.slice none 0 0,.slice none 0 0],56⟩]) boxG.start ?_ ?_
 ·intro Lz stz wz iz oz hGz hLz hcz hAz hFz hiz hlz haz
  have h99:Lz 99=false:=by
   cases h:Lz 99 with
   | false=>rfl
   | true=>exact absurd (hLz 99 h) (by decide)
  obtain _ | iz:=iz
  ·obtain rfl:=Option.some.inj hiz
   have e0:stz 1 = .pointer (some ⟨bp,0,none⟩):=(hFz 1 (by decide)).trans s1
   have z0:=keptCell hGz.below c0
   have z1:=keptCell hGz.below c1
   have z2:=keptCell hGz.below c2
   refine opStep_value (v:=.agg #[.string nk,.string pf,.slice A pn pc]) (w':=wz) ?_ ⟨hGz.step (Below.refl _ _) rfl _,rfl,fun k _ _ _ h=>h⟩
   simp only [execOp,evalS,e0]
   go_simp
  obtain _ | iz:=iz
  ·obtain rfl:=Option.some.inj hiz
   have e0:stz 11 = .agg #[.string nk,.string pf,.slice A pn pc]:=hAz 0 (haz ⟨0,.data⟩ (by simp) rfl) h99
   refine opStep_fn 67 #[.tmp 11] #[76] rfl (enters_of Tryz.func67 (by kernel_rfl) rfl) #[.agg #[.string nk,.string pf,.slice A pn pc]] (by simp [evalS,e0]) ((hcall wz hGz.below).mono fun e w' h=>?_)
   obtain ⟨rfl,hw'⟩:=h
   exact ⟨_,rfl,hGz.step hw' rfl _,rfl,fun k _ _ _ h=>h⟩
  obtain _ | iz:=iz
  ·obtain rfl:=Option.some.inj hiz
   have e0:stz 2 = .pointer (some ⟨bf,0,none⟩):=(hFz 2 (by decide)).trans s2
   refine opStep_value (v:=.pointer (some ⟨bf,1,none⟩)) (w':=wz) ?_ ⟨hGz.step (Below.refl _ _) rfl _,rfl,fun k _ _ _ h=>h⟩
   simp only [execOp,evalS,e0]
   go_simp
  obtain _ | iz:=iz
  ·obtain rfl:=Option.some.inj hiz
   have e0:stz 13 = .pointer (some ⟨bf,1,none⟩):=hAz 2 (haz ⟨2,.data⟩ (by simp) rfl) h99
   have z0:=keptCell hGz.below cf
   refine opStep_value (v:=.int .i64 kd) (w':=wz) ?_ ⟨hGz.step (Below.refl _ _) rfl _,rfl,fun k _ _ _ h=>h⟩
   simp only [execOp,evalS,e0]
   go_simp
  obtain _ | iz:=iz
  ·obtain rfl:=Option.some.inj hiz
   have e0:stz 12 = .string nm:=hAz 1 (haz ⟨1,.data⟩ (by simp) rfl) h99
   have e1:stz 14 = .int .i64 kd:=hAz 3 (haz ⟨3,.data⟩ (by simp) rfl) h99
   refine opStep_value (v:=.agg #[.string nm,.int .i64 kd,.bool false,.string ⟨#[]⟩,.slice none 0 0,.slice none 0 0]) (w':=wz) ?_ ⟨hGz.step (Below.refl _ _) rfl _,rfl,fun k _ _ _ h=>h⟩
   simp only [execOp,evalS]
   go_simp
  obtain _ | iz:=iz
  ·obtain rfl:=Option.some.inj hiz
   have hs:Lz 6=false:=by
    cases h:Lz 6 with
    | false=>rfl
    | true=>rw [hcz 6 _ h rfl ⟨5,.data⟩ (by simp) rfl] at hlz; cases hlz
   refine opStep_value (v:=.pointer (some ⟨wz.heap.size,0,none⟩)) (w':=wz.alloc (.cells #[.string ⟨#[]⟩,.int .i64 0,.bool false,.string ⟨#[]⟩,.slice none 0 0,.slice none 0 0] 56)) ?_ ⟨hGz.alloc (q:=⟨5,6,8,#[.string ⟨#[]⟩,.int .i64 0,.bool false,.string ⟨#[]⟩,.slice none 0 0,.slice none 0 0],#[.string nm,.int .i64 kd,.bool false,.string ⟨#[]⟩,.slice none 0 0,.slice none 0 0],56⟩) (by intro p hp; simp only [List.mem_cons,List.not_mem_nil,or_false] at hp; subst hp; intro _; rfl) rfl (Nat.ne_of_beq_eq_false rfl) hs,trivial,fun k _ _ _ h=>h⟩
   simp only [execOp]
   go_simp
  obtain _ | iz:=iz
  ·obtain rfl:=Option.some.inj hiz
   have hb:=haz ⟨5,.data⟩ (by simp) rfl
   obtain ⟨b,q1,q2,q3⟩:=hGz.box ⟨5,6,8,#[.string ⟨#[]⟩,.int .i64 0,.bool false,.string ⟨#[]⟩,.slice none 0 0,.slice none 0 0],#[.string nm,.int .i64 kd,.bool false,.string ⟨#[]⟩,.slice none 0 0,.slice none 0 0],56⟩ (by simp) hb
   rw [hlz] at q3
   simp only [Bool.false_eq_true,if_false] at q3
   replace q1:stz 8=_:=q1
   have e2:stz 15 = .agg #[.string nm,.int .i64 kd,.bool false,.string ⟨#[]⟩,.slice none 0 0,.slice none 0 0]:=hAz 4 (haz ⟨4,.data⟩ (by simp) rfl) h99
   obtain ⟨x0,x1,x2,x3,x4,x5⟩:wz.cell? ⟨b,0,none⟩=some (.string ⟨#[]⟩)∧wz.cell? ⟨b,1,none⟩=some (.int .i64 0)∧wz.cell? ⟨b,2,none⟩=some (.bool false)∧wz.cell? ⟨b,3,none⟩=some (.string ⟨#[]⟩)∧wz.cell? ⟨b,4,none⟩=some (.slice none 0 0)∧wz.cell? ⟨b,5,none⟩=some (.slice none 0 0):=by simp [World.cell?,q3]
   obtain ⟨y0,y1,y2,y3,y4,y5⟩:wz.frozen? ⟨b,0,none⟩=false∧wz.frozen? ⟨b,1,none⟩=false∧wz.frozen? ⟨b,2,none⟩=false∧wz.frozen? ⟨b,3,none⟩=false∧wz.frozen? ⟨b,4,none⟩=false∧wz.frozen? ⟨b,5,none⟩=false:=by simp [World.frozen?,q3]
   have g0:=heap_setCell_same _ b 0 _ 56 (.string nm) q3
   have g1:=heap_setCell_same _ b 1 _ 56 (.int .i64 kd) g0
   have g2:=heap_setCell_same _ b 2 _ 56 (.bool false) g1
   have g3:=heap_setCell_same _ b 3 _ 56 (.string ⟨#[]⟩) g2
   have g4:=heap_setCell_same _ b 4 _ 56 (.slice none 0 0) g3
   have g5:=heap_setCell_same _ b 5 _ 56 (.slice none 0 0) g4
   refine opStep_skip (w':=(((((wz.setCell ⟨b,0,none⟩ (.string nm)).setCell ⟨b,1,none⟩ (.int .i64 kd)).setCell ⟨b,2,none⟩ (.bool false)).setCell ⟨b,3,none⟩ (.string ⟨#[]⟩)).setCell ⟨b,4,none⟩ (.slice none 0 0)).setCell ⟨b,5,none⟩ (.slice none 0 0)) ?_ ⟨hGz.store (q:=⟨5,6,8,#[.string ⟨#[]⟩,.int .i64 0,.bool false,.string ⟨#[]⟩,.slice none 0 0,.slice none 0 0],#[.string nm,.int .i64 kd,.bool false,.string ⟨#[]⟩,.slice none 0 0,.slice none 0 0],56⟩) (by intro p hp; simp only [List.mem_cons,List.not_mem_nil,or_false] at hp; subst hp; intro _; rfl) rfl (by simp) (Nat.ne_of_beq_eq_false rfl) hb q1 q2 (by rw [g5]; rfl) (((((((OnlyB.refl _ _).set 0 _).set 1 _).set 2 _).set 3 _).set 4 _).set 5 _) _,trivial,fun k _ _ _ h=>h⟩
   simp only [execOp,evalS,q1,e2]
   go_simp
  ·exfalso
   have hlen:iz + 7 < 7:=(List.getElem?_eq_some_iff.1 hiz).1
   omega
 ·intro Lz stz wz hGz _ hall _
  obtain ⟨b0,q0,r0,t0⟩:=hGz.box ⟨5,6,8,#[.string ⟨#[]⟩,.int .i64 0,.bool false,.string ⟨#[]⟩,.slice none 0 0,.slice none 0 0],#[.string nm,.int .i64 kd,.bool false,.string ⟨#[]⟩,.slice none 0 0,.slice none 0 0],56⟩ (by simp) (hall 5 (by decide))
  rw [show Lz 6=true from hall 6 (by decide)] at t0
  exact hQ stz wz b0 hGz.below q0 r0 t0
end Go.Proofs.YtjjggefmmeminacGreat
namespace Go.Proofs.YtjjggefmmeminacGreat
open Go.RowKit Go.Sort
def pickFillOps:List Oper:=[
 { dst := some 25, op := Op.load 169 (Operand.tmp 5), type := 169, pos := "mean.go:96", after := #[], guard := none },
 ⟨some 26, .move (.tmp 9), 60, "mean.go:96", #[], none⟩,
 ⟨some 27, .fieldAddr 118 (.tmp 4) 2, 0, "mean.go:96", #[], none⟩,
 ⟨some 28, .load 9 (.tmp 27), 9, "mean.go:96", #[⟨2, .data⟩], none⟩,
 ⟨some 29, .call { callee := Callee.value (.func 80), args := #[.tmp 26, .tmp 28], argTypes := #[60, 9] }, 59, "mean.go:96", #[⟨1, .data⟩, ⟨3, .data⟩], none⟩,
 ⟨some 30, .call { callee := Callee.value (.tmp 25), args := #[.tmp 8, .tmp 29], argTypes := #[172, 59] }, 0, "mean.go:96", #[⟨0, .data⟩, ⟨4, .data⟩, ⟨4, .chain⟩], none⟩]
set_option maxRecDepth 100000 in
set_option maxHeartbeats 4000000 in
theorem pickFill {Q:Exit→Act→World→Prop} {a0:Act} {w5:World} {R:World→Prop} {bi bo b n cap K:Nat} {a:Option Addr} {fld:ByteArray} {x:LVal} {caps:Array Value}
  (hsz : [25,26,27,28,29,30].all (fun d=>decide (d < a0.tmps.size))=true)
  (s5:slots a0 5 = .pointer (some ⟨bi,0,none⟩)) (s9:slots a0 9 = .slice a n cap) (s4:slots a0 4 = .pointer (some ⟨bo,0,none⟩)) (s8:slots a0 8 = .pointer (some ⟨b,0,none⟩))
  (cf:w5.cell? ⟨bi,0,none⟩=some (.func (.func K) #[] caps)) (eK:∀ args w,(callFunc K args).run Tryz.prog w = .ok (.enter K args) w) (co:w5.cell? ⟨bo,2,none⟩=some (.string fld))
  (hval:∀ w1,Below w5.heap.size w5 w1→Calls Tryz.prog 80 #[.slice a n cap,.string fld] w1 fun e w'=>e = .returned (valA x)∧Below w1.heap.size w1 w')
  (hfill:∀ w1,Below w5.heap.size w5 w1→Calls Tryz.prog K (#[.pointer (some ⟨b,0,none⟩),valA x] ++ caps) w1 fun e w'=>e = .returned (.tuple #[])∧R w')
  (hQ:∀ s w',R w'→Q .normal (putAll a0 s [25,26,27,28,29,30]) w') :
  (Code.region 4 pickFillOps.toArray true).wp Tryz.prog Q a0 w5:=by
 refine wp_region_as (by kernel_rfl) (by kernel_rfl) [25,26,27,28,29,30] (by kernel_rfl) hsz (by kernel_rfl) (fun _=>99) (asV [5] [.func (.func K) #[] caps,.slice a n cap,.pointer (some ⟨bo,2,none⟩),.string fld,valA x]) (fun L _ w=>(L 5=false→Below w5.heap.size w5 w)∧(L 5=true→R w)) ⟨fun _=>(Below.refl _ _).drew,fun h=>by cases h⟩ ?_ ?_
 ·intro L st wz i o hG hL hcl hA hF hi' hl ha
  have h99:L 99=false:=L99 hL (by decide)
  have u0:L 5=true→L 0=true:=fun h=>hcl 5 _ h rfl ⟨0,.data⟩ (by simp) rfl
  have u4:L 5=true→L 4=true:=fun h=>hcl 5 _ h rfl ⟨4,.data⟩ (by simp) rfl
  have u3:L 4=true→L 3=true:=fun h=>hcl 4 _ h rfl ⟨3,.data⟩ (by simp) rfl
  have same:∀ i,i≠5→((also L i 5=false→Below w5.heap.size w5 wz)∧(also L i 5=true→R wz)):=fun i hi=>by rw [also_no (Ne.symm hi)]; exact hG
  obtain _ | i:=i
  ·obtain rfl:=Option.some.inj hi'
   have e1:st 5 = .pointer (some ⟨bi,0,none⟩):=(hF 5 (by decide)).trans s5
   have z0:=keptCell (hG.1 (L_not u0 hl)) cf
   refine opStep_value (v:=.func (.func K) #[] caps) (w':=wz) ?_ ⟨same 0 (by decide),rfl,fun k _ _ _ h=>h⟩
   simp only [execOp,evalS,e1]
   go_simp
  obtain _ | i:=i
  ·obtain rfl:=Option.some.inj hi'
   have e1:st 9 = .slice a n cap:=(hF 9 (by decide)).trans s9
   exact opStep_value (v:=st 9) (w':=wz) rfl ⟨same 1 (by decide),e1,fun k _ _ _ h=>h⟩
  obtain _ | i:=i
  ·obtain rfl:=Option.some.inj hi'
   have e1:st 4 = .pointer (some ⟨bo,0,none⟩):=(hF 4 (by decide)).trans s4
   refine opStep_value (v:=.pointer (some ⟨bo,2,none⟩)) (w':=wz) ?_ ⟨same 2 (by decide),rfl,fun k _ _ _ h=>h⟩
   simp only [execOp,evalS,e1]
   go_simp
  obtain _ | i:=i
  ·obtain rfl:=Option.some.inj hi'
   have e1:st 27 = .pointer (some ⟨bo,2,none⟩):=hA 2 (ha ⟨2,.data⟩ (by simp) rfl) h99
   have z0:=keptCell (hG.1 (L_not (fun h=>u3 (u4 h)) hl)) co
   refine opStep_value (v:=.string fld) (w':=wz) ?_ ⟨same 3 (by decide),rfl,fun k _ _ _ h=>h⟩
   simp only [execOp,evalS,e1]
   go_simp
  obtain _ | i:=i
  ·obtain rfl:=Option.some.inj hi'
   have e1:st 26 = .slice a n cap:=hA 1 (ha ⟨1,.data⟩ (by simp) rfl) h99
   have e2:st 28 = .string fld:=hA 3 (ha ⟨3,.data⟩ (by simp) rfl) h99
   have h5:L 5=false:=L_not u4 hl
   have hB:=hG.1 h5
   refine opStep_fn 80 #[.tmp 26,.tmp 28] #[60,9] rfl (enters_of Tryz.func80 (by kernel_rfl) rfl) #[.slice a n cap,.string fld] (by simp [evalS,e1,e2]) ((hval wz hB).mono fun e w' h=>?_)
   obtain ⟨rfl,hw'⟩:=h
   refine ⟨_,rfl,⟨fun _=>hB.trans (hw'.mono hB.size),fun h=>?_⟩,rfl,fun k _ _ _ h=>h⟩
   rw [also_no (by decide),h5] at h; cases h
  obtain _ | i:=i
  ·obtain rfl:=Option.some.inj hi'
   have e1:st 25 = .func (.func K) #[] caps:=hA 0 (ha ⟨0,.data⟩ (by simp) rfl) h99
   have e2:st 29=valA x:=hA 4 (ha ⟨4,.data⟩ (by simp) rfl) h99
   have e3:st 8 = .pointer (some ⟨b,0,none⟩):=(hF 8 (by decide)).trans s8
   refine opStep_val 25 K caps #[.tmp 8,.tmp 29] #[172,59] rfl e1 eK #[.pointer (some ⟨b,0,none⟩),valA x] (by simp [evalS,e2,e3]) ((hfill wz (hG.1 hl)).mono fun e w' h=>?_)
   obtain ⟨rfl,hw'⟩:=h
   exact ⟨_,rfl,⟨fun h=>(by rw [also_yes] at h; cases h),fun _=>hw'⟩,trivial,fun k _ _ _ h=>h⟩
  ·exfalso
   have hlen:i + 6 < 6:=(List.getElem?_eq_some_iff.1 hi').1
   omega
 ·intro L st wz hG _ hall _
  exact hQ st wz (hG.2 (hall 5 (by decide)))
def eachMoreOps:List Oper:=[
 ⟨some 25, .load 138 (.tmp 8), 138, "mean.go:66", #[], none⟩,
 ⟨some 26, .load 98 (.tmp 3), 98, "mean.go:66", #[], none⟩,
 ⟨some 27, .load 114 (.tmp 7), 114, "mean.go:66", #[], none⟩,
 ⟨some 28, .load 76 (.tmp 10), 76, "mean.go:66", #[], none⟩,
 ⟨some 29, .call { callee := Callee.value (.func 54), args := #[.tmp 26, .tmp 27, .tmp 28], argTypes := #[98, 114, 76] }, 139, "mean.go:66", #[⟨1, .data⟩, ⟨2, .data⟩, ⟨3, .data⟩], none⟩,
 ⟨some 30, .buildSlice 138 1 #[(0, .tmp 29)], 138, "mean.go:66", #[⟨4, .data⟩], none⟩,
 ⟨some 31, .call { callee := Callee.builtin Builtin.append, args := #[.tmp 25, .tmp 30], argTypes := #[138, 138] }, 138, "mean.go:66", #[⟨0, .data⟩, ⟨5, .data⟩, ⟨4, .chain⟩], none⟩,
 ⟨none, .store 138 (.tmp 8) (.tmp 31), 0, "mean.go:66", #[⟨6, .data⟩, ⟨6, .chain⟩, ⟨0, .phase⟩, ⟨1, .phase⟩, ⟨2, .phase⟩, ⟨3, .phase⟩, ⟨4, .phase⟩, ⟨5, .phase⟩, ⟨6, .phase⟩], none⟩]
def R6 (w5:World) (N0 d:Nat) (g:ByteArray→Got (d + 1)) (base k:Nat) (fv:Nat→Value) (old v:Value) (w:World):Prop := ∃ X nv,Below w5.heap.size w5 X∧PickFn (mid N0 w5.heap.size) X nv d g∧w.ownsRow base 139 1 v (k + 1) ((List.range (k * 1)).map fv ++ [nv])∧X.grownBy w old.ownBlock∧(v.ownBlock=old.ownBlock∨v.ownBlock=some X.heap.size)
def A6 (w5:World) (N0 d be:Nat) (g:ByteArray→Got (d + 1)) (base n:Nat) (fv:Nat→Value) (old:Value) (vals:List Value) (_:Nat→Bool) (k:Nat) (x:Value) (w:World):Prop :=
 if k=4 then PickFn (mid N0 w5.heap.size) w x d g else
 if k=5 then ∃ b nv,x = .slice (some ⟨b,0,none⟩) 1 1∧w.heap[b]? = some (.cells #[nv] 139 (0,0))∧PickFn (mid N0 w5.heap.size) w nv d g else
 if k=6 then R6 w5 N0 d g base n fv old x w else
 if k=7 then ∃ w' v',R6 w5 N0 d g base n fv old v' w'∧w=w'.setCell ⟨be,0,none⟩ v' else x=vals.getD k undef
theorem A6_pure {w5:World} {N0 d be:Nat} {g:ByteArray→Got (d + 1)} {base n:Nat} {fv:Nat→Value} {old:Value} {vals:List Value} {L L':Nat→Bool} {k:Nat} {x:Value} {w w':World} (h0:k≠4) (h1:k≠5) (h2:k≠6) (h3:k≠7) (h:A6 w5 N0 d be g base n fv old vals L k x w):A6 w5 N0 d be g base n fv old vals L' k x w':=by
 unfold A6 at *
 rw [if_neg h0,if_neg h1,if_neg h2,if_neg h3] at *
 exact h
def con6 (k:Nat):Nat:=if k=4 then 5 else if k=5 then 6 else if k=6 then 7 else 99
theorem Tryz.info139:(Tryz.prog.info? 139).map (fun i=>(i.zero,i.size,i.bytes))=some (some .nilFunc,1,8):=by kernel_rfl
set_option maxRecDepth 100000 in
set_option maxHeartbeats 4000000 in
theorem eachMore {Q:Exit→Act→World→Prop} {a0:Act} {w5:World} {N0 d be bw bp bk base k ec pn pc fn fc on oc hn hc kn kc:Nat} {ea pa fa oa ha9 ka:Option Addr} {vv:Value} {nm nk pf:ByteArray} {fv:Nat→Value} {g:ByteArray→Got (d + 1)} {i0:TypeInfo}
  (hi0:Tryz.prog.info? 139=some i0) (hz0:i0.zero=some .nilFunc) (hz1:i0.size=1) (hz2:i0.bytes=8)
  (hsz : [25,26,27,28,29,30,31].all (fun d=>decide (d < a0.tmps.size))=true) (hk:k≤60) (hbase:base≤w5.heap.size)
  (s8:slots a0 8 = .pointer (some ⟨be,0,none⟩)) (s3:slots a0 3 = .pointer (some ⟨bw,0,none⟩)) (s7:slots a0 7 = .pointer (some ⟨bp,0,none⟩)) (s10:slots a0 10 = .pointer (some ⟨bk,0,none⟩))
  (ce:w5.heap[be]? = some (.cells #[.slice ea k ec] 138 (0,0))) (cw0:w5.cell? ⟨bw,0,none⟩=some (.slice pa pn pc)) (cw1:w5.cell? ⟨bw,1,none⟩=some vv) (hvv:∃ bm bl,vv=findV bm bl)
  (cp0:w5.cell? ⟨bp,0,none⟩=some (.string nm)) (cp1:w5.cell? ⟨bp,1,none⟩=some (.slice fa fn fc)) (cp2:w5.cell? ⟨bp,2,none⟩=some (.slice oa on oc)) (cp3:w5.cell? ⟨bp,3,none⟩=some (.slice ha9 hn hc))
  (ck0:w5.cell? ⟨bk,0,none⟩=some (.string nk)) (ck1:w5.cell? ⟨bk,1,none⟩=some (.string pf)) (ck2:w5.cell? ⟨bk,2,none⟩=some (.slice ka kn kc))
  (hR:Row w5 base 139 1 (.slice ea k ec) k fv)
  (hcall:∀ w1,Below w5.heap.size w5 w1→Calls Tryz.prog 54 #[.agg #[.slice pa pn pc,vv],.agg #[.string nm,.slice fa fn fc,.slice oa on oc,.slice ha9 hn hc],.agg #[.string nk,.string pf,.slice ka kn kc]] w1 fun e w'=>(∃ v,e = .returned v∧PickFn (mid N0 w1.heap.size) w' v d g)∧Below w1.heap.size w1 w')
  (hQ:∀ s w' v',R6 w5 N0 d g base k fv (.slice ea k ec) v' w'→Q .normal (putAll a0 s [25,26,27,28,29,30,31]) (w'.setCell ⟨be,0,none⟩ v')) :
  (Code.region 6 eachMoreOps.toArray true).wp Tryz.prog Q a0 w5:=by
 obtain ⟨bm,bl,hvv⟩:=hvv
 subst hvv
 unfold findV at cw1 hcall
 have ce0:w5.cell? ⟨be,0,none⟩=some (.slice ea k ec):=by simp [World.cell?,ce]
 have hbe:be < w5.heap.size:=lt_of_block ce
 refine wp_region_as (by kernel_rfl) (by kernel_rfl) [25,26,27,28,29,30,31] (by kernel_rfl) hsz (by kernel_rfl) con6 (A6 w5 N0 d be g base k fv (.slice ea k ec) [.slice ea k ec,.agg #[.slice pa pn pc,.func (.func 53) #[] #[.pointer (some ⟨bm,0,none⟩),.pointer (some ⟨bl,0,none⟩)]],.agg #[.string nm,.slice fa fn fc,.slice oa on oc,.slice ha9 hn hc],.agg #[.string nk,.string pf,.slice ka kn kc]]) (fun L _ w=>L 6=false→Below w5.heap.size w5 w) (fun _=>(Below.refl _ _).drew) ?_ ?_
 ·intro L st wz i o hG hL hcl hA hF hi' hl ha
  have h99:L 99=false:=L99 hL (by decide)
  have u0:L 6=true→L 0=true:=fun h=>hcl 6 _ h rfl ⟨0,.data⟩ (by simp) rfl
  have u5:L 6=true→L 5=true:=fun h=>hcl 6 _ h rfl ⟨5,.data⟩ (by simp) rfl
  have u4:L 5=true→L 4=true:=fun h=>hcl 5 _ h rfl ⟨4,.data⟩ (by simp) rfl
  have u1:L 4=true→L 1=true:=fun h=>hcl 4 _ h rfl ⟨1,.data⟩ (by simp) rfl
  have u2:L 4=true→L 2=true:=fun h=>hcl 4 _ h rfl ⟨2,.data⟩ (by simp) rfl
  have u3:L 4=true→L 3=true:=fun h=>hcl 4 _ h rfl ⟨3,.data⟩ (by simp) rfl
  have u6:L 7=true→L 6=true:=fun h=>hcl 7 _ h rfl ⟨6,.data⟩ (by simp) rfl
  have down:∀ j,j≠6→also L j 6=false→L 6=false:=fun j hj h=>by rw [also_no (Ne.symm hj)] at h; exact h
  obtain _ | i:=i
  ·obtain rfl:=Option.some.inj hi'
   have e1:st 8 = .pointer (some ⟨be,0,none⟩):=(hF 8 (by decide)).trans s8
   have z0:=keptCell (hG (L_not u0 hl)) ce0
   refine opStep_value (v:=.slice ea k ec) (w':=wz) ?_ ⟨fun h=>hG (down 0 (by decide) h),rfl,fun k _ _ _ h=>h⟩
   simp only [execOp,evalS,e1]
   go_simp
  obtain _ | i:=i
  ·obtain rfl:=Option.some.inj hi'
   have e1:st 3 = .pointer (some ⟨bw,0,none⟩):=(hF 3 (by decide)).trans s3
   have hB:=hG (L_not (fun h=>u1 (u4 (u5 h))) hl)
   have z0:=keptCell hB cw0
   have z1:=keptCell hB cw1
   refine opStep_value (v:=.agg #[.slice pa pn pc,.func (.func 53) #[] #[.pointer (some ⟨bm,0,none⟩),.pointer (some ⟨bl,0,none⟩)]]) (w':=wz) ?_ ⟨fun h=>hG (down 1 (by decide) h),rfl,fun k _ _ _ h=>h⟩
   simp only [execOp,evalS,e1]
   go_simp
  obtain _ | i:=i
  ·obtain rfl:=Option.some.inj hi'
   have e1:st 7 = .pointer (some ⟨bp,0,none⟩):=(hF 7 (by decide)).trans s7
   have hB:=hG (L_not (fun h=>u2 (u4 (u5 h))) hl)
   have z0:=keptCell hB cp0
   have z1:=keptCell hB cp1
   have z2:=keptCell hB cp2
   have z3:=keptCell hB cp3
   refine opStep_value (v:=.agg #[.string nm,.slice fa fn fc,.slice oa on oc,.slice ha9 hn hc]) (w':=wz) ?_ ⟨fun h=>hG (down 2 (by decide) h),rfl,fun k _ _ _ h=>h⟩
   simp only [execOp,evalS,e1]
   go_simp
  obtain _ | i:=i
  ·obtain rfl:=Option.some.inj hi'
   have e1:st 10 = .pointer (some ⟨bk,0,none⟩):=(hF 10 (by decide)).trans s10
   have hB:=hG (L_not (fun h=>u3 (u4 (u5 h))) hl)
   have z0:=keptCell hB ck0
   have z1:=keptCell hB ck1
   have z2:=keptCell hB ck2
   refine opStep_value (v:=.agg #[.string nk,.string pf,.slice ka kn kc]) (w':=wz) ?_ ⟨fun h=>hG (down 3 (by decide) h),rfl,fun k _ _ _ h=>h⟩
   simp only [execOp,evalS,e1]
   go_simp
  obtain _ | i:=i
  ·obtain rfl:=Option.some.inj hi'
   have e1:st 26 = .agg #[.slice pa pn pc,.func (.func 53) #[] #[.pointer (some ⟨bm,0,none⟩),.pointer (some ⟨bl,0,none⟩)]]:=hA 1 (ha ⟨1,.data⟩ (by simp) rfl) h99
   have e2:st 27 = .agg #[.string nm,.slice fa fn fc,.slice oa on oc,.slice ha9 hn hc]:=hA 2 (ha ⟨2,.data⟩ (by simp) rfl) h99
   have e3:st 28 = .agg #[.string nk,.string pf,.slice ka kn kc]:=hA 3 (ha ⟨3,.data⟩ (by simp) rfl) h99
   have l5:L 5=false:=L_not u4 hl
   have l6:L 6=false:=L_not u5 l5
   have l7:L 7=false:=L_not u6 l6
   have hB:=hG l6
   refine opStep_fn 54 #[.tmp 26,.tmp 27,.tmp 28] #[98,114,76] rfl (enters_of Tryz.func54 (by kernel_rfl) rfl) #[.agg #[.slice pa pn pc,.func (.func 53) #[] #[.pointer (some ⟨bm,0,none⟩),.pointer (some ⟨bl,0,none⟩)]],.agg #[.string nm,.slice fa fn fc,.slice oa on oc,.slice ha9 hn hc],.agg #[.string nk,.string pf,.slice ka kn kc]] (by simp [evalS,e1,e2,e3]) ((hcall wz hB).mono fun e w' h=>?_)
   obtain ⟨⟨v,rfl,hv⟩,hw'⟩:=h
   refine ⟨v,rfl,fun _=>hB.trans (hw'.mono hB.size),?_,fun k hk hLk _ h=>A6_pure hk (fun e=>by subst e; rw [l5] at hLk; cases hLk) (fun e=>by subst e; rw [l6] at hLk; cases hLk) (fun e=>by subst e; rw [l7] at hLk; cases hLk) h⟩
   exact hv.step (KeepX.refl _ _) fun q _ hq=>⟨hq.1,Nat.lt_of_lt_of_le hq.2 hB.size⟩
  obtain _ | i:=i
  ·obtain rfl:=Option.some.inj hi'
   have l6:L 6=false:=L_not u5 hl
   have l7:L 7=false:=L_not u6 l6
   have hB:=hG l6
   have hv:PickFn (mid N0 w5.heap.size) wz (st 29) d g:=hA 4 (ha ⟨4,.data⟩ (by simp) rfl) hl
   obtain ⟨KF,caps,⟨e1,eK⟩,hf⟩:=hv
   have hb:=below1 wz (Obj.cells #[.func (.func KF) #[] caps] 139)
   refine opStep_value (v:=.slice (some ⟨wz.heap.size,0,none⟩) 1 1) (w':=wz.alloc (.cells #[.func (.func KF) #[] caps] 139)) ?_ ⟨fun _=>hB.trans (hb.mono hB.size),⟨wz.heap.size,_,rfl,heap_alloc_new _ _,PickFn.kept ⟨KF,caps,⟨rfl,eK⟩,hf⟩ hb⟩,fun k hk hLk hlv h=>A6_pure (fun e=>?_) hk (fun e=>by subst e; rw [l6] at hLk; cases hLk) (fun e=>by subst e; rw [l7] at hLk; cases hLk) h⟩
   ·simp only [execOp,List.map_toArray,List.map_cons,List.map_nil,evalS,e1]
    go_simp
   ·subst e
    exact absurd hlv (by unfold live also con6; simp)
  obtain _ | i:=i
  ·obtain rfl:=Option.some.inj hi'
   have l7:L 7=false:=L_not u6 hl
   have hB:=hG hl
   have e1:st 25 = .slice ea k ec:=hA 0 (ha ⟨0,.data⟩ (by simp) rfl) h99
   have l5:L 5=true:=ha ⟨5,.data⟩ (by simp) rfl
   obtain ⟨b,nv,e2,hbo,hv⟩:∃ b nv,st 30 = .slice (some ⟨b,0,none⟩) 1 1∧wz.heap[b]? = some (.cells #[nv] 139 (0,0))∧PickFn (mid N0 w5.heap.size) wz nv d g:=hA 5 l5 hl
   have h1c:nv.oneCell'=true:=by
    obtain ⟨KF,caps,⟨e9,-⟩,-⟩:=hv
    rw [e9]; rfl
   refine opStep_app (.tmp 25) (.tmp 30) 138 rfl base 139 i0 _ 1 8 Tryz.underlying138 hi0 hz0 hz1 hz2 rfl (by decide) (.slice ea k ec) k _ e1 (hR.kept hB) (some ⟨b,0,none⟩) 1 1 [nv] e2 rfl (obj_news hbo) (fun h=>by cases h) (by intro u hu; simp at hu; subst hu; exact h1c) (by unfold maxLen; omega) (by omega) (Nat.le_trans hbase hB.size) ?_
   intro v' w' hown hgr hvb
   refine ⟨fun h=>(by rw [also_yes] at h; cases h),⟨wz,nv,hB,hv,hown,hgr,hvb⟩,fun k hk hLk hlv h=>A6_pure (fun e=>?_) (fun e=>?_) hk (fun e=>by subst e; rw [l7] at hLk; cases hLk) h⟩
   ·subst e
    exact absurd hlv (by unfold live con6; rw [if_pos rfl,also_no (by decide),l5]; simp)
   ·subst e
    exact absurd hlv (by unfold live also con6; simp)
  obtain _ | i:=i
  ·obtain rfl:=Option.some.inj hi'
   have h6:L 6=true:=ha ⟨6,.data⟩ (by simp) rfl
   have e1:st 8 = .pointer (some ⟨be,0,none⟩):=(hF 8 (by decide)).trans s8
   have hr:R6 w5 N0 d g base k fv (.slice ea k ec) (st 31) wz:=hA 6 h6 hl
   obtain ⟨X,nv,r1,r2,r3,r4,r5⟩:=hr
   obtain ⟨va,vc,e2⟩:=owned_slice r3
   have hbz:wz.heap[be]? = some (.cells #[.slice ea k ec] 138 (0,0)):=by
    rw [r4.block be (Nat.lt_of_lt_of_le hbe r1.size) (fun e=>?_),r1.block be hbe]
    ·exact ce
    ·obtain ⟨cs,ho⟩:=hR.obj e.symm
     rw [ce] at ho
     simp at ho
   have hu:wz.cell? ⟨be,0,none⟩=some (.slice ea k ec):=by simp [World.cell?,hbz]
   have hfz:wz.frozen? ⟨be,0,none⟩=false:=by simp [World.frozen?,hbz]
   have l5:L 5=true:=u5 h6
   refine opStep_skip (w':=wz.setCell ⟨be,0,none⟩ (st 31)) ?_ ⟨fun h=>(by rw [also_no (by decide),h6] at h; cases h),⟨wz,st 31,⟨X,nv,r1,r2,r3,r4,r5⟩,rfl⟩,fun k hk hLk hlv h=>A6_pure (fun e=>?_) (fun e=>?_) (fun e=>?_) hk h⟩
   ·rw [e2]
    simp only [execOp,evalS,e1,e2]
    go_simp
   ·subst e
    exact absurd hlv (by unfold live con6; rw [if_pos rfl,also_no (by decide),l5]; simp)
   ·subst e
    exact absurd hlv (by unfold live con6; rw [if_neg (by decide),if_pos rfl,also_no (by decide),h6]; simp)
   ·subst e
    exact absurd hlv (by unfold live also con6; simp)
  ·exfalso
   have hlen:i + 8 < 8:=(List.getElem?_eq_some_iff.1 hi').1
   omega
 ·intro L st wz hG hL hall hA
  have h99:L 99=false:=L99 hL (by decide)
  obtain ⟨w',v',hr,e⟩:∃ w' v',R6 w5 N0 d g base k fv (.slice ea k ec) v' w'∧wz=w'.setCell ⟨be,0,none⟩ v':=hA 7 (hall 7 (by decide)) h99
  rw [e]
  exact hQ st w' v' hr
def meanAskOps:List Oper:=[
 ⟨some 33, .load 98 (.tmp 9), 98, "mean.go:23", #[], none⟩,
 ⟨some 34, .fieldAddr 25 (.tmp 3) 0, 0, "mean.go:23", #[], none⟩,
 ⟨some 35, .load 9 (.tmp 34), 9, "mean.go:23", #[⟨1, .data⟩], none⟩,
 ⟨some 36, .fieldAddr 25 (.tmp 3) 2, 0, "mean.go:23", #[], none⟩,
 ⟨some 37, .load 23 (.tmp 36), 23, "mean.go:23", #[⟨3, .data⟩], none⟩,
 { dst := some 38, op := Op.call { callee := Callee.value (Operand.func 30), args := #[Operand.tmp 33, Operand.tmp 35, Operand.tmp 37], argTypes := #[98, 9, 23] }, type := 90, pos := "mean.go:23", after := #[⟨0, .data⟩, ⟨2, .data⟩, ⟨4, .data⟩], guard := none },
 ⟨some 39, .fieldAddr 25 (.tmp 3) 1, 0, "mean.go:23", #[], none⟩,
 ⟨some 40, .load 9 (.tmp 39), 9, "mean.go:23", #[⟨6, .data⟩], none⟩,
 { dst := some 41, op := Op.call { callee := Callee.value (Operand.tmp 38), args := #[Operand.tmp 40], argTypes := #[9] }, type := 83, pos := "mean.go:23", after := #[⟨5, .data⟩, ⟨7, .data⟩, ⟨5, .chain⟩], guard := none },
 { dst := some 32, op := Op.move (Operand.tmp 41), type := 83, pos := "mean.go:23", after := #[⟨8, .data⟩], guard := none },
 ⟨some 42, .extract (.tmp 32) 0, 27, "mean.go:23", #[⟨9, .data⟩], none⟩,
 ⟨some 43, .extract (.tmp 32) 1, 4, "mean.go:23", #[⟨9, .data⟩, { on := 12, ground := Ground.gcOnly Departure.lateStores }], none⟩,
 ⟨some 10, .assign (.tmp 42), 27, "mean.go:23", #[⟨10, .data⟩, ⟨8, .chain⟩, ⟨0, .phase⟩, ⟨1, .phase⟩, ⟨2, .phase⟩, ⟨3, .phase⟩, ⟨4, .phase⟩, ⟨5, .phase⟩, ⟨6, .phase⟩, ⟨7, .phase⟩, ⟨8, .phase⟩, ⟨9, .phase⟩, ⟨10, .phase⟩, { on := 11, ground := Ground.textOnly Departure.lateStores }], none⟩,
 ⟨some 11, .assign (.tmp 43), 4, "mean.go:23", #[⟨11, .data⟩, ⟨12, .chain⟩, ⟨0, .phase⟩, ⟨1, .phase⟩, ⟨2, .phase⟩, ⟨3, .phase⟩, ⟨4, .phase⟩, ⟨5, .phase⟩, ⟨6, .phase⟩, ⟨7, .phase⟩, ⟨8, .phase⟩, ⟨9, .phase⟩, ⟨10, .phase⟩, ⟨11, .phase⟩, ⟨12, .phase⟩], none⟩]
def Sl (N0 d:Nat) (r:Option (List (Got d))) (x:Value) (w:World):Prop:=(r=none∧x = .slice none 0 0)∨∃ L a c,r=some L∧x = .slice a L.length c∧L.length≤c∧GotsOut N0 d w a c L
def Tp (N0 d:Nat) (r:Option (List (Got d))) (x:Value) (w:World):Prop := ∃ y,x = .tuple #[y,.bool r.isSome]∧Sl N0 d r y w
theorem Sl.kept {N0 d:Nat} {r:Option (List (Got d))} {x:Value} {w w':World} (h:Sl N0 d r x w) (hB:Below w.heap.size w w'):Sl N0 d r x w':=by
 rcases h with h | ⟨L,a,c,h1,h2,h3,h4⟩
 ·exact .inl h
 ·exact .inr ⟨L,a,c,h1,h2,h3,h4.kept hB⟩
def A8 (w5:World) (d:Nat) (f:ByteArray→Option (List (Got d))) (key:ByteArray) (vals:List Value) (_:Nat→Bool) (k:Nat) (x:Value) (w:World):Prop :=
 if k=5 then GetFn noB w x d f else if k=8∨k=9 then Tp w5.heap.size d (f key) x w else if k=10∨k=12 then Sl w5.heap.size d (f key) x w else if k=11∨k=13 then x = .bool (f key).isSome else x=vals.getD k undef
theorem A8_kept {w5:World} {d:Nat} {f : ByteArray→Option (List (Got d))} {key:ByteArray} {vals:List Value} {L L':Nat→Bool} {k:Nat} {x:Value} {w w':World} (h:A8 w5 d f key vals L k x w) (hB:Below w.heap.size w w'):A8 w5 d f key vals L' k x w':=by
 unfold A8 at *
 by_cases h5:k=5
 ·rw [if_pos h5] at *; exact h.kept hB
 rw [if_neg h5] at *
 by_cases h8:k=8∨k=9
 ·rw [if_pos h8] at *
  obtain ⟨y,e,hs⟩:=h
  exact ⟨y,e,hs.kept hB⟩
 rw [if_neg h8] at *
 by_cases h10:k=10∨k=12
 ·rw [if_pos h10] at *; exact h.kept hB
 rw [if_neg h10] at *
 exact h
set_option maxRecDepth 100000 in
set_option maxHeartbeats 4000000 in
theorem meanAsk {Q:Exit→Act→World→Prop} {a0:Act} {w5:World} {d bw ba pn pc n cap:Nat} {pa a:Option Addr} {vv:Value} {type key:ByteArray} {f : ByteArray→Option (List (Got d))}
  (hsz : [33,34,35,36,37,38,39,40,41,32,42,43,10,11].all (fun d=>decide (d < a0.tmps.size))=true)
  (s9:slots a0 9 = .pointer (some ⟨bw,0,none⟩)) (s3:slots a0 3 = .pointer (some ⟨ba,0,none⟩)) (cw0:w5.cell? ⟨bw,0,none⟩=some (.slice pa pn pc)) (cw1:w5.cell? ⟨bw,1,none⟩=some vv) (hvv:∃ bm bl,vv=findV bm bl)
  (ca0:w5.cell? ⟨ba,0,none⟩=some (.string type)) (ca1:w5.cell? ⟨ba,1,none⟩=some (.string key)) (ca2:w5.cell? ⟨ba,2,none⟩=some (.slice a n cap)) (hks:Small key)
  (hcall:∀ w1,Below w5.heap.size w5 w1→Calls Tryz.prog 30 #[.agg #[.slice pa pn pc,vv],.string type,.slice a n cap] w1 fun e w'=>(∃ v,e = .returned v∧GetFn noB w' v d f)∧Below w1.heap.size w1 w')
  (hQ:∀ s w' y,Below w5.heap.size w5 w'→s 10=y→s 11 = .bool (f key).isSome→Sl w5.heap.size d (f key) y w'→Q .normal (putAll a0 s [33,34,35,36,37,38,39,40,41,32,42,43,10,11]) w') :
  (Code.region 8 meanAskOps.toArray true).wp Tryz.prog Q a0 w5:=by
 obtain ⟨bm,bl,hvv⟩:=hvv
 subst hvv
 unfold findV at cw1 hcall
 refine wp_region_as (by kernel_rfl) (by kernel_rfl) [33,34,35,36,37,38,39,40,41,32,42,43,10,11] (by kernel_rfl) hsz (by kernel_rfl) (fun _=>99) (A8 w5 d f key [.agg #[.slice pa pn pc,.func (.func 53) #[] #[.pointer (some ⟨bm,0,none⟩),.pointer (some ⟨bl,0,none⟩)]],.pointer (some ⟨ba,0,none⟩),.string type,.pointer (some ⟨ba,2,none⟩),.slice a n cap,undef,.pointer (some ⟨ba,1,none⟩),.string key]) (fun _ _ w=>Below w5.heap.size w5 w) (Below.refl _ _).drew ?_ ?_
 ·intro L st wz i o hG hL hcl hA hF hi' hl ha
  have h99:L 99=false:=L99 hL (by decide)
  have e9:st 9 = .pointer (some ⟨bw,0,none⟩):=(hF 9 (by decide)).trans s9
  have e3:st 3 = .pointer (some ⟨ba,0,none⟩):=(hF 3 (by decide)).trans s3
  obtain _ | i:=i
  ·obtain rfl:=Option.some.inj hi'
   have z0:=keptCell hG cw0
   have z1:=keptCell hG cw1
   refine opStep_value (v:=.agg #[.slice pa pn pc,.func (.func 53) #[] #[.pointer (some ⟨bm,0,none⟩),.pointer (some ⟨bl,0,none⟩)]]) (w':=wz) ?_ ⟨hG,rfl,fun k _ _ _ h=>h⟩
   simp only [execOp,evalS,e9]
   go_simp
  obtain _ | i:=i
  ·obtain rfl:=Option.some.inj hi'
   refine opStep_value (v:=.pointer (some ⟨ba,0,none⟩)) (w':=wz) ?_ ⟨hG,rfl,fun k _ _ _ h=>h⟩
   simp only [execOp,evalS,e3]
   go_simp
  obtain _ | i:=i
  ·obtain rfl:=Option.some.inj hi'
   have e1:st 34 = .pointer (some ⟨ba,0,none⟩):=hA 1 (ha ⟨1,.data⟩ (by simp) rfl) h99
   have z0:=keptCell hG ca0
   refine opStep_value (v:=.string type) (w':=wz) ?_ ⟨hG,rfl,fun k _ _ _ h=>h⟩
   simp only [execOp,evalS,e1]
   go_simp
  obtain _ | i:=i
  ·obtain rfl:=Option.some.inj hi'
   refine opStep_value (v:=.pointer (some ⟨ba,2,none⟩)) (w':=wz) ?_ ⟨hG,rfl,fun k _ _ _ h=>h⟩
   simp only [execOp,evalS,e3]
   go_simp
  obtain _ | i:=i
  ·obtain rfl:=Option.some.inj hi'
   have e1:st 36 = .pointer (some ⟨ba,2,none⟩):=hA 3 (ha ⟨3,.data⟩ (by simp) rfl) h99
   have z0:=keptCell hG ca2
   refine opStep_value (v:=.slice a n cap) (w':=wz) ?_ ⟨hG,rfl,fun k _ _ _ h=>h⟩
   simp only [execOp,evalS,e1]
   go_simp
  obtain _ | i:=i
  ·obtain rfl:=Option.some.inj hi'
   have e1:st 33 = .agg #[.slice pa pn pc,.func (.func 53) #[] #[.pointer (some ⟨bm,0,none⟩),.pointer (some ⟨bl,0,none⟩)]]:=hA 0 (ha ⟨0,.data⟩ (by simp) rfl) h99
   have e2:st 35 = .string type:=hA 2 (ha ⟨2,.data⟩ (by simp) rfl) h99
   have e4:st 37 = .slice a n cap:=hA 4 (ha ⟨4,.data⟩ (by simp) rfl) h99
   refine opStep_fn 30 #[.tmp 33,.tmp 35,.tmp 37] #[98,9,23] rfl (enters_of Tryz.func30 (by kernel_rfl) rfl) #[.agg #[.slice pa pn pc,.func (.func 53) #[] #[.pointer (some ⟨bm,0,none⟩),.pointer (some ⟨bl,0,none⟩)]],.string type,.slice a n cap] (by simp [evalS,e1,e2,e4]) ((hcall wz hG).mono fun e w' h=>?_)
   obtain ⟨⟨v,rfl,hv⟩,hw'⟩:=h
   exact ⟨v,rfl,hG.trans (hw'.mono hG.size),hv,fun k _ _ _ h=>A8_kept h hw'⟩
  obtain _ | i:=i
  ·obtain rfl:=Option.some.inj hi'
   refine opStep_value (v:=.pointer (some ⟨ba,1,none⟩)) (w':=wz) ?_ ⟨hG,rfl,fun k _ _ _ h=>h⟩
   simp only [execOp,evalS,e3]
   go_simp
  obtain _ | i:=i
  ·obtain rfl:=Option.some.inj hi'
   have e1:st 39 = .pointer (some ⟨ba,1,none⟩):=hA 6 (ha ⟨6,.data⟩ (by simp) rfl) h99
   have z0:=keptCell hG ca1
   refine opStep_value (v:=.string key) (w':=wz) ?_ ⟨hG,rfl,fun k _ _ _ h=>h⟩
   simp only [execOp,evalS,e1]
   go_simp
  obtain _ | i:=i
  ·obtain rfl:=Option.some.inj hi'
   have hv:GetFn noB wz (st 38) d f:=hA 5 (ha ⟨5,.data⟩ (by simp) rfl) h99
   have e2:st 40 = .string key:=hA 7 (ha ⟨7,.data⟩ (by simp) rfl) h99
   obtain ⟨KF,caps,⟨e1,eK⟩,hf⟩:=hv
   refine opStep_val 38 KF caps #[.tmp 40] #[9] rfl e1 eK #[.string key] (by simp [evalS,e2]) ((hf wz (KeepX.refl _ _) key hks).mono fun e w' h=>?_)
   obtain ⟨hw',h⟩:=h
   rcases h with ⟨h1,rfl⟩ | ⟨M,a',c',h1,rfl,h3,h4⟩
   ·exact ⟨_,rfl,hG.trans (hw'.mono hG.size),⟨.slice none 0 0,by rw [h1]; rfl,.inl ⟨h1,rfl⟩⟩,fun k _ _ _ h=>A8_kept h hw'⟩
   ·exact ⟨_,rfl,hG.trans (hw'.mono hG.size),⟨.slice a' M.length c',by rw [h1]; rfl,.inr ⟨M,a',c',h1,rfl,h3,h4.base hG.size⟩⟩,fun k _ _ _ h=>A8_kept h hw'⟩
  obtain _ | i:=i
  ·obtain rfl:=Option.some.inj hi'
   have hv:Tp w5.heap.size d (f key) (st 41) wz:=hA 8 (ha ⟨8,.data⟩ (by simp) rfl) h99
   exact opStep_value (v:=st 41) (w':=wz) rfl ⟨hG,hv,fun k _ _ _ h=>h⟩
  obtain _ | i:=i
  ·obtain rfl:=Option.some.inj hi'
   have hv:Tp w5.heap.size d (f key) (st 32) wz:=hA 9 (ha ⟨9,.data⟩ (by simp) rfl) h99
   obtain ⟨y,e1,hs⟩:=hv
   refine opStep_value (v:=y) (w':=wz) ?_ ⟨hG,hs,fun k _ _ _ h=>h⟩
   simp only [execOp,evalS,e1]
   go_simp
  obtain _ | i:=i
  ·obtain rfl:=Option.some.inj hi'
   have hv:Tp w5.heap.size d (f key) (st 32) wz:=hA 9 (ha ⟨9,.data⟩ (by simp) rfl) h99
   obtain ⟨y,e1,hs⟩:=hv
   refine opStep_value (v:=.bool (f key).isSome) (w':=wz) ?_ ⟨hG,rfl,fun k _ _ _ h=>h⟩
   simp only [execOp,evalS,e1]
   go_simp
  obtain _ | i:=i
  ·obtain rfl:=Option.some.inj hi'
   have hv:Sl w5.heap.size d (f key) (st 42) wz:=hA 10 (ha ⟨10,.data⟩ (by simp) rfl) h99
   exact opStep_value (v:=st 42) (w':=wz) rfl ⟨hG,hv,fun k _ _ _ h=>h⟩
  obtain _ | i:=i
  ·obtain rfl:=Option.some.inj hi'
   have hv:st 43 = .bool (f key).isSome:=hA 11 (ha ⟨11,.data⟩ (by simp) rfl) h99
   exact opStep_value (v:=st 43) (w':=wz) rfl ⟨hG,hv,fun k _ _ _ h=>h⟩
  ·exfalso
   have hlen:i + 14 < 14:=(List.getElem?_eq_some_iff.1 hi').1
   omega
 ·intro L st wz hG hL hall hA
  have h99:L 99=false:=L99 hL (by decide)
  have h12:Sl w5.heap.size d (f key) (st 10) wz:=hA 12 (hall 12 (by decide)) h99
  have h13:st 11 = .bool (f key).isSome:=hA 13 (hall 13 (by decide)) h99
  exact hQ st wz _ hG rfl h13 h12
end Go.Proofs.YtjjggefmmeminacGreat
