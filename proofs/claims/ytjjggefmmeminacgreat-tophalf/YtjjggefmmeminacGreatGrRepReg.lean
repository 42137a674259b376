import Derived.Test.YtjjggefmmeminacGreatJRc
import Derived.Test.YtjjggefmmeminacGreatGrMem
namespace Go.Proofs.YtjjggefmmeminacGreat
open Go.RowKit Go.Sort Go.PlainAid
def repNewOps:List Oper:=[
 ⟨some 12, .fieldAddr 118 (.tmp 5) 0, 0, "gate.go:59", #[], none⟩,
 ⟨some 13, .load 3 (.tmp 12), 3, "gate.go:59", #[⟨0, .data⟩], none⟩,
 ⟨some 14, .fieldAddr 118 (.tmp 5) 1, 0, "gate.go:59", #[], none⟩,
 ⟨some 15, .load 9 (.tmp 14), 9, "gate.go:59", #[⟨2, .data⟩], none⟩,
 ⟨some 16, .move (.tmp 2), 33, "gate.go:59", #[], none⟩,
 ⟨some 17, .call { callee := Callee.value (.func 68), args := #[.tmp 16], argTypes := #[33] }, 33, "gate.go:59", #[⟨4, .data⟩], none⟩,
 ⟨some 18, .move (.tmp 3), 33, "gate.go:59", #[], none⟩,
 ⟨some 19, .build 35 #[(0, .tmp 13), (1, .tmp 15), (2, .tmp 17), (3, .tmp 18)], 35, "gate.go:59", #[⟨1, .data⟩, ⟨3, .data⟩, ⟨5, .data⟩, ⟨6, .data⟩], none⟩,
 ⟨some 9, .alloc 35, 0, "gate.go:59", #[], none⟩,
 ⟨none, .store 35 (.tmp 9) (.tmp 19), 0, "gate.go:59", #[⟨8, .data⟩, ⟨7, .data⟩, ⟨5, .chain⟩, ⟨0, .phase⟩, ⟨1, .phase⟩, ⟨2, .phase⟩, ⟨3, .phase⟩, ⟨4, .phase⟩, ⟨5, .phase⟩, ⟨6, .phase⟩, ⟨7, .phase⟩, ⟨8, .phase⟩], none⟩]
set_option maxRecDepth 100000 in
set_option maxHeartbeats 4000000 in
theorem repNew {Q:Exit→Act→World→Prop} {a0:Act} {w5:World} (P:Nat→(Nat→Value)→Option Nat→World→Prop) {bo kn kc fn fc:Nat} {ka fa:Option Addr} {sv:Int} {ty:ByteArray}
  (hsz : [12,13,14,15,16,17,18,19,9].all (fun d=>decide (d < a0.tmps.size))=true)
  (s5:slots a0 5 = .pointer (some ⟨bo,0,none⟩)) (s2:slots a0 2 = .slice ka kn kc) (s3:slots a0 3 = .slice fa fn fc)
  (hX1:∀ x o w,P 1 x o w→∃ a n c,x 0 = .slice a n c) (hX2:∀ x o w,P 2 x o w→∃ a n c,x 0 = .slice a n c∧x 1 = .agg #[.int .i64 sv,.string ty,x 0,.slice fa fn fc])
  (hP0:∀ x,P 0 x none w5.drew)
  (hSt:∀ j x o w,j < 3→P j x o w→w.cell? ⟨bo,0,none⟩=some (.int .i64 sv)∧w.cell? ⟨bo,1,none⟩=some (.string ty))
  (he0:∀ x o w,P 0 x o w→Calls Tryz.prog 68 #[.slice ka kn kc] w fun e w' => ∃ v,e = .returned v∧(∀ x',x' 0=v→(∀ i,i≠0→x' i=x i)→P 1 x' o w'))
  (he1:∀ x o w,P 1 x o w→∀ x',x' 1 = .agg #[.int .i64 sv,.string ty,x 0,.slice fa fn fc]→(∀ i,i≠1→x' i=x i)→P 2 x' o w)
  (he2:∀ x b w,P 2 x (some b) w→w.heap[b]? = some (.cells #[.int .i64 0,.string ⟨#[]⟩,.slice none 0 0,.slice none 0 0] 35 (0,0))∧P 3 x (some b) ((((w.setCell ⟨b,0,none⟩ (.int .i64 sv)).setCell ⟨b,1,none⟩ (.string ty)).setCell ⟨b,2,none⟩ (x 0)).setCell ⟨b,3,none⟩ (.slice fa fn fc)))
  (hal:∀ j x w,P j x none w→P j x (some w.heap.size) (w.alloc (.cells #[.int .i64 0,.string ⟨#[]⟩,.slice none 0 0,.slice none 0 0] 35)))
  (hQ:∀ s b w',s 9 = .pointer (some ⟨b,0,none⟩)→P 3 (fun i=>s ([17,19,0].getD i 0)) (some b) w'→Q .normal (putAll a0 s [12,13,14,15,16,17,18,19,9]) w') :
  (Code.region 1 repNewOps.toArray true).wp Tryz.prog Q a0 w5:=by
 refine wp_region_as (by kernel_rfl) (by kernel_rfl) [12,13,14,15,16,17,18,19,9] (by kernel_rfl) hsz (by kernel_rfl) (fun _=>99) (asV [5,7,9,8] [.pointer (some ⟨bo,0,none⟩),.int .i64 sv,.pointer (some ⟨bo,1,none⟩),.string ty,.slice ka kn kc,undef,.slice fa fn fc,undef,undef,undef]) (chB [5,7,9] [17,19,0] 8 9 P) (chB.start (hP0 _)) ?_ ?_
 ·intro Lz stz wz iz oz hGz hLz hcz hAz hFz hiz hlz haz
  have h99:Lz 99=false:=by
   cases h:Lz 99 with
   | false=>rfl
   | true=>exact absurd (hLz 99 h) (by decide)
  obtain _ | iz:=iz
  ·obtain rfl:=Option.some.inj hiz
   have e0:stz 5 = .pointer (some ⟨bo,0,none⟩):=(hFz 5 (by decide)).trans s5
   refine opStep_value (v:=.pointer (some ⟨bo,0,none⟩)) (w':=wz) ?_ ⟨hGz.read rfl rfl _,rfl,fun k _ _ _ h=>h⟩
   simp only [execOp,evalS,e0]
   go_simp
  obtain _ | iz:=iz
  ·obtain rfl:=Option.some.inj hiz
   have e0:stz 12 = .pointer (some ⟨bo,0,none⟩):=hAz 0 (haz ⟨0,.data⟩ (by simp) rfl) h99
   have hm:Lz 9=false:=L_not (fun h=>hcz 9 _ h rfl ⟨1,.phase⟩ (by simp) rfl) hlz
   obtain ⟨z0,-⟩:=hSt _ _ _ _ (stg_lt (E:=[5,7,9]) (by simp) hm) hGz.2
   refine opStep_value (v:=.int .i64 sv) (w':=wz) ?_ ⟨hGz.read rfl rfl _,rfl,fun k _ _ _ h=>h⟩
   simp only [execOp,evalS,e0]
   go_simp
  obtain _ | iz:=iz
  ·obtain rfl:=Option.some.inj hiz
   have e0:stz 5 = .pointer (some ⟨bo,0,none⟩):=(hFz 5 (by decide)).trans s5
   refine opStep_value (v:=.pointer (some ⟨bo,1,none⟩)) (w':=wz) ?_ ⟨hGz.read rfl rfl _,rfl,fun k _ _ _ h=>h⟩
   simp only [execOp,evalS,e0]
   go_simp
  obtain _ | iz:=iz
  ·obtain rfl:=Option.some.inj hiz
   have e0:stz 14 = .pointer (some ⟨bo,1,none⟩):=hAz 2 (haz ⟨2,.data⟩ (by simp) rfl) h99
   have hm:Lz 9=false:=L_not (fun h=>hcz 9 _ h rfl ⟨3,.phase⟩ (by simp) rfl) hlz
   obtain ⟨-,z1⟩:=hSt _ _ _ _ (stg_lt (E:=[5,7,9]) (by simp) hm) hGz.2
   refine opStep_value (v:=.string ty) (w':=wz) ?_ ⟨hGz.read rfl rfl _,rfl,fun k _ _ _ h=>h⟩
   simp only [execOp,evalS,e0]
   go_simp
  obtain _ | iz:=iz
  ·obtain rfl:=Option.some.inj hiz
   have e0:stz 2 = .slice ka kn kc:=(hFz 2 (by decide)).trans s2
   refine opStep_value (v:=.slice ka kn kc) (w':=wz) ?_ ⟨hGz.read rfl rfl _,rfl,fun k _ _ _ h=>h⟩
   simp only [execOp,evalS,e0]
   go_simp
  obtain _ | iz:=iz
  ·obtain rfl:=Option.some.inj hiz
   have t1:Lz 7=false:=L_not (fun h=>hcz 7 _ h rfl ⟨5,.data⟩ (by simp) rfl) hlz
   have t2:Lz 9=false:=L_not (fun h=>hcz 9 _ h rfl ⟨5,.chain⟩ (by simp) rfl) hlz
   have hst:stg [5,7,9] Lz=0:=by simp [stg,hlz,t1,t2]
   have hPj:P 0 (fun i=>stz ([17,19,0].getD i 0)) (bxO 8 9 Lz stz) wz:=by
    have h:=hGz.2
    rw [hst] at h
    exact h
   have e0:stz 16 = .slice ka kn kc:=hAz 4 (haz ⟨4,.data⟩ (by simp) rfl) h99
   have agree0:∀ i,i≠0→([17,19,0]:List Nat).getD i 0≠17:=fun i hi=>by
    rcases i with _ | _ | _ | i <;> simp at hi ⊢
   refine opStep_fn 68 #[.tmp 16] #[33] rfl (enters_of Tryz.func68 (by kernel_rfl) rfl) _ (by simp only [List.map_toArray,List.map_cons,List.map_nil,evalS,e0]; first | done | rfl) ((he0 _ _ wz hPj).mono fun e w' h=>?_)
   obtain ⟨v,rfl,hv⟩:=h
   exact ⟨v,rfl,hGz.eff (by decide) (by decide) hlz hst (by decide) (updS_no (by decide)) (hv _ updS_yes (fun i hi=>updS_no (agree0 i hi))),trivial,fun k _ _ _ h=>h⟩
  obtain _ | iz:=iz
  ·obtain rfl:=Option.some.inj hiz
   have e0:stz 3 = .slice fa fn fc:=(hFz 3 (by decide)).trans s3
   refine opStep_value (v:=.slice fa fn fc) (w':=wz) ?_ ⟨hGz.read rfl rfl _,rfl,fun k _ _ _ h=>h⟩
   simp only [execOp,evalS,e0]
   go_simp
  obtain _ | iz:=iz
  ·obtain rfl:=Option.some.inj hiz
   have t0:Lz 5=true:=haz ⟨5,.data⟩ (by simp) rfl
   have t2:Lz 9=false:=L_not (fun h=>hcz 9 _ h rfl ⟨7,.data⟩ (by simp) rfl) hlz
   have hst:stg [5,7,9] Lz=1:=by simp [stg,t0,hlz,t2]
   have hPj:P 1 (fun i=>stz ([17,19,0].getD i 0)) (bxO 8 9 Lz stz) wz:=by
    have h:=hGz.2
    rw [hst] at h
    exact h
   have e0:stz 13 = .int .i64 sv:=hAz 1 (haz ⟨1,.data⟩ (by simp) rfl) h99
   have e1:stz 15 = .string ty:=hAz 3 (haz ⟨3,.data⟩ (by simp) rfl) h99
   have e2:stz 18 = .slice fa fn fc:=hAz 6 (haz ⟨6,.data⟩ (by simp) rfl) h99
   have agree1:∀ i,i≠1→([17,19,0]:List Nat).getD i 0≠19:=fun i hi=>by
    rcases i with _ | _ | _ | i <;> simp at hi ⊢
   refine opStep_value (v:=.agg #[.int .i64 sv,.string ty,stz 17,.slice fa fn fc]) (w':=wz) ?_ ⟨hGz.eff (by decide) (by decide) hlz hst (by decide) (updS_no (by decide)) (he1 _ _ wz hPj _ updS_yes (fun i hi=>updS_no (agree1 i hi))),trivial,fun k _ _ _ h=>h⟩
   obtain ⟨a9,n9,c9,hx9⟩:=hX1 _ _ _ hPj
   have ex:stz 17 = .slice a9 n9 c9:=hx9
   rw [ex]
   simp only [execOp,evalS]
   go_simp
  obtain _ | iz:=iz
  ·obtain rfl:=Option.some.inj hiz
   refine opStep_value (v:=.pointer (some ⟨wz.heap.size,0,none⟩)) (w':=wz.alloc (.cells #[.int .i64 0,.string ⟨#[]⟩,.slice none 0 0,.slice none 0 0] 35)) ?_ ⟨hGz.alloc hlz rfl rfl (fun j x h=>hal j x wz h),trivial,fun k _ _ _ h=>h⟩
   simp only [execOp]
   go_simp
  obtain _ | iz:=iz
  ·obtain rfl:=Option.some.inj hiz
   have t0:Lz 5=true:=haz ⟨5,.chain⟩ (by simp) rfl
   have t1:Lz 7=true:=haz ⟨7,.data⟩ (by simp) rfl
   have hst:stg [5,7,9] Lz=2:=by simp [stg,t0,t1,hlz]
   have hPj:P 2 (fun i=>stz ([17,19,0].getD i 0)) (bxO 8 9 Lz stz) wz:=by
    have h:=hGz.2
    rw [hst] at h
    exact h
   have hal9:Lz 8=true:=haz ⟨8,.data⟩ (by simp) rfl
   obtain ⟨b,hb⟩:=hGz.1 hal9
   rw [bxO_ptr hal9 hb] at hPj
   obtain ⟨q3,hp⟩:=he2 _ b wz hPj
   obtain ⟨x0,x1,x2,x3⟩:wz.cell? ⟨b,0,none⟩=some (.int .i64 0)∧wz.cell? ⟨b,1,none⟩=some (.string ⟨#[]⟩)∧wz.cell? ⟨b,2,none⟩=some (.slice none 0 0)∧wz.cell? ⟨b,3,none⟩=some (.slice none 0 0):=by simp [World.cell?,q3]
   obtain ⟨y0,y1,y2,y3⟩:wz.frozen? ⟨b,0,none⟩=false∧wz.frozen? ⟨b,1,none⟩=false∧wz.frozen? ⟨b,2,none⟩=false∧wz.frozen? ⟨b,3,none⟩=false:=by simp [World.frozen?,q3]
   obtain ⟨a9,n9,c9,hx9,hx8⟩:=hX2 _ _ _ hPj
   have ex:stz 17 = .slice a9 n9 c9:=hx9
   have ex2:stz 19 = .agg #[.int .i64 sv,.string ty,.slice a9 n9 c9,.slice fa fn fc]:=by
    have h8:stz 19 = .agg #[.int .i64 sv,.string ty,stz 17,.slice fa fn fc]:=hx8
    rw [h8,ex]
   replace hp:P 3 _ _ ((((wz.setCell ⟨b,0,none⟩ (.int .i64 sv)).setCell ⟨b,1,none⟩ (.string ty)).setCell ⟨b,2,none⟩ (stz 17)).setCell ⟨b,3,none⟩ (.slice fa fn fc)):=hp
   rw [ex] at hp
   refine opStep_skip (w':=_) ?_ ⟨hGz.eff (by decide) (by decide) hlz hst (by decide) (rfl) (by rw [bxO_ptr hal9 hb]; exact hp),trivial,fun k _ _ _ h=>h⟩
   simp only [execOp,evalS,hb,ex2]
   go_simp
  ·exfalso
   have hlen:iz + 10 < 10:=(List.getElem?_eq_some_iff.1 hiz).1
   omega
 ·intro Lz stz wz hGz _ hall _
  obtain ⟨b,hb⟩:=hGz.1 (hall 8 (by decide))
  have h:=hGz.2
  rw [bxO_ptr (hall 8 (by decide)) hb] at h
  rw [stg_all (fun e he=>by simp at he; rcases he with rfl | rfl | rfl <;> exact hall _ (by decide))] at h
  exact hQ stz b wz hb h
def repAppOps:List Oper:=[
 ⟨some 20, .move (.tmp 0), 111, "gate.go:60", #[], none⟩,
 ⟨some 21, .move (.tmp 0), 111, "gate.go:60", #[], none⟩,
 ⟨some 22, .nilCheck (.tmp 21), 0, "gate.go:60", #[⟨1, .data⟩], none⟩,
 ⟨some 23, .fieldAddr 82 (.tmp 22) 2, 0, "gate.go:60", #[⟨2, .data⟩], none⟩,
 ⟨some 24, .load 28 (.tmp 23), 28, "gate.go:60", #[⟨3, .data⟩], none⟩,
 ⟨some 25, .load 35 (.tmp 9), 35, "gate.go:60", #[], none⟩,
 ⟨some 26, .buildSlice 28 1 #[(0, .tmp 25)], 28, "gate.go:60", #[⟨5, .data⟩], none⟩,
 ⟨some 27, .call { callee := Callee.builtin Builtin.append, args := #[.tmp 24, .tmp 26], argTypes := #[28, 28] }, 28, "gate.go:60", #[⟨4, .data⟩, ⟨6, .data⟩], none⟩,
 ⟨some 28, .nilCheck (.tmp 20), 0, "gate.go:60", #[⟨0, .data⟩, ⟨0, .phase⟩, ⟨1, .phase⟩, ⟨2, .phase⟩, ⟨3, .phase⟩, ⟨4, .phase⟩, ⟨5, .phase⟩, ⟨6, .phase⟩, ⟨7, .phase⟩], none⟩,
 ⟨some 29, .fieldAddr 82 (.tmp 28) 2, 0, "gate.go:60", #[⟨8, .data⟩, ⟨0, .phase⟩, ⟨1, .phase⟩, ⟨2, .phase⟩, ⟨3, .phase⟩, ⟨4, .phase⟩, ⟨5, .phase⟩, ⟨6, .phase⟩, ⟨7, .phase⟩], none⟩,
 ⟨none, .store 28 (.tmp 29) (.tmp 27), 0, "gate.go:60", #[⟨9, .data⟩, ⟨7, .data⟩, ⟨7, .chain⟩, ⟨0, .phase⟩, ⟨1, .phase⟩, ⟨2, .phase⟩, ⟨3, .phase⟩, ⟨4, .phase⟩, ⟨5, .phase⟩, ⟨6, .phase⟩, ⟨7, .phase⟩], none⟩]
set_option maxRecDepth 100000 in
set_option maxHeartbeats 4000000 in
theorem repApp {Q:Exit→Act→World→Prop} {a0:Act} {w5:World} (P:Nat→(Nat→Value)→World→Prop) {bg bq kn kc fn fc rn rc:Nat} {ka fa ra:Option Addr} {sv:Int} {ty:ByteArray}
  (hsz : [20,21,22,23,24,25,26,27,28,29].all (fun d=>decide (d < a0.tmps.size))=true)
  (s0:slots a0 0 = .pointer (some ⟨bg,0,none⟩)) (s9:slots a0 9 = .pointer (some ⟨bq,0,none⟩))
  (hP0:∀ x,P 0 x w5.drew)
  (hSt:∀ j x w,j < 3→P j x w→w.cell? ⟨bg,2,none⟩=some (.slice ra rn rc)∧w.cell? ⟨bq,0,none⟩=some (.int .i64 sv)∧w.cell? ⟨bq,1,none⟩=some (.string ty)∧w.cell? ⟨bq,2,none⟩=some (.slice ka kn kc)∧w.cell? ⟨bq,3,none⟩=some (.slice fa fn fc))
  (he0:∀ x w,P 0 x w→∀ x',x' 0 = .slice (some ⟨w.heap.size,0,none⟩) 1 1→(∀ i,i≠0→x' i=x i)→P 1 x' (w.alloc (.cells #[.int .i64 sv,.string ty,.slice ka kn kc,.slice fa fn fc] 35)))
  (he1:∀ x w,P 1 x w→∀ ty,∃ v w',(Builtin.append_ #[28,28] ty #[.slice ra rn rc,x 0]).run Tryz.prog w = .ok v w'∧(∀ x',x' 1=v→(∀ i,i≠1→x' i=x i)→P 2 x' w'))
  (he2:∀ x w,P 2 x w→∃ va vn vc u,x 1 = .slice va vn vc∧w.cell? ⟨bg,2,none⟩=some u∧w.frozen? ⟨bg,2,none⟩=false∧P 3 x (w.setCell ⟨bg,2,none⟩ (x 1)))
  (hQ:∀ s w',P 3 (fun i=>s ([26,27,0].getD i 0)) w'→Q .normal (putAll a0 s [20,21,22,23,24,25,26,27,28,29]) w') :
  (Code.region 2 repAppOps.toArray true).wp Tryz.prog Q a0 w5:=by
 refine wp_region_as (by kernel_rfl) (by kernel_rfl) [20,21,22,23,24,25,26,27,28,29] (by kernel_rfl) hsz (by kernel_rfl) (fun _=>99) (asV [6,7,10] [.pointer (some ⟨bg,0,none⟩),.pointer (some ⟨bg,0,none⟩),.pointer (some ⟨bg,0,none⟩),.pointer (some ⟨bg,2,none⟩),.slice ra rn rc,.agg #[.int .i64 sv,.string ty,.slice ka kn kc,.slice fa fn fc],undef,undef,.pointer (some ⟨bg,0,none⟩),.pointer (some ⟨bg,2,none⟩),undef]) (chG [6,7,10] [26,27,0] P) (chG.start (hP0 _)) ?_ ?_
 ·intro Lz stz wz iz oz hGz hLz hcz hAz hFz hiz hlz haz
  have h99:Lz 99=false:=by
   cases h:Lz 99 with
   | false=>rfl
   | true=>exact absurd (hLz 99 h) (by decide)
  obtain _ | iz:=iz
  ·obtain rfl:=Option.some.inj hiz
   have e0:stz 0 = .pointer (some ⟨bg,0,none⟩):=(hFz 0 (by decide)).trans s0
   refine opStep_value (v:=.pointer (some ⟨bg,0,none⟩)) (w':=wz) ?_ ⟨hGz.read rfl rfl _,rfl,fun k _ _ _ h=>h⟩
   simp only [execOp,evalS,e0]
   go_simp
  obtain _ | iz:=iz
  ·obtain rfl:=Option.some.inj hiz
   have e0:stz 0 = .pointer (some ⟨bg,0,none⟩):=(hFz 0 (by decide)).trans s0
   refine opStep_value (v:=.pointer (some ⟨bg,0,none⟩)) (w':=wz) ?_ ⟨hGz.read rfl rfl _,rfl,fun k _ _ _ h=>h⟩
   simp only [execOp,evalS,e0]
   go_simp
  obtain _ | iz:=iz
  ·obtain rfl:=Option.some.inj hiz
   have e0:stz 21 = .pointer (some ⟨bg,0,none⟩):=hAz 1 (haz ⟨1,.data⟩ (by simp) rfl) h99
   refine opStep_value (v:=.pointer (some ⟨bg,0,none⟩)) (w':=wz) ?_ ⟨hGz.read rfl rfl _,rfl,fun k _ _ _ h=>h⟩
   simp only [execOp,evalS,e0]
   go_simp
  obtain _ | iz:=iz
  ·obtain rfl:=Option.some.inj hiz
   have e0:stz 22 = .pointer (some ⟨bg,0,none⟩):=hAz 2 (haz ⟨2,.data⟩ (by simp) rfl) h99
   refine opStep_value (v:=.pointer (some ⟨bg,2,none⟩)) (w':=wz) ?_ ⟨hGz.read rfl rfl _,rfl,fun k _ _ _ h=>h⟩
   simp only [execOp,evalS,e0]
   go_simp
  obtain _ | iz:=iz
  ·obtain rfl:=Option.some.inj hiz
   have e0:stz 23 = .pointer (some ⟨bg,2,none⟩):=hAz 3 (haz ⟨3,.data⟩ (by simp) rfl) h99
   have hm:Lz 10=false:=L_not (fun h=>hcz 10 _ h rfl ⟨4,.phase⟩ (by simp) rfl) hlz
   obtain ⟨z0,-,-,-,-⟩:=hSt _ _ _ (stg_lt (E:=[6,7,10]) (by simp) hm) hGz
   refine opStep_value (v:=.slice ra rn rc) (w':=wz) ?_ ⟨hGz.read rfl rfl _,rfl,fun k _ _ _ h=>h⟩
   simp only [execOp,evalS,e0]
   go_simp
  obtain _ | iz:=iz
  ·obtain rfl:=Option.some.inj hiz
   have e0:stz 9 = .pointer (some ⟨bq,0,none⟩):=(hFz 9 (by decide)).trans s9
   have hm:Lz 10=false:=L_not (fun h=>hcz 10 _ h rfl ⟨5,.phase⟩ (by simp) rfl) hlz
   obtain ⟨-,z1,z2,z3,z4⟩:=hSt _ _ _ (stg_lt (E:=[6,7,10]) (by simp) hm) hGz
   refine opStep_value (v:=.agg #[.int .i64 sv,.string ty,.slice ka kn kc,.slice fa fn fc]) (w':=wz) ?_ ⟨hGz.read rfl rfl _,rfl,fun k _ _ _ h=>h⟩
   simp only [execOp,evalS,e0]
   go_simp
  obtain _ | iz:=iz
  ·obtain rfl:=Option.some.inj hiz
   have t1:Lz 7=false:=L_not (fun h=>hcz 7 _ h rfl ⟨6,.data⟩ (by simp) rfl) hlz
   have t2:Lz 10=false:=L_not (fun h=>hcz 10 _ h rfl ⟨6,.phase⟩ (by simp) rfl) hlz
   have hst:stg [6,7,10] Lz=0:=by simp [stg,hlz,t1,t2]
   have hPj:P 0 (fun i=>stz ([26,27,0].getD i 0)) wz:=by
    have h:=hGz
    unfold chG at h
    rw [hst] at h
    exact h
   have e0:stz 25 = .agg #[.int .i64 sv,.string ty,.slice ka kn kc,.slice fa fn fc]:=hAz 5 (haz ⟨5,.data⟩ (by simp) rfl) h99
   have agree0:∀ i,i≠0→([26,27,0]:List Nat).getD i 0≠26:=fun i hi=>by
    rcases i with _ | _ | _ | i <;> simp at hi ⊢
   refine opStep_value (v:=.slice (some ⟨wz.heap.size,0,none⟩) 1 1) (w':=wz.alloc (.cells #[.int .i64 sv,.string ty,.slice ka kn kc,.slice fa fn fc] 35)) ?_ ⟨chG.eff (by decide) (by decide) hlz hst (he0 _ wz hPj _ updS_yes (fun i hi=>updS_no (agree0 i hi))),trivial,fun k _ _ _ h=>h⟩
   simp only [execOp,List.map_toArray,List.map_cons,List.map_nil,evalS,e0]
   go_simp
  obtain _ | iz:=iz
  ·obtain rfl:=Option.some.inj hiz
   have t0:Lz 6=true:=haz ⟨6,.data⟩ (by simp) rfl
   have t2:Lz 10=false:=L_not (fun h=>hcz 10 _ h rfl ⟨7,.data⟩ (by simp) rfl) hlz
   have hst:stg [6,7,10] Lz=1:=by simp [stg,t0,hlz,t2]
   have hPj:P 1 (fun i=>stz ([26,27,0].getD i 0)) wz:=by
    have h:=hGz
    unfold chG at h
    rw [hst] at h
    exact h
   have e0:stz 24 = .slice ra rn rc:=hAz 4 (haz ⟨4,.data⟩ (by simp) rfl) h99
   have agree1:∀ i,i≠1→([26,27,0]:List Nat).getD i 0≠27:=fun i hi=>by
    rcases i with _ | _ | _ | i <;> simp at hi ⊢
   obtain ⟨v,w',hr,hp⟩:=he1 _ wz hPj 28
   replace hr:(Builtin.append_ #[28,28] 28 #[.slice ra rn rc,stz 26]).run Tryz.prog wz = .ok v w':=hr
   refine opStep_value (v:=v) (w':=w') ?_ ⟨chG.eff (by decide) (by decide) hlz hst (hp _ updS_yes (fun i hi=>updS_no (agree1 i hi))),trivial,fun k _ _ _ h=>h⟩
   simp only [execOp,resolve,invoke,builtin,Sem.run_bind,Sem.run_pure,Result.andThen_ok,List.map_toArray,List.map_cons,List.map_nil,evalS,e0]
   first | (rw [hr]; rfl) | (simp [hr,Result.andThen])
  obtain _ | iz:=iz
  ·obtain rfl:=Option.some.inj hiz
   have e0:stz 20 = .pointer (some ⟨bg,0,none⟩):=hAz 0 (haz ⟨0,.data⟩ (by simp) rfl) h99
   refine opStep_value (v:=.pointer (some ⟨bg,0,none⟩)) (w':=wz) ?_ ⟨hGz.read rfl rfl _,rfl,fun k _ _ _ h=>h⟩
   simp only [execOp,evalS,e0]
   go_simp
  obtain _ | iz:=iz
  ·obtain rfl:=Option.some.inj hiz
   have e0:stz 28 = .pointer (some ⟨bg,0,none⟩):=hAz 8 (haz ⟨8,.data⟩ (by simp) rfl) h99
   refine opStep_value (v:=.pointer (some ⟨bg,2,none⟩)) (w':=wz) ?_ ⟨hGz.read rfl rfl _,rfl,fun k _ _ _ h=>h⟩
   simp only [execOp,evalS,e0]
   go_simp
  obtain _ | iz:=iz
  ·obtain rfl:=Option.some.inj hiz
   have t0:Lz 6=true:=haz ⟨6,.phase⟩ (by simp) rfl
   have t1:Lz 7=true:=haz ⟨7,.data⟩ (by simp) rfl
   have hst:stg [6,7,10] Lz=2:=by simp [stg,t0,t1,hlz]
   have hPj:P 2 (fun i=>stz ([26,27,0].getD i 0)) wz:=by
    have h:=hGz
    unfold chG at h
    rw [hst] at h
    exact h
   have e0:stz 29 = .pointer (some ⟨bg,2,none⟩):=hAz 9 (haz ⟨9,.data⟩ (by simp) rfl) h99
   obtain ⟨va,vn,vc,u,hx9,hu,hfz,hp⟩:=he2 _ wz hPj
   have ex:stz 27 = .slice va vn vc:=hx9
   replace hp:P 3 _ (wz.setCell ⟨bg,2,none⟩ (stz 27)):=hp
   rw [ex] at hp
   refine opStep_skip (w':=_) ?_ ⟨chG.eff (by decide) (by decide) hlz hst hp,trivial,fun k _ _ _ h=>h⟩
   simp only [execOp,evalS,e0,ex]
   go_simp
  ·exfalso
   have hlen:iz + 11 < 11:=(List.getElem?_eq_some_iff.1 hiz).1
   omega
 ·intro Lz stz wz hGz _ hall _
  have h:=hGz
  unfold chG at h
  rw [stg_all (fun e he=>by simp at he; rcases he with rfl | rfl | rfl <;> exact hall _ (by decide))] at h
  exact hQ stz wz h
def rep0 (v:Value):Value:=match v with
 | .agg a=>a.getD 0 undef
 | _=>undef
def rep1 (v:Value):Value:=match v with
 | .agg a=>a.getD 1 undef
 | _=>undef
def repAskOps:List Oper:=[
 ⟨some 31, .move (.tmp 0), 111, "gate.go:61", #[], none⟩,
 ⟨some 32, .nilCheck (.tmp 31), 0, "gate.go:61", #[⟨0, .data⟩], none⟩,
 ⟨some 33, .fieldAddr 82 (.tmp 32) 0, 0, "gate.go:61", #[⟨1, .data⟩], none⟩,
 ⟨some 34, .load 22 (.tmp 33), 22, "gate.go:61", #[⟨2, .data⟩], none⟩,
 ⟨some 35, .load 35 (.tmp 9), 35, "gate.go:61", #[], none⟩,
 { dst := some 36, op := Op.call { callee := Callee.value (Operand.func 69), args := #[Operand.tmp 34, Operand.tmp 35], argTypes := #[22, 35] }, type := 162, pos := "gate.go:61", after := #[⟨3, .data⟩, ⟨4, .data⟩], guard := none },
 { dst := some 30, op := Op.move (Operand.tmp 36), type := 162, pos := "gate.go:61", after := #[⟨5, .data⟩], guard := none },
 ⟨some 37, .extract (.tmp 30) 0, 123, "gate.go:61", #[⟨6, .data⟩], none⟩,
 ⟨some 38, .extract (.tmp 30) 1, 29, "gate.go:61", #[⟨6, .data⟩, { on := 10, ground := Ground.gcOnly Departure.lateStores }], none⟩,
 ⟨some 10, .alloc 123, 0, "gate.go:61", #[], none⟩,
 ⟨none, .store 123 (.tmp 10) (.tmp 37), 0, "gate.go:61", #[⟨9, .data⟩, ⟨7, .data⟩, ⟨5, .chain⟩, ⟨0, .phase⟩, ⟨1, .phase⟩, ⟨2, .phase⟩, ⟨3, .phase⟩, ⟨4, .phase⟩, ⟨5, .phase⟩, ⟨6, .phase⟩, ⟨7, .phase⟩, { on := 8, ground := Ground.textOnly Departure.lateStores }, ⟨9, .phase⟩], none⟩,
 ⟨some 11, .assign (.tmp 38), 29, "gate.go:61", #[⟨8, .data⟩, ⟨10, .chain⟩, ⟨0, .phase⟩, ⟨1, .phase⟩, ⟨2, .phase⟩, ⟨3, .phase⟩, ⟨4, .phase⟩, ⟨5, .phase⟩, ⟨6, .phase⟩, ⟨7, .phase⟩, ⟨8, .phase⟩, ⟨9, .phase⟩, ⟨10, .phase⟩], none⟩]
set_option maxRecDepth 100000 in
set_option maxHeartbeats 4000000 in
theorem repAsk {Q:Exit→Act→World→Prop} {a0:Act} {w5:World} (P:Nat→(Nat→Value)→Option Nat→World→Prop) {bg bq kn kc fn fc n cap:Nat} {ka fa la:Option Addr} {sv:Int} {ty:ByteArray}
  (hsz : [31,32,33,34,35,36,30,37,38,10,11].all (fun d=>decide (d < a0.tmps.size))=true)
  (s0:slots a0 0 = .pointer (some ⟨bg,0,none⟩)) (s9:slots a0 9 = .pointer (some ⟨bq,0,none⟩))
  (hX:∀ j x o w,2≤j→P j x o w→∃ y,x 1 = .tuple #[y,.int .i64 0]) (hX3:∀ x o w,P 3 x o w→∃ fa fn fc va vn vc,x 2 = .agg #[.slice fa fn fc,.slice va vn vc])
  (hP0:∀ x,P 0 x none w5.drew)
  (hSt:∀ j x o w,j < 4→P j x o w→w.cell? ⟨bg,0,none⟩=some (.slice la n cap)∧w.cell? ⟨bq,0,none⟩=some (.int .i64 sv)∧w.cell? ⟨bq,1,none⟩=some (.string ty)∧w.cell? ⟨bq,2,none⟩=some (.slice ka kn kc)∧w.cell? ⟨bq,3,none⟩=some (.slice fa fn fc))
  (he0:∀ x o w,P 0 x o w→Calls Tryz.prog 69 #[.slice la n cap,.agg #[.int .i64 sv,.string ty,.slice ka kn kc,.slice fa fn fc]] w fun e w' => ∃ v,e = .returned v∧(∀ x',x' 0=v→(∀ i,i≠0→x' i=x i)→P 1 x' o w'))
  (he1:∀ x o w,P 1 x o w→∀ x',x' 1=x 0→(∀ i,i≠1→x' i=x i)→P 2 x' o w)
  (he2:∀ x o w,P 2 x o w→∃ fa fn fc va vn vc,x 1 = .tuple #[.agg #[.slice fa fn fc,.slice va vn vc],.int .i64 0]∧∀ x',x' 2 = .agg #[.slice fa fn fc,.slice va vn vc]→(∀ i,i≠2→x' i=x i)→P 3 x' o w)
  (he3:∀ x b w,P 3 x (some b) w→w.heap[b]? = some (.cells #[.slice none 0 0,.slice none 0 0] 123 (0,0))∧P 4 x (some b) ((w.setCell ⟨b,0,none⟩ (rep0 (x 2))).setCell ⟨b,1,none⟩ (rep1 (x 2))))
  (hal:∀ j x w,P j x none w→P j x (some w.heap.size) (w.alloc (.cells #[.slice none 0 0,.slice none 0 0] 123)))
  (hQ:∀ s b w',s 10 = .pointer (some ⟨b,0,none⟩)→P 4 (fun i=>s ([36,30,37,0].getD i 0)) (some b) w'→Q .normal (putAll a0 s [31,32,33,34,35,36,30,37,38,10,11]) w') :
  (Code.region 3 repAskOps.toArray true).wp Tryz.prog Q a0 w5:=by
 refine wp_region_as (by kernel_rfl) (by kernel_rfl) [31,32,33,34,35,36,30,37,38,10,11] (by kernel_rfl) hsz (by kernel_rfl) (fun _=>99) (asV [5,6,7,10,9] [.pointer (some ⟨bg,0,none⟩),.pointer (some ⟨bg,0,none⟩),.pointer (some ⟨bg,0,none⟩),.slice la n cap,.agg #[.int .i64 sv,.string ty,.slice ka kn kc,.slice fa fn fc],undef,undef,undef,.int .i64 0,undef,undef,.int .i64 0]) (chB [5,6,7,10] [36,30,37,0] 9 10 P) (chB.start (hP0 _)) ?_ ?_
 ·intro Lz stz wz iz oz hGz hLz hcz hAz hFz hiz hlz haz
  have h99:Lz 99=false:=by
   cases h:Lz 99 with
   | false=>rfl
   | true=>exact absurd (hLz 99 h) (by decide)
  obtain _ | iz:=iz
  ·obtain rfl:=Option.some.inj hiz
   have e0:stz 0 = .pointer (some ⟨bg,0,none⟩):=(hFz 0 (by decide)).trans s0
   refine opStep_value (v:=.pointer (some ⟨bg,0,none⟩)) (w':=wz) ?_ ⟨hGz.read rfl rfl _,rfl,fun k _ _ _ h=>h⟩
   simp only [execOp,evalS,e0]
   go_simp
  obtain _ | iz:=iz
  ·obtain rfl:=Option.some.inj hiz
   have e0:stz 31 = .pointer (some ⟨bg,0,none⟩):=hAz 0 (haz ⟨0,.data⟩ (by simp) rfl) h99
   refine opStep_value (v:=.pointer (some ⟨bg,0,none⟩)) (w':=wz) ?_ ⟨hGz.read rfl rfl _,rfl,fun k _ _ _ h=>h⟩
   simp only [execOp,evalS,e0]
   go_simp
  obtain _ | iz:=iz
  ·obtain rfl:=Option.some.inj hiz
   have e0:stz 32 = .pointer (some ⟨bg,0,none⟩):=hAz 1 (haz ⟨1,.data⟩ (by simp) rfl) h99
   refine opStep_value (v:=.pointer (some ⟨bg,0,none⟩)) (w':=wz) ?_ ⟨hGz.read rfl rfl _,rfl,fun k _ _ _ h=>h⟩
   simp only [execOp,evalS,e0]
   go_simp
  obtain _ | iz:=iz
  ·obtain rfl:=Option.some.inj hiz
   have e0:stz 33 = .pointer (some ⟨bg,0,none⟩):=hAz 2 (haz ⟨2,.data⟩ (by simp) rfl) h99
   have hm:Lz 10=false:=L_not (fun h=>hcz 10 _ h rfl ⟨3,.phase⟩ (by simp) rfl) hlz
   obtain ⟨z0,-,-,-,-⟩:=hSt _ _ _ _ (stg_lt (E:=[5,6,7,10]) (by simp) hm) hGz.2
   refine opStep_value (v:=.slice la n cap) (w':=wz) ?_ ⟨hGz.read rfl rfl _,rfl,fun k _ _ _ h=>h⟩
   simp only [execOp,evalS,e0]
   go_simp
  obtain _ | iz:=iz
  ·obtain rfl:=Option.some.inj hiz
   have e0:stz 9 = .pointer (some ⟨bq,0,none⟩):=(hFz 9 (by decide)).trans s9
   have hm:Lz 10=false:=L_not (fun h=>hcz 10 _ h rfl ⟨4,.phase⟩ (by simp) rfl) hlz
   obtain ⟨-,z1,z2,z3,z4⟩:=hSt _ _ _ _ (stg_lt (E:=[5,6,7,10]) (by simp) hm) hGz.2
   refine opStep_value (v:=.agg #[.int .i64 sv,.string ty,.slice ka kn kc,.slice fa fn fc]) (w':=wz) ?_ ⟨hGz.read rfl rfl _,rfl,fun k _ _ _ h=>h⟩
   simp only [execOp,evalS,e0]
   go_simp
  obtain _ | iz:=iz
  ·obtain rfl:=Option.some.inj hiz
   have t1:Lz 6=false:=L_not (fun h=>hcz 6 _ h rfl ⟨5,.data⟩ (by simp) rfl) hlz
   have t2:Lz 7=false:=L_not (fun h=>hcz 7 _ h rfl ⟨6,.data⟩ (by simp) rfl) (L_not (fun h=>hcz 6 _ h rfl ⟨5,.data⟩ (by simp) rfl) hlz)
   have t3:Lz 10=false:=L_not (fun h=>hcz 10 _ h rfl ⟨5,.chain⟩ (by simp) rfl) hlz
   have hst:stg [5,6,7,10] Lz=0:=by simp [stg,hlz,t1,t2,t3]
   have hPj:P 0 (fun i=>stz ([36,30,37,0].getD i 0)) (bxO 9 10 Lz stz) wz:=by
    have h:=hGz.2
    rw [hst] at h
    exact h
   have e0:stz 34 = .slice la n cap:=hAz 3 (haz ⟨3,.data⟩ (by simp) rfl) h99
   have e1:stz 35 = .agg #[.int .i64 sv,.string ty,.slice ka kn kc,.slice fa fn fc]:=hAz 4 (haz ⟨4,.data⟩ (by simp) rfl) h99
   have agree0:∀ i,i≠0→([36,30,37,0]:List Nat).getD i 0≠36:=fun i hi=>by
    rcases i with _ | _ | _ | _ | i <;> simp at hi ⊢
   refine opStep_fn 69 #[.tmp 34,.tmp 35] #[22,35] rfl (enters_of Tryz.func69 (by kernel_rfl) rfl) _ (by simp only [List.map_toArray,List.map_cons,List.map_nil,evalS,e0,e1]; first | done | rfl) ((he0 _ _ wz hPj).mono fun e w' h=>?_)
   obtain ⟨v,rfl,hv⟩:=h
   exact ⟨v,rfl,hGz.eff (by decide) (by decide) hlz hst (by decide) (updS_no (by decide)) (hv _ updS_yes (fun i hi=>updS_no (agree0 i hi))),trivial,fun k _ _ _ h=>h⟩
  obtain _ | iz:=iz
  ·obtain rfl:=Option.some.inj hiz
   have t0:Lz 5=true:=haz ⟨5,.data⟩ (by simp) rfl
   have t2:Lz 7=false:=L_not (fun h=>hcz 7 _ h rfl ⟨6,.data⟩ (by simp) rfl) hlz
   have t3:Lz 10=false:=L_not (fun h=>hcz 10 _ h rfl ⟨6,.phase⟩ (by simp) rfl) hlz
   have hst:stg [5,6,7,10] Lz=1:=by simp [stg,t0,hlz,t2,t3]
   have hPj:P 1 (fun i=>stz ([36,30,37,0].getD i 0)) (bxO 9 10 Lz stz) wz:=by
    have h:=hGz.2
    rw [hst] at h
    exact h
   have agree1:∀ i,i≠1→([36,30,37,0]:List Nat).getD i 0≠30:=fun i hi=>by
    rcases i with _ | _ | _ | _ | i <;> simp at hi ⊢
   refine opStep_value (v:=stz 36) (w':=wz) ?_ ⟨hGz.eff (by decide) (by decide) hlz hst (by decide) (updS_no (by decide)) (he1 _ _ wz hPj _ updS_yes (fun i hi=>updS_no (agree1 i hi))),trivial,fun k _ _ _ h=>h⟩
   rfl
  obtain _ | iz:=iz
  ·obtain rfl:=Option.some.inj hiz
   have t0:Lz 5=true:=hcz 6 _ (haz ⟨6,.data⟩ (by simp) rfl) rfl ⟨5,.data⟩ (by simp) rfl
   have t1:Lz 6=true:=haz ⟨6,.data⟩ (by simp) rfl
   have t3:Lz 10=false:=L_not (fun h=>hcz 10 _ h rfl ⟨7,.data⟩ (by simp) rfl) hlz
   have hst:stg [5,6,7,10] Lz=2:=by simp [stg,t0,t1,hlz,t3]
   have hPj:P 2 (fun i=>stz ([36,30,37,0].getD i 0)) (bxO 9 10 Lz stz) wz:=by
    have h:=hGz.2
    rw [hst] at h
    exact h
   have agree2:∀ i,i≠2→([36,30,37,0]:List Nat).getD i 0≠37:=fun i hi=>by
    rcases i with _ | _ | _ | _ | i <;> simp at hi ⊢
   obtain ⟨f1,f2,f3,f4,f5,f6,hx9,hp⟩:=he2 _ _ wz hPj
   have ex:stz 30 = .tuple #[.agg #[.slice f1 f2 f3,.slice f4 f5 f6],.int .i64 0]:=hx9
   refine opStep_value (v:=.agg #[.slice f1 f2 f3,.slice f4 f5 f6]) (w':=wz) ?_ ⟨hGz.eff (by decide) (by decide) hlz hst (by decide) (updS_no (by decide)) (hp _ updS_yes (fun i hi=>updS_no (agree2 i hi))),trivial,fun k _ _ _ h=>h⟩
   simp only [execOp,evalS,ex]
   go_simp
  obtain _ | iz:=iz
  ·obtain rfl:=Option.some.inj hiz
   have t6:Lz 6=true:=haz ⟨6,.data⟩ (by simp) rfl
   have t5:Lz 5=true:=hcz 6 _ t6 rfl ⟨5,.data⟩ (by simp) rfl
   have hst:2≤stg [5,6,7,10] Lz:=by
    simp only [stg,List.filter_cons,t5,t6,if_true,List.length_cons]
    omega
   obtain ⟨y,hy⟩:=hX _ _ _ _ hst hGz.2
   have ex:stz 30 = .tuple #[y,.int .i64 0]:=hy
   refine opStep_value (v:=.int .i64 0) (w':=wz) ?_ ⟨hGz.read rfl rfl _,rfl,fun k _ _ _ h=>h⟩
   simp only [execOp,evalS,ex]
   go_simp
  obtain _ | iz:=iz
  ·obtain rfl:=Option.some.inj hiz
   refine opStep_value (v:=.pointer (some ⟨wz.heap.size,0,none⟩)) (w':=wz.alloc (.cells #[.slice none 0 0,.slice none 0 0] 123)) ?_ ⟨hGz.alloc hlz rfl rfl (fun j x h=>hal j x wz h),trivial,fun k _ _ _ h=>h⟩
   simp only [execOp]
   go_simp
  obtain _ | iz:=iz
  ·obtain rfl:=Option.some.inj hiz
   have t0:Lz 5=true:=haz ⟨5,.chain⟩ (by simp) rfl
   have t1:Lz 6=true:=haz ⟨6,.phase⟩ (by simp) rfl
   have t2:Lz 7=true:=haz ⟨7,.data⟩ (by simp) rfl
   have hst:stg [5,6,7,10] Lz=3:=by simp [stg,t0,t1,t2,hlz]
   have hPj:P 3 (fun i=>stz ([36,30,37,0].getD i 0)) (bxO 9 10 Lz stz) wz:=by
    have h:=hGz.2
    rw [hst] at h
    exact h
   have hal9:Lz 9=true:=haz ⟨9,.data⟩ (by simp) rfl
   obtain ⟨b,hb⟩:=hGz.1 hal9
   rw [bxO_ptr hal9 hb] at hPj
   obtain ⟨q3,hp⟩:=he3 _ b wz hPj
   obtain ⟨x0,x1⟩:wz.cell? ⟨b,0,none⟩=some (.slice none 0 0)∧wz.cell? ⟨b,1,none⟩=some (.slice none 0 0):=by simp [World.cell?,q3]
   obtain ⟨y0,y1⟩:wz.frozen? ⟨b,0,none⟩=false∧wz.frozen? ⟨b,1,none⟩=false:=by simp [World.frozen?,q3]
   obtain ⟨f1,f2,f3,f4,f5,f6,hx9⟩:=hX3 _ _ _ hPj
   have ex:stz 37 = .agg #[.slice f1 f2 f3,.slice f4 f5 f6]:=hx9
   replace hp:P 4 _ _ ((wz.setCell ⟨b,0,none⟩ (rep0 (stz 37))).setCell ⟨b,1,none⟩ (rep1 (stz 37))):=hp
   rw [ex] at hp
   refine opStep_skip (w':=_) ?_ ⟨hGz.eff (by decide) (by decide) hlz hst (by decide) (rfl) (by rw [bxO_ptr hal9 hb]; exact hp),trivial,fun k _ _ _ h=>h⟩
   simp only [execOp,evalS,hb,ex]
   go_simp
   rfl
  obtain _ | iz:=iz
  ·obtain rfl:=Option.some.inj hiz
   have e0:stz 38 = .int .i64 0:=hAz 8 (haz ⟨8,.data⟩ (by simp) rfl) h99
   refine opStep_value (v:=.int .i64 0) (w':=wz) ?_ ⟨hGz.read rfl rfl _,rfl,fun k _ _ _ h=>h⟩
   simp only [execOp,evalS,e0]
   go_simp
  ·exfalso
   have hlen:iz + 12 < 12:=(List.getElem?_eq_some_iff.1 hiz).1
   omega
 ·intro Lz stz wz hGz _ hall _
  obtain ⟨b,hb⟩:=hGz.1 (hall 9 (by decide))
  have h:=hGz.2
  rw [bxO_ptr (hall 9 (by decide)) hb] at h
  rw [stg_all (fun e he=>by simp at he; rcases he with rfl | rfl | rfl | rfl <;> exact hall _ (by decide))] at h
  exact hQ stz b wz hb h
end Go.Proofs.YtjjggefmmeminacGreat
