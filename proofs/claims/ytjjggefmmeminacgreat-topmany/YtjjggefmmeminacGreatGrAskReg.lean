import Derived.Test.YtjjggefmmeminacGreatJRc
import Derived.Test.YtjjggefmmeminacGreatGrMem
namespace Go.Proofs.YtjjggefmmeminacGreat
open Go.RowKit Go.Sort Go.PlainAid
def askPartOps:List Oper:=[
 ⟨some 16, .move (.tmp 0), 111, "gate.go:40", #[], none⟩,
 ⟨some 17, .nilCheck (.tmp 16), 0, "gate.go:40", #[⟨0, .data⟩], none⟩,
 ⟨some 18, .fieldAddr 82 (.tmp 17) 1, 0, "gate.go:40", #[⟨1, .data⟩], none⟩,
 ⟨some 19, .load 77 (.tmp 18), 77, "gate.go:40", #[⟨2, .data⟩], none⟩,
 ⟨some 20, .move (.tmp 0), 111, "gate.go:40", #[], none⟩,
 ⟨some 21, .nilCheck (.tmp 20), 0, "gate.go:40", #[⟨4, .data⟩], none⟩,
 ⟨some 22, .fieldAddr 82 (.tmp 21) 1, 0, "gate.go:40", #[⟨5, .data⟩], none⟩,
 ⟨some 23, .load 77 (.tmp 22), 77, "gate.go:40", #[⟨6, .data⟩], none⟩,
 ⟨some 24, .move (.tmp 1), 9, "gate.go:40", #[], none⟩,
 ⟨some 25, .call { callee := Callee.value (.func 42), args := #[.tmp 23, .tmp 24], argTypes := #[77, 9] }, 3, "gate.go:40", #[⟨7, .data⟩, ⟨8, .data⟩], none⟩,
 ⟨some 26, .indexAddr 77 (.tmp 19) (.tmp 25), 0, "gate.go:40", #[⟨3, .data⟩, ⟨9, .data⟩], none⟩,
 ⟨some 27, .load 114 (.tmp 26), 114, "gate.go:40", #[⟨10, .data⟩], none⟩,
 ⟨some 9, .alloc 114, 0, "gate.go:40", #[], none⟩,
 ⟨none, .store 114 (.tmp 9) (.tmp 27), 0, "gate.go:40", #[⟨12, .data⟩, ⟨11, .data⟩, ⟨9, .chain⟩, ⟨0, .phase⟩, ⟨1, .phase⟩, ⟨2, .phase⟩, ⟨3, .phase⟩, ⟨4, .phase⟩, ⟨5, .phase⟩, ⟨6, .phase⟩, ⟨7, .phase⟩, ⟨8, .phase⟩, ⟨9, .phase⟩, ⟨10, .phase⟩, ⟨11, .phase⟩, ⟨12, .phase⟩], none⟩]
set_option maxRecDepth 100000 in
set_option maxHeartbeats 4000000 in
theorem askPart {Q:Exit→Act→World→Prop} {a0:Act} {w5:World} (P:Nat→(Nat→Value)→Option Nat→World→Prop) {bg pb pn pc fn fc on oc hn hc i:Nat} {fa oa ha:Option Addr} {ty nm:ByteArray}
  (hsz : [16,17,18,19,20,21,22,23,24,25,26,27,9].all (fun d=>decide (d < a0.tmps.size))=true)
  (s0:slots a0 0 = .pointer (some ⟨bg,0,none⟩)) (s1:slots a0 1 = .string ty) (hi0:(0:Int)≤(i:Int)) (hi1:(i:Int) < (pn:Int))
  (hX:∀ j x o w,1≤j→P j x o w→x 0 = .int .i64 (i:Int))
  (hP0:∀ x,P 0 x none w5.drew)
  (hSt:∀ j x o w,j < 2→P j x o w→w.cell? ⟨bg,1,none⟩=some (.slice (some ⟨pb,0,none⟩) pn pc)∧w.cell? ⟨pb,i * 4,none⟩=some (.string nm)∧w.cell? ⟨pb,i * 4 + 1,none⟩=some (.slice fa fn fc)∧w.cell? ⟨pb,i * 4 + 2,none⟩=some (.slice oa on oc)∧w.cell? ⟨pb,i * 4 + 3,none⟩=some (.slice ha hn hc))
  (he0:∀ x o w,P 0 x o w→Calls Tryz.prog 42 #[.slice (some ⟨pb,0,none⟩) pn pc,.string ty] w fun e w' => ∃ v,e = .returned v∧(∀ x',x' 0=v→(∀ i,i≠0→x' i=x i)→P 1 x' o w'))
  (he1:∀ x b w,P 1 x (some b) w→w.heap[b]? = some (.cells #[.string ⟨#[]⟩,.slice none 0 0,.slice none 0 0,.slice none 0 0] 114 (0,0))∧P 2 x (some b) ((((w.setCell ⟨b,0,none⟩ (.string nm)).setCell ⟨b,1,none⟩ (.slice fa fn fc)).setCell ⟨b,2,none⟩ (.slice oa on oc)).setCell ⟨b,3,none⟩ (.slice ha hn hc)))
  (hal:∀ j x w,P j x none w→P j x (some w.heap.size) (w.alloc (.cells #[.string ⟨#[]⟩,.slice none 0 0,.slice none 0 0,.slice none 0 0] 114)))
  (hQ:∀ s b w',s 9 = .pointer (some ⟨b,0,none⟩)→P 2 (fun i=>s ([25,0].getD i 0)) (some b) w'→Q .normal (putAll a0 s [16,17,18,19,20,21,22,23,24,25,26,27,9]) w') :
  (Code.region 1 askPartOps.toArray true).wp Tryz.prog Q a0 w5:=by
 refine wp_region_as (by kernel_rfl) (by kernel_rfl) [16,17,18,19,20,21,22,23,24,25,26,27,9] (by kernel_rfl) hsz (by kernel_rfl) (fun _=>99) (asV [9,13,12] [.pointer (some ⟨bg,0,none⟩),.pointer (some ⟨bg,0,none⟩),.pointer (some ⟨bg,1,none⟩),.slice (some ⟨pb,0,none⟩) pn pc,.pointer (some ⟨bg,0,none⟩),.pointer (some ⟨bg,0,none⟩),.pointer (some ⟨bg,1,none⟩),.slice (some ⟨pb,0,none⟩) pn pc,.string ty,undef,.pointer (some ⟨pb,i * 4,none⟩),.agg #[.string nm,.slice fa fn fc,.slice oa on oc,.slice ha hn hc],undef,undef]) (chB [9,13] [25,0] 12 9 P) (chB.start (hP0 _)) ?_ ?_
 ·intro Lz stz wz iz oz hGz hLz hcz hAz hFz hiz hlz haz
  have h99:Lz 99=false:=by
   cases h:Lz 99 with
   | false=>rfl
   | true=>exact absurd (hLz 99 h) (by decide)
  obtain _ | iz:=iz
  ·obtain rfl:=Option.some.inj hiz
   have e0:stz 0 = .pointer (some ⟨bg,0,none⟩):=(hFz 0 (by decide)).trans s0
   refine opStep_value (v:=.pointer (some ⟨bg,0,none⟩)) (w':=wz) ?_ ⟨hGz.read rfl rfl _,rfl,fun k _ _ _ h=>h⟩
   simp only [execOp,evalS,e0]
   go_simp
  obtain _ | iz:=iz
  ·obtain rfl:=Option.some.inj hiz
   have e0:stz 16 = .pointer (some ⟨bg,0,none⟩):=hAz 0 (haz ⟨0,.data⟩ (by simp) rfl) h99
   refine opStep_value (v:=.pointer (some ⟨bg,0,none⟩)) (w':=wz) ?_ ⟨hGz.read rfl rfl _,rfl,fun k _ _ _ h=>h⟩
   simp only [execOp,evalS,e0]
   go_simp
  obtain _ | iz:=iz
  ·obtain rfl:=Option.some.inj hiz
   have e0:stz 17 = .pointer (some ⟨bg,0,none⟩):=hAz 1 (haz ⟨1,.data⟩ (by simp) rfl) h99
   refine opStep_value (v:=.pointer (some ⟨bg,1,none⟩)) (w':=wz) ?_ ⟨hGz.read rfl rfl _,rfl,fun k _ _ _ h=>h⟩
   simp only [execOp,evalS,e0]
   go_simp
  obtain _ | iz:=iz
  ·obtain rfl:=Option.some.inj hiz
   have e0:stz 18 = .pointer (some ⟨bg,1,none⟩):=hAz 2 (haz ⟨2,.data⟩ (by simp) rfl) h99
   have hm:Lz 13=false:=L_not (fun h=>hcz 13 _ h rfl ⟨3,.phase⟩ (by simp) rfl) hlz
   obtain ⟨z0,-,-,-,-⟩:=hSt _ _ _ _ (stg_lt (E:=[9,13]) (by simp) hm) hGz.2
   refine opStep_value (v:=.slice (some ⟨pb,0,none⟩) pn pc) (w':=wz) ?_ ⟨hGz.read rfl rfl _,rfl,fun k _ _ _ h=>h⟩
   simp only [execOp,evalS,e0]
   go_simp
  obtain _ | iz:=iz
  ·obtain rfl:=Option.some.inj hiz
   have e0:stz 0 = .pointer (some ⟨bg,0,none⟩):=(hFz 0 (by decide)).trans s0
   refine opStep_value (v:=.pointer (some ⟨bg,0,none⟩)) (w':=wz) ?_ ⟨hGz.read rfl rfl _,rfl,fun k _ _ _ h=>h⟩
   simp only [execOp,evalS,e0]
   go_simp
  obtain _ | iz:=iz
  ·obtain rfl:=Option.some.inj hiz
   have e0:stz 20 = .pointer (some ⟨bg,0,none⟩):=hAz 4 (haz ⟨4,.data⟩ (by simp) rfl) h99
   refine opStep_value (v:=.pointer (some ⟨bg,0,none⟩)) (w':=wz) ?_ ⟨hGz.read rfl rfl _,rfl,fun k _ _ _ h=>h⟩
   simp only [execOp,evalS,e0]
   go_simp
  obtain _ | iz:=iz
  ·obtain rfl:=Option.some.inj hiz
   have e0:stz 21 = .pointer (some ⟨bg,0,none⟩):=hAz 5 (haz ⟨5,.data⟩ (by simp) rfl) h99
   refine opStep_value (v:=.pointer (some ⟨bg,1,none⟩)) (w':=wz) ?_ ⟨hGz.read rfl rfl _,rfl,fun k _ _ _ h=>h⟩
   simp only [execOp,evalS,e0]
   go_simp
  obtain _ | iz:=iz
  ·obtain rfl:=Option.some.inj hiz
   have e0:stz 22 = .pointer (some ⟨bg,1,none⟩):=hAz 6 (haz ⟨6,.data⟩ (by simp) rfl) h99
   have hm:Lz 13=false:=L_not (fun h=>hcz 13 _ h rfl ⟨7,.phase⟩ (by simp) rfl) hlz
   obtain ⟨z0,-,-,-,-⟩:=hSt _ _ _ _ (stg_lt (E:=[9,13]) (by simp) hm) hGz.2
   refine opStep_value (v:=.slice (some ⟨pb,0,none⟩) pn pc) (w':=wz) ?_ ⟨hGz.read rfl rfl _,rfl,fun k _ _ _ h=>h⟩
   simp only [execOp,evalS,e0]
   go_simp
  obtain _ | iz:=iz
  ·obtain rfl:=Option.some.inj hiz
   have e0:stz 1 = .string ty:=(hFz 1 (by decide)).trans s1
   refine opStep_value (v:=.string ty) (w':=wz) ?_ ⟨hGz.read rfl rfl _,rfl,fun k _ _ _ h=>h⟩
   simp only [execOp,evalS,e0]
   go_simp
  obtain _ | iz:=iz
  ·obtain rfl:=Option.some.inj hiz
   have t1:Lz 13=false:=L_not (fun h=>hcz 13 _ h rfl ⟨9,.chain⟩ (by simp) rfl) hlz
   have hst:stg [9,13] Lz=0:=by simp [stg,hlz,t1]
   have hPj:P 0 (fun i=>stz ([25,0].getD i 0)) (bxO 12 9 Lz stz) wz:=by
    have h:=hGz.2
    rw [hst] at h
    exact h
   have e0:stz 23 = .slice (some ⟨pb,0,none⟩) pn pc:=hAz 7 (haz ⟨7,.data⟩ (by simp) rfl) h99
   have e1:stz 24 = .string ty:=hAz 8 (haz ⟨8,.data⟩ (by simp) rfl) h99
   have agree0:∀ i,i≠0→([25,0]:List Nat).getD i 0≠25:=fun i hi=>by
    rcases i with _ | _ | i <;> simp at hi ⊢
   refine opStep_fn 42 #[.tmp 23,.tmp 24] #[77,9] rfl (enters_of Tryz.func42 (by kernel_rfl) rfl) _ (by simp only [List.map_toArray,List.map_cons,List.map_nil,evalS,e0,e1]; first | done | rfl) ((he0 _ _ wz hPj).mono fun e w' h=>?_)
   obtain ⟨v,rfl,hv⟩:=h
   exact ⟨v,rfl,hGz.eff (by decide) (by decide) hlz hst (by decide) (updS_no (by decide)) (hv _ updS_yes (fun i hi=>updS_no (agree0 i hi))),trivial,fun k _ _ _ h=>h⟩
  obtain _ | iz:=iz
  ·obtain rfl:=Option.some.inj hiz
   have e0:stz 19 = .slice (some ⟨pb,0,none⟩) pn pc:=hAz 3 (haz ⟨3,.data⟩ (by simp) rfl) h99
   have t9:Lz 9=true:=haz ⟨9,.data⟩ (by simp) rfl
   have hst:1≤stg [9,13] Lz:=by
    simp only [stg,List.filter_cons,t9,if_true,List.length_cons]
    omega
   have ex:stz 25 = .int .i64 (i:Int):=hX _ _ _ _ hst hGz.2
   refine opStep_value (v:=.pointer (some ⟨pb,i * 4,none⟩)) (w':=wz) ?_ ⟨hGz.read rfl rfl _,rfl,fun k _ _ _ h=>h⟩
   simp only [execOp,evalS,e0,ex]
   go_simp
  obtain _ | iz:=iz
  ·obtain rfl:=Option.some.inj hiz
   have e0:stz 26 = .pointer (some ⟨pb,i * 4,none⟩):=hAz 10 (haz ⟨10,.data⟩ (by simp) rfl) h99
   have hm:Lz 13=false:=L_not (fun h=>hcz 13 _ h rfl ⟨11,.data⟩ (by simp) rfl) hlz
   obtain ⟨-,z1,z2,z3,z4⟩:=hSt _ _ _ _ (stg_lt (E:=[9,13]) (by simp) hm) hGz.2
   refine opStep_value (v:=.agg #[.string nm,.slice fa fn fc,.slice oa on oc,.slice ha hn hc]) (w':=wz) ?_ ⟨hGz.read rfl rfl _,rfl,fun k _ _ _ h=>h⟩
   simp only [execOp,evalS,e0]
   go_simp
  obtain _ | iz:=iz
  ·obtain rfl:=Option.some.inj hiz
   refine opStep_value (v:=.pointer (some ⟨wz.heap.size,0,none⟩)) (w':=wz.alloc (.cells #[.string ⟨#[]⟩,.slice none 0 0,.slice none 0 0,.slice none 0 0] 114)) ?_ ⟨hGz.alloc hlz rfl rfl (fun j x h=>hal j x wz h),trivial,fun k _ _ _ h=>h⟩
   simp only [execOp]
   go_simp
  obtain _ | iz:=iz
  ·obtain rfl:=Option.some.inj hiz
   have t0:Lz 9=true:=haz ⟨9,.chain⟩ (by simp) rfl
   have hst:stg [9,13] Lz=1:=by simp [stg,t0,hlz]
   have hPj:P 1 (fun i=>stz ([25,0].getD i 0)) (bxO 12 9 Lz stz) wz:=by
    have h:=hGz.2
    rw [hst] at h
    exact h
   have e0:stz 27 = .agg #[.string nm,.slice fa fn fc,.slice oa on oc,.slice ha hn hc]:=hAz 11 (haz ⟨11,.data⟩ (by simp) rfl) h99
   have hal9:Lz 12=true:=haz ⟨12,.data⟩ (by simp) rfl
   obtain ⟨b,hb⟩:=hGz.1 hal9
   rw [bxO_ptr hal9 hb] at hPj
   obtain ⟨q3,hp⟩:=he1 _ b wz hPj
   obtain ⟨x0,x1,x2,x3⟩:wz.cell? ⟨b,0,none⟩=some (.string ⟨#[]⟩)∧wz.cell? ⟨b,1,none⟩=some (.slice none 0 0)∧wz.cell? ⟨b,2,none⟩=some (.slice none 0 0)∧wz.cell? ⟨b,3,none⟩=some (.slice none 0 0):=by simp [World.cell?,q3]
   obtain ⟨y0,y1,y2,y3⟩:wz.frozen? ⟨b,0,none⟩=false∧wz.frozen? ⟨b,1,none⟩=false∧wz.frozen? ⟨b,2,none⟩=false∧wz.frozen? ⟨b,3,none⟩=false:=by simp [World.frozen?,q3]
   refine opStep_skip (w':=_) ?_ ⟨hGz.eff (by decide) (by decide) hlz hst (by decide) (rfl) (by rw [bxO_ptr hal9 hb]; exact hp),trivial,fun k _ _ _ h=>h⟩
   simp only [execOp,evalS,hb,e0]
   go_simp
  ·exfalso
   have hlen:iz + 14 < 14:=(List.getElem?_eq_some_iff.1 hiz).1
   omega
 ·intro Lz stz wz hGz _ hall _
  obtain ⟨b,hb⟩:=hGz.1 (hall 12 (by decide))
  have h:=hGz.2
  rw [bxO_ptr (hall 12 (by decide)) hb] at h
  rw [stg_all (fun e he=>by simp at he; rcases he with rfl | rfl <;> exact hall _ (by decide))] at h
  exact hQ stz b wz hb h
def askHomeOps:List Oper:=[
 ⟨some 38, .load 88 (.tmp 10), 88, "gate.go:44", #[], none⟩,
 ⟨some 39, .load 118 (.tmp 12), 118, "gate.go:44", #[], none⟩,
 ⟨some 40, .move (.tmp 2), 33, "gate.go:44", #[], none⟩,
 ⟨some 41, .move (.tmp 0), 111, "gate.go:44", #[], none⟩,
 ⟨some 42, .load 118 (.tmp 12), 118, "gate.go:44", #[], none⟩,
 ⟨some 43, .move (.tmp 2), 33, "gate.go:44", #[], none⟩,
 ⟨some 44, .load 88 (.tmp 10), 88, "gate.go:44", #[], none⟩,
 ⟨some 45, .load 118 (.tmp 12), 118, "gate.go:44", #[], none⟩,
 ⟨some 46, .call { callee := Callee.value (.func 46), args := #[.tmp 44, .tmp 45], argTypes := #[88, 118] }, 33, "gate.go:44", #[⟨6, .data⟩, ⟨7, .data⟩], none⟩,
 ⟨some 47, .call { callee := Callee.value (.func 45), args := #[.tmp 41, .tmp 42, .tmp 43, .tmp 46], argTypes := #[111, 118, 33, 33] }, 123, "gate.go:44", #[⟨3, .data⟩, ⟨4, .data⟩, ⟨5, .data⟩, ⟨8, .data⟩, ⟨8, .chain⟩], none⟩,
 ⟨some 48, .call { callee := Callee.value (.func 44), args := #[.tmp 38, .tmp 39, .tmp 40, .tmp 47], argTypes := #[88, 118, 33, 123] }, 0, "gate.go:44", #[⟨0, .data⟩, ⟨1, .data⟩, ⟨2, .data⟩, ⟨9, .data⟩, ⟨9, .chain⟩], none⟩]
set_option maxRecDepth 100000 in
set_option maxHeartbeats 4000000 in
theorem askHome {Q:Exit→Act→World→Prop} {a0:Act} {w5:World} (P:Nat→(Nat→Value)→World→Prop) {bg bl bo cn cc bh bv kn kc:Nat} {ca ka:Option Addr} {h:POwner}
  (hsz : [38,39,40,41,42,43,44,45,46,47,48].all (fun d=>decide (d < a0.tmps.size))=true)
  (s0:slots a0 0 = .pointer (some ⟨bg,0,none⟩)) (s10:slots a0 10 = .pointer (some ⟨bl,0,none⟩)) (s12:slots a0 12 = .pointer (some ⟨bo,0,none⟩)) (s2:slots a0 2 = .slice ka kn kc)
  (hP0:∀ x,P 0 x w5.drew)
  (hSt:∀ j x w,j < 3→P j x w→w.cell? ⟨bl,0,none⟩=some (.slice ca cn cc)∧w.cell? ⟨bl,1,none⟩=some (.map (some bh))∧w.cell? ⟨bl,2,none⟩=some (.map (some bv))∧w.cell? ⟨bo,0,none⟩=some (.int .i64 h.svc)∧w.cell? ⟨bo,1,none⟩=some (.string h.type)∧w.cell? ⟨bo,2,none⟩=some (.string h.field))
  (he0:∀ x w,P 0 x w→Calls Tryz.prog 46 #[.agg #[.slice ca cn cc,.map (some bh),.map (some bv)],.agg #[.int .i64 h.svc,.string h.type,.string h.field]] w fun e w' => ∃ v,e = .returned v∧(∀ x',x' 0=v→(∀ i,i≠0→x' i=x i)→P 1 x' w'))
  (he1:∀ x w,P 1 x w→Calls Tryz.prog 45 #[.pointer (some ⟨bg,0,none⟩),.agg #[.int .i64 h.svc,.string h.type,.string h.field],.slice ka kn kc,x 0] w fun e w' => ∃ v,e = .returned v∧(∀ x',x' 1=v→(∀ i,i≠1→x' i=x i)→P 2 x' w'))
  (he2:∀ x w,P 2 x w→Calls Tryz.prog 44 #[.agg #[.slice ca cn cc,.map (some bh),.map (some bv)],.agg #[.int .i64 h.svc,.string h.type,.string h.field],.slice ka kn kc,x 1] w fun e w' => ∃ v,e = .returned v∧(∀ x',x' 2=v→(∀ i,i≠2→x' i=x i)→P 3 x' w'))
  (hQ:∀ s w',P 3 (fun i=>s ([46,47,48].getD i 0)) w'→Q .normal (putAll a0 s [38,39,40,41,42,43,44,45,46,47,48]) w') :
  (Code.region 6 askHomeOps.toArray true).wp Tryz.prog Q a0 w5:=by
 refine wp_region_as (by kernel_rfl) (by kernel_rfl) [38,39,40,41,42,43,44,45,46,47,48] (by kernel_rfl) hsz (by kernel_rfl) (fun _=>99) (asV [8,9,10] [.agg #[.slice ca cn cc,.map (some bh),.map (some bv)],.agg #[.int .i64 h.svc,.string h.type,.string h.field],.slice ka kn kc,.pointer (some ⟨bg,0,none⟩),.agg #[.int .i64 h.svc,.string h.type,.string h.field],.slice ka kn kc,.agg #[.slice ca cn cc,.map (some bh),.map (some bv)],.agg #[.int .i64 h.svc,.string h.type,.string h.field],undef,undef,undef]) (chG [8,9,10] [46,47,48] P) (chG.start (hP0 _)) ?_ ?_
 ·intro Lz stz wz iz oz hGz hLz hcz hAz hFz hiz hlz haz
  have h99:Lz 99=false:=by
   cases h:Lz 99 with
   | false=>rfl
   | true=>exact absurd (hLz 99 h) (by decide)
  obtain _ | iz:=iz
  ·obtain rfl:=Option.some.inj hiz
   have e0:stz 10 = .pointer (some ⟨bl,0,none⟩):=(hFz 10 (by decide)).trans s10
   have hm:Lz 10=false:=L_not (fun h=>hcz 10 _ h rfl ⟨0,.data⟩ (by simp) rfl) hlz
   obtain ⟨z0,z1,z2,-,-,-⟩:=hSt _ _ _ (stg_lt (E:=[8,9,10]) (by simp) hm) hGz
   refine opStep_value (v:=.agg #[.slice ca cn cc,.map (some bh),.map (some bv)]) (w':=wz) ?_ ⟨hGz.read rfl rfl _,rfl,fun k _ _ _ h=>h⟩
   simp only [execOp,evalS,e0]
   go_simp
  obtain _ | iz:=iz
  ·obtain rfl:=Option.some.inj hiz
   have e0:stz 12 = .pointer (some ⟨bo,0,none⟩):=(hFz 12 (by decide)).trans s12
   have hm:Lz 10=false:=L_not (fun h=>hcz 10 _ h rfl ⟨1,.data⟩ (by simp) rfl) hlz
   obtain ⟨-,-,-,z3,z4,z5⟩:=hSt _ _ _ (stg_lt (E:=[8,9,10]) (by simp) hm) hGz
   refine opStep_value (v:=.agg #[.int .i64 h.svc,.string h.type,.string h.field]) (w':=wz) ?_ ⟨hGz.read rfl rfl _,rfl,fun k _ _ _ h=>h⟩
   simp only [execOp,evalS,e0]
   go_simp
  obtain _ | iz:=iz
  ·obtain rfl:=Option.some.inj hiz
   have e0:stz 2 = .slice ka kn kc:=(hFz 2 (by decide)).trans s2
   refine opStep_value (v:=.slice ka kn kc) (w':=wz) ?_ ⟨hGz.read rfl rfl _,rfl,fun k _ _ _ h=>h⟩
   simp only [execOp,evalS,e0]
   go_simp
  obtain _ | iz:=iz
  ·obtain rfl:=Option.some.inj hiz
   have e0:stz 0 = .pointer (some ⟨bg,0,none⟩):=(hFz 0 (by decide)).trans s0
   refine opStep_value (v:=.pointer (some ⟨bg,0,none⟩)) (w':=wz) ?_ ⟨hGz.read rfl rfl _,rfl,fun k _ _ _ h=>h⟩
   simp only [execOp,evalS,e0]
   go_simp
  obtain _ | iz:=iz
  ·obtain rfl:=Option.some.inj hiz
   have e0:stz 12 = .pointer (some ⟨bo,0,none⟩):=(hFz 12 (by decide)).trans s12
   have hm:Lz 10=false:=L_not (fun h=>hcz 10 _ h rfl ⟨9,.data⟩ (by simp) rfl) (L_not (fun h=>hcz 9 _ h rfl ⟨4,.data⟩ (by simp) rfl) hlz)
   obtain ⟨-,-,-,z3,z4,z5⟩:=hSt _ _ _ (stg_lt (E:=[8,9,10]) (by simp) hm) hGz
   refine opStep_value (v:=.agg #[.int .i64 h.svc,.string h.type,.string h.field]) (w':=wz) ?_ ⟨hGz.read rfl rfl _,rfl,fun k _ _ _ h=>h⟩
   simp only [execOp,evalS,e0]
   go_simp
  obtain _ | iz:=iz
  ·obtain rfl:=Option.some.inj hiz
   have e0:stz 2 = .slice ka kn kc:=(hFz 2 (by decide)).trans s2
   refine opStep_value (v:=.slice ka kn kc) (w':=wz) ?_ ⟨hGz.read rfl rfl _,rfl,fun k _ _ _ h=>h⟩
   simp only [execOp,evalS,e0]
   go_simp
  obtain _ | iz:=iz
  ·obtain rfl:=Option.some.inj hiz
   have e0:stz 10 = .pointer (some ⟨bl,0,none⟩):=(hFz 10 (by decide)).trans s10
   have hm:Lz 10=false:=L_not (fun h=>hcz 10 _ h rfl ⟨9,.data⟩ (by simp) rfl) (L_not (fun h=>hcz 9 _ h rfl ⟨8,.data⟩ (by simp) rfl) (L_not (fun h=>hcz 8 _ h rfl ⟨6,.data⟩ (by simp) rfl) hlz))
   obtain ⟨z0,z1,z2,-,-,-⟩:=hSt _ _ _ (stg_lt (E:=[8,9,10]) (by simp) hm) hGz
   refine opStep_value (v:=.agg #[.slice ca cn cc,.map (some bh),.map (some bv)]) (w':=wz) ?_ ⟨hGz.read rfl rfl _,rfl,fun k _ _ _ h=>h⟩
   simp only [execOp,evalS,e0]
   go_simp
  obtain _ | iz:=iz
  ·obtain rfl:=Option.some.inj hiz
   have e0:stz 12 = .pointer (some ⟨bo,0,none⟩):=(hFz 12 (by decide)).trans s12
   have hm:Lz 10=false:=L_not (fun h=>hcz 10 _ h rfl ⟨9,.data⟩ (by simp) rfl) (L_not (fun h=>hcz 9 _ h rfl ⟨8,.data⟩ (by simp) rfl) (L_not (fun h=>hcz 8 _ h rfl ⟨7,.data⟩ (by simp) rfl) hlz))
   obtain ⟨-,-,-,z3,z4,z5⟩:=hSt _ _ _ (stg_lt (E:=[8,9,10]) (by simp) hm) hGz
   refine opStep_value (v:=.agg #[.int .i64 h.svc,.string h.type,.string h.field]) (w':=wz) ?_ ⟨hGz.read rfl rfl _,rfl,fun k _ _ _ h=>h⟩
   simp only [execOp,evalS,e0]
   go_simp
  obtain _ | iz:=iz
  ·obtain rfl:=Option.some.inj hiz
   have t1:Lz 9=false:=L_not (fun h=>hcz 9 _ h rfl ⟨8,.data⟩ (by simp) rfl) hlz
   have t2:Lz 10=false:=L_not (fun h=>hcz 10 _ h rfl ⟨9,.data⟩ (by simp) rfl) (L_not (fun h=>hcz 9 _ h rfl ⟨8,.data⟩ (by simp) rfl) hlz)
   have hst:stg [8,9,10] Lz=0:=by simp [stg,hlz,t1,t2]
   have hPj:P 0 (fun i=>stz ([46,47,48].getD i 0)) wz:=by
    have h:=hGz
    unfold chG at h
    rw [hst] at h
    exact h
   have e0:stz 44 = .agg #[.slice ca cn cc,.map (some bh),.map (some bv)]:=hAz 6 (haz ⟨6,.data⟩ (by simp) rfl) h99
   have e1:stz 45 = .agg #[.int .i64 h.svc,.string h.type,.string h.field]:=hAz 7 (haz ⟨7,.data⟩ (by simp) rfl) h99
   have agree0:∀ i,i≠0→([46,47,48]:List Nat).getD i 0≠46:=fun i hi=>by
    rcases i with _ | _ | _ | i <;> simp at hi ⊢
   refine opStep_fn 46 #[.tmp 44,.tmp 45] #[88,118] rfl (enters_of Tryz.func46 (by kernel_rfl) rfl) _ (by simp only [List.map_toArray,List.map_cons,List.map_nil,evalS,e0,e1]; first | done | rfl) ((he0 _ wz hPj).mono fun e w' h=>?_)
   obtain ⟨v,rfl,hv⟩:=h
   exact ⟨v,rfl,chG.eff (by decide) (by decide) hlz hst (hv _ updS_yes (fun i hi=>updS_no (agree0 i hi))),trivial,fun k _ _ _ h=>h⟩
  obtain _ | iz:=iz
  ·obtain rfl:=Option.some.inj hiz
   have t0:Lz 8=true:=haz ⟨8,.data⟩ (by simp) rfl
   have t2:Lz 10=false:=L_not (fun h=>hcz 10 _ h rfl ⟨9,.data⟩ (by simp) rfl) hlz
   have hst:stg [8,9,10] Lz=1:=by simp [stg,t0,hlz,t2]
   have hPj:P 1 (fun i=>stz ([46,47,48].getD i 0)) wz:=by
    have h:=hGz
    unfold chG at h
    rw [hst] at h
    exact h
   have e0:stz 41 = .pointer (some ⟨bg,0,none⟩):=hAz 3 (haz ⟨3,.data⟩ (by simp) rfl) h99
   have e1:stz 42 = .agg #[.int .i64 h.svc,.string h.type,.string h.field]:=hAz 4 (haz ⟨4,.data⟩ (by simp) rfl) h99
   have e2:stz 43 = .slice ka kn kc:=hAz 5 (haz ⟨5,.data⟩ (by simp) rfl) h99
   have agree1:∀ i,i≠1→([46,47,48]:List Nat).getD i 0≠47:=fun i hi=>by
    rcases i with _ | _ | _ | i <;> simp at hi ⊢
   refine opStep_fn 45 #[.tmp 41,.tmp 42,.tmp 43,.tmp 46] #[111,118,33,33] rfl (enters_of Tryz.func45 (by kernel_rfl) rfl) _ (by simp only [List.map_toArray,List.map_cons,List.map_nil,evalS,e0,e1,e2]; first | done | rfl) ((he1 _ wz hPj).mono fun e w' h=>?_)
   obtain ⟨v,rfl,hv⟩:=h
   exact ⟨v,rfl,chG.eff (by decide) (by decide) hlz hst (hv _ updS_yes (fun i hi=>updS_no (agree1 i hi))),trivial,fun k _ _ _ h=>h⟩
  obtain _ | iz:=iz
  ·obtain rfl:=Option.some.inj hiz
   have t0:Lz 8=true:=hcz 9 _ (haz ⟨9,.data⟩ (by simp) rfl) rfl ⟨8,.data⟩ (by simp) rfl
   have t1:Lz 9=true:=haz ⟨9,.data⟩ (by simp) rfl
   have hst:stg [8,9,10] Lz=2:=by simp [stg,t0,t1,hlz]
   have hPj:P 2 (fun i=>stz ([46,47,48].getD i 0)) wz:=by
    have h:=hGz
    unfold chG at h
    rw [hst] at h
    exact h
   have e0:stz 38 = .agg #[.slice ca cn cc,.map (some bh),.map (some bv)]:=hAz 0 (haz ⟨0,.data⟩ (by simp) rfl) h99
   have e1:stz 39 = .agg #[.int .i64 h.svc,.string h.type,.string h.field]:=hAz 1 (haz ⟨1,.data⟩ (by simp) rfl) h99
   have e2:stz 40 = .slice ka kn kc:=hAz 2 (haz ⟨2,.data⟩ (by simp) rfl) h99
   have agree2:∀ i,i≠2→([46,47,48]:List Nat).getD i 0≠48:=fun i hi=>by
    rcases i with _ | _ | _ | i <;> simp at hi ⊢
   refine opStep_fn 44 #[.tmp 38,.tmp 39,.tmp 40,.tmp 47] #[88,118,33,123] rfl (enters_of Tryz.func44 (by kernel_rfl) rfl) _ (by simp only [List.map_toArray,List.map_cons,List.map_nil,evalS,e0,e1,e2]; first | done | rfl) ((he2 _ wz hPj).mono fun e w' h=>?_)
   obtain ⟨v,rfl,hv⟩:=h
   exact ⟨v,rfl,chG.eff (by decide) (by decide) hlz hst (hv _ updS_yes (fun i hi=>updS_no (agree2 i hi))),trivial,fun k _ _ _ h=>h⟩
  ·exfalso
   have hlen:iz + 11 < 11:=(List.getElem?_eq_some_iff.1 hiz).1
   omega
 ·intro Lz stz wz hGz _ hall _
  have h:=hGz
  unfold chG at h
  rw [stg_all (fun e he=>by simp at he; rcases he with rfl | rfl | rfl <;> exact hall _ (by decide))] at h
  exact hQ stz wz h
def askNextOps:List Oper:=[
 ⟨some 70, .fieldAddr 88 (.tmp 10) 0, 0, "gate.go:51", #[], none⟩,
 ⟨some 71, .load 84 (.tmp 70), 84, "gate.go:51", #[⟨0, .data⟩], none⟩,
 ⟨some 72, .move (.tmp 13), 3, "gate.go:51", #[], none⟩,
 ⟨some 73, .move (.tmp 0), 111, "gate.go:51", #[], none⟩,
 ⟨some 74, .fieldAddr 127 (.tmp 14) 2, 0, "gate.go:51", #[], none⟩,
 ⟨some 75, .fieldAddr 66 (.tmp 74) 2, 0, "gate.go:51", #[⟨4, .data⟩], none⟩,
 ⟨some 76, .load 9 (.tmp 75), 9, "gate.go:51", #[⟨5, .data⟩], none⟩,
 ⟨some 77, .move (.tmp 15), 33, "gate.go:51", #[], none⟩,
 ⟨some 78, .fieldAddr 127 (.tmp 14) 1, 0, "gate.go:51", #[], none⟩,
 ⟨some 79, .load 23 (.tmp 78), 23, "gate.go:51", #[⟨8, .data⟩], none⟩,
 ⟨some 80, .call { callee := Callee.value (.func 24), args := #[.tmp 73, .tmp 76, .tmp 77, .tmp 79], argTypes := #[111, 9, 33, 23] }, 88, "gate.go:51", #[⟨3, .data⟩, ⟨6, .data⟩, ⟨7, .data⟩, ⟨9, .data⟩], none⟩,
 ⟨some 81, .indexAddr 84 (.tmp 71) (.tmp 72), 0, "gate.go:51", #[⟨1, .data⟩, ⟨2, .data⟩, ⟨0, .phase⟩, ⟨1, .phase⟩, ⟨2, .phase⟩, ⟨3, .phase⟩, ⟨4, .phase⟩, ⟨5, .phase⟩, ⟨6, .phase⟩, ⟨7, .phase⟩, ⟨8, .phase⟩, ⟨9, .phase⟩, ⟨10, .phase⟩], none⟩,
 ⟨some 82, .fieldAddr 127 (.tmp 81) 4, 0, "gate.go:51", #[⟨11, .data⟩, ⟨0, .phase⟩, ⟨1, .phase⟩, ⟨2, .phase⟩, ⟨3, .phase⟩, ⟨4, .phase⟩, ⟨5, .phase⟩, ⟨6, .phase⟩, ⟨7, .phase⟩, ⟨8, .phase⟩, ⟨9, .phase⟩, ⟨10, .phase⟩], none⟩,
 ⟨none, .store 88 (.tmp 82) (.tmp 80), 0, "gate.go:51", #[⟨12, .data⟩, ⟨10, .data⟩, ⟨10, .chain⟩, ⟨0, .phase⟩, ⟨1, .phase⟩, ⟨2, .phase⟩, ⟨3, .phase⟩, ⟨4, .phase⟩, ⟨5, .phase⟩, ⟨6, .phase⟩, ⟨7, .phase⟩, ⟨8, .phase⟩, ⟨9, .phase⟩, ⟨10, .phase⟩], none⟩]
set_option maxRecDepth 100000 in
set_option maxHeartbeats 4000000 in
theorem askNext {Q:Exit→Act→World→Prop} {a0:Act} {w5:World} (P:Nat→(Nat→Value)→World→Prop) {bg bl bc cb cn cc kn kc sn sc k:Nat} {ka sa:Option Addr} {ty:ByteArray}
  (hsz : [70,71,72,73,74,75,76,77,78,79,80,81,82].all (fun d=>decide (d < a0.tmps.size))=true)
  (s0:slots a0 0 = .pointer (some ⟨bg,0,none⟩)) (s10:slots a0 10 = .pointer (some ⟨bl,0,none⟩)) (s14:slots a0 14 = .pointer (some ⟨bc,0,none⟩)) (s13:slots a0 13 = .int .i64 (k:Int)) (s15:slots a0 15 = .slice ka kn kc) (hk0:(0:Int)≤(k:Int)) (hk1:(k:Int) < (cn:Int))
  (hP0:∀ x,P 0 x w5.drew)
  (hSt:∀ j x w,j < 2→P j x w→w.cell? ⟨bl,0,none⟩=some (.slice (some ⟨cb,0,none⟩) cn cc)∧w.cell? ⟨bc,4,none⟩=some (.string ty)∧w.cell? ⟨bc,1,none⟩=some (.slice sa sn sc))
  (he0:∀ x w,P 0 x w→Calls Tryz.prog 24 #[.pointer (some ⟨bg,0,none⟩),.string ty,.slice ka kn kc,.slice sa sn sc] w fun e w' => ∃ v,e = .returned v∧(∀ x',x' 0=v→(∀ i,i≠0→x' i=x i)→P 1 x' w'))
  (he1:∀ x w,P 1 x w→∃ (l:LV) (u0 u1 u2:Value),x 0 = .agg #[.slice l.a l.n l.c,.map l.h,.map l.v]∧w.cell? ⟨cb,k * 11 + 8,none⟩=some u0∧w.cell? ⟨cb,k * 11 + 9,none⟩=some u1∧w.cell? ⟨cb,k * 11 + 10,none⟩=some u2∧w.frozen? ⟨cb,k * 11 + 8,none⟩=false∧w.frozen? ⟨cb,k * 11 + 9,none⟩=false∧w.frozen? ⟨cb,k * 11 + 10,none⟩=false∧P 2 x (((w.setCell ⟨cb,k * 11 + 8,none⟩ (.slice l.a l.n l.c)).setCell ⟨cb,k * 11 + 9,none⟩ (.map l.h)).setCell ⟨cb,k * 11 + 10,none⟩ (.map l.v)))
  (hQ:∀ s w',P 2 (fun i=>s ([80,0].getD i 0)) w'→Q .normal (putAll a0 s [70,71,72,73,74,75,76,77,78,79,80,81,82]) w') :
  (Code.region 14 askNextOps.toArray true).wp Tryz.prog Q a0 w5:=by
 refine wp_region_as (by kernel_rfl) (by kernel_rfl) [70,71,72,73,74,75,76,77,78,79,80,81,82] (by kernel_rfl) hsz (by kernel_rfl) (fun _=>99) (asV [10,13] [.pointer (some ⟨bl,0,none⟩),.slice (some ⟨cb,0,none⟩) cn cc,.int .i64 (k:Int),.pointer (some ⟨bg,0,none⟩),.pointer (some ⟨bc,2,none⟩),.pointer (some ⟨bc,4,none⟩),.string ty,.slice ka kn kc,.pointer (some ⟨bc,1,none⟩),.slice sa sn sc,undef,.pointer (some ⟨cb,k * 11,none⟩),.pointer (some ⟨cb,k * 11 + 8,none⟩),undef]) (chG [10,13] [80,0] P) (chG.start (hP0 _)) ?_ ?_
 ·intro Lz stz wz iz oz hGz hLz hcz hAz hFz hiz hlz haz
  have h99:Lz 99=false:=by
   cases h:Lz 99 with
   | false=>rfl
   | true=>exact absurd (hLz 99 h) (by decide)
  obtain _ | iz:=iz
  ·obtain rfl:=Option.some.inj hiz
   have e0:stz 10 = .pointer (some ⟨bl,0,none⟩):=(hFz 10 (by decide)).trans s10
   refine opStep_value (v:=.pointer (some ⟨bl,0,none⟩)) (w':=wz) ?_ ⟨hGz.read rfl rfl _,rfl,fun k _ _ _ h=>h⟩
   simp only [execOp,evalS,e0]
   go_simp
  obtain _ | iz:=iz
  ·obtain rfl:=Option.some.inj hiz
   have e0:stz 70 = .pointer (some ⟨bl,0,none⟩):=hAz 0 (haz ⟨0,.data⟩ (by simp) rfl) h99
   have hm:Lz 13=false:=L_not (fun h=>hcz 13 _ h rfl ⟨1,.phase⟩ (by simp) rfl) hlz
   obtain ⟨z0,-,-⟩:=hSt _ _ _ (stg_lt (E:=[10,13]) (by simp) hm) hGz
   refine opStep_value (v:=.slice (some ⟨cb,0,none⟩) cn cc) (w':=wz) ?_ ⟨hGz.read rfl rfl _,rfl,fun k _ _ _ h=>h⟩
   simp only [execOp,evalS,e0]
   go_simp
  obtain _ | iz:=iz
  ·obtain rfl:=Option.some.inj hiz
   have e0:stz 13 = .int .i64 (k:Int):=(hFz 13 (by decide)).trans s13
   refine opStep_value (v:=.int .i64 (k:Int)) (w':=wz) ?_ ⟨hGz.read rfl rfl _,rfl,fun k _ _ _ h=>h⟩
   simp only [execOp,evalS,e0]
   go_simp
  obtain _ | iz:=iz
  ·obtain rfl:=Option.some.inj hiz
   have e0:stz 0 = .pointer (some ⟨bg,0,none⟩):=(hFz 0 (by decide)).trans s0
   refine opStep_value (v:=.pointer (some ⟨bg,0,none⟩)) (w':=wz) ?_ ⟨hGz.read rfl rfl _,rfl,fun k _ _ _ h=>h⟩
   simp only [execOp,evalS,e0]
   go_simp
  obtain _ | iz:=iz
  ·obtain rfl:=Option.some.inj hiz
   have e0:stz 14 = .pointer (some ⟨bc,0,none⟩):=(hFz 14 (by decide)).trans s14
   refine opStep_value (v:=.pointer (some ⟨bc,2,none⟩)) (w':=wz) ?_ ⟨hGz.read rfl rfl _,rfl,fun k _ _ _ h=>h⟩
   simp only [execOp,evalS,e0]
   go_simp
  obtain _ | iz:=iz
  ·obtain rfl:=Option.some.inj hiz
   have e0:stz 74 = .pointer (some ⟨bc,2,none⟩):=hAz 4 (haz ⟨4,.data⟩ (by simp) rfl) h99
   refine opStep_value (v:=.pointer (some ⟨bc,4,none⟩)) (w':=wz) ?_ ⟨hGz.read rfl rfl _,rfl,fun k _ _ _ h=>h⟩
   simp only [execOp,evalS,e0]
   go_simp
  obtain _ | iz:=iz
  ·obtain rfl:=Option.some.inj hiz
   have e0:stz 75 = .pointer (some ⟨bc,4,none⟩):=hAz 5 (haz ⟨5,.data⟩ (by simp) rfl) h99
   have hm:Lz 13=false:=L_not (fun h=>hcz 13 _ h rfl ⟨6,.phase⟩ (by simp) rfl) hlz
   obtain ⟨-,z1,-⟩:=hSt _ _ _ (stg_lt (E:=[10,13]) (by simp) hm) hGz
   refine opStep_value (v:=.string ty) (w':=wz) ?_ ⟨hGz.read rfl rfl _,rfl,fun k _ _ _ h=>h⟩
   simp only [execOp,evalS,e0]
   go_simp
  obtain _ | iz:=iz
  ·obtain rfl:=Option.some.inj hiz
   have e0:stz 15 = .slice ka kn kc:=(hFz 15 (by decide)).trans s15
   refine opStep_value (v:=.slice ka kn kc) (w':=wz) ?_ ⟨hGz.read rfl rfl _,rfl,fun k _ _ _ h=>h⟩
   simp only [execOp,evalS,e0]
   go_simp
  obtain _ | iz:=iz
  ·obtain rfl:=Option.some.inj hiz
   have e0:stz 14 = .pointer (some ⟨bc,0,none⟩):=(hFz 14 (by decide)).trans s14
   refine opStep_value (v:=.pointer (some ⟨bc,1,none⟩)) (w':=wz) ?_ ⟨hGz.read rfl rfl _,rfl,fun k _ _ _ h=>h⟩
   simp only [execOp,evalS,e0]
   go_simp
  obtain _ | iz:=iz
  ·obtain rfl:=Option.some.inj hiz
   have e0:stz 78 = .pointer (some ⟨bc,1,none⟩):=hAz 8 (haz ⟨8,.data⟩ (by simp) rfl) h99
   have hm:Lz 13=false:=L_not (fun h=>hcz 13 _ h rfl ⟨9,.phase⟩ (by simp) rfl) hlz
   obtain ⟨-,-,z2⟩:=hSt _ _ _ (stg_lt (E:=[10,13]) (by simp) hm) hGz
   refine opStep_value (v:=.slice sa sn sc) (w':=wz) ?_ ⟨hGz.read rfl rfl _,rfl,fun k _ _ _ h=>h⟩
   simp only [execOp,evalS,e0]
   go_simp
  obtain _ | iz:=iz
  ·obtain rfl:=Option.some.inj hiz
   have t1:Lz 13=false:=L_not (fun h=>hcz 13 _ h rfl ⟨10,.data⟩ (by simp) rfl) hlz
   have hst:stg [10,13] Lz=0:=by simp [stg,hlz,t1]
   have hPj:P 0 (fun i=>stz ([80,0].getD i 0)) wz:=by
    have h:=hGz
    unfold chG at h
    rw [hst] at h
    exact h
   have e0:stz 73 = .pointer (some ⟨bg,0,none⟩):=hAz 3 (haz ⟨3,.data⟩ (by simp) rfl) h99
   have e1:stz 76 = .string ty:=hAz 6 (haz ⟨6,.data⟩ (by simp) rfl) h99
   have e2:stz 77 = .slice ka kn kc:=hAz 7 (haz ⟨7,.data⟩ (by simp) rfl) h99
   have e3:stz 79 = .slice sa sn sc:=hAz 9 (haz ⟨9,.data⟩ (by simp) rfl) h99
   have agree0:∀ i,i≠0→([80,0]:List Nat).getD i 0≠80:=fun i hi=>by
    rcases i with _ | _ | i <;> simp at hi ⊢
   refine opStep_fn 24 #[.tmp 73,.tmp 76,.tmp 77,.tmp 79] #[111,9,33,23] rfl (enters_of Tryz.func24 (by kernel_rfl) rfl) _ (by simp only [List.map_toArray,List.map_cons,List.map_nil,evalS,e0,e1,e2,e3]; first | done | rfl) ((he0 _ wz hPj).mono fun e w' h=>?_)
   obtain ⟨v,rfl,hv⟩:=h
   exact ⟨v,rfl,chG.eff (by decide) (by decide) hlz hst (hv _ updS_yes (fun i hi=>updS_no (agree0 i hi))),trivial,fun k _ _ _ h=>h⟩
  obtain _ | iz:=iz
  ·obtain rfl:=Option.some.inj hiz
   have e0:stz 71 = .slice (some ⟨cb,0,none⟩) cn cc:=hAz 1 (haz ⟨1,.data⟩ (by simp) rfl) h99
   have e1:stz 72 = .int .i64 (k:Int):=hAz 2 (haz ⟨2,.data⟩ (by simp) rfl) h99
   refine opStep_value (v:=.pointer (some ⟨cb,k * 11,none⟩)) (w':=wz) ?_ ⟨hGz.read rfl rfl _,rfl,fun k _ _ _ h=>h⟩
   simp only [execOp,evalS,e0,e1]
   go_simp
  obtain _ | iz:=iz
  ·obtain rfl:=Option.some.inj hiz
   have e0:stz 81 = .pointer (some ⟨cb,k * 11,none⟩):=hAz 11 (haz ⟨11,.data⟩ (by simp) rfl) h99
   refine opStep_value (v:=.pointer (some ⟨cb,k * 11 + 8,none⟩)) (w':=wz) ?_ ⟨hGz.read rfl rfl _,rfl,fun k _ _ _ h=>h⟩
   simp only [execOp,evalS,e0]
   go_simp
  obtain _ | iz:=iz
  ·obtain rfl:=Option.some.inj hiz
   have t0:Lz 10=true:=haz ⟨10,.data⟩ (by simp) rfl
   have hst:stg [10,13] Lz=1:=by simp [stg,t0,hlz]
   have hPj:P 1 (fun i=>stz ([80,0].getD i 0)) wz:=by
    have h:=hGz
    unfold chG at h
    rw [hst] at h
    exact h
   have e0:stz 82 = .pointer (some ⟨cb,k * 11 + 8,none⟩):=hAz 12 (haz ⟨12,.data⟩ (by simp) rfl) h99
   obtain ⟨l,u0,u1,u2,hx9,hu0,hu1,hu2,hf0,hf1,hf2,hp⟩:=he1 _ wz hPj
   have ex:stz 80 = .agg #[.slice l.a l.n l.c,.map l.h,.map l.v]:=hx9
   refine opStep_skip (w':=_) ?_ ⟨chG.eff (by decide) (by decide) hlz hst hp,trivial,fun k _ _ _ h=>h⟩
   simp only [execOp,evalS,e0,ex]
   go_simp
  ·exfalso
   have hlen:iz + 14 < 14:=(List.getElem?_eq_some_iff.1 hiz).1
   omega
 ·intro Lz stz wz hGz _ hall _
  have h:=hGz
  unfold chG at h
  rw [stg_all (fun e he=>by simp at he; rcases he with rfl | rfl <;> exact hall _ (by decide))] at h
  exact hQ stz wz h
end Go.Proofs.YtjjggefmmeminacGreat
