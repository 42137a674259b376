import Derived.Test.YtjjggefmmeminacGreatJRc
import Derived.Test.YtjjggefmmeminacGreatGrMem
namespace Go.Proofs.YtjjggefmmeminacGreat
open Go.RowKit Go.Sort Go.PlainAid
def runAskOps:List Oper:=[
 ⟨some 33, .fieldAddr 25 (.tmp 3) 0, 0, "gate.go:23", #[], none⟩,
 ⟨some 34, .load 9 (.tmp 33), 9, "gate.go:23", #[⟨0, .data⟩], none⟩,
 ⟨some 35, .fieldAddr 25 (.tmp 3) 1, 0, "gate.go:23", #[], none⟩,
 ⟨some 36, .load 9 (.tmp 35), 9, "gate.go:23", #[⟨2, .data⟩], none⟩,
 ⟨some 37, .buildSlice 33 1 #[(0, .tmp 36)], 33, "gate.go:23", #[⟨3, .data⟩], none⟩,
 ⟨some 38, .fieldAddr 25 (.tmp 3) 2, 0, "gate.go:23", #[], none⟩,
 ⟨some 39, .load 23 (.tmp 38), 23, "gate.go:23", #[⟨5, .data⟩], none⟩,
 ⟨some 40, .call { callee := Callee.value (.func 24), args := #[.tmp 10, .tmp 34, .tmp 37, .tmp 39], argTypes := #[82, 9, 33, 23] }, 88, "gate.go:23", #[⟨1, .data⟩, ⟨4, .data⟩, ⟨6, .data⟩], none⟩,
 ⟨some 41, .fieldAddr 25 (.tmp 3) 1, 0, "gate.go:23", #[], none⟩,
 ⟨some 42, .load 9 (.tmp 41), 9, "gate.go:23", #[⟨8, .data⟩], none⟩,
 { dst := some 43, op := Op.call { callee := Callee.value (Operand.func 25), args := #[Operand.tmp 40, Operand.tmp 42], argTypes := #[88, 9] }, type := 83, pos := "gate.go:23", after := #[⟨7, .data⟩, ⟨9, .data⟩, ⟨7, .chain⟩], guard := none },
 { dst := some 32, op := Op.move (Operand.tmp 43), type := 83, pos := "gate.go:23", after := #[⟨10, .data⟩], guard := none },
 ⟨some 44, .extract (.tmp 32) 0, 27, "gate.go:23", #[⟨11, .data⟩], none⟩,
 ⟨some 45, .extract (.tmp 32) 1, 4, "gate.go:23", #[⟨11, .data⟩, { on := 14, ground := Ground.gcOnly Departure.lateStores }], none⟩,
 ⟨some 11, .assign (.tmp 44), 27, "gate.go:23", #[⟨12, .data⟩, ⟨10, .chain⟩, ⟨0, .phase⟩, ⟨1, .phase⟩, ⟨2, .phase⟩, ⟨3, .phase⟩, ⟨4, .phase⟩, ⟨5, .phase⟩, ⟨6, .phase⟩, ⟨7, .phase⟩, ⟨8, .phase⟩, ⟨9, .phase⟩, ⟨10, .phase⟩, ⟨11, .phase⟩, ⟨12, .phase⟩, { on := 13, ground := Ground.textOnly Departure.lateStores }], none⟩,
 ⟨some 12, .assign (.tmp 45), 4, "gate.go:23", #[⟨13, .data⟩, ⟨14, .chain⟩, ⟨0, .phase⟩, ⟨1, .phase⟩, ⟨2, .phase⟩, ⟨3, .phase⟩, ⟨4, .phase⟩, ⟨5, .phase⟩, ⟨6, .phase⟩, ⟨7, .phase⟩, ⟨8, .phase⟩, ⟨9, .phase⟩, ⟨10, .phase⟩, ⟨11, .phase⟩, ⟨12, .phase⟩, ⟨13, .phase⟩, ⟨14, .phase⟩], none⟩]
set_option maxRecDepth 100000 in
set_option maxHeartbeats 4000000 in
theorem runAsk {Q:Exit→Act→World→Prop} {a0:Act} {w5:World} (P:Nat→(Nat→Value)→World→Prop) {ba bg pn pc:Nat} {pa:Option Addr} {ty key:ByteArray} {b:Bool}
  (hsz : [33,34,35,36,37,38,39,40,41,42,43,32,44,45,11,12].all (fun d=>decide (d < a0.tmps.size))=true)
  (s3:slots a0 3 = .pointer (some ⟨ba,0,none⟩)) (s10:slots a0 10 = .pointer (some ⟨bg,0,none⟩))
  (hX:∀ j x w,4≤j→P j x w→∃ y,x 3 = .tuple #[y,.bool b])
  (hP0:∀ x,P 0 x w5.drew)
  (hSt:∀ j x w,j < 7→P j x w→w.cell? ⟨ba,0,none⟩=some (.string ty)∧w.cell? ⟨ba,1,none⟩=some (.string key)∧w.cell? ⟨ba,2,none⟩=some (.slice pa pn pc))
  (he0:∀ x w,P 0 x w→∀ x',x' 0 = .slice (some ⟨w.heap.size,0,none⟩) 1 1→(∀ i,i≠0→x' i=x i)→P 1 x' (w.alloc (.cells #[.string key] 9)))
  (he1:∀ x w,P 1 x w→Calls Tryz.prog 24 #[.pointer (some ⟨bg,0,none⟩),.string ty,x 0,.slice pa pn pc] w fun e w' => ∃ v,e = .returned v∧(∀ x',x' 1=v→(∀ i,i≠1→x' i=x i)→P 2 x' w'))
  (he2:∀ x w,P 2 x w→Calls Tryz.prog 25 #[x 1,.string key] w fun e w' => ∃ v,e = .returned v∧(∀ x',x' 2=v→(∀ i,i≠2→x' i=x i)→P 3 x' w'))
  (he3:∀ x w,P 3 x w→∀ x',x' 3=x 2→(∀ i,i≠3→x' i=x i)→P 4 x' w)
  (he4:∀ x w,P 4 x w→∃ va vn vc,x 3 = .tuple #[.slice va vn vc,.bool b]∧∀ x',x' 4 = .slice va vn vc→(∀ i,i≠4→x' i=x i)→P 5 x' w)
  (he5:∀ x w,P 5 x w→∀ x',x' 5=x 4→(∀ i,i≠5→x' i=x i)→P 6 x' w)
  (he6:∀ x w,P 6 x w→∀ x',x' 6 = .bool b→(∀ i,i≠6→x' i=x i)→P 7 x' w)
  (hQ:∀ s w',P 7 (fun i=>s ([37,40,43,32,44,11,12].getD i 0)) w'→Q .normal (putAll a0 s [33,34,35,36,37,38,39,40,41,42,43,32,44,45,11,12]) w') :
  (Code.region 8 runAskOps.toArray true).wp Tryz.prog Q a0 w5:=by
 refine wp_region_as (by kernel_rfl) (by kernel_rfl) [33,34,35,36,37,38,39,40,41,42,43,32,44,45,11,12] (by kernel_rfl) hsz (by kernel_rfl) (fun _=>99) (asV [4,7,10,11,12,14,15] [.pointer (some ⟨ba,0,none⟩),.string ty,.pointer (some ⟨ba,1,none⟩),.string key,undef,.pointer (some ⟨ba,2,none⟩),.slice pa pn pc,undef,.pointer (some ⟨ba,1,none⟩),.string key,undef,undef,undef,.bool b,undef,undef]) (chG [4,7,10,11,12,14,15] [37,40,43,32,44,11,12] P) (chG.start (hP0 _)) ?_ ?_
 ·intro Lz stz wz iz oz hGz hLz hcz hAz hFz hiz hlz haz
  have h99:Lz 99=false:=by
   cases h:Lz 99 with
   | false=>rfl
   | true=>exact absurd (hLz 99 h) (by decide)
  obtain _ | iz:=iz
  ·obtain rfl:=Option.some.inj hiz
   have e0:stz 3 = .pointer (some ⟨ba,0,none⟩):=(hFz 3 (by decide)).trans s3
   refine opStep_value (v:=.pointer (some ⟨ba,0,none⟩)) (w':=wz) ?_ ⟨hGz.read rfl rfl _,rfl,fun k _ _ _ h=>h⟩
   simp only [execOp,evalS,e0]
   go_simp
  obtain _ | iz:=iz
  ·obtain rfl:=Option.some.inj hiz
   have e0:stz 33 = .pointer (some ⟨ba,0,none⟩):=hAz 0 (haz ⟨0,.data⟩ (by simp) rfl) h99
   have hm:Lz 15=false:=L_not (fun h=>hcz 15 _ h rfl ⟨1,.phase⟩ (by simp) rfl) hlz
   obtain ⟨z0,-,-⟩:=hSt _ _ _ (stg_lt (E:=[4,7,10,11,12,14,15]) (by simp) hm) hGz
   refine opStep_value (v:=.string ty) (w':=wz) ?_ ⟨hGz.read rfl rfl _,rfl,fun k _ _ _ h=>h⟩
   simp only [execOp,evalS,e0]
   go_simp
  obtain _ | iz:=iz
  ·obtain rfl:=Option.some.inj hiz
   have e0:stz 3 = .pointer (some ⟨ba,0,none⟩):=(hFz 3 (by decide)).trans s3
   refine opStep_value (v:=.pointer (some ⟨ba,1,none⟩)) (w':=wz) ?_ ⟨hGz.read rfl rfl _,rfl,fun k _ _ _ h=>h⟩
   simp only [execOp,evalS,e0]
   go_simp
  obtain _ | iz:=iz
  ·obtain rfl:=Option.some.inj hiz
   have e0:stz 35 = .pointer (some ⟨ba,1,none⟩):=hAz 2 (haz ⟨2,.data⟩ (by simp) rfl) h99
   have hm:Lz 15=false:=L_not (fun h=>hcz 15 _ h rfl ⟨3,.phase⟩ (by simp) rfl) hlz
   obtain ⟨-,z1,-⟩:=hSt _ _ _ (stg_lt (E:=[4,7,10,11,12,14,15]) (by simp) hm) hGz
   refine opStep_value (v:=.string key) (w':=wz) ?_ ⟨hGz.read rfl rfl _,rfl,fun k _ _ _ h=>h⟩
   simp only [execOp,evalS,e0]
   go_simp
  obtain _ | iz:=iz
  ·obtain rfl:=Option.some.inj hiz
   have t1:Lz 7=false:=L_not (fun h=>hcz 7 _ h rfl ⟨4,.data⟩ (by simp) rfl) hlz
   have t2:Lz 10=false:=L_not (fun h=>hcz 10 _ h rfl ⟨7,.data⟩ (by simp) rfl) (L_not (fun h=>hcz 7 _ h rfl ⟨4,.data⟩ (by simp) rfl) hlz)
   have t3:Lz 11=false:=L_not (fun h=>hcz 11 _ h rfl ⟨10,.data⟩ (by simp) rfl) (L_not (fun h=>hcz 10 _ h rfl ⟨7,.data⟩ (by simp) rfl) (L_not (fun h=>hcz 7 _ h rfl ⟨4,.data⟩ (by simp) rfl) hlz))
   have t4:Lz 12=false:=L_not (fun h=>hcz 12 _ h rfl ⟨11,.data⟩ (by simp) rfl) (L_not (fun h=>hcz 11 _ h rfl ⟨10,.data⟩ (by simp) rfl) (L_not (fun h=>hcz 10 _ h rfl ⟨7,.data⟩ (by simp) rfl) (L_not (fun h=>hcz 7 _ h rfl ⟨4,.data⟩ (by simp) rfl) hlz)))
   have t5:Lz 14=false:=L_not (fun h=>hcz 14 _ h rfl ⟨4,.phase⟩ (by simp) rfl) hlz
   have t6:Lz 15=false:=L_not (fun h=>hcz 15 _ h rfl ⟨4,.phase⟩ (by simp) rfl) hlz
   have hst:stg [4,7,10,11,12,14,15] Lz=0:=by simp [stg,hlz,t1,t2,t3,t4,t5,t6]
   have hPj:P 0 (fun i=>stz ([37,40,43,32,44,11,12].getD i 0)) wz:=by
    have h:=hGz
    unfold chG at h
    rw [hst] at h
    exact h
   have e0:stz 36 = .string key:=hAz 3 (haz ⟨3,.data⟩ (by simp) rfl) h99
   have agree0:∀ i,i≠0→([37,40,43,32,44,11,12]:List Nat).getD i 0≠37:=fun i hi=>by
    rcases i with _ | _ | _ | _ | _ | _ | _ | i <;> simp at hi ⊢
   refine opStep_value (v:=.slice (some ⟨wz.heap.size,0,none⟩) 1 1) (w':=wz.alloc (.cells #[.string key] 9)) ?_ ⟨chG.eff (by decide) (by decide) hlz hst (he0 _ wz hPj _ updS_yes (fun i hi=>updS_no (agree0 i hi))),trivial,fun k _ _ _ h=>h⟩
   simp only [execOp,List.map_toArray,List.map_cons,List.map_nil,evalS,e0]
   go_simp
  obtain _ | iz:=iz
  ·obtain rfl:=Option.some.inj hiz
   have e0:stz 3 = .pointer (some ⟨ba,0,none⟩):=(hFz 3 (by decide)).trans s3
   refine opStep_value (v:=.pointer (some ⟨ba,2,none⟩)) (w':=wz) ?_ ⟨hGz.read rfl rfl _,rfl,fun k _ _ _ h=>h⟩
   simp only [execOp,evalS,e0]
   go_simp
  obtain _ | iz:=iz
  ·obtain rfl:=Option.some.inj hiz
   have e0:stz 38 = .pointer (some ⟨ba,2,none⟩):=hAz 5 (haz ⟨5,.data⟩ (by simp) rfl) h99
   have hm:Lz 15=false:=L_not (fun h=>hcz 15 _ h rfl ⟨6,.phase⟩ (by simp) rfl) hlz
   obtain ⟨-,-,z2⟩:=hSt _ _ _ (stg_lt (E:=[4,7,10,11,12,14,15]) (by simp) hm) hGz
   refine opStep_value (v:=.slice pa pn pc) (w':=wz) ?_ ⟨hGz.read rfl rfl _,rfl,fun k _ _ _ h=>h⟩
   simp only [execOp,evalS,e0]
   go_simp
  obtain _ | iz:=iz
  ·obtain rfl:=Option.some.inj hiz
   have t0:Lz 4=true:=haz ⟨4,.data⟩ (by simp) rfl
   have t2:Lz 10=false:=L_not (fun h=>hcz 10 _ h rfl ⟨7,.data⟩ (by simp) rfl) hlz
   have t3:Lz 11=false:=L_not (fun h=>hcz 11 _ h rfl ⟨10,.data⟩ (by simp) rfl) (L_not (fun h=>hcz 10 _ h rfl ⟨7,.data⟩ (by simp) rfl) hlz)
   have t4:Lz 12=false:=L_not (fun h=>hcz 12 _ h rfl ⟨11,.data⟩ (by simp) rfl) (L_not (fun h=>hcz 11 _ h rfl ⟨10,.data⟩ (by simp) rfl) (L_not (fun h=>hcz 10 _ h rfl ⟨7,.data⟩ (by simp) rfl) hlz))
   have t5:Lz 14=false:=L_not (fun h=>hcz 14 _ h rfl ⟨7,.phase⟩ (by simp) rfl) hlz
   have t6:Lz 15=false:=L_not (fun h=>hcz 15 _ h rfl ⟨7,.phase⟩ (by simp) rfl) hlz
   have hst:stg [4,7,10,11,12,14,15] Lz=1:=by simp [stg,t0,hlz,t2,t3,t4,t5,t6]
   have hPj:P 1 (fun i=>stz ([37,40,43,32,44,11,12].getD i 0)) wz:=by
    have h:=hGz
    unfold chG at h
    rw [hst] at h
    exact h
   have e0:stz 10 = .pointer (some ⟨bg,0,none⟩):=(hFz 10 (by decide)).trans s10
   have e1:stz 34 = .string ty:=hAz 1 (haz ⟨1,.data⟩ (by simp) rfl) h99
   have e3:stz 39 = .slice pa pn pc:=hAz 6 (haz ⟨6,.data⟩ (by simp) rfl) h99
   have agree1:∀ i,i≠1→([37,40,43,32,44,11,12]:List Nat).getD i 0≠40:=fun i hi=>by
    rcases i with _ | _ | _ | _ | _ | _ | _ | i <;> simp at hi ⊢
   refine opStep_fn 24 #[.tmp 10,.tmp 34,.tmp 37,.tmp 39] #[82,9,33,23] rfl (enters_of Tryz.func24 (by kernel_rfl) rfl) _ (by simp only [List.map_toArray,List.map_cons,List.map_nil,evalS,e0,e1,e3]; first | done | rfl) ((he1 _ wz hPj).mono fun e w' h=>?_)
   obtain ⟨v,rfl,hv⟩:=h
   exact ⟨v,rfl,chG.eff (by decide) (by decide) hlz hst (hv _ updS_yes (fun i hi=>updS_no (agree1 i hi))),trivial,fun k _ _ _ h=>h⟩
  obtain _ | iz:=iz
  ·obtain rfl:=Option.some.inj hiz
   have e0:stz 3 = .pointer (some ⟨ba,0,none⟩):=(hFz 3 (by decide)).trans s3
   refine opStep_value (v:=.pointer (some ⟨ba,1,none⟩)) (w':=wz) ?_ ⟨hGz.read rfl rfl _,rfl,fun k _ _ _ h=>h⟩
   simp only [execOp,evalS,e0]
   go_simp
  obtain _ | iz:=iz
  ·obtain rfl:=Option.some.inj hiz
   have e0:stz 41 = .pointer (some ⟨ba,1,none⟩):=hAz 8 (haz ⟨8,.data⟩ (by simp) rfl) h99
   have hm:Lz 15=false:=L_not (fun h=>hcz 15 _ h rfl ⟨9,.phase⟩ (by simp) rfl) hlz
   obtain ⟨-,z1,-⟩:=hSt _ _ _ (stg_lt (E:=[4,7,10,11,12,14,15]) (by simp) hm) hGz
   refine opStep_value (v:=.string key) (w':=wz) ?_ ⟨hGz.read rfl rfl _,rfl,fun k _ _ _ h=>h⟩
   simp only [execOp,evalS,e0]
   go_simp
  obtain _ | iz:=iz
  ·obtain rfl:=Option.some.inj hiz
   have t0:Lz 4=true:=hcz 7 _ (haz ⟨7,.data⟩ (by simp) rfl) rfl ⟨4,.data⟩ (by simp) rfl
   have t1:Lz 7=true:=haz ⟨7,.data⟩ (by simp) rfl
   have t3:Lz 11=false:=L_not (fun h=>hcz 11 _ h rfl ⟨10,.data⟩ (by simp) rfl) hlz
   have t4:Lz 12=false:=L_not (fun h=>hcz 12 _ h rfl ⟨11,.data⟩ (by simp) rfl) (L_not (fun h=>hcz 11 _ h rfl ⟨10,.data⟩ (by simp) rfl) hlz)
   have t5:Lz 14=false:=L_not (fun h=>hcz 14 _ h rfl ⟨10,.chain⟩ (by simp) rfl) hlz
   have t6:Lz 15=false:=L_not (fun h=>hcz 15 _ h rfl ⟨10,.phase⟩ (by simp) rfl) hlz
   have hst:stg [4,7,10,11,12,14,15] Lz=2:=by simp [stg,t0,t1,hlz,t3,t4,t5,t6]
   have hPj:P 2 (fun i=>stz ([37,40,43,32,44,11,12].getD i 0)) wz:=by
    have h:=hGz
    unfold chG at h
    rw [hst] at h
    exact h
   have e1:stz 42 = .string key:=hAz 9 (haz ⟨9,.data⟩ (by simp) rfl) h99
   have agree2:∀ i,i≠2→([37,40,43,32,44,11,12]:List Nat).getD i 0≠43:=fun i hi=>by
    rcases i with _ | _ | _ | _ | _ | _ | _ | i <;> simp at hi ⊢
   refine opStep_fn 25 #[.tmp 40,.tmp 42] #[88,9] rfl (enters_of Tryz.func25 (by kernel_rfl) rfl) _ (by simp only [List.map_toArray,List.map_cons,List.map_nil,evalS,e1]; first | done | rfl) ((he2 _ wz hPj).mono fun e w' h=>?_)
   obtain ⟨v,rfl,hv⟩:=h
   exact ⟨v,rfl,chG.eff (by decide) (by decide) hlz hst (hv _ updS_yes (fun i hi=>updS_no (agree2 i hi))),trivial,fun k _ _ _ h=>h⟩
  obtain _ | iz:=iz
  ·obtain rfl:=Option.some.inj hiz
   have t0:Lz 4=true:=hcz 7 _ (hcz 10 _ (haz ⟨10,.data⟩ (by simp) rfl) rfl ⟨7,.data⟩ (by simp) rfl) rfl ⟨4,.data⟩ (by simp) rfl
   have t1:Lz 7=true:=hcz 10 _ (haz ⟨10,.data⟩ (by simp) rfl) rfl ⟨7,.data⟩ (by simp) rfl
   have t2:Lz 10=true:=haz ⟨10,.data⟩ (by simp) rfl
   have t4:Lz 12=false:=L_not (fun h=>hcz 12 _ h rfl ⟨11,.data⟩ (by simp) rfl) hlz
   have t5:Lz 14=false:=L_not (fun h=>hcz 14 _ h rfl ⟨11,.phase⟩ (by simp) rfl) hlz
   have t6:Lz 15=false:=L_not (fun h=>hcz 15 _ h rfl ⟨11,.phase⟩ (by simp) rfl) hlz
   have hst:stg [4,7,10,11,12,14,15] Lz=3:=by simp [stg,t0,t1,t2,hlz,t4,t5,t6]
   have hPj:P 3 (fun i=>stz ([37,40,43,32,44,11,12].getD i 0)) wz:=by
    have h:=hGz
    unfold chG at h
    rw [hst] at h
    exact h
   have agree3:∀ i,i≠3→([37,40,43,32,44,11,12]:List Nat).getD i 0≠32:=fun i hi=>by
    rcases i with _ | _ | _ | _ | _ | _ | _ | i <;> simp at hi ⊢
   refine opStep_value (v:=stz 43) (w':=wz) ?_ ⟨chG.eff (by decide) (by decide) hlz hst (he3 _ wz hPj _ updS_yes (fun i hi=>updS_no (agree3 i hi))),trivial,fun k _ _ _ h=>h⟩
   rfl
  obtain _ | iz:=iz
  ·obtain rfl:=Option.some.inj hiz
   have t0:Lz 4=true:=hcz 7 _ (hcz 10 _ (hcz 11 _ (haz ⟨11,.data⟩ (by simp) rfl) rfl ⟨10,.data⟩ (by simp) rfl) rfl ⟨7,.data⟩ (by simp) rfl) rfl ⟨4,.data⟩ (by simp) rfl
   have t1:Lz 7=true:=hcz 10 _ (hcz 11 _ (haz ⟨11,.data⟩ (by simp) rfl) rfl ⟨10,.data⟩ (by simp) rfl) rfl ⟨7,.data⟩ (by simp) rfl
   have t2:Lz 10=true:=hcz 11 _ (haz ⟨11,.data⟩ (by simp) rfl) rfl ⟨10,.data⟩ (by simp) rfl
   have t3:Lz 11=true:=haz ⟨11,.data⟩ (by simp) rfl
   have t5:Lz 14=false:=L_not (fun h=>hcz 14 _ h rfl ⟨12,.data⟩ (by simp) rfl) hlz
   have t6:Lz 15=false:=L_not (fun h=>hcz 15 _ h rfl ⟨12,.phase⟩ (by simp) rfl) hlz
   have hst:stg [4,7,10,11,12,14,15] Lz=4:=by simp [stg,t0,t1,t2,t3,hlz,t5,t6]
   have hPj:P 4 (fun i=>stz ([37,40,43,32,44,11,12].getD i 0)) wz:=by
    have h:=hGz
    unfold chG at h
    rw [hst] at h
    exact h
   have agree4:∀ i,i≠4→([37,40,43,32,44,11,12]:List Nat).getD i 0≠44:=fun i hi=>by
    rcases i with _ | _ | _ | _ | _ | _ | _ | i <;> simp at hi ⊢
   obtain ⟨f1,f2,f3,hx9,hp⟩:=he4 _ wz hPj
   have ex:stz 32 = .tuple #[.slice f1 f2 f3,.bool b]:=hx9
   refine opStep_value (v:=.slice f1 f2 f3) (w':=wz) ?_ ⟨chG.eff (by decide) (by decide) hlz hst (hp _ updS_yes (fun i hi=>updS_no (agree4 i hi))),trivial,fun k _ _ _ h=>h⟩
   simp only [execOp,evalS,ex]
   go_simp
  obtain _ | iz:=iz
  ·obtain rfl:=Option.some.inj hiz
   have t11:Lz 11=true:=haz ⟨11,.data⟩ (by simp) rfl
   have t10:Lz 10=true:=hcz 11 _ t11 rfl ⟨10,.data⟩ (by simp) rfl
   have t7:Lz 7=true:=hcz 10 _ t10 rfl ⟨7,.data⟩ (by simp) rfl
   have t4:Lz 4=true:=hcz 7 _ t7 rfl ⟨4,.data⟩ (by simp) rfl
   have hst:4≤stg [4,7,10,11,12,14,15] Lz:=by
    simp only [stg,List.filter_cons,t4,t7,t10,t11,if_true,List.length_cons]
    omega
   obtain ⟨y,hy⟩:=hX _ _ _ hst hGz
   have ex:stz 32 = .tuple #[y,.bool b]:=hy
   refine opStep_value (v:=.bool b) (w':=wz) ?_ ⟨hGz.read rfl rfl _,rfl,fun k _ _ _ h=>h⟩
   simp only [execOp,evalS,ex]
   go_simp
  obtain _ | iz:=iz
  ·obtain rfl:=Option.some.inj hiz
   have t0:Lz 4=true:=haz ⟨4,.phase⟩ (by simp) rfl
   have t1:Lz 7=true:=haz ⟨7,.phase⟩ (by simp) rfl
   have t2:Lz 10=true:=haz ⟨10,.chain⟩ (by simp) rfl
   have t3:Lz 11=true:=haz ⟨11,.phase⟩ (by simp) rfl
   have t4:Lz 12=true:=haz ⟨12,.data⟩ (by simp) rfl
   have t6:Lz 15=false:=L_not (fun h=>hcz 15 _ h rfl ⟨14,.chain⟩ (by simp) rfl) hlz
   have hst:stg [4,7,10,11,12,14,15] Lz=5:=by simp [stg,t0,t1,t2,t3,t4,hlz,t6]
   have hPj:P 5 (fun i=>stz ([37,40,43,32,44,11,12].getD i 0)) wz:=by
    have h:=hGz
    unfold chG at h
    rw [hst] at h
    exact h
   have agree5:∀ i,i≠5→([37,40,43,32,44,11,12]:List Nat).getD i 0≠11:=fun i hi=>by
    rcases i with _ | _ | _ | _ | _ | _ | _ | i <;> simp at hi ⊢
   refine opStep_value (v:=stz 44) (w':=wz) ?_ ⟨chG.eff (by decide) (by decide) hlz hst (he5 _ wz hPj _ updS_yes (fun i hi=>updS_no (agree5 i hi))),trivial,fun k _ _ _ h=>h⟩
   rfl
  obtain _ | iz:=iz
  ·obtain rfl:=Option.some.inj hiz
   have t0:Lz 4=true:=haz ⟨4,.phase⟩ (by simp) rfl
   have t1:Lz 7=true:=haz ⟨7,.phase⟩ (by simp) rfl
   have t2:Lz 10=true:=haz ⟨10,.phase⟩ (by simp) rfl
   have t3:Lz 11=true:=haz ⟨11,.phase⟩ (by simp) rfl
   have t4:Lz 12=true:=haz ⟨12,.phase⟩ (by simp) rfl
   have t5:Lz 14=true:=haz ⟨14,.chain⟩ (by simp) rfl
   have hst:stg [4,7,10,11,12,14,15] Lz=6:=by simp [stg,t0,t1,t2,t3,t4,t5,hlz]
   have hPj:P 6 (fun i=>stz ([37,40,43,32,44,11,12].getD i 0)) wz:=by
    have h:=hGz
    unfold chG at h
    rw [hst] at h
    exact h
   have e0:stz 45 = .bool b:=hAz 13 (haz ⟨13,.data⟩ (by simp) rfl) h99
   have agree6:∀ i,i≠6→([37,40,43,32,44,11,12]:List Nat).getD i 0≠12:=fun i hi=>by
    rcases i with _ | _ | _ | _ | _ | _ | _ | i <;> simp at hi ⊢
   refine opStep_value (v:=.bool b) (w':=wz) ?_ ⟨chG.eff (by decide) (by decide) hlz hst (he6 _ wz hPj _ updS_yes (fun i hi=>updS_no (agree6 i hi))),trivial,fun k _ _ _ h=>h⟩
   simp only [execOp,evalS,e0]
   go_simp
  ·exfalso
   have hlen:iz + 16 < 16:=(List.getElem?_eq_some_iff.1 hiz).1
   omega
 ·intro Lz stz wz hGz _ hall _
  have h:=hGz
  unfold chG at h
  rw [stg_all (fun e he=>by simp at he; rcases he with rfl | rfl | rfl | rfl | rfl | rfl | rfl <;> exact hall _ (by decide))] at h
  exact hQ stz wz h
end Go.Proofs.YtjjggefmmeminacGreat
