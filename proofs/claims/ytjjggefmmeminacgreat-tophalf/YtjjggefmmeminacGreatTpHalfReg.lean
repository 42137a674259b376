import Derived.Test.YtjjggefmmeminacGreatJRc
import Derived.Test.YtjjggefmmeminacGreatGrMem
namespace Go.Proofs.YtjjggefmmeminacGreat
open Go.RowKit Go.Sort Go.PlainAid
def halfOutOps:List Oper:=[
 ⟨some 28, .move (.tmp 5), 22, "top.go:143", #[], none⟩,
 ⟨some 29, .buildSlice 38 0 #[], 38, "top.go:143", #[], none⟩,
 ⟨some 30, .move (.tmp 5), 22, "top.go:143", #[], none⟩,
 ⟨some 31, .indexAddr 22 (.tmp 30) (.const (.int .i64 0)), 0, "top.go:143", #[⟨2, .data⟩], none⟩,
 ⟨some 32, .fieldAddr 40 (.tmp 31) 2, 0, "top.go:143", #[⟨3, .data⟩], none⟩,
 ⟨some 33, .load 38 (.tmp 32), 38, "top.go:143", #[⟨4, .data⟩], none⟩,
 ⟨some 34, .move (.tmp 1), 3, "top.go:143", #[], none⟩,
 ⟨some 35, .slice 38 (.tmp 33) none (some (.tmp 34)) none, 38, "top.go:143", #[⟨5, .data⟩, ⟨6, .data⟩], none⟩,
 ⟨some 36, .call { callee := Callee.builtin Builtin.append, args := #[.tmp 29, .tmp 35], argTypes := #[38, 38] }, 38, "top.go:143", #[⟨1, .data⟩, ⟨7, .data⟩], none⟩,
 ⟨some 37, .move (.tmp 5), 22, "top.go:143", #[], none⟩,
 ⟨some 38, .indexAddr 22 (.tmp 37) (.const (.int .i64 0)), 0, "top.go:143", #[⟨9, .data⟩], none⟩,
 ⟨some 39, .fieldAddr 40 (.tmp 38) 2, 0, "top.go:143", #[⟨10, .data⟩], none⟩,
 ⟨some 40, .load 38 (.tmp 39), 38, "top.go:143", #[⟨11, .data⟩], none⟩,
 ⟨some 41, .move (.tmp 1), 3, "top.go:143", #[], none⟩,
 ⟨some 42, .binOp .add 3 (.tmp 41) (.const (.int .i64 1)) 3, 3, "top.go:143", #[⟨13, .data⟩], none⟩,
 ⟨some 43, .slice 38 (.tmp 40) (some (.tmp 42)) none none, 38, "top.go:143", #[⟨12, .data⟩, ⟨14, .data⟩], none⟩,
 ⟨some 44, .call { callee := Callee.builtin Builtin.append, args := #[.tmp 36, .tmp 43], argTypes := #[38, 38] }, 38, "top.go:143", #[⟨8, .data⟩, ⟨15, .data⟩, ⟨8, .chain⟩], none⟩,
 ⟨some 45, .indexAddr 22 (.tmp 28) (.const (.int .i64 0)), 0, "top.go:143", #[⟨0, .data⟩, ⟨0, .phase⟩, ⟨1, .phase⟩, ⟨2, .phase⟩, ⟨3, .phase⟩, ⟨4, .phase⟩, ⟨5, .phase⟩, ⟨6, .phase⟩, ⟨7, .phase⟩, ⟨8, .phase⟩, ⟨9, .phase⟩, ⟨10, .phase⟩, ⟨11, .phase⟩, ⟨12, .phase⟩, ⟨13, .phase⟩, ⟨14, .phase⟩, ⟨15, .phase⟩, ⟨16, .phase⟩], none⟩,
 ⟨some 46, .fieldAddr 40 (.tmp 45) 2, 0, "top.go:143", #[⟨17, .data⟩, ⟨0, .phase⟩, ⟨1, .phase⟩, ⟨2, .phase⟩, ⟨3, .phase⟩, ⟨4, .phase⟩, ⟨5, .phase⟩, ⟨6, .phase⟩, ⟨7, .phase⟩, ⟨8, .phase⟩, ⟨9, .phase⟩, ⟨10, .phase⟩, ⟨11, .phase⟩, ⟨12, .phase⟩, ⟨13, .phase⟩, ⟨14, .phase⟩, ⟨15, .phase⟩, ⟨16, .phase⟩], none⟩,
 ⟨none, .store 38 (.tmp 46) (.tmp 44), 0, "top.go:143", #[⟨18, .data⟩, ⟨16, .data⟩, ⟨16, .chain⟩, ⟨0, .phase⟩, ⟨1, .phase⟩, ⟨2, .phase⟩, ⟨3, .phase⟩, ⟨4, .phase⟩, ⟨5, .phase⟩, ⟨6, .phase⟩, ⟨7, .phase⟩, ⟨8, .phase⟩, ⟨9, .phase⟩, ⟨10, .phase⟩, ⟨11, .phase⟩, ⟨12, .phase⟩, ⟨13, .phase⟩, ⟨14, .phase⟩, ⟨15, .phase⟩, ⟨16, .phase⟩], none⟩]
set_option maxRecDepth 100000 in
set_option maxHeartbeats 4000000 in
theorem halfOut {Q:Exit→Act→World→Prop} {a0:Act} {w5:World} (P:Nat→(Nat→Value)→World→Prop) {lb g n c k:Nat} {tl:Value}
  (hsz : [28,29,30,31,32,33,34,35,36,37,38,39,40,41,42,43,44,45,46].all (fun d=>decide (d < a0.tmps.size))=true)
  (s5:slots a0 5 = .slice (some ⟨lb,0,none⟩) 2 2) (s1:slots a0 1 = .int .i64 (k:Int)) (hwr:IntKind.i64.wrap ((k:Int) + 1)=(k:Int) + 1)
  (hsl:∀ w,(Instr.sliceAt 38 (.slice (some ⟨g,0,none⟩) n c) none (some (.int .i64 (k:Int))) none).run Tryz.prog w = .ok (.slice (some ⟨g,0,none⟩) k c) w) (htl:∀ w,(Instr.sliceAt 38 (.slice (some ⟨g,0,none⟩) n c) (some (.int .i64 ((k:Int) + 1))) none none).run Tryz.prog w = .ok tl w)
  (hP0:∀ x,P 0 x w5.drew)
  (hSt:∀ j x w,j < 4→P j x w→w.cell? ⟨lb,2,none⟩=some (.slice (some ⟨g,0,none⟩) n c))
  (he0:∀ x w,P 0 x w→∃ v w',(Instr.buildSlice 38 0 #[]).run Tryz.prog w = .ok v w'∧∀ x',x' 0=v→(∀ i,i≠0→x' i=x i)→P 1 x' w')
  (he1:∀ x w,P 1 x w→∀ ty,∃ v w',(Builtin.append_ #[38,38] ty #[x 0,.slice (some ⟨g,0,none⟩) k c]).run Tryz.prog w = .ok v w'∧(∀ x',x' 1=v→(∀ i,i≠1→x' i=x i)→P 2 x' w'))
  (he2:∀ x w,P 2 x w→∀ ty,∃ v w',(Builtin.append_ #[38,38] ty #[x 1,tl]).run Tryz.prog w = .ok v w'∧(∀ x',x' 2=v→(∀ i,i≠2→x' i=x i)→P 3 x' w'))
  (he3:∀ x w,P 3 x w→∃ va vn vc u,x 2 = .slice va vn vc∧w.cell? ⟨lb,2,none⟩=some u∧w.frozen? ⟨lb,2,none⟩=false∧P 4 x (w.setCell ⟨lb,2,none⟩ (x 2)))
  (hQ:∀ s w',P 4 (fun i=>s ([29,36,44,0].getD i 0)) w'→Q .normal (putAll a0 s [28,29,30,31,32,33,34,35,36,37,38,39,40,41,42,43,44,45,46]) w') :
  (Code.region 6 halfOutOps.toArray true).wp Tryz.prog Q a0 w5:=by
 refine wp_region_as (by kernel_rfl) (by kernel_rfl) [28,29,30,31,32,33,34,35,36,37,38,39,40,41,42,43,44,45,46] (by kernel_rfl) hsz (by kernel_rfl) (fun _=>99) (asV [1,8,16,19] [.slice (some ⟨lb,0,none⟩) 2 2,undef,.slice (some ⟨lb,0,none⟩) 2 2,.pointer (some ⟨lb,0,none⟩),.pointer (some ⟨lb,2,none⟩),.slice (some ⟨g,0,none⟩) n c,.int .i64 (k:Int),.slice (some ⟨g,0,none⟩) k c,undef,.slice (some ⟨lb,0,none⟩) 2 2,.pointer (some ⟨lb,0,none⟩),.pointer (some ⟨lb,2,none⟩),.slice (some ⟨g,0,none⟩) n c,.int .i64 (k:Int),.int .i64 ((k:Int) + 1),tl,undef,.pointer (some ⟨lb,0,none⟩),.pointer (some ⟨lb,2,none⟩),undef]) (chG [1,8,16,19] [29,36,44,0] P) (chG.start (hP0 _)) ?_ ?_
 ·intro Lz stz wz iz oz hGz hLz hcz hAz hFz hiz hlz haz
  have h99:Lz 99=false:=by
   cases h:Lz 99 with
   | false=>rfl
   | true=>exact absurd (hLz 99 h) (by decide)
  obtain _ | iz:=iz
  ·obtain rfl:=Option.some.inj hiz
   have e0:stz 5 = .slice (some ⟨lb,0,none⟩) 2 2:=(hFz 5 (by decide)).trans s5
   refine opStep_value (v:=.slice (some ⟨lb,0,none⟩) 2 2) (w':=wz) ?_ ⟨hGz.read rfl rfl _,rfl,fun k _ _ _ h=>h⟩
   simp only [execOp,evalS,e0]
   go_simp
  obtain _ | iz:=iz
  ·obtain rfl:=Option.some.inj hiz
   have t1:Lz 8=false:=L_not (fun h=>hcz 8 _ h rfl ⟨1,.data⟩ (by simp) rfl) hlz
   have t2:Lz 16=false:=L_not (fun h=>hcz 16 _ h rfl ⟨8,.data⟩ (by simp) rfl) (L_not (fun h=>hcz 8 _ h rfl ⟨1,.data⟩ (by simp) rfl) hlz)
   have t3:Lz 19=false:=L_not (fun h=>hcz 19 _ h rfl ⟨1,.phase⟩ (by simp) rfl) hlz
   have hst:stg [1,8,16,19] Lz=0:=by simp [stg,hlz,t1,t2,t3]
   have hPj:P 0 (fun i=>stz ([29,36,44,0].getD i 0)) wz:=by
    have h:=hGz
    unfold chG at h
    rw [hst] at h
    exact h
   have agree0:∀ i,i≠0→([29,36,44,0]:List Nat).getD i 0≠29:=fun i hi=>by
    rcases i with _ | _ | _ | _ | i <;> simp at hi ⊢
   obtain ⟨v,w1,hr,hp⟩:=he0 _ wz hPj
   refine opStep_value (v:=v) (w':=w1) ?_ ⟨chG.eff (by decide) (by decide) hlz hst (hp _ updS_yes (fun i hi=>updS_no (agree0 i hi))),trivial,fun k _ _ _ h=>h⟩
   simp only [execOp,List.map_toArray,List.map_nil]
   simp [hr,Result.andThen]
  obtain _ | iz:=iz
  ·obtain rfl:=Option.some.inj hiz
   have e0:stz 5 = .slice (some ⟨lb,0,none⟩) 2 2:=(hFz 5 (by decide)).trans s5
   refine opStep_value (v:=.slice (some ⟨lb,0,none⟩) 2 2) (w':=wz) ?_ ⟨hGz.read rfl rfl _,rfl,fun k _ _ _ h=>h⟩
   simp only [execOp,evalS,e0]
   go_simp
  obtain _ | iz:=iz
  ·obtain rfl:=Option.some.inj hiz
   have e0:stz 30 = .slice (some ⟨lb,0,none⟩) 2 2:=hAz 2 (haz ⟨2,.data⟩ (by simp) rfl) h99
   refine opStep_value (v:=.pointer (some ⟨lb,0,none⟩)) (w':=wz) ?_ ⟨hGz.read rfl rfl _,rfl,fun k _ _ _ h=>h⟩
   simp only [execOp,evalS,e0]
   go_simp
  obtain _ | iz:=iz
  ·obtain rfl:=Option.some.inj hiz
   have e0:stz 31 = .pointer (some ⟨lb,0,none⟩):=hAz 3 (haz ⟨3,.data⟩ (by simp) rfl) h99
   refine opStep_value (v:=.pointer (some ⟨lb,2,none⟩)) (w':=wz) ?_ ⟨hGz.read rfl rfl _,rfl,fun k _ _ _ h=>h⟩
   simp only [execOp,evalS,e0]
   go_simp
  obtain _ | iz:=iz
  ·obtain rfl:=Option.some.inj hiz
   have e0:stz 32 = .pointer (some ⟨lb,2,none⟩):=hAz 4 (haz ⟨4,.data⟩ (by simp) rfl) h99
   have hm:Lz 19=false:=L_not (fun h=>hcz 19 _ h rfl ⟨5,.phase⟩ (by simp) rfl) hlz
   obtain z0:=hSt _ _ _ (stg_lt (E:=[1,8,16,19]) (by simp) hm) hGz
   refine opStep_value (v:=.slice (some ⟨g,0,none⟩) n c) (w':=wz) ?_ ⟨hGz.read rfl rfl _,rfl,fun k _ _ _ h=>h⟩
   simp only [execOp,evalS,e0]
   go_simp
  obtain _ | iz:=iz
  ·obtain rfl:=Option.some.inj hiz
   have e0:stz 1 = .int .i64 (k:Int):=(hFz 1 (by decide)).trans s1
   refine opStep_value (v:=.int .i64 (k:Int)) (w':=wz) ?_ ⟨hGz.read rfl rfl _,rfl,fun k _ _ _ h=>h⟩
   simp only [execOp,evalS,e0]
   go_simp
  obtain _ | iz:=iz
  ·obtain rfl:=Option.some.inj hiz
   have e0:stz 33 = .slice (some ⟨g,0,none⟩) n c:=hAz 5 (haz ⟨5,.data⟩ (by simp) rfl) h99
   have e1:stz 34 = .int .i64 (k:Int):=hAz 6 (haz ⟨6,.data⟩ (by simp) rfl) h99
   refine opStep_value (v:=.slice (some ⟨g,0,none⟩) k c) (w':=wz) ?_ ⟨hGz.read rfl rfl _,rfl,fun k _ _ _ h=>h⟩
   simp only [execOp,Option.map_some,Option.map_none,evalS,e0,e1]
   simp only [Sem.run_bind,Sem.run_pure,hsl wz,Result.andThen_ok]
  obtain _ | iz:=iz
  ·obtain rfl:=Option.some.inj hiz
   have t0:Lz 1=true:=haz ⟨1,.data⟩ (by simp) rfl
   have t2:Lz 16=false:=L_not (fun h=>hcz 16 _ h rfl ⟨8,.data⟩ (by simp) rfl) hlz
   have t3:Lz 19=false:=L_not (fun h=>hcz 19 _ h rfl ⟨8,.phase⟩ (by simp) rfl) hlz
   have hst:stg [1,8,16,19] Lz=1:=by simp [stg,t0,hlz,t2,t3]
   have hPj:P 1 (fun i=>stz ([29,36,44,0].getD i 0)) wz:=by
    have h:=hGz
    unfold chG at h
    rw [hst] at h
    exact h
   have e1:stz 35 = .slice (some ⟨g,0,none⟩) k c:=hAz 7 (haz ⟨7,.data⟩ (by simp) rfl) h99
   have agree1:∀ i,i≠1→([29,36,44,0]:List Nat).getD i 0≠36:=fun i hi=>by
    rcases i with _ | _ | _ | _ | i <;> simp at hi ⊢
   obtain ⟨v,w',hr,hp⟩:=he1 _ wz hPj 38
   replace hr:(Builtin.append_ #[38,38] 38 #[stz 29,.slice (some ⟨g,0,none⟩) k c]).run Tryz.prog wz = .ok v w':=hr
   refine opStep_value (v:=v) (w':=w') ?_ ⟨chG.eff (by decide) (by decide) hlz hst (hp _ updS_yes (fun i hi=>updS_no (agree1 i hi))),trivial,fun k _ _ _ h=>h⟩
   simp only [execOp,resolve,invoke,builtin,Sem.run_bind,Sem.run_pure,Result.andThen_ok,List.map_toArray,List.map_cons,List.map_nil,evalS,e1]
   first | (rw [hr]; rfl) | (simp [hr,Result.andThen])
  obtain _ | iz:=iz
  ·obtain rfl:=Option.some.inj hiz
   have e0:stz 5 = .slice (some ⟨lb,0,none⟩) 2 2:=(hFz 5 (by decide)).trans s5
   refine opStep_value (v:=.slice (some ⟨lb,0,none⟩) 2 2) (w':=wz) ?_ ⟨hGz.read rfl rfl _,rfl,fun k _ _ _ h=>h⟩
   simp only [execOp,evalS,e0]
   go_simp
  obtain _ | iz:=iz
  ·obtain rfl:=Option.some.inj hiz
   have e0:stz 37 = .slice (some ⟨lb,0,none⟩) 2 2:=hAz 9 (haz ⟨9,.data⟩ (by simp) rfl) h99
   refine opStep_value (v:=.pointer (some ⟨lb,0,none⟩)) (w':=wz) ?_ ⟨hGz.read rfl rfl _,rfl,fun k _ _ _ h=>h⟩
   simp only [execOp,evalS,e0]
   go_simp
  obtain _ | iz:=iz
  ·obtain rfl:=Option.some.inj hiz
   have e0:stz 38 = .pointer (some ⟨lb,0,none⟩):=hAz 10 (haz ⟨10,.data⟩ (by simp) rfl) h99
   refine opStep_value (v:=.pointer (some ⟨lb,2,none⟩)) (w':=wz) ?_ ⟨hGz.read rfl rfl _,rfl,fun k _ _ _ h=>h⟩
   simp only [execOp,evalS,e0]
   go_simp
  obtain _ | iz:=iz
  ·obtain rfl:=Option.some.inj hiz
   have e0:stz 39 = .pointer (some ⟨lb,2,none⟩):=hAz 11 (haz ⟨11,.data⟩ (by simp) rfl) h99
   have hm:Lz 19=false:=L_not (fun h=>hcz 19 _ h rfl ⟨12,.phase⟩ (by simp) rfl) hlz
   obtain z0:=hSt _ _ _ (stg_lt (E:=[1,8,16,19]) (by simp) hm) hGz
   refine opStep_value (v:=.slice (some ⟨g,0,none⟩) n c) (w':=wz) ?_ ⟨hGz.read rfl rfl _,rfl,fun k _ _ _ h=>h⟩
   simp only [execOp,evalS,e0]
   go_simp
  obtain _ | iz:=iz
  ·obtain rfl:=Option.some.inj hiz
   have e0:stz 1 = .int .i64 (k:Int):=(hFz 1 (by decide)).trans s1
   refine opStep_value (v:=.int .i64 (k:Int)) (w':=wz) ?_ ⟨hGz.read rfl rfl _,rfl,fun k _ _ _ h=>h⟩
   simp only [execOp,evalS,e0]
   go_simp
  obtain _ | iz:=iz
  ·obtain rfl:=Option.some.inj hiz
   have e0:stz 41 = .int .i64 (k:Int):=hAz 13 (haz ⟨13,.data⟩ (by simp) rfl) h99
   refine opStep_value (v:=.int .i64 ((k:Int) + 1)) (w':=wz) ?_ ⟨hGz.read rfl rfl _,rfl,fun k _ _ _ h=>h⟩
   simp only [execOp,evalS,e0]
   go_simp
  obtain _ | iz:=iz
  ·obtain rfl:=Option.some.inj hiz
   have e0:stz 40 = .slice (some ⟨g,0,none⟩) n c:=hAz 12 (haz ⟨12,.data⟩ (by simp) rfl) h99
   have e1:stz 42 = .int .i64 ((k:Int) + 1):=hAz 14 (haz ⟨14,.data⟩ (by simp) rfl) h99
   refine opStep_value (v:=tl) (w':=wz) ?_ ⟨hGz.read rfl rfl _,rfl,fun k _ _ _ h=>h⟩
   simp only [execOp,Option.map_some,Option.map_none,evalS,e0,e1]
   simp only [Sem.run_bind,Sem.run_pure,htl wz,Result.andThen_ok]
  obtain _ | iz:=iz
  ·obtain rfl:=Option.some.inj hiz
   have t0:Lz 1=true:=hcz 8 _ (haz ⟨8,.data⟩ (by simp) rfl) rfl ⟨1,.data⟩ (by simp) rfl
   have t1:Lz 8=true:=haz ⟨8,.data⟩ (by simp) rfl
   have t3:Lz 19=false:=L_not (fun h=>hcz 19 _ h rfl ⟨16,.data⟩ (by simp) rfl) hlz
   have hst:stg [1,8,16,19] Lz=2:=by simp [stg,t0,t1,hlz,t3]
   have hPj:P 2 (fun i=>stz ([29,36,44,0].getD i 0)) wz:=by
    have h:=hGz
    unfold chG at h
    rw [hst] at h
    exact h
   have e1:stz 43=tl:=hAz 15 (haz ⟨15,.data⟩ (by simp) rfl) h99
   have agree2:∀ i,i≠2→([29,36,44,0]:List Nat).getD i 0≠44:=fun i hi=>by
    rcases i with _ | _ | _ | _ | i <;> simp at hi ⊢
   obtain ⟨v,w',hr,hp⟩:=he2 _ wz hPj 38
   replace hr:(Builtin.append_ #[38,38] 38 #[stz 36,tl]).run Tryz.prog wz = .ok v w':=hr
   refine opStep_value (v:=v) (w':=w') ?_ ⟨chG.eff (by decide) (by decide) hlz hst (hp _ updS_yes (fun i hi=>updS_no (agree2 i hi))),trivial,fun k _ _ _ h=>h⟩
   simp only [execOp,resolve,invoke,builtin,Sem.run_bind,Sem.run_pure,Result.andThen_ok,List.map_toArray,List.map_cons,List.map_nil,evalS,e1]
   first | (rw [hr]; rfl) | (simp [hr,Result.andThen])
  obtain _ | iz:=iz
  ·obtain rfl:=Option.some.inj hiz
   have e0:stz 28 = .slice (some ⟨lb,0,none⟩) 2 2:=hAz 0 (haz ⟨0,.data⟩ (by simp) rfl) h99
   refine opStep_value (v:=.pointer (some ⟨lb,0,none⟩)) (w':=wz) ?_ ⟨hGz.read rfl rfl _,rfl,fun k _ _ _ h=>h⟩
   simp only [execOp,evalS,e0]
   go_simp
  obtain _ | iz:=iz
  ·obtain rfl:=Option.some.inj hiz
   have e0:stz 45 = .pointer (some ⟨lb,0,none⟩):=hAz 17 (haz ⟨17,.data⟩ (by simp) rfl) h99
   refine opStep_value (v:=.pointer (some ⟨lb,2,none⟩)) (w':=wz) ?_ ⟨hGz.read rfl rfl _,rfl,fun k _ _ _ h=>h⟩
   simp only [execOp,evalS,e0]
   go_simp
  obtain _ | iz:=iz
  ·obtain rfl:=Option.some.inj hiz
   have t0:Lz 1=true:=haz ⟨1,.phase⟩ (by simp) rfl
   have t1:Lz 8=true:=haz ⟨8,.phase⟩ (by simp) rfl
   have t2:Lz 16=true:=haz ⟨16,.data⟩ (by simp) rfl
   have hst:stg [1,8,16,19] Lz=3:=by simp [stg,t0,t1,t2,hlz]
   have hPj:P 3 (fun i=>stz ([29,36,44,0].getD i 0)) wz:=by
    have h:=hGz
    unfold chG at h
    rw [hst] at h
    exact h
   have e0:stz 46 = .pointer (some ⟨lb,2,none⟩):=hAz 18 (haz ⟨18,.data⟩ (by simp) rfl) h99
   obtain ⟨va,vn,vc,u,hx9,hu,hfz,hp⟩:=he3 _ wz hPj
   have ex:stz 44 = .slice va vn vc:=hx9
   replace hp:P 4 _ (wz.setCell ⟨lb,2,none⟩ (stz 44)):=hp
   rw [ex] at hp
   refine opStep_skip (w':=_) ?_ ⟨chG.eff (by decide) (by decide) hlz hst hp,trivial,fun k _ _ _ h=>h⟩
   simp only [execOp,evalS,e0,ex]
   go_simp
  ·exfalso
   have hlen:iz + 20 < 20:=(List.getElem?_eq_some_iff.1 hiz).1
   omega
 ·intro Lz stz wz hGz _ hall _
  have h:=hGz
  unfold chG at h
  rw [stg_all (fun e he=>by simp at he; rcases he with rfl | rfl | rfl | rfl <;> exact hall _ (by decide))] at h
  exact hQ stz wz h
end Go.Proofs.YtjjggefmmeminacGreat
