import Derived.Test.YtjjggefmmeminacJRc
import Derived.Test.YtjjggefmmeminacGrMem
namespace Go.Proofs.Ytjjggefmmeminac
open Go.RowKit Go.Sort Go.PlainAid
def movTxOps:List Oper:=[
 ⟨some 89, .fieldAddr 47 (.tmp 12) 0, 0, "law.go:140", #[], none⟩,
 ⟨some 90, .load 43 (.tmp 89), 43, "law.go:140", #[⟨0, .data⟩], none⟩,
 ⟨some 91, .fieldAddr 50 (.tmp 16) 0, 0, "law.go:140", #[], none⟩,
 ⟨some 92, .load 9 (.tmp 91), 9, "law.go:140", #[⟨2, .data⟩], none⟩,
 ⟨some 93, .fieldAddr 50 (.tmp 16) 1, 0, "law.go:140", #[], none⟩,
 ⟨some 94, .load 48 (.tmp 93), 48, "law.go:140", #[⟨4, .data⟩], none⟩,
 ⟨some 95, .move (.tmp 17), 3, "law.go:140", #[], none⟩,
 ⟨some 96, .slice 48 (.tmp 94) none (some (.tmp 95)) none, 48, "law.go:140", #[⟨5, .data⟩, ⟨6, .data⟩], none⟩,
 ⟨some 97, .build 50 #[(0, .tmp 92), (1, .tmp 96)], 50, "law.go:140", #[⟨3, .data⟩, ⟨7, .data⟩], none⟩,
 ⟨some 98, .buildSlice 43 1 #[(0, .tmp 97)], 43, "law.go:140", #[⟨8, .data⟩], none⟩,
 ⟨some 99, .call { callee := Callee.builtin Builtin.append, args := #[.tmp 90, .tmp 98], argTypes := #[43, 43] }, 43, "law.go:140", #[⟨1, .data⟩, ⟨9, .data⟩], none⟩,
 ⟨some 100, .fieldAddr 47 (.tmp 12) 0, 0, "law.go:140", #[⟨0, .phase⟩, ⟨1, .phase⟩, ⟨2, .phase⟩, ⟨3, .phase⟩, ⟨4, .phase⟩, ⟨5, .phase⟩, ⟨6, .phase⟩, ⟨7, .phase⟩, ⟨8, .phase⟩, ⟨9, .phase⟩, ⟨10, .phase⟩], none⟩,
 ⟨none, .store 43 (.tmp 100) (.tmp 99), 0, "law.go:140", #[⟨11, .data⟩, ⟨10, .data⟩, ⟨10, .chain⟩, ⟨0, .phase⟩, ⟨1, .phase⟩, ⟨2, .phase⟩, ⟨3, .phase⟩, ⟨4, .phase⟩, ⟨5, .phase⟩, ⟨6, .phase⟩, ⟨7, .phase⟩, ⟨8, .phase⟩, ⟨9, .phase⟩, ⟨10, .phase⟩], none⟩]
set_option maxRecDepth 100000 in
set_option maxHeartbeats 4000000 in
theorem movTx {Q:Exit→Act→World→Prop} {a0:Act} {w5:World} (P:Nat→(Nat→Value)→World→Prop) {bs bt rn rc n c k sn sc:Nat} {ra fa sa:Option Addr} {nm:ByteArray}
  (hsz : [89,90,91,92,93,94,95,96,97,98,99,100].all (fun d=>decide (d < a0.tmps.size))=true)
  (sb:slots a0 12 = .pointer (some ⟨bs,0,none⟩)) (st:slots a0 16 = .pointer (some ⟨bt,0,none⟩)) (sk:slots a0 17 = .int .i64 (k:Int))
  (hsl:∀ w,(Instr.sliceAt 48 (.slice fa n c) none (some (.int .i64 (k:Int))) none).run Try.prog w = .ok (.slice sa sn sc) w)
  (hP0:∀ x,P 0 x w5.drew)
  (hSt:∀ j x w,j < 3→P j x w→w.cell? ⟨bs,0,none⟩=some (.slice ra rn rc)∧w.cell? ⟨bt,0,none⟩=some (.string nm)∧w.cell? ⟨bt,1,none⟩=some (.slice fa n c))
  (he0:∀ x w,P 0 x w→∀ x',x' 0 = .slice (some ⟨w.heap.size,0,none⟩) 1 1→(∀ i,i≠0→x' i=x i)→P 1 x' (w.alloc (.cells #[.string nm,.slice sa sn sc] 50)))
  (he1:∀ x w,P 1 x w→∀ ty,∃ v w',(Builtin.append_ #[43,43] ty #[.slice ra rn rc,x 0]).run Try.prog w = .ok v w'∧(∀ x',x' 1=v→(∀ i,i≠1→x' i=x i)→P 2 x' w'))
  (he2:∀ x w,P 2 x w→∃ va vn vc u,x 1 = .slice va vn vc∧w.cell? ⟨bs,0,none⟩=some u∧w.frozen? ⟨bs,0,none⟩=false∧P 3 x (w.setCell ⟨bs,0,none⟩ (x 1)))
  (hQ:∀ s w',P 3 (fun i=>s ([98,99,0].getD i 0)) w'→Q .normal (putAll a0 s [89,90,91,92,93,94,95,96,97,98,99,100]) w') :
  (Code.region 16 movTxOps.toArray true).wp Try.prog Q a0 w5:=by
 refine wp_region_as (by kernel_rfl) (by kernel_rfl) [89,90,91,92,93,94,95,96,97,98,99,100] (by kernel_rfl) hsz (by kernel_rfl) (fun _=>99) (asV [9,10,12] [.pointer (some ⟨bs,0,none⟩),.slice ra rn rc,.pointer (some ⟨bt,0,none⟩),.string nm,.pointer (some ⟨bt,1,none⟩),.slice fa n c,.int .i64 (k:Int),.slice sa sn sc,.agg #[.string nm,.slice sa sn sc],undef,undef,.pointer (some ⟨bs,0,none⟩),undef]) (chG [9,10,12] [98,99,0] P) (chG.start (hP0 _)) ?_ ?_
 ·intro Lz stz wz iz oz hGz hLz hcz hAz hFz hiz hlz haz
  have h99:Lz 99=false:=by
   cases h:Lz 99 with
   | false=>rfl
   | true=>exact absurd (hLz 99 h) (by decide)
  obtain _ | iz:=iz
  ·obtain rfl:=Option.some.inj hiz
   have e0:stz 12 = .pointer (some ⟨bs,0,none⟩):=(hFz 12 (by decide)).trans sb
   refine opStep_value (v:=.pointer (some ⟨bs,0,none⟩)) (w':=wz) ?_ ⟨hGz.read rfl rfl _,rfl,fun k _ _ _ h=>h⟩
   simp only [execOp,evalS,e0]
   go_simp
  obtain _ | iz:=iz
  ·obtain rfl:=Option.some.inj hiz
   have e0:stz 89 = .pointer (some ⟨bs,0,none⟩):=hAz 0 (haz ⟨0,.data⟩ (by simp) rfl) h99
   have hm:Lz 12=false:=L_not (fun h=>hcz 12 _ h rfl ⟨1,.phase⟩ (by simp) rfl) hlz
   obtain ⟨z0,-,-⟩:=hSt _ _ _ (stg_lt (E:=[9,10,12]) (by simp) hm) hGz
   refine opStep_value (v:=.slice ra rn rc) (w':=wz) ?_ ⟨hGz.read rfl rfl _,rfl,fun k _ _ _ h=>h⟩
   simp only [execOp,evalS,e0]
   go_simp
  obtain _ | iz:=iz
  ·obtain rfl:=Option.some.inj hiz
   have e0:stz 16 = .pointer (some ⟨bt,0,none⟩):=(hFz 16 (by decide)).trans st
   refine opStep_value (v:=.pointer (some ⟨bt,0,none⟩)) (w':=wz) ?_ ⟨hGz.read rfl rfl _,rfl,fun k _ _ _ h=>h⟩
   simp only [execOp,evalS,e0]
   go_simp
  obtain _ | iz:=iz
  ·obtain rfl:=Option.some.inj hiz
   have e0:stz 91 = .pointer (some ⟨bt,0,none⟩):=hAz 2 (haz ⟨2,.data⟩ (by simp) rfl) h99
   have hm:Lz 12=false:=L_not (fun h=>hcz 12 _ h rfl ⟨3,.phase⟩ (by simp) rfl) hlz
   obtain ⟨-,z1,-⟩:=hSt _ _ _ (stg_lt (E:=[9,10,12]) (by simp) hm) hGz
   refine opStep_value (v:=.string nm) (w':=wz) ?_ ⟨hGz.read rfl rfl _,rfl,fun k _ _ _ h=>h⟩
   simp only [execOp,evalS,e0]
   go_simp
  obtain _ | iz:=iz
  ·obtain rfl:=Option.some.inj hiz
   have e0:stz 16 = .pointer (some ⟨bt,0,none⟩):=(hFz 16 (by decide)).trans st
   refine opStep_value (v:=.pointer (some ⟨bt,1,none⟩)) (w':=wz) ?_ ⟨hGz.read rfl rfl _,rfl,fun k _ _ _ h=>h⟩
   simp only [execOp,evalS,e0]
   go_simp
  obtain _ | iz:=iz
  ·obtain rfl:=Option.some.inj hiz
   have e0:stz 93 = .pointer (some ⟨bt,1,none⟩):=hAz 4 (haz ⟨4,.data⟩ (by simp) rfl) h99
   have hm:Lz 12=false:=L_not (fun h=>hcz 12 _ h rfl ⟨5,.phase⟩ (by simp) rfl) hlz
   obtain ⟨-,-,z2⟩:=hSt _ _ _ (stg_lt (E:=[9,10,12]) (by simp) hm) hGz
   refine opStep_value (v:=.slice fa n c) (w':=wz) ?_ ⟨hGz.read rfl rfl _,rfl,fun k _ _ _ h=>h⟩
   simp only [execOp,evalS,e0]
   go_simp
  obtain _ | iz:=iz
  ·obtain rfl:=Option.some.inj hiz
   have e0:stz 17 = .int .i64 (k:Int):=(hFz 17 (by decide)).trans sk
   refine opStep_value (v:=.int .i64 (k:Int)) (w':=wz) ?_ ⟨hGz.read rfl rfl _,rfl,fun k _ _ _ h=>h⟩
   simp only [execOp,evalS,e0]
   go_simp
  obtain _ | iz:=iz
  ·obtain rfl:=Option.some.inj hiz
   have e0:stz 94 = .slice fa n c:=hAz 5 (haz ⟨5,.data⟩ (by simp) rfl) h99
   have e1:stz 95 = .int .i64 (k:Int):=hAz 6 (haz ⟨6,.data⟩ (by simp) rfl) h99
   refine opStep_value (v:=.slice sa sn sc) (w':=wz) ?_ ⟨hGz.read rfl rfl _,rfl,fun k _ _ _ h=>h⟩
   simp only [execOp,Option.map_some,Option.map_none,evalS,e0,e1]
   simp only [Sem.run_bind,Sem.run_pure,hsl wz,Result.andThen_ok]
  obtain _ | iz:=iz
  ·obtain rfl:=Option.some.inj hiz
   have e0:stz 92 = .string nm:=hAz 3 (haz ⟨3,.data⟩ (by simp) rfl) h99
   have e1:stz 96 = .slice sa sn sc:=hAz 7 (haz ⟨7,.data⟩ (by simp) rfl) h99
   refine opStep_value (v:=.agg #[.string nm,.slice sa sn sc]) (w':=wz) ?_ ⟨hGz.read rfl rfl _,rfl,fun k _ _ _ h=>h⟩
   simp only [execOp,evalS]
   go_simp
  obtain _ | iz:=iz
  ·obtain rfl:=Option.some.inj hiz
   have t1:Lz 10=false:=L_not (fun h=>hcz 10 _ h rfl ⟨9,.data⟩ (by simp) rfl) hlz
   have t2:Lz 12=false:=L_not (fun h=>hcz 12 _ h rfl ⟨9,.phase⟩ (by simp) rfl) hlz
   have hst:stg [9,10,12] Lz=0:=by simp [stg,hlz,t1,t2]
   have hPj:P 0 (fun i=>stz ([98,99,0].getD i 0)) wz:=by
    have h:=hGz
    unfold chG at h
    rw [hst] at h
    exact h
   have e0:stz 97 = .agg #[.string nm,.slice sa sn sc]:=hAz 8 (haz ⟨8,.data⟩ (by simp) rfl) h99
   have agree0:∀ i,i≠0→([98,99,0]:List Nat).getD i 0≠98:=fun i hi=>by
    rcases i with _ | _ | _ | i <;> simp at hi ⊢
   refine opStep_value (v:=.slice (some ⟨wz.heap.size,0,none⟩) 1 1) (w':=wz.alloc (.cells #[.string nm,.slice sa sn sc] 50)) ?_ ⟨chG.eff (by decide) (by decide) hlz hst (he0 _ wz hPj _ updS_yes (fun i hi=>updS_no (agree0 i hi))),trivial,fun k _ _ _ h=>h⟩
   simp only [execOp,List.map_toArray,List.map_cons,List.map_nil,evalS,e0]
   go_simp
  obtain _ | iz:=iz
  ·obtain rfl:=Option.some.inj hiz
   have t0:Lz 9=true:=haz ⟨9,.data⟩ (by simp) rfl
   have t2:Lz 12=false:=L_not (fun h=>hcz 12 _ h rfl ⟨10,.data⟩ (by simp) rfl) hlz
   have hst:stg [9,10,12] Lz=1:=by simp [stg,t0,hlz,t2]
   have hPj:P 1 (fun i=>stz ([98,99,0].getD i 0)) wz:=by
    have h:=hGz
    unfold chG at h
    rw [hst] at h
    exact h
   have e0:stz 90 = .slice ra rn rc:=hAz 1 (haz ⟨1,.data⟩ (by simp) rfl) h99
   have agree1:∀ i,i≠1→([98,99,0]:List Nat).getD i 0≠99:=fun i hi=>by
    rcases i with _ | _ | _ | i <;> simp at hi ⊢
   obtain ⟨v,w',hr,hp⟩:=he1 _ wz hPj 43
   replace hr:(Builtin.append_ #[43,43] 43 #[.slice ra rn rc,stz 98]).run Try.prog wz = .ok v w':=hr
   refine opStep_value (v:=v) (w':=w') ?_ ⟨chG.eff (by decide) (by decide) hlz hst (hp _ updS_yes (fun i hi=>updS_no (agree1 i hi))),trivial,fun k _ _ _ h=>h⟩
   simp only [execOp,resolve,invoke,builtin,Sem.run_bind,Sem.run_pure,Result.andThen_ok,List.map_toArray,List.map_cons,List.map_nil,evalS,e0]
   first | (rw [hr]; rfl) | (simp [hr,Result.andThen])
  obtain _ | iz:=iz
  ·obtain rfl:=Option.some.inj hiz
   have e0:stz 12 = .pointer (some ⟨bs,0,none⟩):=(hFz 12 (by decide)).trans sb
   refine opStep_value (v:=.pointer (some ⟨bs,0,none⟩)) (w':=wz) ?_ ⟨hGz.read rfl rfl _,rfl,fun k _ _ _ h=>h⟩
   simp only [execOp,evalS,e0]
   go_simp
  obtain _ | iz:=iz
  ·obtain rfl:=Option.some.inj hiz
   have t0:Lz 9=true:=haz ⟨9,.phase⟩ (by simp) rfl
   have t1:Lz 10=true:=haz ⟨10,.data⟩ (by simp) rfl
   have hst:stg [9,10,12] Lz=2:=by simp [stg,t0,t1,hlz]
   have hPj:P 2 (fun i=>stz ([98,99,0].getD i 0)) wz:=by
    have h:=hGz
    unfold chG at h
    rw [hst] at h
    exact h
   have e0:stz 100 = .pointer (some ⟨bs,0,none⟩):=hAz 11 (haz ⟨11,.data⟩ (by simp) rfl) h99
   obtain ⟨va,vn,vc,u,hx9,hu,hfz,hp⟩:=he2 _ wz hPj
   have ex:stz 99 = .slice va vn vc:=hx9
   replace hp:P 3 _ (wz.setCell ⟨bs,0,none⟩ (stz 99)):=hp
   rw [ex] at hp
   refine opStep_skip (w':=_) ?_ ⟨chG.eff (by decide) (by decide) hlz hst hp,trivial,fun k _ _ _ h=>h⟩
   simp only [execOp,evalS,e0,ex]
   go_simp
  ·exfalso
   have hlen:iz + 13 < 13:=(List.getElem?_eq_some_iff.1 hiz).1
   omega
 ·intro Lz stz wz hGz _ hall _
  have h:=hGz
  unfold chG at h
  rw [stg_all (fun e he=>by simp at he; rcases he with rfl | rfl | rfl <;> exact hall _ (by decide))] at h
  exact hQ stz wz h
def movTyOps:List Oper:=[
 ⟨some 101, .fieldAddr 47 (.tmp 13) 0, 0, "law.go:141", #[], none⟩,
 ⟨some 102, .load 43 (.tmp 101), 43, "law.go:141", #[⟨0, .data⟩], none⟩,
 ⟨some 103, .fieldAddr 50 (.tmp 16) 0, 0, "law.go:141", #[], none⟩,
 ⟨some 104, .load 9 (.tmp 103), 9, "law.go:141", #[⟨2, .data⟩], none⟩,
 ⟨some 105, .fieldAddr 50 (.tmp 16) 1, 0, "law.go:141", #[], none⟩,
 ⟨some 106, .load 48 (.tmp 105), 48, "law.go:141", #[⟨4, .data⟩], none⟩,
 ⟨some 107, .move (.tmp 17), 3, "law.go:141", #[], none⟩,
 ⟨some 108, .slice 48 (.tmp 106) (some (.tmp 107)) none none, 48, "law.go:141", #[⟨5, .data⟩, ⟨6, .data⟩], none⟩,
 ⟨some 109, .build 50 #[(0, .tmp 104), (1, .tmp 108)], 50, "law.go:141", #[⟨3, .data⟩, ⟨7, .data⟩], none⟩,
 ⟨some 110, .buildSlice 43 1 #[(0, .tmp 109)], 43, "law.go:141", #[⟨8, .data⟩], none⟩,
 ⟨some 111, .call { callee := Callee.builtin Builtin.append, args := #[.tmp 102, .tmp 110], argTypes := #[43, 43] }, 43, "law.go:141", #[⟨1, .data⟩, ⟨9, .data⟩], none⟩,
 ⟨some 112, .fieldAddr 47 (.tmp 13) 0, 0, "law.go:141", #[⟨0, .phase⟩, ⟨1, .phase⟩, ⟨2, .phase⟩, ⟨3, .phase⟩, ⟨4, .phase⟩, ⟨5, .phase⟩, ⟨6, .phase⟩, ⟨7, .phase⟩, ⟨8, .phase⟩, ⟨9, .phase⟩, ⟨10, .phase⟩], none⟩,
 ⟨none, .store 43 (.tmp 112) (.tmp 111), 0, "law.go:141", #[⟨11, .data⟩, ⟨10, .data⟩, ⟨10, .chain⟩, ⟨0, .phase⟩, ⟨1, .phase⟩, ⟨2, .phase⟩, ⟨3, .phase⟩, ⟨4, .phase⟩, ⟨5, .phase⟩, ⟨6, .phase⟩, ⟨7, .phase⟩, ⟨8, .phase⟩, ⟨9, .phase⟩, ⟨10, .phase⟩], none⟩]
set_option maxRecDepth 100000 in
set_option maxHeartbeats 4000000 in
theorem movTy {Q:Exit→Act→World→Prop} {a0:Act} {w5:World} (P:Nat→(Nat→Value)→World→Prop) {bs bt rn rc n c k sn sc:Nat} {ra fa sa:Option Addr} {nm:ByteArray}
  (hsz : [101,102,103,104,105,106,107,108,109,110,111,112].all (fun d=>decide (d < a0.tmps.size))=true)
  (sb:slots a0 13 = .pointer (some ⟨bs,0,none⟩)) (st:slots a0 16 = .pointer (some ⟨bt,0,none⟩)) (sk:slots a0 17 = .int .i64 (k:Int))
  (hsl:∀ w,(Instr.sliceAt 48 (.slice fa n c) (some (.int .i64 (k:Int))) none none).run Try.prog w = .ok (.slice sa sn sc) w)
  (hP0:∀ x,P 0 x w5.drew)
  (hSt:∀ j x w,j < 3→P j x w→w.cell? ⟨bs,0,none⟩=some (.slice ra rn rc)∧w.cell? ⟨bt,0,none⟩=some (.string nm)∧w.cell? ⟨bt,1,none⟩=some (.slice fa n c))
  (he0:∀ x w,P 0 x w→∀ x',x' 0 = .slice (some ⟨w.heap.size,0,none⟩) 1 1→(∀ i,i≠0→x' i=x i)→P 1 x' (w.alloc (.cells #[.string nm,.slice sa sn sc] 50)))
  (he1:∀ x w,P 1 x w→∀ ty,∃ v w',(Builtin.append_ #[43,43] ty #[.slice ra rn rc,x 0]).run Try.prog w = .ok v w'∧(∀ x',x' 1=v→(∀ i,i≠1→x' i=x i)→P 2 x' w'))
  (he2:∀ x w,P 2 x w→∃ va vn vc u,x 1 = .slice va vn vc∧w.cell? ⟨bs,0,none⟩=some u∧w.frozen? ⟨bs,0,none⟩=false∧P 3 x (w.setCell ⟨bs,0,none⟩ (x 1)))
  (hQ:∀ s w',P 3 (fun i=>s ([110,111,0].getD i 0)) w'→Q .normal (putAll a0 s [101,102,103,104,105,106,107,108,109,110,111,112]) w') :
  (Code.region 17 movTyOps.toArray true).wp Try.prog Q a0 w5:=by
 refine wp_region_as (by kernel_rfl) (by kernel_rfl) [101,102,103,104,105,106,107,108,109,110,111,112] (by kernel_rfl) hsz (by kernel_rfl) (fun _=>99) (asV [9,10,12] [.pointer (some ⟨bs,0,none⟩),.slice ra rn rc,.pointer (some ⟨bt,0,none⟩),.string nm,.pointer (some ⟨bt,1,none⟩),.slice fa n c,.int .i64 (k:Int),.slice sa sn sc,.agg #[.string nm,.slice sa sn sc],undef,undef,.pointer (some ⟨bs,0,none⟩),undef]) (chG [9,10,12] [110,111,0] P) (chG.start (hP0 _)) ?_ ?_
 ·intro Lz stz wz iz oz hGz hLz hcz hAz hFz hiz hlz haz
  have h99:Lz 99=false:=by
   cases h:Lz 99 with
   | false=>rfl
   | true=>exact absurd (hLz 99 h) (by decide)
  obtain _ | iz:=iz
  ·obtain rfl:=Option.some.inj hiz
   have e0:stz 13 = .pointer (some ⟨bs,0,none⟩):=(hFz 13 (by decide)).trans sb
   refine opStep_value (v:=.pointer (some ⟨bs,0,none⟩)) (w':=wz) ?_ ⟨hGz.read rfl rfl _,rfl,fun k _ _ _ h=>h⟩
   simp only [execOp,evalS,e0]
   go_simp
  obtain _ | iz:=iz
  ·obtain rfl:=Option.some.inj hiz
   have e0:stz 101 = .pointer (some ⟨bs,0,none⟩):=hAz 0 (haz ⟨0,.data⟩ (by simp) rfl) h99
   have hm:Lz 12=false:=L_not (fun h=>hcz 12 _ h rfl ⟨1,.phase⟩ (by simp) rfl) hlz
   obtain ⟨z0,-,-⟩:=hSt _ _ _ (stg_lt (E:=[9,10,12]) (by simp) hm) hGz
   refine opStep_value (v:=.slice ra rn rc) (w':=wz) ?_ ⟨hGz.read rfl rfl _,rfl,fun k _ _ _ h=>h⟩
   simp only [execOp,evalS,e0]
   go_simp
  obtain _ | iz:=iz
  ·obtain rfl:=Option.some.inj hiz
   have e0:stz 16 = .pointer (some ⟨bt,0,none⟩):=(hFz 16 (by decide)).trans st
   refine opStep_value (v:=.pointer (some ⟨bt,0,none⟩)) (w':=wz) ?_ ⟨hGz.read rfl rfl _,rfl,fun k _ _ _ h=>h⟩
   simp only [execOp,evalS,e0]
   go_simp
  obtain _ | iz:=iz
  ·obtain rfl:=Option.some.inj hiz
   have e0:stz 103 = .pointer (some ⟨bt,0,none⟩):=hAz 2 (haz ⟨2,.data⟩ (by simp) rfl) h99
   have hm:Lz 12=false:=L_not (fun h=>hcz 12 _ h rfl ⟨3,.phase⟩ (by simp) rfl) hlz
   obtain ⟨-,z1,-⟩:=hSt _ _ _ (stg_lt (E:=[9,10,12]) (by simp) hm) hGz
   refine opStep_value (v:=.string nm) (w':=wz) ?_ ⟨hGz.read rfl rfl _,rfl,fun k _ _ _ h=>h⟩
   simp only [execOp,evalS,e0]
   go_simp
  obtain _ | iz:=iz
  ·obtain rfl:=Option.some.inj hiz
   have e0:stz 16 = .pointer (some ⟨bt,0,none⟩):=(hFz 16 (by decide)).trans st
   refine opStep_value (v:=.pointer (some ⟨bt,1,none⟩)) (w':=wz) ?_ ⟨hGz.read rfl rfl _,rfl,fun k _ _ _ h=>h⟩
   simp only [execOp,evalS,e0]
   go_simp
  obtain _ | iz:=iz
  ·obtain rfl:=Option.some.inj hiz
   have e0:stz 105 = .pointer (some ⟨bt,1,none⟩):=hAz 4 (haz ⟨4,.data⟩ (by simp) rfl) h99
   have hm:Lz 12=false:=L_not (fun h=>hcz 12 _ h rfl ⟨5,.phase⟩ (by simp) rfl) hlz
   obtain ⟨-,-,z2⟩:=hSt _ _ _ (stg_lt (E:=[9,10,12]) (by simp) hm) hGz
   refine opStep_value (v:=.slice fa n c) (w':=wz) ?_ ⟨hGz.read rfl rfl _,rfl,fun k _ _ _ h=>h⟩
   simp only [execOp,evalS,e0]
   go_simp
  obtain _ | iz:=iz
  ·obtain rfl:=Option.some.inj hiz
   have e0:stz 17 = .int .i64 (k:Int):=(hFz 17 (by decide)).trans sk
   refine opStep_value (v:=.int .i64 (k:Int)) (w':=wz) ?_ ⟨hGz.read rfl rfl _,rfl,fun k _ _ _ h=>h⟩
   simp only [execOp,evalS,e0]
   go_simp
  obtain _ | iz:=iz
  ·obtain rfl:=Option.some.inj hiz
   have e0:stz 106 = .slice fa n c:=hAz 5 (haz ⟨5,.data⟩ (by simp) rfl) h99
   have e1:stz 107 = .int .i64 (k:Int):=hAz 6 (haz ⟨6,.data⟩ (by simp) rfl) h99
   refine opStep_value (v:=.slice sa sn sc) (w':=wz) ?_ ⟨hGz.read rfl rfl _,rfl,fun k _ _ _ h=>h⟩
   simp only [execOp,Option.map_some,Option.map_none,evalS,e0,e1]
   simp only [Sem.run_bind,Sem.run_pure,hsl wz,Result.andThen_ok]
  obtain _ | iz:=iz
  ·obtain rfl:=Option.some.inj hiz
   have e0:stz 104 = .string nm:=hAz 3 (haz ⟨3,.data⟩ (by simp) rfl) h99
   have e1:stz 108 = .slice sa sn sc:=hAz 7 (haz ⟨7,.data⟩ (by simp) rfl) h99
   refine opStep_value (v:=.agg #[.string nm,.slice sa sn sc]) (w':=wz) ?_ ⟨hGz.read rfl rfl _,rfl,fun k _ _ _ h=>h⟩
   simp only [execOp,evalS]
   go_simp
  obtain _ | iz:=iz
  ·obtain rfl:=Option.some.inj hiz
   have t1:Lz 10=false:=L_not (fun h=>hcz 10 _ h rfl ⟨9,.data⟩ (by simp) rfl) hlz
   have t2:Lz 12=false:=L_not (fun h=>hcz 12 _ h rfl ⟨9,.phase⟩ (by simp) rfl) hlz
   have hst:stg [9,10,12] Lz=0:=by simp [stg,hlz,t1,t2]
   have hPj:P 0 (fun i=>stz ([110,111,0].getD i 0)) wz:=by
    have h:=hGz
    unfold chG at h
    rw [hst] at h
    exact h
   have e0:stz 109 = .agg #[.string nm,.slice sa sn sc]:=hAz 8 (haz ⟨8,.data⟩ (by simp) rfl) h99
   have agree0:∀ i,i≠0→([110,111,0]:List Nat).getD i 0≠110:=fun i hi=>by
    rcases i with _ | _ | _ | i <;> simp at hi ⊢
   refine opStep_value (v:=.slice (some ⟨wz.heap.size,0,none⟩) 1 1) (w':=wz.alloc (.cells #[.string nm,.slice sa sn sc] 50)) ?_ ⟨chG.eff (by decide) (by decide) hlz hst (he0 _ wz hPj _ updS_yes (fun i hi=>updS_no (agree0 i hi))),trivial,fun k _ _ _ h=>h⟩
   simp only [execOp,List.map_toArray,List.map_cons,List.map_nil,evalS,e0]
   go_simp
  obtain _ | iz:=iz
  ·obtain rfl:=Option.some.inj hiz
   have t0:Lz 9=true:=haz ⟨9,.data⟩ (by simp) rfl
   have t2:Lz 12=false:=L_not (fun h=>hcz 12 _ h rfl ⟨10,.data⟩ (by simp) rfl) hlz
   have hst:stg [9,10,12] Lz=1:=by simp [stg,t0,hlz,t2]
   have hPj:P 1 (fun i=>stz ([110,111,0].getD i 0)) wz:=by
    have h:=hGz
    unfold chG at h
    rw [hst] at h
    exact h
   have e0:stz 102 = .slice ra rn rc:=hAz 1 (haz ⟨1,.data⟩ (by simp) rfl) h99
   have agree1:∀ i,i≠1→([110,111,0]:List Nat).getD i 0≠111:=fun i hi=>by
    rcases i with _ | _ | _ | i <;> simp at hi ⊢
   obtain ⟨v,w',hr,hp⟩:=he1 _ wz hPj 43
   replace hr:(Builtin.append_ #[43,43] 43 #[.slice ra rn rc,stz 110]).run Try.prog wz = .ok v w':=hr
   refine opStep_value (v:=v) (w':=w') ?_ ⟨chG.eff (by decide) (by decide) hlz hst (hp _ updS_yes (fun i hi=>updS_no (agree1 i hi))),trivial,fun k _ _ _ h=>h⟩
   simp only [execOp,resolve,invoke,builtin,Sem.run_bind,Sem.run_pure,Result.andThen_ok,List.map_toArray,List.map_cons,List.map_nil,evalS,e0]
   first | (rw [hr]; rfl) | (simp [hr,Result.andThen])
  obtain _ | iz:=iz
  ·obtain rfl:=Option.some.inj hiz
   have e0:stz 13 = .pointer (some ⟨bs,0,none⟩):=(hFz 13 (by decide)).trans sb
   refine opStep_value (v:=.pointer (some ⟨bs,0,none⟩)) (w':=wz) ?_ ⟨hGz.read rfl rfl _,rfl,fun k _ _ _ h=>h⟩
   simp only [execOp,evalS,e0]
   go_simp
  obtain _ | iz:=iz
  ·obtain rfl:=Option.some.inj hiz
   have t0:Lz 9=true:=haz ⟨9,.phase⟩ (by simp) rfl
   have t1:Lz 10=true:=haz ⟨10,.data⟩ (by simp) rfl
   have hst:stg [9,10,12] Lz=2:=by simp [stg,t0,t1,hlz]
   have hPj:P 2 (fun i=>stz ([110,111,0].getD i 0)) wz:=by
    have h:=hGz
    unfold chG at h
    rw [hst] at h
    exact h
   have e0:stz 112 = .pointer (some ⟨bs,0,none⟩):=hAz 11 (haz ⟨11,.data⟩ (by simp) rfl) h99
   obtain ⟨va,vn,vc,u,hx9,hu,hfz,hp⟩:=he2 _ wz hPj
   have ex:stz 111 = .slice va vn vc:=hx9
   replace hp:P 3 _ (wz.setCell ⟨bs,0,none⟩ (stz 111)):=hp
   rw [ex] at hp
   refine opStep_skip (w':=_) ?_ ⟨chG.eff (by decide) (by decide) hlz hst hp,trivial,fun k _ _ _ h=>h⟩
   simp only [execOp,evalS,e0,ex]
   go_simp
  ·exfalso
   have hlen:iz + 13 < 13:=(List.getElem?_eq_some_iff.1 hiz).1
   omega
 ·intro Lz stz wz hGz _ hall _
  have h:=hGz
  unfold chG at h
  rw [stg_all (fun e he=>by simp at he; rcases he with rfl | rfl | rfl <;> exact hall _ (by decide))] at h
  exact hQ stz wz h
def movXxOps:List Oper:=[
 ⟨some 125, .fieldAddr 47 (.tmp 12) 2, 0, "law.go:145", #[], none⟩,
 ⟨some 126, .load 45 (.tmp 125), 45, "law.go:145", #[⟨0, .data⟩], none⟩,
 ⟨some 127, .fieldAddr 59 (.tmp 19) 0, 0, "law.go:145", #[], none⟩,
 ⟨some 128, .load 9 (.tmp 127), 9, "law.go:145", #[⟨2, .data⟩], none⟩,
 ⟨some 129, .fieldAddr 59 (.tmp 19) 1, 0, "law.go:145", #[], none⟩,
 ⟨some 130, .load 9 (.tmp 129), 9, "law.go:145", #[⟨4, .data⟩], none⟩,
 ⟨some 131, .fieldAddr 59 (.tmp 19) 2, 0, "law.go:145", #[], none⟩,
 ⟨some 132, .load 57 (.tmp 131), 57, "law.go:145", #[⟨6, .data⟩], none⟩,
 ⟨some 133, .move (.tmp 20), 3, "law.go:145", #[], none⟩,
 ⟨some 134, .slice 57 (.tmp 132) none (some (.tmp 133)) none, 57, "law.go:145", #[⟨7, .data⟩, ⟨8, .data⟩], none⟩,
 ⟨some 135, .build 59 #[(0, .tmp 128), (1, .tmp 130), (2, .tmp 134)], 59, "law.go:145", #[⟨3, .data⟩, ⟨5, .data⟩, ⟨9, .data⟩], none⟩,
 ⟨some 136, .buildSlice 45 1 #[(0, .tmp 135)], 45, "law.go:145", #[⟨10, .data⟩], none⟩,
 ⟨some 137, .call { callee := Callee.builtin Builtin.append, args := #[.tmp 126, .tmp 136], argTypes := #[45, 45] }, 45, "law.go:145", #[⟨1, .data⟩, ⟨11, .data⟩], none⟩,
 ⟨some 138, .fieldAddr 47 (.tmp 12) 2, 0, "law.go:145", #[⟨0, .phase⟩, ⟨1, .phase⟩, ⟨2, .phase⟩, ⟨3, .phase⟩, ⟨4, .phase⟩, ⟨5, .phase⟩, ⟨6, .phase⟩, ⟨7, .phase⟩, ⟨8, .phase⟩, ⟨9, .phase⟩, ⟨10, .phase⟩, ⟨11, .phase⟩, ⟨12, .phase⟩], none⟩,
 ⟨none, .store 45 (.tmp 138) (.tmp 137), 0, "law.go:145", #[⟨13, .data⟩, ⟨12, .data⟩, ⟨12, .chain⟩, ⟨0, .phase⟩, ⟨1, .phase⟩, ⟨2, .phase⟩, ⟨3, .phase⟩, ⟨4, .phase⟩, ⟨5, .phase⟩, ⟨6, .phase⟩, ⟨7, .phase⟩, ⟨8, .phase⟩, ⟨9, .phase⟩, ⟨10, .phase⟩, ⟨11, .phase⟩, ⟨12, .phase⟩], none⟩]
set_option maxRecDepth 100000 in
set_option maxHeartbeats 4000000 in
theorem movXx {Q:Exit→Act→World→Prop} {a0:Act} {w5:World} (P:Nat→(Nat→Value)→World→Prop) {bs bt rn rc n c k sn sc:Nat} {ra fa sa:Option Addr} {nm key:ByteArray}
  (hsz : [125,126,127,128,129,130,131,132,133,134,135,136,137,138].all (fun d=>decide (d < a0.tmps.size))=true)
  (sb:slots a0 12 = .pointer (some ⟨bs,0,none⟩)) (st:slots a0 19 = .pointer (some ⟨bt,0,none⟩)) (sk:slots a0 20 = .int .i64 (k:Int))
  (hsl:∀ w,(Instr.sliceAt 57 (.slice fa n c) none (some (.int .i64 (k:Int))) none).run Try.prog w = .ok (.slice sa sn sc) w)
  (hP0:∀ x,P 0 x w5.drew)
  (hSt:∀ j x w,j < 3→P j x w→w.cell? ⟨bs,2,none⟩=some (.slice ra rn rc)∧w.cell? ⟨bt,0,none⟩=some (.string nm)∧w.cell? ⟨bt,1,none⟩=some (.string key)∧w.cell? ⟨bt,2,none⟩=some (.slice fa n c))
  (he0:∀ x w,P 0 x w→∀ x',x' 0 = .slice (some ⟨w.heap.size,0,none⟩) 1 1→(∀ i,i≠0→x' i=x i)→P 1 x' (w.alloc (.cells #[.string nm,.string key,.slice sa sn sc] 59)))
  (he1:∀ x w,P 1 x w→∀ ty,∃ v w',(Builtin.append_ #[45,45] ty #[.slice ra rn rc,x 0]).run Try.prog w = .ok v w'∧(∀ x',x' 1=v→(∀ i,i≠1→x' i=x i)→P 2 x' w'))
  (he2:∀ x w,P 2 x w→∃ va vn vc u,x 1 = .slice va vn vc∧w.cell? ⟨bs,2,none⟩=some u∧w.frozen? ⟨bs,2,none⟩=false∧P 3 x (w.setCell ⟨bs,2,none⟩ (x 1)))
  (hQ:∀ s w',P 3 (fun i=>s ([136,137,0].getD i 0)) w'→Q .normal (putAll a0 s [125,126,127,128,129,130,131,132,133,134,135,136,137,138]) w') :
  (Code.region 23 movXxOps.toArray true).wp Try.prog Q a0 w5:=by
 refine wp_region_as (by kernel_rfl) (by kernel_rfl) [125,126,127,128,129,130,131,132,133,134,135,136,137,138] (by kernel_rfl) hsz (by kernel_rfl) (fun _=>99) (asV [11,12,14] [.pointer (some ⟨bs,2,none⟩),.slice ra rn rc,.pointer (some ⟨bt,0,none⟩),.string nm,.pointer (some ⟨bt,1,none⟩),.string key,.pointer (some ⟨bt,2,none⟩),.slice fa n c,.int .i64 (k:Int),.slice sa sn sc,.agg #[.string nm,.string key,.slice sa sn sc],undef,undef,.pointer (some ⟨bs,2,none⟩),undef]) (chG [11,12,14] [136,137,0] P) (chG.start (hP0 _)) ?_ ?_
 ·intro Lz stz wz iz oz hGz hLz hcz hAz hFz hiz hlz haz
  have h99:Lz 99=false:=by
   cases h:Lz 99 with
   | false=>rfl
   | true=>exact absurd (hLz 99 h) (by decide)
  obtain _ | iz:=iz
  ·obtain rfl:=Option.some.inj hiz
   have e0:stz 12 = .pointer (some ⟨bs,0,none⟩):=(hFz 12 (by decide)).trans sb
   refine opStep_value (v:=.pointer (some ⟨bs,2,none⟩)) (w':=wz) ?_ ⟨hGz.read rfl rfl _,rfl,fun k _ _ _ h=>h⟩
   simp only [execOp,evalS,e0]
   go_simp
  obtain _ | iz:=iz
  ·obtain rfl:=Option.some.inj hiz
   have e0:stz 125 = .pointer (some ⟨bs,2,none⟩):=hAz 0 (haz ⟨0,.data⟩ (by simp) rfl) h99
   have hm:Lz 14=false:=L_not (fun h=>hcz 14 _ h rfl ⟨1,.phase⟩ (by simp) rfl) hlz
   obtain ⟨z0,-,-,-⟩:=hSt _ _ _ (stg_lt (E:=[11,12,14]) (by simp) hm) hGz
   refine opStep_value (v:=.slice ra rn rc) (w':=wz) ?_ ⟨hGz.read rfl rfl _,rfl,fun k _ _ _ h=>h⟩
   simp only [execOp,evalS,e0]
   go_simp
  obtain _ | iz:=iz
  ·obtain rfl:=Option.some.inj hiz
   have e0:stz 19 = .pointer (some ⟨bt,0,none⟩):=(hFz 19 (by decide)).trans st
   refine opStep_value (v:=.pointer (some ⟨bt,0,none⟩)) (w':=wz) ?_ ⟨hGz.read rfl rfl _,rfl,fun k _ _ _ h=>h⟩
   simp only [execOp,evalS,e0]
   go_simp
  obtain _ | iz:=iz
  ·obtain rfl:=Option.some.inj hiz
   have e0:stz 127 = .pointer (some ⟨bt,0,none⟩):=hAz 2 (haz ⟨2,.data⟩ (by simp) rfl) h99
   have hm:Lz 14=false:=L_not (fun h=>hcz 14 _ h rfl ⟨3,.phase⟩ (by simp) rfl) hlz
   obtain ⟨-,z1,-,-⟩:=hSt _ _ _ (stg_lt (E:=[11,12,14]) (by simp) hm) hGz
   refine opStep_value (v:=.string nm) (w':=wz) ?_ ⟨hGz.read rfl rfl _,rfl,fun k _ _ _ h=>h⟩
   simp only [execOp,evalS,e0]
   go_simp
  obtain _ | iz:=iz
  ·obtain rfl:=Option.some.inj hiz
   have e0:stz 19 = .pointer (some ⟨bt,0,none⟩):=(hFz 19 (by decide)).trans st
   refine opStep_value (v:=.pointer (some ⟨bt,1,none⟩)) (w':=wz) ?_ ⟨hGz.read rfl rfl _,rfl,fun k _ _ _ h=>h⟩
   simp only [execOp,evalS,e0]
   go_simp
  obtain _ | iz:=iz
  ·obtain rfl:=Option.some.inj hiz
   have e0:stz 129 = .pointer (some ⟨bt,1,none⟩):=hAz 4 (haz ⟨4,.data⟩ (by simp) rfl) h99
   have hm:Lz 14=false:=L_not (fun h=>hcz 14 _ h rfl ⟨5,.phase⟩ (by simp) rfl) hlz
   obtain ⟨-,-,z2,-⟩:=hSt _ _ _ (stg_lt (E:=[11,12,14]) (by simp) hm) hGz
   refine opStep_value (v:=.string key) (w':=wz) ?_ ⟨hGz.read rfl rfl _,rfl,fun k _ _ _ h=>h⟩
   simp only [execOp,evalS,e0]
   go_simp
  obtain _ | iz:=iz
  ·obtain rfl:=Option.some.inj hiz
   have e0:stz 19 = .pointer (some ⟨bt,0,none⟩):=(hFz 19 (by decide)).trans st
   refine opStep_value (v:=.pointer (some ⟨bt,2,none⟩)) (w':=wz) ?_ ⟨hGz.read rfl rfl _,rfl,fun k _ _ _ h=>h⟩
   simp only [execOp,evalS,e0]
   go_simp
  obtain _ | iz:=iz
  ·obtain rfl:=Option.some.inj hiz
   have e0:stz 131 = .pointer (some ⟨bt,2,none⟩):=hAz 6 (haz ⟨6,.data⟩ (by simp) rfl) h99
   have hm:Lz 14=false:=L_not (fun h=>hcz 14 _ h rfl ⟨7,.phase⟩ (by simp) rfl) hlz
   obtain ⟨-,-,-,z3⟩:=hSt _ _ _ (stg_lt (E:=[11,12,14]) (by simp) hm) hGz
   refine opStep_value (v:=.slice fa n c) (w':=wz) ?_ ⟨hGz.read rfl rfl _,rfl,fun k _ _ _ h=>h⟩
   simp only [execOp,evalS,e0]
   go_simp
  obtain _ | iz:=iz
  ·obtain rfl:=Option.some.inj hiz
   have e0:stz 20 = .int .i64 (k:Int):=(hFz 20 (by decide)).trans sk
   refine opStep_value (v:=.int .i64 (k:Int)) (w':=wz) ?_ ⟨hGz.read rfl rfl _,rfl,fun k _ _ _ h=>h⟩
   simp only [execOp,evalS,e0]
   go_simp
  obtain _ | iz:=iz
  ·obtain rfl:=Option.some.inj hiz
   have e0:stz 132 = .slice fa n c:=hAz 7 (haz ⟨7,.data⟩ (by simp) rfl) h99
   have e1:stz 133 = .int .i64 (k:Int):=hAz 8 (haz ⟨8,.data⟩ (by simp) rfl) h99
   refine opStep_value (v:=.slice sa sn sc) (w':=wz) ?_ ⟨hGz.read rfl rfl _,rfl,fun k _ _ _ h=>h⟩
   simp only [execOp,Option.map_some,Option.map_none,evalS,e0,e1]
   simp only [Sem.run_bind,Sem.run_pure,hsl wz,Result.andThen_ok]
  obtain _ | iz:=iz
  ·obtain rfl:=Option.some.inj hiz
   have e0:stz 128 = .string nm:=hAz 3 (haz ⟨3,.data⟩ (by simp) rfl) h99
   have e1:stz 130 = .string key:=hAz 5 (haz ⟨5,.data⟩ (by simp) rfl) h99
   have e2:stz 134 = .slice sa sn sc:=hAz 9 (haz ⟨9,.data⟩ (by simp) rfl) h99
   refine opStep_value (v:=.agg #[.string nm,.string key,.slice sa sn sc]) (w':=wz) ?_ ⟨hGz.read rfl rfl _,rfl,fun k _ _ _ h=>h⟩
   simp only [execOp,evalS]
   go_simp
  obtain _ | iz:=iz
  ·obtain rfl:=Option.some.inj hiz
   have t1:Lz 12=false:=L_not (fun h=>hcz 12 _ h rfl ⟨11,.data⟩ (by simp) rfl) hlz
   have t2:Lz 14=false:=L_not (fun h=>hcz 14 _ h rfl ⟨11,.phase⟩ (by simp) rfl) hlz
   have hst:stg [11,12,14] Lz=0:=by simp [stg,hlz,t1,t2]
   have hPj:P 0 (fun i=>stz ([136,137,0].getD i 0)) wz:=by
    have h:=hGz
    unfold chG at h
    rw [hst] at h
    exact h
   have e0:stz 135 = .agg #[.string nm,.string key,.slice sa sn sc]:=hAz 10 (haz ⟨10,.data⟩ (by simp) rfl) h99
   have agree0:∀ i,i≠0→([136,137,0]:List Nat).getD i 0≠136:=fun i hi=>by
    rcases i with _ | _ | _ | i <;> simp at hi ⊢
   refine opStep_value (v:=.slice (some ⟨wz.heap.size,0,none⟩) 1 1) (w':=wz.alloc (.cells #[.string nm,.string key,.slice sa sn sc] 59)) ?_ ⟨chG.eff (by decide) (by decide) hlz hst (he0 _ wz hPj _ updS_yes (fun i hi=>updS_no (agree0 i hi))),trivial,fun k _ _ _ h=>h⟩
   simp only [execOp,List.map_toArray,List.map_cons,List.map_nil,evalS,e0]
   go_simp
  obtain _ | iz:=iz
  ·obtain rfl:=Option.some.inj hiz
   have t0:Lz 11=true:=haz ⟨11,.data⟩ (by simp) rfl
   have t2:Lz 14=false:=L_not (fun h=>hcz 14 _ h rfl ⟨12,.data⟩ (by simp) rfl) hlz
   have hst:stg [11,12,14] Lz=1:=by simp [stg,t0,hlz,t2]
   have hPj:P 1 (fun i=>stz ([136,137,0].getD i 0)) wz:=by
    have h:=hGz
    unfold chG at h
    rw [hst] at h
    exact h
   have e0:stz 126 = .slice ra rn rc:=hAz 1 (haz ⟨1,.data⟩ (by simp) rfl) h99
   have agree1:∀ i,i≠1→([136,137,0]:List Nat).getD i 0≠137:=fun i hi=>by
    rcases i with _ | _ | _ | i <;> simp at hi ⊢
   obtain ⟨v,w',hr,hp⟩:=he1 _ wz hPj 45
   replace hr:(Builtin.append_ #[45,45] 45 #[.slice ra rn rc,stz 136]).run Try.prog wz = .ok v w':=hr
   refine opStep_value (v:=v) (w':=w') ?_ ⟨chG.eff (by decide) (by decide) hlz hst (hp _ updS_yes (fun i hi=>updS_no (agree1 i hi))),trivial,fun k _ _ _ h=>h⟩
   simp only [execOp,resolve,invoke,builtin,Sem.run_bind,Sem.run_pure,Result.andThen_ok,List.map_toArray,List.map_cons,List.map_nil,evalS,e0]
   first | (rw [hr]; rfl) | (simp [hr,Result.andThen])
  obtain _ | iz:=iz
  ·obtain rfl:=Option.some.inj hiz
   have e0:stz 12 = .pointer (some ⟨bs,0,none⟩):=(hFz 12 (by decide)).trans sb
   refine opStep_value (v:=.pointer (some ⟨bs,2,none⟩)) (w':=wz) ?_ ⟨hGz.read rfl rfl _,rfl,fun k _ _ _ h=>h⟩
   simp only [execOp,evalS,e0]
   go_simp
  obtain _ | iz:=iz
  ·obtain rfl:=Option.some.inj hiz
   have t0:Lz 11=true:=haz ⟨11,.phase⟩ (by simp) rfl
   have t1:Lz 12=true:=haz ⟨12,.data⟩ (by simp) rfl
   have hst:stg [11,12,14] Lz=2:=by simp [stg,t0,t1,hlz]
   have hPj:P 2 (fun i=>stz ([136,137,0].getD i 0)) wz:=by
    have h:=hGz
    unfold chG at h
    rw [hst] at h
    exact h
   have e0:stz 138 = .pointer (some ⟨bs,2,none⟩):=hAz 13 (haz ⟨13,.data⟩ (by simp) rfl) h99
   obtain ⟨va,vn,vc,u,hx9,hu,hfz,hp⟩:=he2 _ wz hPj
   have ex:stz 137 = .slice va vn vc:=hx9
   replace hp:P 3 _ (wz.setCell ⟨bs,2,none⟩ (stz 137)):=hp
   rw [ex] at hp
   refine opStep_skip (w':=_) ?_ ⟨chG.eff (by decide) (by decide) hlz hst hp,trivial,fun k _ _ _ h=>h⟩
   simp only [execOp,evalS,e0,ex]
   go_simp
  ·exfalso
   have hlen:iz + 15 < 15:=(List.getElem?_eq_some_iff.1 hiz).1
   omega
 ·intro Lz stz wz hGz _ hall _
  have h:=hGz
  unfold chG at h
  rw [stg_all (fun e he=>by simp at he; rcases he with rfl | rfl | rfl <;> exact hall _ (by decide))] at h
  exact hQ stz wz h
def movXyOps:List Oper:=[
 ⟨some 139, .fieldAddr 47 (.tmp 13) 2, 0, "law.go:146", #[], none⟩,
 ⟨some 140, .load 45 (.tmp 139), 45, "law.go:146", #[⟨0, .data⟩], none⟩,
 ⟨some 141, .fieldAddr 59 (.tmp 19) 0, 0, "law.go:146", #[], none⟩,
 ⟨some 142, .load 9 (.tmp 141), 9, "law.go:146", #[⟨2, .data⟩], none⟩,
 ⟨some 143, .fieldAddr 59 (.tmp 19) 1, 0, "law.go:146", #[], none⟩,
 ⟨some 144, .load 9 (.tmp 143), 9, "law.go:146", #[⟨4, .data⟩], none⟩,
 ⟨some 145, .fieldAddr 59 (.tmp 19) 2, 0, "law.go:146", #[], none⟩,
 ⟨some 146, .load 57 (.tmp 145), 57, "law.go:146", #[⟨6, .data⟩], none⟩,
 ⟨some 147, .move (.tmp 20), 3, "law.go:146", #[], none⟩,
 ⟨some 148, .slice 57 (.tmp 146) (some (.tmp 147)) none none, 57, "law.go:146", #[⟨7, .data⟩, ⟨8, .data⟩], none⟩,
 ⟨some 149, .build 59 #[(0, .tmp 142), (1, .tmp 144), (2, .tmp 148)], 59, "law.go:146", #[⟨3, .data⟩, ⟨5, .data⟩, ⟨9, .data⟩], none⟩,
 ⟨some 150, .buildSlice 45 1 #[(0, .tmp 149)], 45, "law.go:146", #[⟨10, .data⟩], none⟩,
 ⟨some 151, .call { callee := Callee.builtin Builtin.append, args := #[.tmp 140, .tmp 150], argTypes := #[45, 45] }, 45, "law.go:146", #[⟨1, .data⟩, ⟨11, .data⟩], none⟩,
 ⟨some 152, .fieldAddr 47 (.tmp 13) 2, 0, "law.go:146", #[⟨0, .phase⟩, ⟨1, .phase⟩, ⟨2, .phase⟩, ⟨3, .phase⟩, ⟨4, .phase⟩, ⟨5, .phase⟩, ⟨6, .phase⟩, ⟨7, .phase⟩, ⟨8, .phase⟩, ⟨9, .phase⟩, ⟨10, .phase⟩, ⟨11, .phase⟩, ⟨12, .phase⟩], none⟩,
 ⟨none, .store 45 (.tmp 152) (.tmp 151), 0, "law.go:146", #[⟨13, .data⟩, ⟨12, .data⟩, ⟨12, .chain⟩, ⟨0, .phase⟩, ⟨1, .phase⟩, ⟨2, .phase⟩, ⟨3, .phase⟩, ⟨4, .phase⟩, ⟨5, .phase⟩, ⟨6, .phase⟩, ⟨7, .phase⟩, ⟨8, .phase⟩, ⟨9, .phase⟩, ⟨10, .phase⟩, ⟨11, .phase⟩, ⟨12, .phase⟩], none⟩]
set_option maxRecDepth 100000 in
set_option maxHeartbeats 4000000 in
theorem movXy {Q:Exit→Act→World→Prop} {a0:Act} {w5:World} (P:Nat→(Nat→Value)→World→Prop) {bs bt rn rc n c k sn sc:Nat} {ra fa sa:Option Addr} {nm key:ByteArray}
  (hsz : [139,140,141,142,143,144,145,146,147,148,149,150,151,152].all (fun d=>decide (d < a0.tmps.size))=true)
  (sb:slots a0 13 = .pointer (some ⟨bs,0,none⟩)) (st:slots a0 19 = .pointer (some ⟨bt,0,none⟩)) (sk:slots a0 20 = .int .i64 (k:Int))
  (hsl:∀ w,(Instr.sliceAt 57 (.slice fa n c) (some (.int .i64 (k:Int))) none none).run Try.prog w = .ok (.slice sa sn sc) w)
  (hP0:∀ x,P 0 x w5.drew)
  (hSt:∀ j x w,j < 3→P j x w→w.cell? ⟨bs,2,none⟩=some (.slice ra rn rc)∧w.cell? ⟨bt,0,none⟩=some (.string nm)∧w.cell? ⟨bt,1,none⟩=some (.string key)∧w.cell? ⟨bt,2,none⟩=some (.slice fa n c))
  (he0:∀ x w,P 0 x w→∀ x',x' 0 = .slice (some ⟨w.heap.size,0,none⟩) 1 1→(∀ i,i≠0→x' i=x i)→P 1 x' (w.alloc (.cells #[.string nm,.string key,.slice sa sn sc] 59)))
  (he1:∀ x w,P 1 x w→∀ ty,∃ v w',(Builtin.append_ #[45,45] ty #[.slice ra rn rc,x 0]).run Try.prog w = .ok v w'∧(∀ x',x' 1=v→(∀ i,i≠1→x' i=x i)→P 2 x' w'))
  (he2:∀ x w,P 2 x w→∃ va vn vc u,x 1 = .slice va vn vc∧w.cell? ⟨bs,2,none⟩=some u∧w.frozen? ⟨bs,2,none⟩=false∧P 3 x (w.setCell ⟨bs,2,none⟩ (x 1)))
  (hQ:∀ s w',P 3 (fun i=>s ([150,151,0].getD i 0)) w'→Q .normal (putAll a0 s [139,140,141,142,143,144,145,146,147,148,149,150,151,152]) w') :
  (Code.region 24 movXyOps.toArray true).wp Try.prog Q a0 w5:=by
 refine wp_region_as (by kernel_rfl) (by kernel_rfl) [139,140,141,142,143,144,145,146,147,148,149,150,151,152] (by kernel_rfl) hsz (by kernel_rfl) (fun _=>99) (asV [11,12,14] [.pointer (some ⟨bs,2,none⟩),.slice ra rn rc,.pointer (some ⟨bt,0,none⟩),.string nm,.pointer (some ⟨bt,1,none⟩),.string key,.pointer (some ⟨bt,2,none⟩),.slice fa n c,.int .i64 (k:Int),.slice sa sn sc,.agg #[.string nm,.string key,.slice sa sn sc],undef,undef,.pointer (some ⟨bs,2,none⟩),undef]) (chG [11,12,14] [150,151,0] P) (chG.start (hP0 _)) ?_ ?_
 ·intro Lz stz wz iz oz hGz hLz hcz hAz hFz hiz hlz haz
  have h99:Lz 99=false:=by
   cases h:Lz 99 with
   | false=>rfl
   | true=>exact absurd (hLz 99 h) (by decide)
  obtain _ | iz:=iz
  ·obtain rfl:=Option.some.inj hiz
   have e0:stz 13 = .pointer (some ⟨bs,0,none⟩):=(hFz 13 (by decide)).trans sb
   refine opStep_value (v:=.pointer (some ⟨bs,2,none⟩)) (w':=wz) ?_ ⟨hGz.read rfl rfl _,rfl,fun k _ _ _ h=>h⟩
   simp only [execOp,evalS,e0]
   go_simp
  obtain _ | iz:=iz
  ·obtain rfl:=Option.some.inj hiz
   have e0:stz 139 = .pointer (some ⟨bs,2,none⟩):=hAz 0 (haz ⟨0,.data⟩ (by simp) rfl) h99
   have hm:Lz 14=false:=L_not (fun h=>hcz 14 _ h rfl ⟨1,.phase⟩ (by simp) rfl) hlz
   obtain ⟨z0,-,-,-⟩:=hSt _ _ _ (stg_lt (E:=[11,12,14]) (by simp) hm) hGz
   refine opStep_value (v:=.slice ra rn rc) (w':=wz) ?_ ⟨hGz.read rfl rfl _,rfl,fun k _ _ _ h=>h⟩
   simp only [execOp,evalS,e0]
   go_simp
  obtain _ | iz:=iz
  ·obtain rfl:=Option.some.inj hiz
   have e0:stz 19 = .pointer (some ⟨bt,0,none⟩):=(hFz 19 (by decide)).trans st
   refine opStep_value (v:=.pointer (some ⟨bt,0,none⟩)) (w':=wz) ?_ ⟨hGz.read rfl rfl _,rfl,fun k _ _ _ h=>h⟩
   simp only [execOp,evalS,e0]
   go_simp
  obtain _ | iz:=iz
  ·obtain rfl:=Option.some.inj hiz
   have e0:stz 141 = .pointer (some ⟨bt,0,none⟩):=hAz 2 (haz ⟨2,.data⟩ (by simp) rfl) h99
   have hm:Lz 14=false:=L_not (fun h=>hcz 14 _ h rfl ⟨3,.phase⟩ (by simp) rfl) hlz
   obtain ⟨-,z1,-,-⟩:=hSt _ _ _ (stg_lt (E:=[11,12,14]) (by simp) hm) hGz
   refine opStep_value (v:=.string nm) (w':=wz) ?_ ⟨hGz.read rfl rfl _,rfl,fun k _ _ _ h=>h⟩
   simp only [execOp,evalS,e0]
   go_simp
  obtain _ | iz:=iz
  ·obtain rfl:=Option.some.inj hiz
   have e0:stz 19 = .pointer (some ⟨bt,0,none⟩):=(hFz 19 (by decide)).trans st
   refine opStep_value (v:=.pointer (some ⟨bt,1,none⟩)) (w':=wz) ?_ ⟨hGz.read rfl rfl _,rfl,fun k _ _ _ h=>h⟩
   simp only [execOp,evalS,e0]
   go_simp
  obtain _ | iz:=iz
  ·obtain rfl:=Option.some.inj hiz
   have e0:stz 143 = .pointer (some ⟨bt,1,none⟩):=hAz 4 (haz ⟨4,.data⟩ (by simp) rfl) h99
   have hm:Lz 14=false:=L_not (fun h=>hcz 14 _ h rfl ⟨5,.phase⟩ (by simp) rfl) hlz
   obtain ⟨-,-,z2,-⟩:=hSt _ _ _ (stg_lt (E:=[11,12,14]) (by simp) hm) hGz
   refine opStep_value (v:=.string key) (w':=wz) ?_ ⟨hGz.read rfl rfl _,rfl,fun k _ _ _ h=>h⟩
   simp only [execOp,evalS,e0]
   go_simp
  obtain _ | iz:=iz
  ·obtain rfl:=Option.some.inj hiz
   have e0:stz 19 = .pointer (some ⟨bt,0,none⟩):=(hFz 19 (by decide)).trans st
   refine opStep_value (v:=.pointer (some ⟨bt,2,none⟩)) (w':=wz) ?_ ⟨hGz.read rfl rfl _,rfl,fun k _ _ _ h=>h⟩
   simp only [execOp,evalS,e0]
   go_simp
  obtain _ | iz:=iz
  ·obtain rfl:=Option.some.inj hiz
   have e0:stz 145 = .pointer (some ⟨bt,2,none⟩):=hAz 6 (haz ⟨6,.data⟩ (by simp) rfl) h99
   have hm:Lz 14=false:=L_not (fun h=>hcz 14 _ h rfl ⟨7,.phase⟩ (by simp) rfl) hlz
   obtain ⟨-,-,-,z3⟩:=hSt _ _ _ (stg_lt (E:=[11,12,14]) (by simp) hm) hGz
   refine opStep_value (v:=.slice fa n c) (w':=wz) ?_ ⟨hGz.read rfl rfl _,rfl,fun k _ _ _ h=>h⟩
   simp only [execOp,evalS,e0]
   go_simp
  obtain _ | iz:=iz
  ·obtain rfl:=Option.some.inj hiz
   have e0:stz 20 = .int .i64 (k:Int):=(hFz 20 (by decide)).trans sk
   refine opStep_value (v:=.int .i64 (k:Int)) (w':=wz) ?_ ⟨hGz.read rfl rfl _,rfl,fun k _ _ _ h=>h⟩
   simp only [execOp,evalS,e0]
   go_simp
  obtain _ | iz:=iz
  ·obtain rfl:=Option.some.inj hiz
   have e0:stz 146 = .slice fa n c:=hAz 7 (haz ⟨7,.data⟩ (by simp) rfl) h99
   have e1:stz 147 = .int .i64 (k:Int):=hAz 8 (haz ⟨8,.data⟩ (by simp) rfl) h99
   refine opStep_value (v:=.slice sa sn sc) (w':=wz) ?_ ⟨hGz.read rfl rfl _,rfl,fun k _ _ _ h=>h⟩
   simp only [execOp,Option.map_some,Option.map_none,evalS,e0,e1]
   simp only [Sem.run_bind,Sem.run_pure,hsl wz,Result.andThen_ok]
  obtain _ | iz:=iz
  ·obtain rfl:=Option.some.inj hiz
   have e0:stz 142 = .string nm:=hAz 3 (haz ⟨3,.data⟩ (by simp) rfl) h99
   have e1:stz 144 = .string key:=hAz 5 (haz ⟨5,.data⟩ (by simp) rfl) h99
   have e2:stz 148 = .slice sa sn sc:=hAz 9 (haz ⟨9,.data⟩ (by simp) rfl) h99
   refine opStep_value (v:=.agg #[.string nm,.string key,.slice sa sn sc]) (w':=wz) ?_ ⟨hGz.read rfl rfl _,rfl,fun k _ _ _ h=>h⟩
   simp only [execOp,evalS]
   go_simp
  obtain _ | iz:=iz
  ·obtain rfl:=Option.some.inj hiz
   have t1:Lz 12=false:=L_not (fun h=>hcz 12 _ h rfl ⟨11,.data⟩ (by simp) rfl) hlz
   have t2:Lz 14=false:=L_not (fun h=>hcz 14 _ h rfl ⟨11,.phase⟩ (by simp) rfl) hlz
   have hst:stg [11,12,14] Lz=0:=by simp [stg,hlz,t1,t2]
   have hPj:P 0 (fun i=>stz ([150,151,0].getD i 0)) wz:=by
    have h:=hGz
    unfold chG at h
    rw [hst] at h
    exact h
   have e0:stz 149 = .agg #[.string nm,.string key,.slice sa sn sc]:=hAz 10 (haz ⟨10,.data⟩ (by simp) rfl) h99
   have agree0:∀ i,i≠0→([150,151,0]:List Nat).getD i 0≠150:=fun i hi=>by
    rcases i with _ | _ | _ | i <;> simp at hi ⊢
   refine opStep_value (v:=.slice (some ⟨wz.heap.size,0,none⟩) 1 1) (w':=wz.alloc (.cells #[.string nm,.string key,.slice sa sn sc] 59)) ?_ ⟨chG.eff (by decide) (by decide) hlz hst (he0 _ wz hPj _ updS_yes (fun i hi=>updS_no (agree0 i hi))),trivial,fun k _ _ _ h=>h⟩
   simp only [execOp,List.map_toArray,List.map_cons,List.map_nil,evalS,e0]
   go_simp
  obtain _ | iz:=iz
  ·obtain rfl:=Option.some.inj hiz
   have t0:Lz 11=true:=haz ⟨11,.data⟩ (by simp) rfl
   have t2:Lz 14=false:=L_not (fun h=>hcz 14 _ h rfl ⟨12,.data⟩ (by simp) rfl) hlz
   have hst:stg [11,12,14] Lz=1:=by simp [stg,t0,hlz,t2]
   have hPj:P 1 (fun i=>stz ([150,151,0].getD i 0)) wz:=by
    have h:=hGz
    unfold chG at h
    rw [hst] at h
    exact h
   have e0:stz 140 = .slice ra rn rc:=hAz 1 (haz ⟨1,.data⟩ (by simp) rfl) h99
   have agree1:∀ i,i≠1→([150,151,0]:List Nat).getD i 0≠151:=fun i hi=>by
    rcases i with _ | _ | _ | i <;> simp at hi ⊢
   obtain ⟨v,w',hr,hp⟩:=he1 _ wz hPj 45
   replace hr:(Builtin.append_ #[45,45] 45 #[.slice ra rn rc,stz 150]).run Try.prog wz = .ok v w':=hr
   refine opStep_value (v:=v) (w':=w') ?_ ⟨chG.eff (by decide) (by decide) hlz hst (hp _ updS_yes (fun i hi=>updS_no (agree1 i hi))),trivial,fun k _ _ _ h=>h⟩
   simp only [execOp,resolve,invoke,builtin,Sem.run_bind,Sem.run_pure,Result.andThen_ok,List.map_toArray,List.map_cons,List.map_nil,evalS,e0]
   first | (rw [hr]; rfl) | (simp [hr,Result.andThen])
  obtain _ | iz:=iz
  ·obtain rfl:=Option.some.inj hiz
   have e0:stz 13 = .pointer (some ⟨bs,0,none⟩):=(hFz 13 (by decide)).trans sb
   refine opStep_value (v:=.pointer (some ⟨bs,2,none⟩)) (w':=wz) ?_ ⟨hGz.read rfl rfl _,rfl,fun k _ _ _ h=>h⟩
   simp only [execOp,evalS,e0]
   go_simp
  obtain _ | iz:=iz
  ·obtain rfl:=Option.some.inj hiz
   have t0:Lz 11=true:=haz ⟨11,.phase⟩ (by simp) rfl
   have t1:Lz 12=true:=haz ⟨12,.data⟩ (by simp) rfl
   have hst:stg [11,12,14] Lz=2:=by simp [stg,t0,t1,hlz]
   have hPj:P 2 (fun i=>stz ([150,151,0].getD i 0)) wz:=by
    have h:=hGz
    unfold chG at h
    rw [hst] at h
    exact h
   have e0:stz 152 = .pointer (some ⟨bs,2,none⟩):=hAz 13 (haz ⟨13,.data⟩ (by simp) rfl) h99
   obtain ⟨va,vn,vc,u,hx9,hu,hfz,hp⟩:=he2 _ wz hPj
   have ex:stz 151 = .slice va vn vc:=hx9
   replace hp:P 3 _ (wz.setCell ⟨bs,2,none⟩ (stz 151)):=hp
   rw [ex] at hp
   refine opStep_skip (w':=_) ?_ ⟨chG.eff (by decide) (by decide) hlz hst hp,trivial,fun k _ _ _ h=>h⟩
   simp only [execOp,evalS,e0,ex]
   go_simp
  ·exfalso
   have hlen:iz + 15 < 15:=(List.getElem?_eq_some_iff.1 hiz).1
   omega
 ·intro Lz stz wz hGz _ hall _
  have h:=hGz
  unfold chG at h
  rw [stg_all (fun e he=>by simp at he; rcases he with rfl | rfl | rfl <;> exact hall _ (by decide))] at h
  exact hQ stz wz h
end Go.Proofs.Ytjjggefmmeminac
