import Derived.Test.YtjjggefmmeminacGreatJRc
import Derived.Test.YtjjggefmmeminacGreatGrMem
namespace Go.Proofs.YtjjggefmmeminacGreat
open Go.RowKit Go.Sort Go.PlainAid
def addBumpOps:List Oper:=[
 ⟨some 23, .fieldAddr 88 (.tmp 4) 1, 0, "list.go:60", #[], none⟩,
 ⟨some 24, .load 85 (.tmp 23), 85, "list.go:60", #[⟨0, .data⟩], none⟩,
 ⟨some 25, .move (.tmp 2), 33, "list.go:60", #[], none⟩,
 ⟨some 26, .move (.tmp 8), 3, "list.go:60", #[], none⟩,
 ⟨some 27, .indexAddr 33 (.tmp 25) (.tmp 26), 0, "list.go:60", #[⟨2, .data⟩, ⟨3, .data⟩], none⟩,
 ⟨some 28, .load 9 (.tmp 27), 9, "list.go:60", #[⟨4, .data⟩], none⟩,
 ⟨some 29, .lookup 85 (.tmp 24) (.tmp 28) false, 3, "list.go:60", #[⟨1, .data⟩, ⟨5, .data⟩], none⟩,
 ⟨some 30, .binOp .add 3 (.tmp 29) (.const (.int .i64 1)) 3, 3, "list.go:60", #[⟨6, .data⟩], none⟩,
 ⟨none, .mapUpdate 85 (.tmp 24) (.tmp 28) (.tmp 30), 0, "list.go:60", #[⟨1, .data⟩, ⟨5, .data⟩, ⟨7, .data⟩, ⟨0, .phase⟩, ⟨1, .phase⟩, ⟨2, .phase⟩, ⟨3, .phase⟩, ⟨4, .phase⟩, ⟨5, .phase⟩, ⟨6, .phase⟩, ⟨7, .phase⟩], none⟩]
set_option maxRecDepth 100000 in
set_option maxHeartbeats 4000000 in
theorem addBump {Q:Exit→Act→World→Prop} {a0:Act} {w5:World} (P:Nat→(Nat→Value)→World→Prop) {bl bh kb ko nk kcap k c:Nat} {key:ByteArray}
  (hsz : [23,24,25,26,27,28,29,30].all (fun d=>decide (d < a0.tmps.size))=true)
  (s4:slots a0 4 = .pointer (some ⟨bl,0,none⟩)) (s2:slots a0 2 = .slice (some ⟨kb,ko,none⟩) nk kcap) (s8:slots a0 8 = .int .i64 (k:Int)) (hk:(k:Int) < (nk:Int)) (hk0:(0:Int)≤(k:Int)) (hwr:IntKind.i64.wrap ((c:Int) + 1)=(c:Int) + 1)
  (hP0:∀ x,P 0 x w5.drew)
  (hSt:∀ j x w,j < 1→P j x w→w.cell? ⟨bl,1,none⟩=some (.map (some bh))∧w.cell? ⟨kb,ko + k,none⟩=some (.string key)∧(Instr.lookup 85 (.map (some bh)) (.string key) false).run Tryz.prog w = .ok (.int .i64 (c:Int)) w)
  (he0:∀ x w,P 0 x w→∃ w',(Instr.mapUpdate 85 (.map (some bh)) (.string key) (.int .i64 ((c:Int) + 1))).run Tryz.prog w = .ok () w'∧P 1 x w')
  (hQ:∀ s w',P 1 (fun i=>s ([0].getD i 0)) w'→Q .normal (putAll a0 s [23,24,25,26,27,28,29,30]) w') :
  (Code.region 5 addBumpOps.toArray true).wp Tryz.prog Q a0 w5:=by
 refine wp_region_as (by kernel_rfl) (by kernel_rfl) [23,24,25,26,27,28,29,30] (by kernel_rfl) hsz (by kernel_rfl) (fun _=>99) (asV [8] [.pointer (some ⟨bl,1,none⟩),.map (some bh),.slice (some ⟨kb,ko,none⟩) nk kcap,.int .i64 (k:Int),.pointer (some ⟨kb,ko + k,none⟩),.string key,.int .i64 (c:Int),.int .i64 ((c:Int) + 1),undef]) (chG [8] [0] P) (chG.start (hP0 _)) ?_ ?_
 ·intro Lz stz wz iz oz hGz hLz hcz hAz hFz hiz hlz haz
  have h99:Lz 99=false:=by
   cases h:Lz 99 with
   | false=>rfl
   | true=>exact absurd (hLz 99 h) (by decide)
  obtain _ | iz:=iz
  ·obtain rfl:=Option.some.inj hiz
   have e0:stz 4 = .pointer (some ⟨bl,0,none⟩):=(hFz 4 (by decide)).trans s4
   refine opStep_value (v:=.pointer (some ⟨bl,1,none⟩)) (w':=wz) ?_ ⟨hGz.read rfl rfl _,rfl,fun k _ _ _ h=>h⟩
   simp only [execOp,evalS,e0]
   go_simp
  obtain _ | iz:=iz
  ·obtain rfl:=Option.some.inj hiz
   have e0:stz 23 = .pointer (some ⟨bl,1,none⟩):=hAz 0 (haz ⟨0,.data⟩ (by simp) rfl) h99
   have hm:Lz 8=false:=L_not (fun h=>hcz 8 _ h rfl ⟨1,.data⟩ (by simp) rfl) hlz
   obtain ⟨z0,-,-⟩:=hSt _ _ _ (stg_lt (E:=[8]) (by simp) hm) hGz
   refine opStep_value (v:=.map (some bh)) (w':=wz) ?_ ⟨hGz.read rfl rfl _,rfl,fun k _ _ _ h=>h⟩
   simp only [execOp,evalS,e0]
   go_simp
  obtain _ | iz:=iz
  ·obtain rfl:=Option.some.inj hiz
   have e0:stz 2 = .slice (some ⟨kb,ko,none⟩) nk kcap:=(hFz 2 (by decide)).trans s2
   refine opStep_value (v:=.slice (some ⟨kb,ko,none⟩) nk kcap) (w':=wz) ?_ ⟨hGz.read rfl rfl _,rfl,fun k _ _ _ h=>h⟩
   simp only [execOp,evalS,e0]
   go_simp
  obtain _ | iz:=iz
  ·obtain rfl:=Option.some.inj hiz
   have e0:stz 8 = .int .i64 (k:Int):=(hFz 8 (by decide)).trans s8
   refine opStep_value (v:=.int .i64 (k:Int)) (w':=wz) ?_ ⟨hGz.read rfl rfl _,rfl,fun k _ _ _ h=>h⟩
   simp only [execOp,evalS,e0]
   go_simp
  obtain _ | iz:=iz
  ·obtain rfl:=Option.some.inj hiz
   have e0:stz 25 = .slice (some ⟨kb,ko,none⟩) nk kcap:=hAz 2 (haz ⟨2,.data⟩ (by simp) rfl) h99
   have e1:stz 26 = .int .i64 (k:Int):=hAz 3 (haz ⟨3,.data⟩ (by simp) rfl) h99
   refine opStep_value (v:=.pointer (some ⟨kb,ko + k,none⟩)) (w':=wz) ?_ ⟨hGz.read rfl rfl _,rfl,fun k _ _ _ h=>h⟩
   simp only [execOp,evalS,e0,e1]
   go_simp
  obtain _ | iz:=iz
  ·obtain rfl:=Option.some.inj hiz
   have e0:stz 27 = .pointer (some ⟨kb,ko + k,none⟩):=hAz 4 (haz ⟨4,.data⟩ (by simp) rfl) h99
   have hm:Lz 8=false:=L_not (fun h=>hcz 8 _ h rfl ⟨5,.data⟩ (by simp) rfl) hlz
   obtain ⟨-,z1,-⟩:=hSt _ _ _ (stg_lt (E:=[8]) (by simp) hm) hGz
   refine opStep_value (v:=.string key) (w':=wz) ?_ ⟨hGz.read rfl rfl _,rfl,fun k _ _ _ h=>h⟩
   simp only [execOp,evalS,e0]
   go_simp
  obtain _ | iz:=iz
  ·obtain rfl:=Option.some.inj hiz
   have e0:stz 24 = .map (some bh):=hAz 1 (haz ⟨1,.data⟩ (by simp) rfl) h99
   have e1:stz 28 = .string key:=hAz 5 (haz ⟨5,.data⟩ (by simp) rfl) h99
   have hm:Lz 8=false:=L_not (fun h=>hcz 8 _ h rfl ⟨6,.phase⟩ (by simp) rfl) hlz
   obtain ⟨-,-,z2⟩:=hSt _ _ _ (stg_lt (E:=[8]) (by simp) hm) hGz
   refine opStep_value (v:=.int .i64 (c:Int)) (w':=wz) ?_ ⟨hGz.read rfl rfl _,rfl,fun k _ _ _ h=>h⟩
   simp only [execOp,evalS,e0,e1]
   go_simp
  obtain _ | iz:=iz
  ·obtain rfl:=Option.some.inj hiz
   have e0:stz 29 = .int .i64 (c:Int):=hAz 6 (haz ⟨6,.data⟩ (by simp) rfl) h99
   refine opStep_value (v:=.int .i64 ((c:Int) + 1)) (w':=wz) ?_ ⟨hGz.read rfl rfl _,rfl,fun k _ _ _ h=>h⟩
   simp only [execOp,evalS,e0]
   go_simp
  obtain _ | iz:=iz
  ·obtain rfl:=Option.some.inj hiz
   have hst:stg [8] Lz=0:=by simp [stg,hlz]
   have hPj:P 0 (fun i=>stz ([0].getD i 0)) wz:=by
    have h:=hGz
    unfold chG at h
    rw [hst] at h
    exact h
   have e0:stz 24 = .map (some bh):=hAz 1 (haz ⟨1,.data⟩ (by simp) rfl) h99
   have e1:stz 28 = .string key:=hAz 5 (haz ⟨5,.data⟩ (by simp) rfl) h99
   have e2:stz 30 = .int .i64 ((c:Int) + 1):=hAz 7 (haz ⟨7,.data⟩ (by simp) rfl) h99
   obtain ⟨w',hr,hp⟩:=he0 _ wz hPj
   refine opStep_skip (w':=w') ?_ ⟨chG.eff (by decide) (by decide) hlz hst hp,trivial,fun k _ _ _ h=>h⟩
   simp only [execOp,evalS,e0,e1,e2]
   go_simp
  ·exfalso
   have hlen:iz + 9 < 9:=(List.getElem?_eq_some_iff.1 hiz).1
   omega
 ·intro Lz stz wz hGz _ hall _
  have h:=hGz
  unfold chG at h
  rw [stg_all (fun e he=>by simp at he; subst he; exact hall 8 (by decide))] at h
  exact hQ stz wz h
def addPutOps:List Oper:=[
 ⟨some 48, .fieldAddr 88 (.tmp 4) 2, 0, "list.go:63", #[], none⟩,
 ⟨some 49, .load 86 (.tmp 48), 86, "list.go:63", #[⟨0, .data⟩], none⟩,
 ⟨some 50, .load 118 (.tmp 12), 118, "list.go:63", #[], none⟩,
 ⟨some 51, .move (.tmp 2), 33, "list.go:63", #[], none⟩,
 ⟨some 52, .move (.tmp 8), 3, "list.go:63", #[], none⟩,
 ⟨some 53, .indexAddr 33 (.tmp 51) (.tmp 52), 0, "list.go:63", #[⟨3, .data⟩, ⟨4, .data⟩], none⟩,
 ⟨some 54, .load 9 (.tmp 53), 9, "list.go:63", #[⟨5, .data⟩], none⟩,
 ⟨some 55, .build 160 #[(0, .tmp 50), (1, .tmp 54)], 160, "list.go:63", #[⟨2, .data⟩, ⟨6, .data⟩], none⟩,
 ⟨some 56, .load 59 (.tmp 11), 59, "list.go:63", #[], none⟩,
 ⟨none, .mapUpdate 86 (.tmp 49) (.tmp 55) (.tmp 56), 0, "list.go:63", #[⟨1, .data⟩, ⟨7, .data⟩, ⟨8, .data⟩, ⟨0, .phase⟩, ⟨1, .phase⟩, ⟨2, .phase⟩, ⟨3, .phase⟩, ⟨4, .phase⟩, ⟨5, .phase⟩, ⟨6, .phase⟩, ⟨7, .phase⟩, ⟨8, .phase⟩], none⟩]
set_option maxRecDepth 100000 in
set_option maxHeartbeats 4000000 in
theorem addPut {Q:Exit→Act→World→Prop} {a0:Act} {w5:World} (P:Nat→(Nat→Value)→World→Prop) {bl bv bo bx kb ko nk kcap k xn xc:Nat} {ka:Option Addr} {sv:Int} {ty f tx key:ByteArray}
  (hsz : [48,49,50,51,52,53,54,55,56].all (fun d=>decide (d < a0.tmps.size))=true)
  (s4:slots a0 4 = .pointer (some ⟨bl,0,none⟩)) (s12:slots a0 12 = .pointer (some ⟨bo,0,none⟩)) (s11:slots a0 11 = .pointer (some ⟨bx,0,none⟩)) (s2:slots a0 2 = .slice (some ⟨kb,ko,none⟩) nk kcap) (s8:slots a0 8 = .int .i64 (k:Int)) (hk:(k:Int) < (nk:Int)) (hk0:(0:Int)≤(k:Int))
  (hP0:∀ x,P 0 x w5.drew)
  (hSt:∀ j x w,j < 1→P j x w→w.cell? ⟨bl,2,none⟩=some (.map (some bv))∧w.cell? ⟨bo,0,none⟩=some (.int .i64 sv)∧w.cell? ⟨bo,1,none⟩=some (.string ty)∧w.cell? ⟨bo,2,none⟩=some (.string f)∧w.cell? ⟨kb,ko + k,none⟩=some (.string key)∧w.cell? ⟨bx,0,none⟩=some (.string f)∧w.cell? ⟨bx,1,none⟩=some (.string tx)∧w.cell? ⟨bx,2,none⟩=some (.slice ka xn xc))
  (he0:∀ x w,P 0 x w→∃ w',(Instr.mapUpdate 86 (.map (some bv)) (.agg #[.int .i64 sv,.string ty,.string f,.string key]) (.agg #[.string f,.string tx,.slice ka xn xc])).run Tryz.prog w = .ok () w'∧P 1 x w')
  (hQ:∀ s w',P 1 (fun i=>s ([0].getD i 0)) w'→Q .normal (putAll a0 s [48,49,50,51,52,53,54,55,56]) w') :
  (Code.region 10 addPutOps.toArray true).wp Tryz.prog Q a0 w5:=by
 refine wp_region_as (by kernel_rfl) (by kernel_rfl) [48,49,50,51,52,53,54,55,56] (by kernel_rfl) hsz (by kernel_rfl) (fun _=>99) (asV [9] [.pointer (some ⟨bl,2,none⟩),.map (some bv),.agg #[.int .i64 sv,.string ty,.string f],.slice (some ⟨kb,ko,none⟩) nk kcap,.int .i64 (k:Int),.pointer (some ⟨kb,ko + k,none⟩),.string key,.agg #[.int .i64 sv,.string ty,.string f,.string key],.agg #[.string f,.string tx,.slice ka xn xc],undef]) (chG [9] [0] P) (chG.start (hP0 _)) ?_ ?_
 ·intro Lz stz wz iz oz hGz hLz hcz hAz hFz hiz hlz haz
  have h99:Lz 99=false:=by
   cases h:Lz 99 with
   | false=>rfl
   | true=>exact absurd (hLz 99 h) (by decide)
  obtain _ | iz:=iz
  ·obtain rfl:=Option.some.inj hiz
   have e0:stz 4 = .pointer (some ⟨bl,0,none⟩):=(hFz 4 (by decide)).trans s4
   refine opStep_value (v:=.pointer (some ⟨bl,2,none⟩)) (w':=wz) ?_ ⟨hGz.read rfl rfl _,rfl,fun k _ _ _ h=>h⟩
   simp only [execOp,evalS,e0]
   go_simp
  obtain _ | iz:=iz
  ·obtain rfl:=Option.some.inj hiz
   have e0:stz 48 = .pointer (some ⟨bl,2,none⟩):=hAz 0 (haz ⟨0,.data⟩ (by simp) rfl) h99
   have hm:Lz 9=false:=L_not (fun h=>hcz 9 _ h rfl ⟨1,.data⟩ (by simp) rfl) hlz
   obtain ⟨z0,-,-,-,-,-,-,-⟩:=hSt _ _ _ (stg_lt (E:=[9]) (by simp) hm) hGz
   refine opStep_value (v:=.map (some bv)) (w':=wz) ?_ ⟨hGz.read rfl rfl _,rfl,fun k _ _ _ h=>h⟩
   simp only [execOp,evalS,e0]
   go_simp
  obtain _ | iz:=iz
  ·obtain rfl:=Option.some.inj hiz
   have e0:stz 12 = .pointer (some ⟨bo,0,none⟩):=(hFz 12 (by decide)).trans s12
   have hm:Lz 9=false:=L_not (fun h=>hcz 9 _ h rfl ⟨2,.phase⟩ (by simp) rfl) hlz
   obtain ⟨-,z1,z2,z3,-,-,-,-⟩:=hSt _ _ _ (stg_lt (E:=[9]) (by simp) hm) hGz
   refine opStep_value (v:=.agg #[.int .i64 sv,.string ty,.string f]) (w':=wz) ?_ ⟨hGz.read rfl rfl _,rfl,fun k _ _ _ h=>h⟩
   simp only [execOp,evalS,e0]
   go_simp
  obtain _ | iz:=iz
  ·obtain rfl:=Option.some.inj hiz
   have e0:stz 2 = .slice (some ⟨kb,ko,none⟩) nk kcap:=(hFz 2 (by decide)).trans s2
   refine opStep_value (v:=.slice (some ⟨kb,ko,none⟩) nk kcap) (w':=wz) ?_ ⟨hGz.read rfl rfl _,rfl,fun k _ _ _ h=>h⟩
   simp only [execOp,evalS,e0]
   go_simp
  obtain _ | iz:=iz
  ·obtain rfl:=Option.some.inj hiz
   have e0:stz 8 = .int .i64 (k:Int):=(hFz 8 (by decide)).trans s8
   refine opStep_value (v:=.int .i64 (k:Int)) (w':=wz) ?_ ⟨hGz.read rfl rfl _,rfl,fun k _ _ _ h=>h⟩
   simp only [execOp,evalS,e0]
   go_simp
  obtain _ | iz:=iz
  ·obtain rfl:=Option.some.inj hiz
   have e0:stz 51 = .slice (some ⟨kb,ko,none⟩) nk kcap:=hAz 3 (haz ⟨3,.data⟩ (by simp) rfl) h99
   have e1:stz 52 = .int .i64 (k:Int):=hAz 4 (haz ⟨4,.data⟩ (by simp) rfl) h99
   refine opStep_value (v:=.pointer (some ⟨kb,ko + k,none⟩)) (w':=wz) ?_ ⟨hGz.read rfl rfl _,rfl,fun k _ _ _ h=>h⟩
   simp only [execOp,evalS,e0,e1]
   go_simp
  obtain _ | iz:=iz
  ·obtain rfl:=Option.some.inj hiz
   have e0:stz 53 = .pointer (some ⟨kb,ko + k,none⟩):=hAz 5 (haz ⟨5,.data⟩ (by simp) rfl) h99
   have hm:Lz 9=false:=L_not (fun h=>hcz 9 _ h rfl ⟨6,.phase⟩ (by simp) rfl) hlz
   obtain ⟨-,-,-,-,z4,-,-,-⟩:=hSt _ _ _ (stg_lt (E:=[9]) (by simp) hm) hGz
   refine opStep_value (v:=.string key) (w':=wz) ?_ ⟨hGz.read rfl rfl _,rfl,fun k _ _ _ h=>h⟩
   simp only [execOp,evalS,e0]
   go_simp
  obtain _ | iz:=iz
  ·obtain rfl:=Option.some.inj hiz
   have e0:stz 50 = .agg #[.int .i64 sv,.string ty,.string f]:=hAz 2 (haz ⟨2,.data⟩ (by simp) rfl) h99
   have e1:stz 54 = .string key:=hAz 6 (haz ⟨6,.data⟩ (by simp) rfl) h99
   refine opStep_value (v:=.agg #[.int .i64 sv,.string ty,.string f,.string key]) (w':=wz) ?_ ⟨hGz.read rfl rfl _,rfl,fun k _ _ _ h=>h⟩
   simp only [execOp,evalS]
   go_simp
  obtain _ | iz:=iz
  ·obtain rfl:=Option.some.inj hiz
   have e0:stz 11 = .pointer (some ⟨bx,0,none⟩):=(hFz 11 (by decide)).trans s11
   have hm:Lz 9=false:=L_not (fun h=>hcz 9 _ h rfl ⟨8,.data⟩ (by simp) rfl) hlz
   obtain ⟨-,-,-,-,-,z5,z6,z7⟩:=hSt _ _ _ (stg_lt (E:=[9]) (by simp) hm) hGz
   refine opStep_value (v:=.agg #[.string f,.string tx,.slice ka xn xc]) (w':=wz) ?_ ⟨hGz.read rfl rfl _,rfl,fun k _ _ _ h=>h⟩
   simp only [execOp,evalS,e0]
   go_simp
  obtain _ | iz:=iz
  ·obtain rfl:=Option.some.inj hiz
   have hst:stg [9] Lz=0:=by simp [stg,hlz]
   have hPj:P 0 (fun i=>stz ([0].getD i 0)) wz:=by
    have h:=hGz
    unfold chG at h
    rw [hst] at h
    exact h
   have e0:stz 49 = .map (some bv):=hAz 1 (haz ⟨1,.data⟩ (by simp) rfl) h99
   have e1:stz 55 = .agg #[.int .i64 sv,.string ty,.string f,.string key]:=hAz 7 (haz ⟨7,.data⟩ (by simp) rfl) h99
   have e2:stz 56 = .agg #[.string f,.string tx,.slice ka xn xc]:=hAz 8 (haz ⟨8,.data⟩ (by simp) rfl) h99
   obtain ⟨w',hr,hp⟩:=he0 _ wz hPj
   refine opStep_skip (w':=w') ?_ ⟨chG.eff (by decide) (by decide) hlz hst hp,trivial,fun k _ _ _ h=>h⟩
   simp only [execOp,evalS,e0,e1,e2]
   go_simp
  ·exfalso
   have hlen:iz + 10 < 10:=(List.getElem?_eq_some_iff.1 hiz).1
   omega
 ·intro Lz stz wz hGz _ hall _
  have h:=hGz
  unfold chG at h
  rw [stg_all (fun e he=>by simp at he; subst he; exact hall 9 (by decide))] at h
  exact hQ stz wz h
end Go.Proofs.YtjjggefmmeminacGreat
