import Derived.Test.YtjjggefmmeminacGreatJRc
import Derived.Test.YtjjggefmmeminacGreatGrMem
namespace Go.Proofs.YtjjggefmmeminacGreat
open Go.RowKit Go.Sort Go.PlainAid
def newMoreOps:List Oper:=[
 ⟨some 24, .fieldAddr 88 (.tmp 5) 0, 0, "list.go:38", #[], none⟩,
 ⟨some 25, .load 84 (.tmp 24), 84, "list.go:38", #[⟨0, .data⟩], none⟩,
 ⟨some 26, .load 76 (.tmp 7), 76, "list.go:38", #[], none⟩,
 ⟨some 27, .call { callee := Callee.value (.func 67), args := #[.tmp 26], argTypes := #[76] }, 9, "list.go:38", #[⟨2, .data⟩], none⟩,
 ⟨some 28, .fieldAddr 76 (.tmp 7) 2, 0, "list.go:38", #[], none⟩,
 ⟨some 29, .load 23 (.tmp 28), 23, "list.go:38", #[⟨4, .data⟩], none⟩,
 ⟨some 30, .fieldAddr 114 (.tmp 2) 0, 0, "list.go:38", #[], none⟩,
 ⟨some 31, .fieldAddr 70 (.tmp 30) 1, 0, "list.go:38", #[⟨6, .data⟩], none⟩,
 ⟨some 32, .load 68 (.tmp 31), 68, "list.go:38", #[⟨7, .data⟩], none⟩,
 ⟨some 33, .move (.tmp 8), 3, "list.go:38", #[], none⟩,
 ⟨some 34, .indexAddr 68 (.tmp 32) (.tmp 33), 0, "list.go:38", #[⟨8, .data⟩, ⟨9, .data⟩], none⟩,
 ⟨some 35, .load 66 (.tmp 34), 66, "list.go:38", #[⟨10, .data⟩], none⟩,
 ⟨some 36, .fieldAddr 114 (.tmp 2) 1, 0, "list.go:38", #[], none⟩,
 ⟨some 37, .load 112 (.tmp 36), 112, "list.go:38", #[⟨12, .data⟩], none⟩,
 ⟨some 38, .move (.tmp 8), 3, "list.go:38", #[], none⟩,
 ⟨some 39, .indexAddr 112 (.tmp 37) (.tmp 38), 0, "list.go:38", #[⟨13, .data⟩, ⟨14, .data⟩], none⟩,
 ⟨some 40, .load 118 (.tmp 39), 118, "list.go:38", #[⟨15, .data⟩], none⟩,
 ⟨some 41, .build 127 #[(0, .tmp 27), (1, .tmp 29), (2, .tmp 35), (3, .tmp 40)], 127, "list.go:38", #[⟨3, .data⟩, ⟨5, .data⟩, ⟨11, .data⟩, ⟨16, .data⟩], none⟩,
 ⟨some 42, .buildSlice 84 1 #[(0, .tmp 41)], 84, "list.go:38", #[⟨17, .data⟩], none⟩,
 ⟨some 43, .call { callee := Callee.builtin Builtin.append, args := #[.tmp 25, .tmp 42], argTypes := #[84, 84] }, 84, "list.go:38", #[⟨1, .data⟩, ⟨18, .data⟩, ⟨3, .chain⟩], none⟩,
 ⟨some 44, .fieldAddr 88 (.tmp 5) 0, 0, "list.go:38", #[⟨0, .phase⟩, ⟨1, .phase⟩, ⟨2, .phase⟩, ⟨3, .phase⟩, ⟨4, .phase⟩, ⟨5, .phase⟩, ⟨6, .phase⟩, ⟨7, .phase⟩, ⟨8, .phase⟩, ⟨9, .phase⟩, ⟨10, .phase⟩, ⟨11, .phase⟩, ⟨12, .phase⟩, ⟨13, .phase⟩, ⟨14, .phase⟩, ⟨15, .phase⟩, ⟨16, .phase⟩, ⟨17, .phase⟩, ⟨18, .phase⟩, ⟨19, .phase⟩], none⟩,
 ⟨none, .store 84 (.tmp 44) (.tmp 43), 0, "list.go:38", #[⟨20, .data⟩, ⟨19, .data⟩, ⟨19, .chain⟩, ⟨0, .phase⟩, ⟨1, .phase⟩, ⟨2, .phase⟩, ⟨3, .phase⟩, ⟨4, .phase⟩, ⟨5, .phase⟩, ⟨6, .phase⟩, ⟨7, .phase⟩, ⟨8, .phase⟩, ⟨9, .phase⟩, ⟨10, .phase⟩, ⟨11, .phase⟩, ⟨12, .phase⟩, ⟨13, .phase⟩, ⟨14, .phase⟩, ⟨15, .phase⟩, ⟨16, .phase⟩, ⟨17, .phase⟩, ⟨18, .phase⟩, ⟨19, .phase⟩], none⟩]
set_option maxRecDepth 100000 in
set_option maxHeartbeats 4000000 in
theorem newMore {Q:Exit→Act→World→Prop} {a0:Act} {w5:World} (P:Nat→(Nat→Value)→World→Prop) {bl bp bt fb fo fn fc ob oo on oc cn cc sn sc i:Nat} {ca sa:Option Addr} {nk pf nm:ByteArray} {fl:LField} {o:POwner}
  (hsz : [24,25,26,27,28,29,30,31,32,33,34,35,36,37,38,39,40,41,42,43,44].all (fun d=>decide (d < a0.tmps.size))=true)
  (s5:slots a0 5 = .pointer (some ⟨bl,0,none⟩)) (s7:slots a0 7 = .pointer (some ⟨bp,0,none⟩)) (s2:slots a0 2 = .pointer (some ⟨bt,0,none⟩)) (s8:slots a0 8 = .int .i64 (i:Int)) (hi0:(0:Int)≤(i:Int)) (hi1:(i:Int) < (fn:Int)) (hi2:(i:Int) < (on:Int))
  (hX:∀ j x w,1≤j→P j x w→x 0 = .string nm)
  (hP0:∀ x,P 0 x w5.drew)
  (hSt:∀ j x w,j < 4→P j x w→w.cell? ⟨bl,0,none⟩=some (.slice ca cn cc)∧w.cell? ⟨bp,0,none⟩=some (.string nk)∧w.cell? ⟨bp,1,none⟩=some (.string pf)∧w.cell? ⟨bp,2,none⟩=some (.slice sa sn sc)∧w.cell? ⟨bt,1,none⟩=some (.slice (some ⟨fb,fo,none⟩) fn fc)∧w.cell? ⟨bt,2,none⟩=some (.slice (some ⟨ob,oo,none⟩) on oc)∧w.cell? ⟨fb,fo + i * 3,none⟩=some (.string fl.name)∧w.cell? ⟨fb,fo + i * 3 + 1,none⟩=some (.int .i64 fl.kind)∧w.cell? ⟨fb,fo + i * 3 + 2,none⟩=some (.string fl.type)∧w.cell? ⟨ob,oo + i * 3,none⟩=some (.int .i64 o.svc)∧w.cell? ⟨ob,oo + i * 3 + 1,none⟩=some (.string o.type)∧w.cell? ⟨ob,oo + i * 3 + 2,none⟩=some (.string o.field))
  (he0:∀ x w,P 0 x w→Calls Tryz.prog 67 #[.agg #[.string nk,.string pf,.slice sa sn sc]] w fun e w' => ∃ v,e = .returned v∧(∀ x',x' 0=v→(∀ i,i≠0→x' i=x i)→P 1 x' w'))
  (he1:∀ x w,P 1 x w→∀ x',x' 1 = .slice (some ⟨w.heap.size,0,none⟩) 1 1→(∀ i,i≠1→x' i=x i)→P 2 x' (w.alloc (.cells #[.string nm,.slice sa sn sc,.string fl.name,.int .i64 fl.kind,.string fl.type,.int .i64 o.svc,.string o.type,.string o.field,.slice none 0 0,.map none,.map none] 127)))
  (he2:∀ x w,P 2 x w→∀ ty,∃ v w',(Builtin.append_ #[84,84] ty #[.slice ca cn cc,x 1]).run Tryz.prog w = .ok v w'∧(∀ x',x' 2=v→(∀ i,i≠2→x' i=x i)→P 3 x' w'))
  (he3:∀ x w,P 3 x w→∃ va vn vc u,x 2 = .slice va vn vc∧w.cell? ⟨bl,0,none⟩=some u∧w.frozen? ⟨bl,0,none⟩=false∧P 4 x (w.setCell ⟨bl,0,none⟩ (x 2)))
  (hQ:∀ s w',P 4 (fun i=>s ([27,42,43,0].getD i 0)) w'→Q .normal (putAll a0 s [24,25,26,27,28,29,30,31,32,33,34,35,36,37,38,39,40,41,42,43,44]) w') :
  (Code.region 6 newMoreOps.toArray true).wp Tryz.prog Q a0 w5:=by
 refine wp_region_as (by kernel_rfl) (by kernel_rfl) [24,25,26,27,28,29,30,31,32,33,34,35,36,37,38,39,40,41,42,43,44] (by kernel_rfl) hsz (by kernel_rfl) (fun _=>99) (asV [3,18,19,21] [.pointer (some ⟨bl,0,none⟩),.slice ca cn cc,.agg #[.string nk,.string pf,.slice sa sn sc],undef,.pointer (some ⟨bp,2,none⟩),.slice sa sn sc,.pointer (some ⟨bt,0,none⟩),.pointer (some ⟨bt,1,none⟩),.slice (some ⟨fb,fo,none⟩) fn fc,.int .i64 (i:Int),.pointer (some ⟨fb,fo + i * 3,none⟩),.agg #[.string fl.name,.int .i64 fl.kind,.string fl.type],.pointer (some ⟨bt,2,none⟩),.slice (some ⟨ob,oo,none⟩) on oc,.int .i64 (i:Int),.pointer (some ⟨ob,oo + i * 3,none⟩),.agg #[.int .i64 o.svc,.string o.type,.string o.field],.agg #[.string nm,.slice sa sn sc,.string fl.name,.int .i64 fl.kind,.string fl.type,.int .i64 o.svc,.string o.type,.string o.field,.slice none 0 0,.map none,.map none],undef,undef,.pointer (some ⟨bl,0,none⟩),undef]) (chG [3,18,19,21] [27,42,43,0] P) (chG.start (hP0 _)) ?_ ?_
 ·intro Lz stz wz iz oz hGz hLz hcz hAz hFz hiz hlz haz
  have h99:Lz 99=false:=by
   cases h:Lz 99 with
   | false=>rfl
   | true=>exact absurd (hLz 99 h) (by decide)
  obtain _ | iz:=iz
  ·obtain rfl:=Option.some.inj hiz
   have e0:stz 5 = .pointer (some ⟨bl,0,none⟩):=(hFz 5 (by decide)).trans s5
   refine opStep_value (v:=.pointer (some ⟨bl,0,none⟩)) (w':=wz) ?_ ⟨hGz.read rfl rfl _,rfl,fun k _ _ _ h=>h⟩
   simp only [execOp,evalS,e0]
   go_simp
  obtain _ | iz:=iz
  ·obtain rfl:=Option.some.inj hiz
   have e0:stz 24 = .pointer (some ⟨bl,0,none⟩):=hAz 0 (haz ⟨0,.data⟩ (by simp) rfl) h99
   have hm:Lz 21=false:=L_not (fun h=>hcz 21 _ h rfl ⟨1,.phase⟩ (by simp) rfl) hlz
   obtain ⟨z0,-,-,-,-,-,-,-,-,-,-,-⟩:=hSt _ _ _ (stg_lt (E:=[3,18,19,21]) (by simp) hm) hGz
   refine opStep_value (v:=.slice ca cn cc) (w':=wz) ?_ ⟨hGz.read rfl rfl _,rfl,fun k _ _ _ h=>h⟩
   simp only [execOp,evalS,e0]
   go_simp
  obtain _ | iz:=iz
  ·obtain rfl:=Option.some.inj hiz
   have e0:stz 7 = .pointer (some ⟨bp,0,none⟩):=(hFz 7 (by decide)).trans s7
   have hm:Lz 21=false:=L_not (fun h=>hcz 21 _ h rfl ⟨2,.phase⟩ (by simp) rfl) hlz
   obtain ⟨-,z1,z2,z3,-,-,-,-,-,-,-,-⟩:=hSt _ _ _ (stg_lt (E:=[3,18,19,21]) (by simp) hm) hGz
   refine opStep_value (v:=.agg #[.string nk,.string pf,.slice sa sn sc]) (w':=wz) ?_ ⟨hGz.read rfl rfl _,rfl,fun k _ _ _ h=>h⟩
   simp only [execOp,evalS,e0]
   go_simp
  obtain _ | iz:=iz
  ·obtain rfl:=Option.some.inj hiz
   have t1:Lz 18=false:=L_not (fun h=>hcz 18 _ h rfl ⟨17,.data⟩ (by simp) rfl) (L_not (fun h=>hcz 17 _ h rfl ⟨3,.data⟩ (by simp) rfl) hlz)
   have t2:Lz 19=false:=L_not (fun h=>hcz 19 _ h rfl ⟨3,.chain⟩ (by simp) rfl) hlz
   have t3:Lz 21=false:=L_not (fun h=>hcz 21 _ h rfl ⟨3,.phase⟩ (by simp) rfl) hlz
   have hst:stg [3,18,19,21] Lz=0:=by simp [stg,hlz,t1,t2,t3]
   have hPj:P 0 (fun i=>stz ([27,42,43,0].getD i 0)) wz:=by
    have h:=hGz
    unfold chG at h
    rw [hst] at h
    exact h
   have e0:stz 26 = .agg #[.string nk,.string pf,.slice sa sn sc]:=hAz 2 (haz ⟨2,.data⟩ (by simp) rfl) h99
   have agree0:∀ i,i≠0→([27,42,43,0]:List Nat).getD i 0≠27:=fun i hi=>by
    rcases i with _ | _ | _ | _ | i <;> simp at hi ⊢
   refine opStep_fn 67 #[.tmp 26] #[76] rfl (enters_of Tryz.func67 (by kernel_rfl) rfl) _ (by simp only [List.map_toArray,List.map_cons,List.map_nil,evalS,e0]; first | done | rfl) ((he0 _ wz hPj).mono fun e w' h=>?_)
   obtain ⟨v,rfl,hv⟩:=h
   exact ⟨v,rfl,chG.eff (by decide) (by decide) hlz hst (hv _ updS_yes (fun i hi=>updS_no (agree0 i hi))),trivial,fun k _ _ _ h=>h⟩
  obtain _ | iz:=iz
  ·obtain rfl:=Option.some.inj hiz
   have e0:stz 7 = .pointer (some ⟨bp,0,none⟩):=(hFz 7 (by decide)).trans s7
   refine opStep_value (v:=.pointer (some ⟨bp,2,none⟩)) (w':=wz) ?_ ⟨hGz.read rfl rfl _,rfl,fun k _ _ _ h=>h⟩
   simp only [execOp,evalS,e0]
   go_simp
  obtain _ | iz:=iz
  ·obtain rfl:=Option.some.inj hiz
   have e0:stz 28 = .pointer (some ⟨bp,2,none⟩):=hAz 4 (haz ⟨4,.data⟩ (by simp) rfl) h99
   have hm:Lz 21=false:=L_not (fun h=>hcz 21 _ h rfl ⟨5,.phase⟩ (by simp) rfl) hlz
   obtain ⟨-,-,-,z3,-,-,-,-,-,-,-,-⟩:=hSt _ _ _ (stg_lt (E:=[3,18,19,21]) (by simp) hm) hGz
   refine opStep_value (v:=.slice sa sn sc) (w':=wz) ?_ ⟨hGz.read rfl rfl _,rfl,fun k _ _ _ h=>h⟩
   simp only [execOp,evalS,e0]
   go_simp
  obtain _ | iz:=iz
  ·obtain rfl:=Option.some.inj hiz
   have e0:stz 2 = .pointer (some ⟨bt,0,none⟩):=(hFz 2 (by decide)).trans s2
   refine opStep_value (v:=.pointer (some ⟨bt,0,none⟩)) (w':=wz) ?_ ⟨hGz.read rfl rfl _,rfl,fun k _ _ _ h=>h⟩
   simp only [execOp,evalS,e0]
   go_simp
  obtain _ | iz:=iz
  ·obtain rfl:=Option.some.inj hiz
   have e0:stz 30 = .pointer (some ⟨bt,0,none⟩):=hAz 6 (haz ⟨6,.data⟩ (by simp) rfl) h99
   refine opStep_value (v:=.pointer (some ⟨bt,1,none⟩)) (w':=wz) ?_ ⟨hGz.read rfl rfl _,rfl,fun k _ _ _ h=>h⟩
   simp only [execOp,evalS,e0]
   go_simp
  obtain _ | iz:=iz
  ·obtain rfl:=Option.some.inj hiz
   have e0:stz 31 = .pointer (some ⟨bt,1,none⟩):=hAz 7 (haz ⟨7,.data⟩ (by simp) rfl) h99
   have hm:Lz 21=false:=L_not (fun h=>hcz 21 _ h rfl ⟨8,.phase⟩ (by simp) rfl) hlz
   obtain ⟨-,-,-,-,z4,-,-,-,-,-,-,-⟩:=hSt _ _ _ (stg_lt (E:=[3,18,19,21]) (by simp) hm) hGz
   refine opStep_value (v:=.slice (some ⟨fb,fo,none⟩) fn fc) (w':=wz) ?_ ⟨hGz.read rfl rfl _,rfl,fun k _ _ _ h=>h⟩
   simp only [execOp,evalS,e0]
   go_simp
  obtain _ | iz:=iz
  ·obtain rfl:=Option.some.inj hiz
   have e0:stz 8 = .int .i64 (i:Int):=(hFz 8 (by decide)).trans s8
   refine opStep_value (v:=.int .i64 (i:Int)) (w':=wz) ?_ ⟨hGz.read rfl rfl _,rfl,fun k _ _ _ h=>h⟩
   simp only [execOp,evalS,e0]
   go_simp
  obtain _ | iz:=iz
  ·obtain rfl:=Option.some.inj hiz
   have e0:stz 32 = .slice (some ⟨fb,fo,none⟩) fn fc:=hAz 8 (haz ⟨8,.data⟩ (by simp) rfl) h99
   have e1:stz 33 = .int .i64 (i:Int):=hAz 9 (haz ⟨9,.data⟩ (by simp) rfl) h99
   refine opStep_value (v:=.pointer (some ⟨fb,fo + i * 3,none⟩)) (w':=wz) ?_ ⟨hGz.read rfl rfl _,rfl,fun k _ _ _ h=>h⟩
   simp only [execOp,evalS,e0,e1]
   go_simp
  obtain _ | iz:=iz
  ·obtain rfl:=Option.some.inj hiz
   have e0:stz 34 = .pointer (some ⟨fb,fo + i * 3,none⟩):=hAz 10 (haz ⟨10,.data⟩ (by simp) rfl) h99
   have hm:Lz 21=false:=L_not (fun h=>hcz 21 _ h rfl ⟨11,.phase⟩ (by simp) rfl) hlz
   obtain ⟨-,-,-,-,-,-,z6,z7,z8,-,-,-⟩:=hSt _ _ _ (stg_lt (E:=[3,18,19,21]) (by simp) hm) hGz
   refine opStep_value (v:=.agg #[.string fl.name,.int .i64 fl.kind,.string fl.type]) (w':=wz) ?_ ⟨hGz.read rfl rfl _,rfl,fun k _ _ _ h=>h⟩
   simp only [execOp,evalS,e0]
   go_simp
  obtain _ | iz:=iz
  ·obtain rfl:=Option.some.inj hiz
   have e0:stz 2 = .pointer (some ⟨bt,0,none⟩):=(hFz 2 (by decide)).trans s2
   refine opStep_value (v:=.pointer (some ⟨bt,2,none⟩)) (w':=wz) ?_ ⟨hGz.read rfl rfl _,rfl,fun k _ _ _ h=>h⟩
   simp only [execOp,evalS,e0]
   go_simp
  obtain _ | iz:=iz
  ·obtain rfl:=Option.some.inj hiz
   have e0:stz 36 = .pointer (some ⟨bt,2,none⟩):=hAz 12 (haz ⟨12,.data⟩ (by simp) rfl) h99
   have hm:Lz 21=false:=L_not (fun h=>hcz 21 _ h rfl ⟨13,.phase⟩ (by simp) rfl) hlz
   obtain ⟨-,-,-,-,-,z5,-,-,-,-,-,-⟩:=hSt _ _ _ (stg_lt (E:=[3,18,19,21]) (by simp) hm) hGz
   refine opStep_value (v:=.slice (some ⟨ob,oo,none⟩) on oc) (w':=wz) ?_ ⟨hGz.read rfl rfl _,rfl,fun k _ _ _ h=>h⟩
   simp only [execOp,evalS,e0]
   go_simp
  obtain _ | iz:=iz
  ·obtain rfl:=Option.some.inj hiz
   have e0:stz 8 = .int .i64 (i:Int):=(hFz 8 (by decide)).trans s8
   refine opStep_value (v:=.int .i64 (i:Int)) (w':=wz) ?_ ⟨hGz.read rfl rfl _,rfl,fun k _ _ _ h=>h⟩
   simp only [execOp,evalS,e0]
   go_simp
  obtain _ | iz:=iz
  ·obtain rfl:=Option.some.inj hiz
   have e0:stz 37 = .slice (some ⟨ob,oo,none⟩) on oc:=hAz 13 (haz ⟨13,.data⟩ (by simp) rfl) h99
   have e1:stz 38 = .int .i64 (i:Int):=hAz 14 (haz ⟨14,.data⟩ (by simp) rfl) h99
   refine opStep_value (v:=.pointer (some ⟨ob,oo + i * 3,none⟩)) (w':=wz) ?_ ⟨hGz.read rfl rfl _,rfl,fun k _ _ _ h=>h⟩
   simp only [execOp,evalS,e0,e1]
   go_simp
  obtain _ | iz:=iz
  ·obtain rfl:=Option.some.inj hiz
   have e0:stz 39 = .pointer (some ⟨ob,oo + i * 3,none⟩):=hAz 15 (haz ⟨15,.data⟩ (by simp) rfl) h99
   have hm:Lz 21=false:=L_not (fun h=>hcz 21 _ h rfl ⟨16,.phase⟩ (by simp) rfl) hlz
   obtain ⟨-,-,-,-,-,-,-,-,-,z9,z10,z11⟩:=hSt _ _ _ (stg_lt (E:=[3,18,19,21]) (by simp) hm) hGz
   refine opStep_value (v:=.agg #[.int .i64 o.svc,.string o.type,.string o.field]) (w':=wz) ?_ ⟨hGz.read rfl rfl _,rfl,fun k _ _ _ h=>h⟩
   simp only [execOp,evalS,e0]
   go_simp
  obtain _ | iz:=iz
  ·obtain rfl:=Option.some.inj hiz
   have e0:stz 29 = .slice sa sn sc:=hAz 5 (haz ⟨5,.data⟩ (by simp) rfl) h99
   have e1:stz 35 = .agg #[.string fl.name,.int .i64 fl.kind,.string fl.type]:=hAz 11 (haz ⟨11,.data⟩ (by simp) rfl) h99
   have e2:stz 40 = .agg #[.int .i64 o.svc,.string o.type,.string o.field]:=hAz 16 (haz ⟨16,.data⟩ (by simp) rfl) h99
   have t3:Lz 3=true:=haz ⟨3,.data⟩ (by simp) rfl
   have hst:1≤stg [3,18,19,21] Lz:=by
    simp only [stg,List.filter_cons,t3,if_true,List.length_cons]
    omega
   have ex:stz 27 = .string nm:=hX _ _ _ hst hGz
   refine opStep_value (v:=.agg #[.string nm,.slice sa sn sc,.string fl.name,.int .i64 fl.kind,.string fl.type,.int .i64 o.svc,.string o.type,.string o.field,.slice none 0 0,.map none,.map none]) (w':=wz) ?_ ⟨hGz.read rfl rfl _,rfl,fun k _ _ _ h=>h⟩
   simp only [execOp,evalS]
   go_simp
  obtain _ | iz:=iz
  ·obtain rfl:=Option.some.inj hiz
   have t0:Lz 3=true:=hcz 17 _ (haz ⟨17,.data⟩ (by simp) rfl) rfl ⟨3,.data⟩ (by simp) rfl
   have t2:Lz 19=false:=L_not (fun h=>hcz 19 _ h rfl ⟨18,.data⟩ (by simp) rfl) hlz
   have t3:Lz 21=false:=L_not (fun h=>hcz 21 _ h rfl ⟨18,.phase⟩ (by simp) rfl) hlz
   have hst:stg [3,18,19,21] Lz=1:=by simp [stg,t0,hlz,t2,t3]
   have hPj:P 1 (fun i=>stz ([27,42,43,0].getD i 0)) wz:=by
    have h:=hGz
    unfold chG at h
    rw [hst] at h
    exact h
   have e0:stz 41 = .agg #[.string nm,.slice sa sn sc,.string fl.name,.int .i64 fl.kind,.string fl.type,.int .i64 o.svc,.string o.type,.string o.field,.slice none 0 0,.map none,.map none]:=hAz 17 (haz ⟨17,.data⟩ (by simp) rfl) h99
   have agree1:∀ i,i≠1→([27,42,43,0]:List Nat).getD i 0≠42:=fun i hi=>by
    rcases i with _ | _ | _ | _ | i <;> simp at hi ⊢
   refine opStep_value (v:=.slice (some ⟨wz.heap.size,0,none⟩) 1 1) (w':=wz.alloc (.cells #[.string nm,.slice sa sn sc,.string fl.name,.int .i64 fl.kind,.string fl.type,.int .i64 o.svc,.string o.type,.string o.field,.slice none 0 0,.map none,.map none] 127)) ?_ ⟨chG.eff (by decide) (by decide) hlz hst (he1 _ wz hPj _ updS_yes (fun i hi=>updS_no (agree1 i hi))),trivial,fun k _ _ _ h=>h⟩
   simp only [execOp,List.map_toArray,List.map_cons,List.map_nil,evalS,e0]
   go_simp
  obtain _ | iz:=iz
  ·obtain rfl:=Option.some.inj hiz
   have t0:Lz 3=true:=haz ⟨3,.chain⟩ (by simp) rfl
   have t1:Lz 18=true:=haz ⟨18,.data⟩ (by simp) rfl
   have t3:Lz 21=false:=L_not (fun h=>hcz 21 _ h rfl ⟨19,.data⟩ (by simp) rfl) hlz
   have hst:stg [3,18,19,21] Lz=2:=by simp [stg,t0,t1,hlz,t3]
   have hPj:P 2 (fun i=>stz ([27,42,43,0].getD i 0)) wz:=by
    have h:=hGz
    unfold chG at h
    rw [hst] at h
    exact h
   have e0:stz 25 = .slice ca cn cc:=hAz 1 (haz ⟨1,.data⟩ (by simp) rfl) h99
   have agree2:∀ i,i≠2→([27,42,43,0]:List Nat).getD i 0≠43:=fun i hi=>by
    rcases i with _ | _ | _ | _ | i <;> simp at hi ⊢
   obtain ⟨v,w',hr,hp⟩:=he2 _ wz hPj 84
   replace hr:(Builtin.append_ #[84,84] 84 #[.slice ca cn cc,stz 42]).run Tryz.prog wz = .ok v w':=hr
   refine opStep_value (v:=v) (w':=w') ?_ ⟨chG.eff (by decide) (by decide) hlz hst (hp _ updS_yes (fun i hi=>updS_no (agree2 i hi))),trivial,fun k _ _ _ h=>h⟩
   simp only [execOp,resolve,invoke,builtin,Sem.run_bind,Sem.run_pure,Result.andThen_ok,List.map_toArray,List.map_cons,List.map_nil,evalS,e0]
   first | (rw [hr]; rfl) | (simp [hr,Result.andThen])
  obtain _ | iz:=iz
  ·obtain rfl:=Option.some.inj hiz
   have e0:stz 5 = .pointer (some ⟨bl,0,none⟩):=(hFz 5 (by decide)).trans s5
   refine opStep_value (v:=.pointer (some ⟨bl,0,none⟩)) (w':=wz) ?_ ⟨hGz.read rfl rfl _,rfl,fun k _ _ _ h=>h⟩
   simp only [execOp,evalS,e0]
   go_simp
  obtain _ | iz:=iz
  ·obtain rfl:=Option.some.inj hiz
   have t0:Lz 3=true:=haz ⟨3,.phase⟩ (by simp) rfl
   have t1:Lz 18=true:=haz ⟨18,.phase⟩ (by simp) rfl
   have t2:Lz 19=true:=haz ⟨19,.data⟩ (by simp) rfl
   have hst:stg [3,18,19,21] Lz=3:=by simp [stg,t0,t1,t2,hlz]
   have hPj:P 3 (fun i=>stz ([27,42,43,0].getD i 0)) wz:=by
    have h:=hGz
    unfold chG at h
    rw [hst] at h
    exact h
   have e0:stz 44 = .pointer (some ⟨bl,0,none⟩):=hAz 20 (haz ⟨20,.data⟩ (by simp) rfl) h99
   obtain ⟨va,vn,vc,u,hx9,hu,hfz,hp⟩:=he3 _ wz hPj
   have ex:stz 43 = .slice va vn vc:=hx9
   replace hp:P 4 _ (wz.setCell ⟨bl,0,none⟩ (stz 43)):=hp
   rw [ex] at hp
   refine opStep_skip (w':=_) ?_ ⟨chG.eff (by decide) (by decide) hlz hst hp,trivial,fun k _ _ _ h=>h⟩
   simp only [execOp,evalS,e0,ex]
   go_simp
  ·exfalso
   have hlen:iz + 22 < 22:=(List.getElem?_eq_some_iff.1 hiz).1
   omega
 ·intro Lz stz wz hGz _ hall _
  have h:=hGz
  unfold chG at h
  rw [stg_all (fun e he=>by simp at he; rcases he with rfl | rfl | rfl | rfl <;> exact hall _ (by decide))] at h
  exact hQ stz wz h
end Go.Proofs.YtjjggefmmeminacGreat
