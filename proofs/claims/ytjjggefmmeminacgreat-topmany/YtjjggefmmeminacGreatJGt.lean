import Derived.Test.YtjjggefmmeminacGreatGrMem
import Derived.WalkKit
import Derived.WalkSpells
namespace Go.Proofs.YtjjggefmmeminacGreat
open Go.RowKit Go.Sort Go.PlainAid
theorem gfilterMap_snoc {α β:Type} (f:α→Option β) (l:List α) (x:α):(l ++ [x]).filterMap f=l.filterMap f ++ (f x).toList:=by
 rw [List.filterMap_append]
 cases h:f x <;> simp [h]
theorem gtake_key {K:Nat→ByteArray} {n k:Nat} (h:k < n):((List.range n).map K).take (k + 1)=((List.range n).map K).take k ++ [K k]:=by
 rw [← List.map_take,← List.map_take,List.take_range,List.take_range,show min (k + 1) n=k + 1 by omega,show min k n=k by omega,List.range_succ,List.map_append]; rfl
set_option maxRecDepth 100000 in
set_option maxHeartbeats 1000000 in
theorem tellEach_any (d N:Nat) (l:LV) (S0:List ByteArray) (ka:Option Addr) (nk kcap:Nat) (K:Nat→ByteArray) (f:ByteArray→Option (List (Got d))) (w:World) (hK:KeysAt w ka nk K) (hn:nk≤20) (hG:0 < nk→TellFn N w l d S0 f) (hS0:∀ j,j < nk→K j ∈ S0) :
  Calls Tryz.prog 71 #[.agg #[.slice l.a l.n l.c,.map l.h,.map l.v],.slice ka nk kcap] w fun e w'=>(∃ v sv,e = .returned v∧SRow w.heap.size w' v (((List.range nk).map K).filterMap f) sv)∧Below w.heap.size w w':=by
 obtain ⟨i0,hi0,hz0,hz1,hz2⟩:=info_parts' Tryz.info27
 generalize hW:w.alloc (Obj.cells #[.slice l.a l.n l.c,.map l.h,.map l.v] 88)=W
 have hBW:Below w.heap.size w W:=by rw [← hW]; exact below1 _ _
 have l0:W.cell? ⟨w.heap.size,0,none⟩=some (.slice l.a l.n l.c):=by rw [← hW,World.cell?_alloc_at _ _ _ _ rfl]; rfl
 have l1:W.cell? ⟨w.heap.size,1,none⟩=some (.map l.h):=by rw [← hW,World.cell?_alloc_at _ _ _ _ rfl]; rfl
 have l2:W.cell? ⟨w.heap.size,2,none⟩=some (.map l.v):=by rw [← hW,World.cell?_alloc_at _ _ _ _ rfl]; rfl
 have HF:Hid (0 < nk→TellFn N W l d S0 f):=fun h=>(hG h).step (Later.of hBW)
 have HK:=Hid.intro (hK.kept hBW)
 have HS0:=Hid.intro hS0
 have HBW:=Hid.intro hBW
 clear hK hG hS0 hBW
 obtain ⟨bl,hbl⟩:∃ bl,bl=w.heap.size:=⟨_,rfl⟩
 go_enter Tryz.func71,Tryz.ntmps71
 go_wp2_with fail
 clear hW
 rw [← hbl] at l0 l1 l2
 rw [← hbl]
 have HBL:=Hid.intro hbl
 clear hbl
 go_loopw [5,12] (fun v i wr => ∃ k:Nat,k≤nk∧i = .int .i64 k∧Below W.heap.size W wr∧∃ sv,SRow W.heap.size wr v ((((List.range nk).map K).take k).filterMap f) sv) (fun _ i _=>nk - (intOf i).toNat)
 case atStart=>exact ⟨0,Nat.zero_le _,rfl,Below.refl _ _,fun _=>undef,SRow.nil _ _ _ _⟩
 case round =>
  obtain ⟨k,hk,rfl,hw,sv,hS⟩:=hrel
  obtain ⟨S,hSd⟩:∃ S,S=(((List.range nk).map K).take k).filterMap f:=⟨_,rfl⟩
  rw [← hSd] at hS
  obtain ⟨va,vc,rfl,hvc⟩:=hS.slice
  by_cases hlt:k < nk
  ·obtain ⟨b,o,rfl,c0,hsm⟩:=(HK.out.kept hw).2 k hlt
   have hlt':(k:Int) < (nk:Int):=by omega
   have hk0:(0:Int)≤(k:Int):=by omega
   have hSl:S.length≤k:=by
    rw [hSd]
    refine Nat.le_trans (List.length_filterMap_le _ _) ?_
    simp
    omega
   have HT:Hid ((((List.range nk).map K).take (k + 1)).filterMap f=S ++ (f (K k)).toList):=Hid.intro (by rw [gtake_key hlt,gfilterMap_snoc,← hSd])
   have hcl:=HF.out (by omega) wr (Later.of hw) (K k) hsm (HS0.out k hlt)
   have m0:=keptCell hw l0
   have m1:=keptCell hw l1
   have m2:=keptCell hw l2
   have HS:=Hid.intro hS
   clear hS hSd hsm
   go_wp2_with fail
   refine hcl.mono ?_
   clear hcl
   rintro e w1 ⟨hw1,h⟩
   have hw2:Below W.heap.size W w1:=hw.trans (hw1.mono hw.size)
   clear m0 m1 m2
   rcases h with ⟨hf,rfl⟩ | ⟨L,a,c,hf,rfl,hc,hout⟩
   ·have HS1:Hid (SRow W.heap.size w1 (.slice va S.length vc) ((((List.range nk).map K).take (k + 1)).filterMap f) sv):=by
     rw [HT.out,hf,Option.toList_none,List.append_nil]
     exact HS.out.kept hw1
    have HW2:=Hid.intro hw2
    clear hw1 hw2 hf HS HT c0
    go_wp2_with fail
    go_roundw
    case rel=>exact ⟨k + 1,by omega,by go_num,HW2.out,sv,HS1.out⟩
    case measure=>simp [intOf]; omega
   ·have HT1:Hid ((((List.range nk).map K).take (k + 1)).filterMap f=S ++ [L]):=by rw [HT.out,hf]; rfl
    have HR:=Hid.intro ((HS.out.kept hw1).kept (below1 w1 (Obj.cells #[.slice a L.length c] 27)))
    have HFr:=Hid.intro (hout.free.kept (below1 w1 (Obj.cells #[.slice a L.length c] 27)))
    have HW2:Hid (Below W.heap.size W (w1.alloc (Obj.cells #[.slice a L.length c] 27))):=hw2.trans ((below1 w1 _).mono hw2.size)
    have HOW:=Hid.intro HR.out.row
    have hNa:W.heap.size≤(w1.alloc (Obj.cells #[.slice a L.length c] 27)).heap.size:=HW2.out.size
    have hNw:W.heap.size≤wr.heap.size:=hw.size
    have HVB:Hid (∀ q,(Value.slice va S.length vc).ownBlock=some q→q < wr.heap.size∧W.heap.size≤q):=fun q hq=>⟨(HS.out.row.lt hq).2,(HS.out.row.lt hq).1⟩
    clear hw1 hw2 hf HS HT c0 hout
    go_wp2_with (at_builtin; refine wpList_append_any _ rfl _ _ 54 rfl W.heap.size 27 i0 _ 1 24 Tryz.underlying54 hi0 hz0 hz1 hz2 rfl (by decide) _ S.length _ rfl HOW.out (some ⟨w1.heap.size,0,none⟩) 1 1 [.slice a L.length c] rfl rfl (alloc_news w1 #[.slice a L.length c] _) (fun h=>by cases h) (by intro u hu; simp at hu; subst hu; rfl) (by unfold maxLen; omega) (by omega) hNa ?_)
    intro v' w4 hown hgr hvb
    have HS4:Hid (SRow W.heap.size w4 v' ((((List.range nk).map K).take (k + 1)).filterMap f) (fun i=>if i=S.length then .slice a L.length c else sv i)):=by
     rw [HT1.out]
     exact HR.out.app hc HFr.out hNw (fun q hq=>(HVB.out q hq).1) (by rw [Nat.mul_one]; exact hown) hgr (by simpa using hvb)
    have HW4:Hid (Below W.heap.size W w4):=HW2.out.grown hgr hNa (fun q hq=>(HVB.out q hq).2)
    clear hown hgr hvb HOW HR HFr HVB
    go_wp2_with fail
    go_roundw
    case rel=>exact ⟨k + 1,by omega,by go_num,HW4.out,_,HS4.out⟩
    case measure=>simp [intOf]; omega
  ·have hkn:k=nk:=by omega
   have HF:Hid (SRow w.heap.size wr (.slice va S.length vc) (((List.range nk).map K).filterMap f) sv):=by
    have e2:(((List.range nk).map K).take k).filterMap f=((List.range nk).map K).filterMap f:=by rw [List.take_of_length_le (by simp; omega)]
    rw [← e2,← hSd]
    exact hS.base HBW.out.size
   have HW:Hid (Below w.heap.size w wr):=HBW.out.trans (hw.mono HBW.out.size)
   clear hS hw hSd
   go_wp2_with fail
   go_ret
   exact ⟨⟨_,sv,rfl,HF.out⟩,HW.out⟩
def gotX {d:Nat} (nm:ByteArray) (kd:Int) (ox:Option LVal) (f:ByteArray→Option (List (Got d))):Got (d + 1):=match ox with
 | none=>mkGot nm kd true ⟨#[]⟩ [] []
 | some x=>if kd=1 then mkGot nm kd false x.text [] [] else gotS nm kd ((keysV x).filterMap f)
theorem gset6 {w:World} {b:Nat} {c0 c1 c2 c3 c4 c5:Value} : OnlyB b w ((((((w.setCell ⟨b,0,none⟩ c0).setCell ⟨b,1,none⟩ c1).setCell ⟨b,2,none⟩ c2).setCell ⟨b,3,none⟩ c3).setCell ⟨b,4,none⟩ c4).setCell ⟨b,5,none⟩ c5):=((((((OnlyB.refl _ _).set _ _).set _ _).set _ _).set _ _).set _ _).set _ _
theorem alloc3 (w:World) (a b c:Obj):(((w.alloc a).alloc b).alloc c).heap[w.heap.size]? = some a∧(((w.alloc a).alloc b).alloc c).heap[w.heap.size + 1]? = some b∧(((w.alloc a).alloc b).alloc c).heap[w.heap.size + 1 + 1]? = some c:=by
 refine ⟨(Below.heap_alloc _ _ _ (by simp; omega)).trans ((Below.heap_alloc _ _ _ (by simp)).trans (heap_alloc_new _ _)),(Below.heap_alloc _ _ _ (by simp)).trans ?_,?_⟩
 ·have h:=heap_alloc_new (w.alloc a) b
  rw [show (w.alloc a).heap.size=w.heap.size + 1 by simp] at h
  exact h
 ·have h:=heap_alloc_new ((w.alloc a).alloc b) c
  rw [show ((w.alloc a).alloc b).heap.size=w.heap.size + 1 + 1 by simp] at h
  exact h
def GotAt (w:World) (b:Nat) (nm:ByteArray) (kd:Int):Prop:=w.heap[b]? = some (.cells #[.string nm,.int .i64 kd,.bool false,.string ⟨#[]⟩,.slice none 0 0,.slice none 0 0] 56 (0,0))
set_option maxRecDepth 100000 in
set_option maxHeartbeats 2000000 in
theorem got_any (d N:Nat) (la:Option Addr) (ln lc bv m:Nat) (lh:Option Nat) (nm:ByteArray) (pa:Option Addr) (pn pc:Nat) (fl:LField) (o:POwner) (nx:LV) (key:ByteArray) (S:List ByteArray) (f:ByteArray→Option (List (Got d))) (v:Int→ByteArray→ByteArray→ByteArray→Option LVal) (w:World)
  (hM:LMap N w bv m v) (hs:(Lit.int .i64 o.svc).wf=true) (ht:Small o.type) (hf:Small o.field) (hk:Small key) (hkd:fl.kind=1∨fl.kind=2∨fl.kind=3)
  (hx:∀ x,v o.svc o.type o.field key=some x→x.nk≤20∧(fl.kind≠1→0 < x.nk→TellFn N w nx d S f)∧∀ j,j < x.nk→x.K j ∈ S) :
  Calls Tryz.prog 48 #[.agg #[.slice la ln lc,.map lh,.map (some bv)],.agg #[.string nm,.slice pa pn pc,.string fl.name,.int .i64 fl.kind,.string fl.type,.int .i64 o.svc,.string o.type,.string o.field,.slice nx.a nx.n nx.c,.map nx.h,.map nx.v],.string key] w fun e w'=>Below w.heap.size w w' ∧
   ∃ A C A2 C2,e = .returned (gotA (gotX nm fl.kind (v o.svc o.type o.field key) f) A C A2 C2)∧GotV (fun k=>k < w.heap.size) w' (gotX nm fl.kind (v o.svc o.type o.field key) f) A C A2 C2:=by
 generalize hW:((w.alloc (Obj.cells #[.slice la ln lc,.map lh,.map (some bv)] 88)).alloc (Obj.cells #[.string nm,.slice pa pn pc,.string fl.name,.int .i64 fl.kind,.string fl.type,.int .i64 o.svc,.string o.type,.string o.field,.slice nx.a nx.n nx.c,.map nx.h,.map nx.v] 127)).alloc (Obj.cells #[.string ⟨#[]⟩,.int .i64 0,.bool false,.string ⟨#[]⟩,.slice none 0 0,.slice none 0 0] 56)=W
 have hBW:Below w.heap.size w W:=by rw [← hW]; exact below3 _ _ _ _
 have hWs:W.heap.size=w.heap.size + 1 + 1 + 1:=by rw [← hW]; simp
 obtain ⟨hb0,hb1,hb2⟩:W.heap[w.heap.size]? = some (.cells #[.slice la ln lc,.map lh,.map (some bv)] 88 (0,0))∧W.heap[w.heap.size + 1]? = some (.cells #[.string nm,.slice pa pn pc,.string fl.name,.int .i64 fl.kind,.string fl.type,.int .i64 o.svc,.string o.type,.string o.field,.slice nx.a nx.n nx.c,.map nx.h,.map nx.v] 127 (0,0))∧W.heap[w.heap.size + 1 + 1]? = some (.cells #[.string ⟨#[]⟩,.int .i64 0,.bool false,.string ⟨#[]⟩,.slice none 0 0,.slice none 0 0] 56 (0,0)):=by
  rw [← hW]; exact alloc3 w _ _ _
 obtain ⟨W1,hW1⟩:∃ W1,W1=W.alloc (Obj.cells #[.string nm,.int .i64 fl.kind,.bool false,.string ⟨#[]⟩,.slice none 0 0,.slice none 0 0] 56):=⟨_,rfl⟩
 have hB1:Below W.heap.size W W1:=by rw [hW1]; exact below1 _ _
 have hg1:GotAt W1 W.heap.size nm fl.kind:=by rw [hW1]; exact heap_alloc_new _ _
 have hWs1:W1.heap.size=W.heap.size + 1:=by rw [hW1]; simp
 have c0:W.cell? ⟨w.heap.size + 1,0,none⟩=some (.string nm):=by simp [World.cell?,hb1]
 have c3:W.cell? ⟨w.heap.size + 1,3,none⟩=some (.int .i64 fl.kind):=by simp [World.cell?,hb1]
 have e2:W1.cell? ⟨w.heap.size,2,none⟩=some (.map (some bv)):=keptCell hB1 (by simp [World.cell?,hb0])
 have e3:W1.cell? ⟨w.heap.size + 1,3,none⟩=some (.int .i64 fl.kind):=keptCell hB1 c3
 have e5:W1.cell? ⟨w.heap.size + 1,5,none⟩=some (.int .i64 o.svc):=keptCell hB1 (by simp [World.cell?,hb1])
 have e6:W1.cell? ⟨w.heap.size + 1,6,none⟩=some (.string o.type):=keptCell hB1 (by simp [World.cell?,hb1])
 have e7:W1.cell? ⟨w.heap.size + 1,7,none⟩=some (.string o.field):=keptCell hB1 (by simp [World.cell?,hb1])
 have e8:W1.cell? ⟨w.heap.size + 1,8,none⟩=some (.slice nx.a nx.n nx.c):=keptCell hB1 (by simp [World.cell?,hb1])
 have e9:W1.cell? ⟨w.heap.size + 1,9,none⟩=some (.map nx.h):=keptCell hB1 (by simp [World.cell?,hb1])
 have e10:W1.cell? ⟨w.heap.size + 1,10,none⟩=some (.map nx.v):=keptCell hB1 (by simp [World.cell?,hb1])
 have hBW1:Below w.heap.size w W1:=hBW.trans (hB1.mono hBW.size)
 have hML:=(hM.kept hBW1).look_ok hs ht hf hk
 have HX:=Hid.intro hx
 have HBW1:=Hid.intro hBW1
 have HBW:=Hid.intro hBW
 have HR0:=Hid.intro hb2
 have HG1:=Hid.intro hg1
 have HS:=Hid.intro (And.intro hWs hWs1)
 have HE8:=Hid.intro e8
 have HE9:=Hid.intro e9
 have HE10:=Hid.intro e10
 clear hM hx hBW hBW1 hb0 hb1 hb2 hB1 hg1 hWs hWs1 e8 e9 e10
 rcases hML with ⟨hv,hlk,-⟩ | ⟨x,A,C,hv,hC,hKs,hlk,-⟩
 ·rw [hv]
  unfold zeroVal at hlk
  obtain ⟨W3,hW3⟩:∃ W3,W3=(W.alloc (Obj.cells #[.string nm,.int .i64 fl.kind,.bool true,.string ⟨#[]⟩,.slice none 0 0,.slice none 0 0] 56)).alloc (Obj.cells #[.string ⟨#[]⟩,.string ⟨#[]⟩,.slice none 0 0] 59):=⟨_,rfl⟩
  have hB3:Below W.heap.size W W3:=by rw [hW3]; exact below2 _ _ _
  obtain ⟨⟨x0,x1,x2,x3,x4,x5⟩,y0,y1,y2,y3,y4,y5⟩:=got_box ((hB3.block _ (lt_of_block HR0.out)).trans HR0.out) rfl
  have HEND:Hid (∀ c0 c1 c2 c3 c4 c5:Value,Below w.heap.size w ((((((W3.setCell ⟨w.heap.size + 1 + 1,0,none⟩ c0).setCell ⟨w.heap.size + 1 + 1,1,none⟩ c1).setCell ⟨w.heap.size + 1 + 1,2,none⟩ c2).setCell ⟨w.heap.size + 1 + 1,3,none⟩ c3).setCell ⟨w.heap.size + 1 + 1,4,none⟩ c4).setCell ⟨w.heap.size + 1 + 1,5,none⟩ c5)):=Hid.intro fun c0 c1 c2 c3 c4 c5 =>
   (HBW.out.trans (hB3.mono HBW.out.size)).trans (gset6.below (by omega))
  clear hB3 HX HBW HBW1 HR0 HG1 HS HE8 HE9 HE10 hv
  rw [hW3] at x0 x1 x2 x3 x4 x5 y0 y1 y2 y3 y4 y5 HEND
  clear hW3
  rw [hW1] at e2 e3 e5 e6 e7 hlk
  clear hW1
  go_enter Tryz.func48,Tryz.ntmps48
  go_wp2_with fail
  exact bodyPost_ret (v:=gotA (mkGot (d:=d) nm fl.kind true ⟨#[]⟩ [] []) none 0 none 0) (by simp [results,Tryz.results48,go_sem,gotA,x0,x1,x2,x3,x4,x5]; exact ⟨rfl,rfl,rfl,rfl,rfl,rfl⟩) rfl ⟨HEND.out _ _ _ _ _ _,none,0,none,0,rfl,⟨Nat.le_refl _,Nat.le_refl _,gots_nil,subs_nil⟩⟩
 ·rw [hv]
  obtain ⟨hx20,hxT,hxS⟩:=HX.out x hv
  unfold valU at hlk
  by_cases k1:fl.kind=1
  ·have hk1:(fl.kind == 1)=true:=by rw [k1]; rfl
   have eg:gotX (d:=d) nm fl.kind (some x) f=mkGot nm fl.kind false x.text [] []:=if_pos k1
   rw [eg]
   obtain ⟨W3,hW3⟩:∃ W3,W3=(W.alloc (Obj.cells #[.string nm,.int .i64 fl.kind,.bool false,.string x.text,.slice none 0 0,.slice none 0 0] 56)).alloc (Obj.cells #[.string x.field,.string x.text,.slice A x.nk C] 59):=⟨_,rfl⟩
   have hB3:Below W.heap.size W W3:=by rw [hW3]; exact below2 _ _ _
   obtain ⟨⟨x0,x1,x2,x3,x4,x5⟩,y0,y1,y2,y3,y4,y5⟩:=got_box ((hB3.block _ (lt_of_block HR0.out)).trans HR0.out) rfl
   have f3:((W.alloc (Obj.cells #[.string nm,.int .i64 fl.kind,.bool false,.string ⟨#[]⟩,.slice none 0 0,.slice none 0 0] 56)).alloc (Obj.cells #[.string x.field,.string x.text,.slice A x.nk C] 59)).cell? ⟨w.heap.size + 1,3,none⟩=some (.int .i64 fl.kind):=keptCell (below2 W _ _) c3
   have HEND:Hid (∀ c0 c1 c2 c3 c4 c5:Value,Below w.heap.size w ((((((W3.setCell ⟨w.heap.size + 1 + 1,0,none⟩ c0).setCell ⟨w.heap.size + 1 + 1,1,none⟩ c1).setCell ⟨w.heap.size + 1 + 1,2,none⟩ c2).setCell ⟨w.heap.size + 1 + 1,3,none⟩ c3).setCell ⟨w.heap.size + 1 + 1,4,none⟩ c4).setCell ⟨w.heap.size + 1 + 1,5,none⟩ c5)):=Hid.intro fun c0 c1 c2 c3 c4 c5 =>
    (HBW.out.trans (hB3.mono HBW.out.size)).trans (gset6.below (by omega))
   clear hB3 HX HBW HBW1 HR0 HG1 HS HE8 HE9 HE10 hv hkd hxT hxS hKs hC k1 eg
   rw [hW3] at x0 x1 x2 x3 x4 x5 y0 y1 y2 y3 y4 y5 HEND
   clear hW3
   rw [hW1] at e2 e3 e5 e6 e7 hlk
   clear hW1
   go_enter Tryz.func48,Tryz.ntmps48
   go_wp2_with fail
   exact bodyPost_ret (v:=gotA (mkGot (d:=d) nm fl.kind false x.text [] []) none 0 none 0) (by simp [results,Tryz.results48,go_sem,gotA,x0,x1,x2,x3,x4,x5]; exact ⟨rfl,rfl,rfl,rfl,rfl,rfl⟩) rfl ⟨HEND.out _ _ _ _ _ _,none,0,none,0,rfl,⟨Nat.le_refl _,Nat.le_refl _,gots_nil,subs_nil⟩⟩
  have hk1:(fl.kind == 1)=false:=by rw [beq_eq_false_iff_ne]; exact k1
  obtain ⟨W3,hW3⟩:∃ W3,W3=W1.alloc (Obj.cells #[.string x.field,.string x.text,.slice A x.nk C] 59):=⟨_,rfl⟩
  have hB3:Below W1.heap.size W1 W3:=by rw [hW3]; exact below1 _ _
  have hBw3:Below w.heap.size w W3:=HBW1.out.trans (hB3.mono HBW1.out.size)
  have hcl:=tellEach_any d N nx S A x.nk C x.K f W3 (hKs.kept hB3) hx20 (fun h0=>(hxT k1 h0).step (Later.of hBw3)) hxS
  have f3:=keptCell hB3 e3
  have f8:=keptCell hB3 HE8.out
  have f9:=keptCell hB3 HE9.out
  have f10:=keptCell hB3 HE10.out
  have HG3:Hid (GotAt W3 W.heap.size nm fl.kind):=(hB3.block _ (lt_of_block HG1.out)).trans HG1.out
  have HR3:=Hid.intro (((below1 W (Obj.cells #[.string nm,.int .i64 fl.kind,.bool false,.string ⟨#[]⟩,.slice none 0 0,.slice none 0 0] 56)).block _ (lt_of_block HR0.out)).trans HR0.out)
  rw [← hW1] at HR3
  have HR4:=Hid.intro ((hB3.block _ (lt_of_block HR3.out)).trans HR3.out)
  have HB3:=Hid.intro hBw3
  have hlt:w.heap.size + 1 + 1 < W.heap.size:=by have:=HS.out.1; omega
  have HN:Hid (w.heap.size≤W.heap.size∧W.heap.size < W3.heap.size):=⟨by omega,lt_of_block HG3.out⟩
  clear hB3 hBw3 hKs hC hxT hxS HX HE8 HE9 HE10 HR0 HR3 HG1 HBW HBW1 HS hv
  by_cases k3:fl.kind=3
  ·have hk3:(fl.kind == 3)=true:=by rw [k3]; rfl
   have HEG:Hid (gotX (d:=d) nm fl.kind (some x) f=mkGot nm fl.kind false ⟨#[]⟩ [] ((keysV x).filterMap f)):=Hid.intro (by
    show (if fl.kind=1 then _ else gotS nm fl.kind ((keysV x).filterMap f))=_
    rw [if_neg k1]; unfold gotS; rw [if_neg (by omega)])
   clear hkd k1 k3
   rw [hW3] at hcl f3 f8 f9 f10
   rw [hW1] at hcl f3 f8 f9 f10 e2 e3 e5 e6 e7 hlk
   go_enter Tryz.func48,Tryz.ntmps48
   go_wp2_with fail
   refine hcl.mono ?_
   clear hcl f3 f8 f9 f10 e2 e3 e5 e6 e7 hlk
   rw [← hW1,← hW3]
   rintro e w2 ⟨⟨v',sv,rfl,hS⟩,hw2⟩
   have hl:((keysV x).filterMap f).length≤20:=by
    refine Nat.le_trans (List.length_filterMap_le _ _) ?_
    unfold keysV; simp; exact hx20
   obtain ⟨A2,C2,rfl,hc,hf2⟩:=hS.out (by unfold maxLen; show ((keysV x).filterMap f).length≤_; omega)
   obtain ⟨⟨g0,g1,g2,g3,g4,g5⟩,z0,z1,z2,z3,z4,z5⟩:=got_box ((hw2.block _ (lt_of_block HG3.out)).trans HG3.out) rfl
   obtain ⟨⟨x0,x1,x2,x3,x4,x5⟩,y0,y1,y2,y3,y4,y5⟩:=got_box ((hw2.block _ (lt_of_block HR4.out)).trans HR4.out) rfl
   have hne:W.heap.size≠w.heap.size + 1 + 1:=by omega
   have hne':w.heap.size + 1 + 1≠W.heap.size:=by omega
   have HEND:Hid (∀ u c0 c1 c2 c3 c4 c5:Value,Below w.heap.size w (((((((w2.setCell ⟨W.heap.size,5,none⟩ u).setCell ⟨w.heap.size + 1 + 1,0,none⟩ c0).setCell ⟨w.heap.size + 1 + 1,1,none⟩ c1).setCell ⟨w.heap.size + 1 + 1,2,none⟩ c2).setCell ⟨w.heap.size + 1 + 1,3,none⟩ c3).setCell ⟨w.heap.size + 1 + 1,4,none⟩ c4).setCell ⟨w.heap.size + 1 + 1,5,none⟩ c5)∧GotV (fun k=>k < w.heap.size) (((((((w2.setCell ⟨W.heap.size,5,none⟩ u).setCell ⟨w.heap.size + 1 + 1,0,none⟩ c0).setCell ⟨w.heap.size + 1 + 1,1,none⟩ c1).setCell ⟨w.heap.size + 1 + 1,2,none⟩ c2).setCell ⟨w.heap.size + 1 + 1,3,none⟩ c3).setCell ⟨w.heap.size + 1 + 1,4,none⟩ c4).setCell ⟨w.heap.size + 1 + 1,5,none⟩ c5) (mkGot (d:=d) nm fl.kind false ⟨#[]⟩ [] ((keysV x).filterMap f)) none 0 A2 C2):=Hid.intro fun u c0 c1 c2 c3 c4 c5 =>
    ⟨((HB3.out.trans (hw2.mono HB3.out.size)).trans (((OnlyB.refl W.heap.size w2).set 5 u).below (by omega))).trans (gset6.below (by omega)),⟨Nat.le_refl _,hc,gots_nil,(hf2.step (by simp) (fun k _ hk=>Below.heap_setCell _ _ _ _ (by have : ¬ k < W3.heap.size:=hk; have:=HN.out; show k≠W.heap.size; omega)) (fun _ _ hk=>hk)).step (by rw [gset6.size]; exact Nat.le_refl _) (fun k _ hk=>gset6.block k (fun e=>by have : ¬ k < W3.heap.size:=hk; have:=HN.out; omega)) (fun k _ hk=>by show k < W3.heap.size; have:k < w.heap.size:=hk; have:=HN.out; omega)⟩⟩
   clear hS hw2 hf2 hc hl HG3 HR4 HB3 HN hx20 hW1 hW3
   have hle:((keysV x).filterMap f).length=(((List.range x.nk).map x.K).filterMap f).length:=rfl
   generalize (((List.range x.nk).map x.K).filterMap f).length=mm at *
   go_wp2_with fail
   exact bodyPost_ret (v:=gotA (mkGot (d:=d) nm fl.kind false ⟨#[]⟩ [] ((keysV x).filterMap f)) none 0 A2 C2) (by simp [results,Tryz.results48,go_sem,gotA,x0,x1,x2,x3,x4,x5]; exact ⟨rfl,rfl,rfl,rfl,rfl,by rw [← hle]; rfl⟩) rfl ⟨(HEND.out _ _ _ _ _ _ _).1,none,0,A2,C2,by rw [HEG.out],by rw [HEG.out]; exact (HEND.out _ _ _ _ _ _ _).2⟩
  ·have hk3:(fl.kind == 3)=false:=by rw [beq_eq_false_iff_ne]; exact k3
   have k2:fl.kind=2:=by omega
   have hk2:(fl.kind == 2)=true:=by rw [k2]; rfl
   have HEG:Hid (gotX (d:=d) nm fl.kind (some x) f=mkGot nm fl.kind ((keysV x).filterMap f).isEmpty ⟨#[]⟩ (((keysV x).filterMap f).headD []) []):=Hid.intro (by
    show (if fl.kind=1 then _ else gotS nm fl.kind ((keysV x).filterMap f))=_
    rw [if_neg k1]; unfold gotS; rw [if_pos k2])
   clear hkd k1 k3 k2
   rw [hW3] at hcl f3 f8 f9 f10
   rw [hW1] at hcl f3 f8 f9 f10 e2 e3 e5 e6 e7 hlk
   go_enter Tryz.func48,Tryz.ntmps48
   go_wp2_with fail
   refine hcl.mono ?_
   clear hcl f3 f8 f9 f10 e2 e3 e5 e6 e7 hlk
   rw [← hW1,← hW3]
   rintro e w2 ⟨⟨v',sv,rfl,hS⟩,hw2⟩
   have HE:Hid ((keysV x).filterMap f=((List.range x.nk).map x.K).filterMap f):=Hid.intro rfl
   generalize ((List.range x.nk).map x.K).filterMap f=SS at *
   obtain ⟨⟨g0,g1,g2,g3,g4,g5⟩,z0,z1,z2,z3,z4,z5⟩:=got_box ((hw2.block _ (lt_of_block HG3.out)).trans HG3.out) rfl
   obtain ⟨⟨x0,x1,x2,x3,x4,x5⟩,y0,y1,y2,y3,y4,y5⟩:=got_box ((hw2.block _ (lt_of_block HR4.out)).trans HR4.out) rfl
   have hne:W.heap.size≠w.heap.size + 1 + 1:=by omega
   have hne':w.heap.size + 1 + 1≠W.heap.size:=by omega
   by_cases h0:0 < SS.length
   ·obtain ⟨g,cap,A2,C2,rfl,d0,hc,hf2⟩:=hS.first h0
    have hh:SS.headD []=subN SS 0:=by
     cases SS with
     | nil=>simp at h0
     | cons y S=>rfl
    have he:SS.isEmpty=false:=by
     cases SS with
     | nil=>simp at h0
     | cons y S=>rfl
    have hpos:(0:Int) < (SS.length:Int):=by omega
    rw [HE.out,hh,he] at HEG
    have HEND:Hid (∀ u c0 c1 c2 c3 c4 c5:Value,Below w.heap.size w (((((((w2.setCell ⟨W.heap.size,4,none⟩ u).setCell ⟨w.heap.size + 1 + 1,0,none⟩ c0).setCell ⟨w.heap.size + 1 + 1,1,none⟩ c1).setCell ⟨w.heap.size + 1 + 1,2,none⟩ c2).setCell ⟨w.heap.size + 1 + 1,3,none⟩ c3).setCell ⟨w.heap.size + 1 + 1,4,none⟩ c4).setCell ⟨w.heap.size + 1 + 1,5,none⟩ c5)∧GotV (fun k=>k < w.heap.size) (((((((w2.setCell ⟨W.heap.size,4,none⟩ u).setCell ⟨w.heap.size + 1 + 1,0,none⟩ c0).setCell ⟨w.heap.size + 1 + 1,1,none⟩ c1).setCell ⟨w.heap.size + 1 + 1,2,none⟩ c2).setCell ⟨w.heap.size + 1 + 1,3,none⟩ c3).setCell ⟨w.heap.size + 1 + 1,4,none⟩ c4).setCell ⟨w.heap.size + 1 + 1,5,none⟩ c5) (mkGot (d:=d) nm fl.kind false ⟨#[]⟩ (subN SS 0) []) A2 C2 none 0):=Hid.intro fun u c0 c1 c2 c3 c4 c5 =>
     ⟨((HB3.out.trans (hw2.mono HB3.out.size)).trans (((OnlyB.refl W.heap.size w2).set 4 u).below (by omega))).trans (gset6.below (by omega)),⟨hc,Nat.le_refl _,(hf2.step (by simp) (fun k _ hk=>Below.heap_setCell _ _ _ _ (by have : ¬ k < W3.heap.size:=hk; have:=HN.out; show k≠W.heap.size; omega)) (fun _ _ hk=>hk)).step (by rw [gset6.size]; exact Nat.le_refl _) (fun k _ hk=>gset6.block k (fun e=>by have : ¬ k < W3.heap.size:=hk; have:=HN.out; omega)) (fun k _ hk=>by show k < W3.heap.size; have:k < w.heap.size:=hk; have:=HN.out; omega),subs_nil⟩⟩
    clear hS hw2 hf2 hc HG3 HR4 HB3 HN hx20 hW1 hW3 hh he HE h0
    have hle:(gSub (mkGot (d:=d) nm fl.kind false ⟨#[]⟩ (subN SS 0) [])).length=(subN SS 0).length:=rfl
    generalize (subN SS 0).length=mm at *
    generalize SS.length=m2 at *
    go_wp2_with fail
    exact bodyPost_ret (v:=gotA (mkGot (d:=d) nm fl.kind false ⟨#[]⟩ (subN SS 0) []) A2 C2 none 0) (by simp [results,Tryz.results48,go_sem,gotA,x0,x1,x2,x3,x4,x5]; exact ⟨rfl,rfl,rfl,rfl,by rw [hle],rfl⟩) rfl ⟨(HEND.out _ _ _ _ _ _ _).1,A2,C2,none,0,by rw [HEG.out],by rw [HEG.out]; exact (HEND.out _ _ _ _ _ _ _).2⟩
   ·have hS0:SS = []:=List.eq_nil_of_length_eq_zero (by omega)
    subst hS0
    obtain ⟨va,vc,rfl,-⟩:=hS.slice
    rw [HE.out] at HEG
    have HEND:Hid (∀ u c0 c1 c2 c3 c4 c5:Value,Below w.heap.size w (((((((w2.setCell ⟨W.heap.size,2,none⟩ u).setCell ⟨w.heap.size + 1 + 1,0,none⟩ c0).setCell ⟨w.heap.size + 1 + 1,1,none⟩ c1).setCell ⟨w.heap.size + 1 + 1,2,none⟩ c2).setCell ⟨w.heap.size + 1 + 1,3,none⟩ c3).setCell ⟨w.heap.size + 1 + 1,4,none⟩ c4).setCell ⟨w.heap.size + 1 + 1,5,none⟩ c5)):=Hid.intro fun u c0 c1 c2 c3 c4 c5 =>
     ((HB3.out.trans (hw2.mono HB3.out.size)).trans (((OnlyB.refl W.heap.size w2).set 2 u).below (by omega))).trans (gset6.below (by omega))
    clear hS hw2 HG3 HR4 HB3 HN hx20 hW1 hW3 HE h0
    go_wp2_with fail
    exact bodyPost_ret (v:=gotA (mkGot (d:=d) nm fl.kind true ⟨#[]⟩ [] []) none 0 none 0) (by simp [results,Tryz.results48,go_sem,gotA,x0,x1,x2,x3,x4,x5]; exact ⟨rfl,rfl,rfl,rfl,rfl,rfl⟩) rfl ⟨HEND.out _ _ _ _ _ _ _,none,0,none,0,by rw [HEG.out]; rfl,by rw [HEG.out]; exact ⟨Nat.le_refl _,Nat.le_refl _,gots_nil,subs_nil⟩⟩
end Go.Proofs.YtjjggefmmeminacGreat
namespace Go.Proofs.YtjjggefmmeminacGreat
open Go.RowKit Go.Sort Go.PlainAid
structure ChOk (N:Nat) (w:World) (d:Nat) (fl:LField) (o:POwner) (nx:LV) (v:Int→ByteArray→ByteArray→ByteArray→Option LVal) (key nm:ByteArray) (g:Got (d + 1)):Prop where
 svc:(Lit.int .i64 o.svc).wf=true
 type:Small o.type
 field:Small o.field
 kind:fl.kind=1∨fl.kind=2∨fl.kind=3
 ex:∃ S f,(∀ x,v o.svc o.type o.field key=some x→x.nk≤20∧(fl.kind≠1→0 < x.nk→TellFn N w nx d S f)∧∀ j,j < x.nk→x.K j ∈ S)∧gotX nm fl.kind (v o.svc o.type o.field key) f=g
theorem ChOk.later {N:Nat} {w w':World} {d:Nat} {fl:LField} {o:POwner} {nx:LV} {v:Int→ByteArray→ByteArray→ByteArray→Option LVal} {key nm:ByteArray} {g:Got (d + 1)} (h:ChOk N w d fl o nx v key nm g) (hl:Later N w w'):ChOk N w' d fl o nx v key nm g :=
 ⟨h.svc,h.type,h.field,h.kind,let ⟨S,f,h1,h2⟩:=h.ex; ⟨S,f,fun x hx=>let ⟨a,b,c⟩:=h1 x hx; ⟨a,fun k1 k2=>(b k1 k2).step hl,c⟩,h2⟩⟩
theorem gtake_map {α β:Type} (f:α→β) (l:List α) (k:Nat) (h:k < l.length):(l.map f).take (k + 1)=(l.map f).take k ++ [f l[k]]:=by
 rw [List.take_succ_eq_append_getElem (by simpa using h),List.getElem_map]
set_option maxRecDepth 100000 in
set_option maxHeartbeats 2000000 in
theorem tell_any (d N base m m2:Nat) (p:PPart) (ps:List (Pick (d + 1))) (V:Nat→LServ) (L:List PPart) (la:Option Addr) (lc bh bv:Nat) (pv:Nat→Value) (nx:Nat→LV) (c:ByteArray→Nat) (v:Int→ByteArray→ByteArray→ByteArray→Option LVal) (key:ByteArray) (w:World)
  (hR:Row w base 127 11 (.slice la ps.length lc) ps.length (chCell p ps pv nx)) (hpv:∀ i,i < ps.length→∃ a n c,pv i = .slice a n c) (hC:CMap w bh m c) (hM:LMap N w bv m2 v) (hks:Small key) (hc:c key=0 ↔ thereP V p key=false) (hps:ps.length≤60)
  (hch:∀ i,i < ps.length→ChOk N w d (fOf p (pfield (pickN ps i))) (oOf p (pfield (pickN ps i))) (nx i) v key (called (pickN ps i)) (gotK V L (gots V L d) p key (pickN ps i))) :
  Calls Tryz.prog 25 #[.agg #[.slice la ps.length lc,.map (some bh),.map (some bv)],.string key] w fun e w'=>Below w.heap.size w w'∧TellEnd w.heap.size (d + 1) (if thereP V p key=true then some (gots V L (d + 1) p key ps) else none) e w':=by
 obtain ⟨i0,hi0,hz0,hz1,hz2⟩:=info_parts' Tryz.info56
 obtain ⟨r,hr⟩:∃ r,r=if thereP V p key=true then some (gots V L (d + 1) p key ps) else none:=⟨_,rfl⟩
 rw [← hr]
 obtain ⟨G,hG⟩:∃ G,G=gots V L (d + 1) p key ps:=⟨_,rfl⟩
 rw [← hG] at hr
 have HGL:Hid (G.length=ps.length):=Hid.intro (by rw [hG,gots_len])
 have HGT:Hid (∀ k,k < ps.length→G.take (k + 1)=G.take k ++ [gotK V L (gots V L d) p key (pickN ps k)]):=Hid.intro fun k hk=>by rw [hG,gots_succ,gtake_map _ _ _ hk,pickN_get hk]
 clear hG
 generalize hW:w.alloc (Obj.cells #[.slice la ps.length lc,.map (some bh),.map (some bv)] 88)=W
 have hBW:Below w.heap.size w W:=by rw [← hW]; exact below1 _ _
 have l0:W.cell? ⟨w.heap.size,0,none⟩=some (.slice la ps.length lc):=by rw [← hW,World.cell?_alloc_at _ _ _ _ rfl]; rfl
 have l1:W.cell? ⟨w.heap.size,1,none⟩=some (.map (some bh)):=by rw [← hW,World.cell?_alloc_at _ _ _ _ rfl]; rfl
 have l2:W.cell? ⟨w.heap.size,2,none⟩=some (.map (some bv)):=by rw [← hW,World.cell?_alloc_at _ _ _ _ rfl]; rfl
 have hlk:=(hC.kept hBW).look hks
 have HR:=Hid.intro (hR.kept hBW)
 have HM:=Hid.intro (hM.kept hBW)
 have HCH:Hid (∀ i,i < ps.length→ChOk N W d (fOf p (pfield (pickN ps i))) (oOf p (pfield (pickN ps i))) (nx i) v key (called (pickN ps i)) (gotK V L (gots V L d) p key (pickN ps i))):=fun i hi=>(hch i hi).later (Later.of hBW)
 have HPV:=Hid.intro hpv
 have HBW:=Hid.intro hBW
 have hpl:(ps.length:Int)≤60:=by omega
 clear hR hC hM hch hpv hBW
 cases ht:thereP V p key with
 | false =>
  have hc0:c key=0:=hc.2 ht
  have HR0:Hid (r=none):=Hid.intro (by rw [hr,ht]; rfl)
  rw [hc0] at hlk
  clear hc hr ht HR HM HCH HPV HGL HGT hc0
  go_enter Tryz.func25,Tryz.ntmps25
  go_wp2_with fail
  exact bodyPost_ret (v:=.tuple #[.slice none 0 0,.bool false]) (by simp [results,Tryz.results25,go_sem]) rfl ⟨HBW.out,.inl ⟨HR0.out,rfl⟩⟩
 | true =>
  have hc0:c key≠0:=fun h=>by rw [hc.1 h] at ht; cases ht
  have HR0:Hid (r=some G):=Hid.intro (by rw [hr,ht]; rfl)
  have hcb:(((c key:Nat):Int) == 0)=false:=by rw [beq_eq_false_iff_ne]; omega
  clear hc hr ht
  go_enter Tryz.func25,Tryz.ntmps25
  go_wp2_with fail
  clear hW
  obtain ⟨bl,hbl⟩:∃ bl,bl=w.heap.size:=⟨_,rfl⟩
  rw [← hbl] at l0 l1 l2
  rw [← hbl]
  have HBL:=Hid.intro hbl
  clear hbl hlk hcb hc0
  go_loopw [6,17] (fun v i wr => ∃ k:Nat,k≤ps.length∧i = .int .i64 k∧Below W.heap.size W wr∧∃ av sv,GRow W.heap.size wr v (G.take k) av sv) (fun _ i _=>ps.length - (intOf i).toNat)
  case atStart=>exact ⟨0,Nat.zero_le _,rfl,Below.refl _ _,fun _=>undef,fun _=>undef,GRow.nil _ _ _ _ _⟩
  case round =>
   obtain ⟨k,hk,rfl,hw,av,sv,hS⟩:=hrel
   obtain ⟨S,hSd⟩:∃ S,S=G.take k:=⟨_,rfl⟩
   rw [← hSd] at hS
   obtain ⟨va,vc,rfl,hvc⟩:=hS.slice
   by_cases hlt:k < ps.length
   ·have hrow:=HR.out.kept hw
    obtain ⟨ge,cp,hea⟩:∃ g cap,Value.slice la ps.length lc = .slice (some ⟨g,0,none⟩) ps.length cap:=by
     rcases hrow.shape with ⟨-,h0⟩ | ⟨g,cap,hv,-,-,-⟩
     ·omega
     ·exact ⟨g,cap,hv⟩
    cases hea
    obtain ⟨c0,c1,c2,c3,c4,c5,c6,c7,c8,c9,c10⟩:=chCells hrow hlt
    obtain ⟨pa,pn,pc,hpk⟩:=HPV.out k hlt
    rw [hpk] at c1
    have hch:=(HCH.out k hlt).later (Later.of hw)
    obtain ⟨S1,f1,hx,hgx⟩:=hch.ex
    have m0:=keptCell hw l0
    have m1:=keptCell hw l1
    have m2':=keptCell hw l2
    have hblt:bl < wr.heap.size:=block_lt_of_cell m0
    have hlt':(k:Int) < (ps.length:Int):=by omega
    have hk0:(0:Int)≤(k:Int):=by omega
    have hSl:S.length≤k:=by rw [hSd,List.length_take]; omega
    have HT:Hid (G.take (k + 1)=S ++ [gotK V L (gots V L d) p key (pickN ps k)]):=Hid.intro (by rw [HGT.out k hlt,← hSd])
    generalize gotK V L (gots V L d) p key (pickN ps k)=gg at *
    generalize fOf p (pfield (pickN ps k))=fl at *
    generalize oOf p (pfield (pickN ps k))=o at *
    generalize called (pickN ps k)=nm at *
    generalize nx k=nk at *
    obtain ⟨X,hX⟩:∃ X,X=wr.alloc (Obj.cells #[.string nm,.slice pa pn pc,.string fl.name,.int .i64 fl.kind,.string fl.type,.int .i64 o.svc,.string o.type,.string o.field,.slice nk.a nk.n nk.c,.map nk.h,.map nk.v] 127):=⟨_,rfl⟩
    have hBX:Below wr.heap.size wr X:=by rw [hX]; exact below1 _ _
    have hcl:=got_any d N (some ⟨ge,0,none⟩) ps.length lc bv m2 (some bh) nm pa pn pc fl o nk key S1 f1 v X ((HM.out.kept hw).kept hBX) hch.svc hch.type hch.field hks hch.kind (fun x hv=>let ⟨a,b,e⟩:=hx x hv; ⟨a,fun k1 k2=>(b k1 k2).step (Later.of hBX),e⟩)
    rw [hgx] at hcl
    have HS:=Hid.intro (hS.kept hBX)
    have HWX:Hid (Below W.heap.size W X):=hw.trans (hBX.mono hw.size)
    rw [hX] at hcl
    clear hS hSd hx hgx hch hrow hBX hpk
    go_wp2_with fail
    refine hcl.mono ?_
    clear hcl
    rw [← hX]
    rintro e w3 ⟨hw3,A,C,A2,C2,rfl,hgv⟩
    have hw4:Below W.heap.size W w3:=HWX.out.trans (hw3.mono HWX.out.size)
    have HR1:=Hid.intro ((HS.out.kept hw3).kept (below1 w3 (Obj.cells (gotCs gg A C A2 C2) 56)))
    have HGV:=Hid.intro (hgv.kept (below1 w3 (Obj.cells (gotCs gg A C A2 C2) 56)))
    have HW4:Hid (Below W.heap.size W (w3.alloc (Obj.cells (gotCs gg A C A2 C2) 56))):=hw4.trans ((below1 w3 _).mono hw4.size)
    have HOW:=Hid.intro HR1.out.row
    have hNa:W.heap.size≤(w3.alloc (Obj.cells (gotCs gg A C A2 C2) 56)).heap.size:=HW4.out.size
    have HVB:Hid (∀ q,(Value.slice va S.length vc).ownBlock=some q→q < X.heap.size∧W.heap.size≤q):=fun q hq=>⟨(HS.out.row.lt hq).2,(HS.out.row.lt hq).1⟩
    have hNX:W.heap.size≤X.heap.size:=HWX.out.size
    clear hw3 hw4 hgv HS HWX c0 c1 c2 c3 c4 c5 c6 c7 c8 c9 c10 m0 m1 m2' hX
    unfold gotA
    unfold gotCs at HR1 HGV HW4 HOW hNa
    go_wp2_with (at_builtin; refine wpList_append_any _ rfl _ _ 27 rfl W.heap.size 56 i0 _ 6 96 Tryz.underlying27 hi0 hz0 hz1 hz2 rfl (by decide) _ S.length _ rfl HOW.out (some ⟨w3.heap.size,0,none⟩) 1 1 (gotL gg (.slice A (gSub gg).length C) (.slice A2 (gSubs gg).length C2)) rfl rfl (alloc_news w3 _ _) (fun h=>by cases h) (by intro u hu; simp [gotL] at hu; rcases hu with rfl | rfl | rfl | rfl | rfl | rfl <;> rfl) (by unfold maxLen; omega) (by omega) hNa ?_)
    intro v' w5 hown hgr hvb
    have HS5:Hid (∃ av' sv',GRow W.heap.size w5 v' (G.take (k + 1)) av' sv'):=by
     rw [HT.out]
     exact ⟨_,_,HR1.out.app HGV.out hNX (fun q hq=>(HVB.out q hq).1) hown hgr (by simpa using hvb)⟩
    have HW5:Hid (Below W.heap.size W w5):=HW4.out.grown hgr hNa (fun q hq=>(HVB.out q hq).2)
    clear hown hgr hvb HOW HR1 HGV HVB
    go_wp2_with fail
    go_roundw
    case rel=>exact ⟨k + 1,by omega,by go_num,HW5.out,HS5.out⟩
    case measure=>simp [intOf]; omega
   ·have hkn:k=ps.length:=by omega
    have HF:Hid (∃ L' a c,r=some L'∧Value.slice va S.length vc = .slice a L'.length c∧L'.length≤c∧GotsOut w.heap.size (d + 1) wr a c L'):=by
     have e1:S=G:=by rw [hSd,List.take_of_length_le (by rw [HGL.out]; omega)]
     subst e1
     exact ⟨S,va,vc,HR0.out,rfl,hvc,by rw [HGL.out]; unfold maxLen; omega,av,sv,hS.base HBW.out.size⟩
    have HW:Hid (Below w.heap.size w wr):=HBW.out.trans (hw.mono HBW.out.size)
    clear hS hw hSd
    go_wp2_with fail
    obtain ⟨L',a,c,q1,q2,q3,q4⟩:=HF.out
    exact bodyPost_ret (v:=.tuple #[.slice va S.length vc,.bool true]) (by simp [results,Tryz.results25,go_sem]) rfl ⟨HW.out,.inr ⟨L',a,c,q1,by rw [q2],q3,q4⟩⟩
end Go.Proofs.YtjjggefmmeminacGreat
