import Derived.Test.YtjjggefmmeminabGreatMnThere
import Derived.Test.YtjjggefmmeminabGreatMnGot
import Derived.Laws.EntriesVeiled
namespace Go.Proofs.YtjjggefmmeminabGreat
open Go.RowKit Go.Sort Go.PlainAid
def IsFn (v:Value) (K:Nat) (caps:Array Value):Prop:=v = .func (.func K) #[] caps∧∀ args w,(callFunc K args).run Tryz.prog w = .ok (.enter K args) w
def GetEnd (N0 d:Nat) (r:Option (List (Got d))) (e:Ending) (w':World):Prop:=(r=none∧e = .returned (.tuple #[.slice none 0 0,.bool false]))∨∃ L a c,r=some L∧e = .returned (.tuple #[.slice a L.length c,.bool true])∧L.length≤c∧GotsOut N0 d w' a c L
def GetFn (X:Nat→Prop) (w:World) (v:Value) (d:Nat) (f:ByteArray→Option (List (Got d))):Prop := ∃ K caps,IsFn v K caps∧∀ w1,KeepX X w w1→∀ key,Small key→Calls Tryz.prog K (#[.string key] ++ caps) w1 fun e w'=>Below w1.heap.size w1 w'∧GetEnd w1.heap.size d (f key) e w'
theorem GetFn.step {X Y:Nat→Prop} {w w':World} {v:Value} {d:Nat} {f : ByteArray→Option (List (Got d))} (h:GetFn X w v d f) (hk:KeepX X w w') (hY:∀ k,k < w.heap.size→Y k→X k):GetFn Y w' v d f:=by
 obtain ⟨K,caps,h1,h2⟩:=h
 exact ⟨K,caps,h1,fun w1 hw1=>h2 w1 (hk.trans hw1 hY)⟩
theorem GetFn.kept {X:Nat→Prop} {w w':World} {v:Value} {d:Nat} {f : ByteArray→Option (List (Got d))} (h:GetFn X w v d f) (hB:Below w.heap.size w w'):GetFn X w' v d f:=h.step (KeepX.of hB) fun _ _ h=>h
def PickFn (X:Nat→Prop) (w:World) (v:Value) (d:Nat) (f:ByteArray→Got (d + 1)):Prop := ∃ K caps,IsFn v K caps∧∀ w1,KeepX X w w1→∀ key,Small key→Calls Tryz.prog K (#[.string key] ++ caps) w1 fun e w'=>Below w1.heap.size w1 w'∧∃ A C A2 C2,e = .returned (gotA (f key) A C A2 C2)∧GotV (fun k=>k < w1.heap.size) w' (f key) A C A2 C2
theorem PickFn.step {X Y:Nat→Prop} {w w':World} {v:Value} {d:Nat} {f : ByteArray→Got (d + 1)} (h:PickFn X w v d f) (hk:KeepX X w w') (hY:∀ k,k < w.heap.size→Y k→X k):PickFn Y w' v d f:=by
 obtain ⟨K,caps,h1,h2⟩:=h
 exact ⟨K,caps,h1,fun w1 hw1=>h2 w1 (hk.trans hw1 hY)⟩
theorem PickFn.kept {X:Nat→Prop} {w w':World} {v:Value} {d:Nat} {f : ByteArray→Got (d + 1)} (h:PickFn X w v d f) (hB:Below w.heap.size w w'):PickFn X w' v d f:=h.step (KeepX.of hB) fun _ _ h=>h
structure ValOk (w:World) (v:LVal):Prop where
 keys:KeysAt w v.ka v.nk v.K
 few:v.nk≤20
theorem ValOk.kept {w w':World} {v:LVal} (h:ValOk w v) (hB:Below w.heap.size w w'):ValOk w' v:=⟨h.keys.kept hB,h.few⟩
def FillFn (X:Nat→Prop) (w:World) (v:Value) (d:Nat) (kd:Int) (f:ByteArray→LVal→Got (d + 1)):Prop := ∃ K caps,IsFn v K caps∧∀ w1,KeepX X w w1→∀ (b:Nat) (nm:ByteArray) (x:LVal),w1.heap[b]? = some (.cells #[.string nm,.int .i64 kd,.bool false,.string ⟨#[]⟩,.slice none 0 0,.slice none 0 0] 56 (0,0))→ValOk w1 x →
 Calls Tryz.prog K (#[.pointer (some ⟨b,0,none⟩),valA x] ++ caps) w1 fun e w'=>e = .returned (.tuple #[])∧Keep (fun k=>k < w1.heap.size∧k≠b) w1 w'∧∃ A C A2 C2,w'.heap[b]? = some (.cells (gotCs (f nm x) A C A2 C2) 56 (0,0))∧GotV (fun k=>k < w1.heap.size) w' (f nm x) A C A2 C2
theorem FillFn.step {X Y:Nat→Prop} {w w':World} {v:Value} {d:Nat} {kd:Int} {f : ByteArray→LVal→Got (d + 1)} (h:FillFn X w v d kd f) (hk:KeepX X w w') (hY:∀ k,k < w.heap.size→Y k→X k):FillFn Y w' v d kd f:=by
 obtain ⟨K,caps,h1,h2⟩:=h
 exact ⟨K,caps,h1,fun w1 hw1=>h2 w1 (hk.trans hw1 hY)⟩
theorem FillFn.kept {X:Nat→Prop} {w w':World} {v:Value} {d:Nat} {kd:Int} {f : ByteArray→LVal→Got (d + 1)} (h:FillFn X w v d kd f) (hB:Below w.heap.size w w'):FillFn X w' v d kd f:=h.step (KeepX.of hB) fun _ _ h=>h
theorem filterMap_snoc {α β:Type} (f:α→Option β) (l:List α) (x:α):(l ++ [x]).filterMap f=l.filterMap f ++ (f x).toList:=by
 rw [List.filterMap_append]
 cases h:f x <;> simp [h]
theorem take_key {K:Nat→ByteArray} {n k:Nat} (h:k < n):((List.range n).map K).take (k + 1)=((List.range n).map K).take k ++ [K k]:=by
 rw [← List.map_take,← List.map_take,List.take_range,List.take_range,show min (k + 1) n=k + 1 by omega,show min k n=k by omega,List.range_succ,List.map_append]; rfl
set_option maxRecDepth 100000 in
set_option maxHeartbeats 1000000 in
theorem ofEach_any (d:Nat) (ka:Option Addr) (nk kcap:Nat) (K:Nat→ByteArray) (gv:Value) (f:ByteArray→Option (List (Got d))) (w:World) (hK:KeysAt w ka nk K) (hn:nk≤20) (hG:GetFn noB w gv d f) :
  Calls Tryz.prog 98 #[.slice ka nk kcap,gv] w fun e w'=>(∃ v sv,e = .returned v∧SRow w.heap.size w' v (((List.range nk).map K).filterMap f) sv)∧Below w.heap.size w w':=by
 obtain ⟨i0,hi0,hz0,hz1,hz2⟩:=info_parts' Tryz.info26
 obtain ⟨F,caps,⟨rfl,eF⟩,hF⟩:=hG
 have HF:=Hid.intro hF
 have HK:=Hid.intro hK
 clear hK hF
 go_enter Tryz.func98,Tryz.ntmps98
 go_wp2_with fail
 go_loopw [5,12] (fun v i wr => ∃ k:Nat,k≤nk∧i = .int .i64 k∧Below w.heap.size w wr∧∃ sv,SRow w.heap.size wr v ((((List.range nk).map K).take k).filterMap f) sv) (fun _ i _=>nk - (intOf i).toNat)
 case atStart=>exact ⟨0,Nat.zero_le _,rfl,Below.refl _ _,fun _=>undef,SRow.nil _ _ _ _⟩
 case round =>
  obtain ⟨k,hk,rfl,hw,sv,hS⟩:=hrel
  obtain ⟨S,hSd⟩:∃ S,S=(((List.range nk).map K).take k).filterMap f:=⟨_,rfl⟩
  rw [← hSd] at hS
  obtain ⟨va,vc,rfl,hvc⟩:=hS.slice
  by_cases hlt:k < nk
  ·obtain ⟨b,o,rfl,c0,hsm⟩:=(HK.out.kept hw).2 k hlt
   have hlt':(k:Int) < (nk:Int):=by omega
   have hk0:(0:Int)≤(k:Int):=by omega
   have hSl:S.length≤k:=by
    rw [hSd]
    refine Nat.le_trans (List.length_filterMap_le _ _) ?_
    simp
    omega
   have HT:Hid ((((List.range nk).map K).take (k + 1)).filterMap f=S ++ (f (K k)).toList):=Hid.intro (by rw [take_key hlt,filterMap_snoc,← hSd])
   have hcl:=HF.out wr (KeepX.of hw) (K k) hsm
   have HS:=Hid.intro hS
   clear hS hSd hsm
   go_wp2_with fail
   refine hcl.mono ?_
   clear hcl
   rintro e w1 ⟨hw1,h⟩
   have hw2:Below w.heap.size w w1:=hw.trans (hw1.mono hw.size)
   rcases h with ⟨hf,rfl⟩ | ⟨L,a,c,hf,rfl,hc,hout⟩
   ·have HS1:Hid (SRow w.heap.size w1 (.slice va S.length vc) ((((List.range nk).map K).take (k + 1)).filterMap f) sv):=by
     rw [HT.out,hf,Option.toList_none,List.append_nil]
     exact HS.out.kept hw1
    have HW2:=Hid.intro hw2
    clear hw1 hw2 hf HS HT c0
    go_wp2_with fail
    go_roundw
    case rel=>exact ⟨k + 1,by omega,by go_num,HW2.out,sv,HS1.out⟩
    case measure=>simp [intOf]; omega
   ·have HT1:Hid ((((List.range nk).map K).take (k + 1)).filterMap f=S ++ [L]):=by rw [HT.out,hf]; rfl
    have HR:=Hid.intro ((HS.out.kept hw1).kept (below1 w1 (Obj.cells #[.slice a L.length c] 26)))
    have HFr:=Hid.intro (hout.free.kept (below1 w1 (Obj.cells #[.slice a L.length c] 26)))
    have HW2:Hid (Below w.heap.size w (w1.alloc (Obj.cells #[.slice a L.length c] 26))):=hw2.trans ((below1 w1 _).mono hw2.size)
    have HOW:=Hid.intro HR.out.row
    have hNa:w.heap.size≤(w1.alloc (Obj.cells #[.slice a L.length c] 26)).heap.size:=HW2.out.size
    have hNw:w.heap.size≤wr.heap.size:=hw.size
    have HVB:Hid (∀ q,(Value.slice va S.length vc).ownBlock=some q→q < wr.heap.size∧w.heap.size≤q):=fun q hq=>⟨(HS.out.row.lt hq).2,(HS.out.row.lt hq).1⟩
    clear hw1 hw2 hf HS HT c0 hout
    go_wp2_with (at_builtin; refine wpList_append_any _ rfl _ _ 54 rfl w.heap.size 26 i0 _ 1 24 Tryz.underlying54 hi0 hz0 hz1 hz2 rfl (by decide) _ S.length _ rfl HOW.out (some ⟨w1.heap.size,0,none⟩) 1 1 [.slice a L.length c] rfl rfl (alloc_news w1 #[.slice a L.length c] _) (fun h=>by cases h) (by intro u hu; simp at hu; subst hu; rfl) (by unfold maxLen; omega) (by omega) hNa ?_)
    intro v' w4 hown hgr hvb
    have HS4:Hid (SRow w.heap.size w4 v' ((((List.range nk).map K).take (k + 1)).filterMap f) (fun i=>if i=S.length then .slice a L.length c else sv i)):=by
     rw [HT1.out]
     exact HR.out.app hc HFr.out hNw (fun q hq=>(HVB.out q hq).1) (by rw [Nat.mul_one]; exact hown) hgr (by simpa using hvb)
    have HW4:Hid (Below w.heap.size w w4):=HW2.out.grown hgr hNa (fun q hq=>(HVB.out q hq).2)
    clear hown hgr hvb HOW HR HFr HVB
    go_wp2_with fail
    go_roundw
    case rel=>exact ⟨k + 1,by omega,by go_num,HW4.out,_,HS4.out⟩
    case measure=>simp [intOf]; omega
  ·have hkn:k=nk:=by omega
   have HF:Hid (SRow w.heap.size wr (.slice va S.length vc) (((List.range nk).map K).filterMap f) sv):=by
    have e2:(((List.range nk).map K).take k).filterMap f=((List.range nk).map K).filterMap f:=by rw [List.take_of_length_le (by simp; omega)]
    rw [← e2,← hSd]
    exact hS
   have HW:=Hid.intro hw
   clear hS hw hSd
   go_wp2_with fail
   go_ret
   exact ⟨⟨_,sv,rfl,HF.out⟩,HW.out⟩
end Go.Proofs.YtjjggefmmeminabGreat
namespace Go.Proofs.YtjjggefmmeminabGreat
open Go.RowKit Go.Sort Go.PlainAid
theorem Tryz.e96:∀ args w,(callFunc 96 args).run Tryz.prog w = .ok (.enter 96 args) w:=enters_of Tryz.func96 (by kernel_rfl) rfl
theorem Tryz.e97:∀ args w,(callFunc 97 args).run Tryz.prog w = .ok (.enter 97 args) w:=enters_of Tryz.func97 (by kernel_rfl) rfl
theorem Tryz.e99:∀ args w,(callFunc 99 args).run Tryz.prog w = .ok (.enter 99 args) w:=enters_of Tryz.func99 (by kernel_rfl) rfl
def GBox (w:World) (b:Nat) (nm:ByteArray) (kd:Int):Prop:=w.heap[b]? = some (.cells #[.string nm,.int .i64 kd,.bool false,.string ⟨#[]⟩,.slice none 0 0,.slice none 0 0] 56 (0,0))
theorem GBox.cells {w:World} {b:Nat} {nm:ByteArray} {kd:Int} (h:GBox w b nm kd):w.cell? ⟨b,0,none⟩=some (.string nm)∧w.cell? ⟨b,1,none⟩=some (.int .i64 kd)∧w.cell? ⟨b,2,none⟩=some (.bool false)∧w.cell? ⟨b,3,none⟩=some (.string ⟨#[]⟩)∧w.cell? ⟨b,4,none⟩=some (.slice none 0 0)∧w.cell? ⟨b,5,none⟩=some (.slice none 0 0):=by
 have h':w.heap[b]? = _:=h
 simp [World.cell?,h']
theorem GBox.free {w:World} {b:Nat} {nm:ByteArray} {kd:Int} (h:GBox w b nm kd):w.frozen? ⟨b,2,none⟩=false∧w.frozen? ⟨b,3,none⟩=false∧w.frozen? ⟨b,4,none⟩=false∧w.frozen? ⟨b,5,none⟩=false:=by
 have h':w.heap[b]? = _:=h
 simp [World.frozen?,h']
theorem GBox.set {w:World} {b:Nat} {nm:ByteArray} {kd:Int} (h:GBox w b nm kd) (j:Nat) (u:Value):(w.setCell ⟨b,j,none⟩ u).heap[b]? = some (.cells ((#[.string nm,.int .i64 kd,.bool false,.string ⟨#[]⟩,.slice none 0 0,.slice none 0 0]:Array Value).setIfInBounds j u) 56 (0,0)):=heap_setCell_same w b j _ 56 u h
theorem gbox_keep {w1 w2:World} {b j:Nat} (hB:Below w1.heap.size w1 w2) (u:Value):Keep (fun k=>k < w1.heap.size∧k≠b) w1 (w2.setCell ⟨b,j,none⟩ u) :=
 (Keep.of hB fun _ h=>h.1).trans (Keep.set _ _ _ fun h=>h.2 rfl)
set_option maxRecDepth 100000 in
set_option maxHeartbeats 400000 in
theorem fill1_any (b:Nat) (nm:ByteArray) (kd:Int) (x:LVal) (w1:World) (hb:GBox w1 b nm kd) :
  Calls Tryz.prog 96 #[.pointer (some ⟨b,0,none⟩),.agg #[.string x.field,.string x.text,.slice x.ka x.nk x.kcap]] w1 fun e w'=>e = .returned (.tuple #[])∧Keep (fun k=>k < w1.heap.size∧k≠b) w1 w'∧w'.heap[b]? = some (.cells #[.string nm,.int .i64 kd,.bool false,.string x.text,.slice none 0 0,.slice none 0 0] 56 (0,0)):=by
 have hlt:b < w1.heap.size:=lt_of_block hb
 generalize hW:w1.alloc (Obj.cells #[.string x.field,.string x.text,.slice x.ka x.nk x.kcap] 120)=W
 have hBW:Below w1.heap.size w1 W:=by rw [← hW]; exact below1 _ _
 have e1:W.cell? ⟨w1.heap.size,1,none⟩=some (.string x.text):=by rw [← hW,World.cell?_alloc_at _ _ _ _ rfl]; rfl
 have hb2:GBox W b nm kd:=(hBW.block b hlt).trans hb
 obtain ⟨c0,c1,c2,c3,c4,c5⟩:=hb2.cells
 obtain ⟨f2,f3,f4,f5⟩:=hb2.free
 have HF:Hid (Keep (fun k=>k < w1.heap.size∧k≠b) w1 (W.setCell ⟨b,3,none⟩ (.string x.text))∧(W.setCell ⟨b,3,none⟩ (.string x.text)).heap[b]? = some (.cells #[.string nm,.int .i64 kd,.bool false,.string x.text,.slice none 0 0,.slice none 0 0] 56 (0,0))):=⟨gbox_keep hBW _,hb2.set 3 _⟩
 clear hb hb2 hBW c0 c1 c2 c4 c5 f2 f4 f5
 go_enter Tryz.func96,Tryz.ntmps96
 go_wp2_with fail
 exact bodyPost_end (v:=.tuple #[]) (by simp [results,Tryz.results96,go_sem]) rfl ⟨rfl,HF.out⟩
set_option maxRecDepth 100000 in
set_option maxHeartbeats 400000 in
theorem fill2_any (d b bg:Nat) (nm:ByteArray) (kd:Int) (x:LVal) (gv:Value) (f:ByteArray→Option (List (Got d))) (w1:World) (hb:GBox w1 b nm kd) (hx:ValOk w1 x) (hg:w1.cell? ⟨bg,0,none⟩=some gv) (hG:GetFn noB w1 gv d f) :
  Calls Tryz.prog 97 #[.pointer (some ⟨b,0,none⟩),.agg #[.string x.field,.string x.text,.slice x.ka x.nk x.kcap],.pointer (some ⟨bg,0,none⟩)] w1 fun e w'=>e = .returned (.tuple #[])∧Keep (fun k=>k < w1.heap.size∧k≠b) w1 w'∧∃ A2 C2,w'.heap[b]? = some (.cells #[.string nm,.int .i64 kd,.bool false,.string ⟨#[]⟩,.slice none 0 0,.slice A2 ((keysV x).filterMap f).length C2] 56 (0,0))∧((keysV x).filterMap f).length≤C2∧Free (fun k=>k < w1.heap.size) w' (fun w=>SubsAt w (GotsAt w d) A2 ((keysV x).filterMap f)):=by
 have hlt:b < w1.heap.size:=lt_of_block hb
 generalize hW:w1.alloc (Obj.cells #[.string x.field,.string x.text,.slice x.ka x.nk x.kcap] 120)=W
 have hBW:Below w1.heap.size w1 W:=by rw [← hW]; exact below1 _ _
 have e2:W.cell? ⟨w1.heap.size,2,none⟩=some (.slice x.ka x.nk x.kcap):=by rw [← hW,World.cell?_alloc_at _ _ _ _ rfl]; rfl
 have e3:=keptCell hBW hg
 have hcl:=ofEach_any d x.ka x.nk x.kcap x.K gv f W (hx.kept hBW).keys hx.few (hG.kept hBW)
 have hb2:GBox W b nm kd:=(hBW.block b hlt).trans hb
 have HB2:=Hid.intro hb2
 have HBW:=Hid.intro hBW
 have hfew:=hx.few
 clear hb hb2 hBW hx hG hg
 go_enter Tryz.func97,Tryz.ntmps97
 go_wp2_with fail
 clear hW
 refine hcl.mono ?_
 clear hcl
 rintro e w2 ⟨⟨v,sv,rfl,hS⟩,hw2⟩
 have hl:((keysV x).filterMap f).length≤20:=by
  refine Nat.le_trans (List.length_filterMap_le _ _) ?_
  unfold keysV; simp; exact hfew
 obtain ⟨A2,C2,rfl,hc,hf⟩:=hS.out (by unfold maxLen; show ((keysV x).filterMap f).length≤_; omega)
 have hW2:Below w1.heap.size w1 w2:=HBW.out.trans (hw2.mono HBW.out.size)
 have hb3:GBox w2 b nm kd:=(hw2.block b (lt_of_block HB2.out)).trans HB2.out
 obtain ⟨c0,c1,c2,c3,c4,c5⟩:=hb3.cells
 obtain ⟨f2,f3,f4,f5⟩:=hb3.free
 have hsz:=HBW.out.size
 have HF:Hid (Keep (fun k=>k < w1.heap.size∧k≠b) w1 (w2.setCell ⟨b,5,none⟩ (.slice A2 (((List.range x.nk).map x.K).filterMap f).length C2))∧∃ A2' C2',(w2.setCell ⟨b,5,none⟩ (.slice A2 (((List.range x.nk).map x.K).filterMap f).length C2)).heap[b]? = some (.cells #[.string nm,.int .i64 kd,.bool false,.string ⟨#[]⟩,.slice none 0 0,.slice A2' ((keysV x).filterMap f).length C2'] 56 (0,0))∧((keysV x).filterMap f).length≤C2'∧Free (fun k=>k < w1.heap.size) (w2.setCell ⟨b,5,none⟩ (.slice A2 (((List.range x.nk).map x.K).filterMap f).length C2)) (fun w=>SubsAt w (GotsAt w d) A2' ((keysV x).filterMap f))) :=
  ⟨gbox_keep hW2 _,A2,C2,hb3.set 5 _,hc,hf.step (by simp) (fun k _ hk=>Below.heap_setCell _ _ _ _ (by have : ¬ k < W.heap.size:=hk; show k≠b; omega)) (fun k _ hk=>by show k < W.heap.size; have:k < w1.heap.size:=hk; omega)⟩
 clear hS hw2 hf hc hl hW2 hb3 c0 c1 c2 c3 c4 f2 f3 f4 hsz e2 e3
 generalize (((List.range x.nk).map x.K).filterMap f).length=m at *
 go_wp2_with fail
 exact bodyPost_end (v:=.tuple #[]) (by simp [results,Tryz.results97,go_sem]) rfl ⟨rfl,HF.out⟩
set_option maxRecDepth 100000 in
set_option maxHeartbeats 400000 in
theorem fill3_any (d b bg:Nat) (nm:ByteArray) (kd:Int) (x:LVal) (gv:Value) (f:ByteArray→Option (List (Got d))) (w1:World) (hb:GBox w1 b nm kd) (hx:ValOk w1 x) (hg:w1.cell? ⟨bg,0,none⟩=some gv) (hG:GetFn noB w1 gv d f) :
  Calls Tryz.prog 99 #[.pointer (some ⟨b,0,none⟩),.agg #[.string x.field,.string x.text,.slice x.ka x.nk x.kcap],.pointer (some ⟨bg,0,none⟩)] w1 fun e w'=>e = .returned (.tuple #[])∧Keep (fun k=>k < w1.heap.size∧k≠b) w1 w'∧∃ A C,w'.heap[b]? = some (.cells #[.string nm,.int .i64 kd,.bool ((keysV x).filterMap f).isEmpty,.string ⟨#[]⟩,.slice A (((keysV x).filterMap f).headD []).length C,.slice none 0 0] 56 (0,0))∧(((keysV x).filterMap f).headD []).length≤C∧Free (fun k=>k < w1.heap.size) w' (fun w=>GotsAt w d A (((keysV x).filterMap f).headD [])):=by
 have hlt:b < w1.heap.size:=lt_of_block hb
 generalize hW:w1.alloc (Obj.cells #[.string x.field,.string x.text,.slice x.ka x.nk x.kcap] 120)=W
 have hBW:Below w1.heap.size w1 W:=by rw [← hW]; exact below1 _ _
 have e2:W.cell? ⟨w1.heap.size,2,none⟩=some (.slice x.ka x.nk x.kcap):=by rw [← hW,World.cell?_alloc_at _ _ _ _ rfl]; rfl
 have e3:=keptCell hBW hg
 have hcl:=ofEach_any d x.ka x.nk x.kcap x.K gv f W (hx.kept hBW).keys hx.few (hG.kept hBW)
 have hb2:GBox W b nm kd:=(hBW.block b hlt).trans hb
 have HB2:=Hid.intro hb2
 have HBW:=Hid.intro hBW
 have hfew:=hx.few
 clear hb hb2 hBW hx hG hg
 go_enter Tryz.func99,Tryz.ntmps99
 go_wp2_with fail
 clear hW
 refine hcl.mono ?_
 clear hcl
 rintro e w2 ⟨⟨v,sv,rfl,hS⟩,hw2⟩
 have HE:Hid ((keysV x).filterMap f=((List.range x.nk).map x.K).filterMap f):=Hid.intro rfl
 generalize ((List.range x.nk).map x.K).filterMap f=S at *
 have hW2:Below w1.heap.size w1 w2:=HBW.out.trans (hw2.mono HBW.out.size)
 have hb3:GBox w2 b nm kd:=(hw2.block b (lt_of_block HB2.out)).trans HB2.out
 obtain ⟨c0,c1,c2,c3,c4,c5⟩:=hb3.cells
 obtain ⟨f2,f3,f4,f5⟩:=hb3.free
 have hsz:=HBW.out.size
 by_cases h0:0 < S.length
 ·obtain ⟨g,cap,A,C,rfl,d0,hc,hf⟩:=hS.first h0
  have hh:S.headD []=subN S 0:=by
   cases S with
   | nil=>simp at h0
   | cons y S=>rfl
  have he:S.isEmpty=false:=by
   cases S with
   | nil=>simp at h0
   | cons y S=>rfl
  have hpos:(0:Int) < (S.length:Int):=by omega
  have HF:Hid (Keep (fun k=>k < w1.heap.size∧k≠b) w1 (w2.setCell ⟨b,4,none⟩ (.slice A (subN S 0).length C))∧∃ A' C',(w2.setCell ⟨b,4,none⟩ (.slice A (subN S 0).length C)).heap[b]? = some (.cells #[.string nm,.int .i64 kd,.bool ((keysV x).filterMap f).isEmpty,.string ⟨#[]⟩,.slice A' (((keysV x).filterMap f).headD []).length C',.slice none 0 0] 56 (0,0))∧(((keysV x).filterMap f).headD []).length≤C'∧Free (fun k=>k < w1.heap.size) (w2.setCell ⟨b,4,none⟩ (.slice A (subN S 0).length C)) (fun w=>GotsAt w d A' (((keysV x).filterMap f).headD []))):=by
   rw [HE.out,hh,he]
   exact ⟨gbox_keep hW2 _,A,C,hb3.set 4 _,hc,hf.step (by simp) (fun k _ hk=>Below.heap_setCell _ _ _ _ (by have : ¬ k < W.heap.size:=hk; show k≠b; omega)) (fun k _ hk=>by show k < W.heap.size; have:k < w1.heap.size:=hk; omega)⟩
  clear hS hw2 hf hc hW2 hb3 c0 c1 c2 c3 c5 f2 f3 f5 hsz e2 e3 hh he HE h0
  generalize (subN S 0).length=m at *
  generalize S.length=m2 at *
  go_wp2_with fail
  exact bodyPost_end (v:=.tuple #[]) (by simp [results,Tryz.results99,go_sem]) rfl ⟨rfl,HF.out⟩
 ·have hS0:S = []:=List.eq_nil_of_length_eq_zero (by omega)
  subst hS0
  obtain ⟨va,vc,rfl,-⟩:=hS.slice
  have HF:Hid (Keep (fun k=>k < w1.heap.size∧k≠b) w1 (w2.setCell ⟨b,2,none⟩ (.bool true))∧∃ A' C',(w2.setCell ⟨b,2,none⟩ (.bool true)).heap[b]? = some (.cells #[.string nm,.int .i64 kd,.bool ((keysV x).filterMap f).isEmpty,.string ⟨#[]⟩,.slice A' (((keysV x).filterMap f).headD []).length C',.slice none 0 0] 56 (0,0))∧(((keysV x).filterMap f).headD []).length≤C'∧Free (fun k=>k < w1.heap.size) (w2.setCell ⟨b,2,none⟩ (.bool true)) (fun w=>GotsAt w d A' (((keysV x).filterMap f).headD []))):=by
   rw [HE.out]
   exact ⟨gbox_keep hW2 _,none,0,hb3.set 2 _,Nat.le_refl _,gots_nil⟩
  clear hS hw2 hW2 hb3 c0 c1 c3 c4 c5 f3 f4 f5 hsz e2 e3 HE h0
  go_wp2_with fail
  exact bodyPost_end (v:=.tuple #[]) (by simp [results,Tryz.results99,go_sem]) rfl ⟨rfl,HF.out⟩
structure EnvN (N0:Nat) (w:World) (pv vv:Value) (n:Nat) (V:Nat→LServ) (L:List PPart):Prop where
 size:N0≤w.heap.size
 parts:∃ Z rv,∀ w1,Keep (fun k=>k < N0) w w1→Parts Z w1 pv L rv
 finds:∃ bm bl m la cap,vv=findV bm bl∧∀ w1,Keep (fun k=>k < N0) w w1→FindsM w1 bm bl m la n cap V∧ServsAt w1 la n V
theorem EnvN.now {N0:Nat} {w:World} {pv vv:Value} {n:Nat} {V:Nat→LServ} {L:List PPart} (h:EnvN N0 w pv vv n V L):Env w pv vv n V L :=
 ⟨let ⟨Z,rv,hp⟩:=h.parts; ⟨Z,rv,hp w (Keep.refl _ _)⟩,let ⟨bm,bl,m,la,cap,e,hf⟩:=h.finds; ⟨bm,bl,m,la,cap,e,(hf w (Keep.refl _ _)).1,(hf w (Keep.refl _ _)).2⟩⟩
theorem EnvN.keep {N0:Nat} {w w':World} {pv vv:Value} {n:Nat} {V:Nat→LServ} {L:List PPart} (h:EnvN N0 w pv vv n V L) (hk:Keep (fun k=>k < N0) w w'):EnvN N0 w' pv vv n V L :=
 ⟨Nat.le_trans h.size hk.size,let ⟨Z,rv,hp⟩:=h.parts; ⟨Z,rv,fun w1 hw1=>hp w1 (hk.trans hw1)⟩,let ⟨bm,bl,m,la,cap,e,hf⟩:=h.finds; ⟨bm,bl,m,la,cap,e,fun w1 hw1=>hf w1 (hk.trans hw1)⟩⟩
theorem EnvN.kept {N0:Nat} {w w':World} {pv vv:Value} {n:Nat} {V:Nat→LServ} {L:List PPart} (h:EnvN N0 w pv vv n V L) (hB:Below w.heap.size w w'):EnvN N0 w' pv vv n V L:=h.keep (Keep.of hB fun _ hk=>Nat.lt_of_lt_of_le hk h.size)
theorem EnvN.part {N0:Nat} {w:World} {pv vv:Value} {n:Nat} {V:Nat→LServ} {L:List PPart} (h:EnvN N0 w pv vv n V L) {i:Nat} (hi:i < L.length):∃ g cap a1 c1 a2 c2 a3 c3,pv = .slice (some ⟨g,0,none⟩) L.length cap∧∀ w1,Keep (fun k=>k < N0) w w1→PtAt w1 g (i * 4) (nth L i) a1 a2 a3 c1 c2 c3:=by
 obtain ⟨Z,rv,hp⟩:=h.parts
 obtain ⟨g,cap,a1,c1,a2,c2,a3,c3,hv,e1,e2,e3,-⟩:=(hp w (Keep.refl _ _)).pt hi
 refine ⟨g,cap,a1,c1,a2,c2,a3,c3,hv,fun w1 hw1=>?_⟩
 obtain ⟨g',cap',a1',c1',a2',c2',a3',c3',hv',e1',e2',e3',hpt⟩:=(hp w1 hw1).pt hi
 rw [hv] at hv'
 rw [e1] at e1'
 rw [e2] at e2'
 rw [e3] at e3'
 cases hv'
 cases e1'
 cases e2'
 cases e3'
 exact hpt
def mid (N0 B:Nat):Nat→Prop:=fun k=>N0≤k∧k < B
theorem EnvN.x {N0 B:Nat} {w w':World} {pv vv:Value} {n:Nat} {V:Nat→LServ} {L:List PPart} (h:EnvN N0 w pv vv n V L) (hk:KeepX (mid N0 B) w w'):EnvN N0 w' pv vv n V L:=h.keep (Keep.mono hk fun _ hk=>⟨Nat.lt_of_lt_of_le hk h.size,fun hx=>by have:=hx.1; omega⟩)
theorem filterMap_if {α β:Type} (c:α→Bool) (g:α→β):∀ l:List α,l.filterMap (fun k=>if c k=true then some (g k) else none)=(l.filter c).map g
 | []=>rfl
 | x :: l=>by
  rw [List.filterMap_cons,List.filter_cons]
  by_cases h:c x=true
  ·rw [if_pos h,if_pos h,List.map_cons,filterMap_if c g l]
  ·rw [if_neg h,if_neg h,filterMap_if c g l]
def GetterOk (n:Nat) (V:Nat→LServ) (L:List PPart) (d:Nat):Prop := ∀ (N0:Nat) (pa:Option Addr) (pn pc:Nat) (vv:Value) (typ:ByteArray) (a:Option Addr) (cap:Nat) (ps:List (Pick d)) (w:World),EnvN N0 w (.slice pa pn pc) vv n V L→ps≠[]→¬ partIdx L.length (lpOf L) typ < 0→cR L.length (lpOf L) d (pOf L typ).fs.length (fsN (pOf L typ)) [] ps=0→Sm d ps→PicksAt w d a ps →
 Calls Tryz.prog 16 #[.agg #[.slice pa pn pc,vv],.string typ,.slice a ps.length cap] w fun e w'=>(∃ v,e = .returned v∧GetFn (mid N0 w.heap.size) w' v d (fun key=>if thereP V (pOf L typ) key=true then some (gots V L d (pOf L typ) key ps) else none))∧Below w.heap.size w w'
set_option maxRecDepth 100000 in
set_option maxHeartbeats 400000 in
theorem filler_any (n:Nat) (V:Nat→LServ) (L:List PPart) (d:Nat) (hG:GetterOk n V L d) (N0:Nat) (pa:Option Addr) (pn pc:Nat) (vv:Value) (fl:LField) (a:Option Addr) (cap:Nat) (ps:List (Pick d)) (w:World) (hE:EnvN N0 w (.slice pa pn pc) vv n V L) (hP:PicksAt w d a ps) (hm:Sm d ps) (hk:fl.kind=1∨fl.kind=2∨fl.kind=3)
  (hz:AskR L d fl ps) :
  Calls Tryz.prog 65 #[.agg #[.slice pa pn pc,vv],.agg #[.string fl.name,.int .i64 fl.kind,.string fl.type],.slice a ps.length cap] w fun e w'=>(∃ v,e = .returned v∧FillFn (mid N0 w.heap.size) w' v d fl.kind (fun nm x=>gotV V L (gots V L d) nm fl x ps))∧Below w.heap.size w w':=by
 have hmf:∀ (fn:Fn) (first cap:Array Value) (w:World),(Instr.makeFunc fn first cap).run Tryz.prog w = .ok (.func fn first cap) w:=fun _ _ _ _=>rfl
 obtain ⟨bm,bl,hvv,-⟩:=hE.now.vals
 subst hvv
 have HE:=Hid.intro hE
 have HGO:=Hid.intro hG
 have HPK:=Hid.intro hP
 have HM:=Hid.intro hm
 have HZ:=Hid.intro hz
 clear hE hG hP hm hz
 generalize hW:(w.alloc (Obj.cells #[.slice pa pn pc,findV bm bl] 46)).alloc (Obj.cells #[.string fl.name,.int .i64 fl.kind,.string fl.type] 113)=W
 have hBW:Below w.heap.size w W:=by rw [← hW]; exact below2 _ _ _
 have a0:W.cell? ⟨w.heap.size,0,none⟩=some (.slice pa pn pc):=by rw [← hW,World.cell?_alloc_past _ _ _ (by simp),World.cell?_alloc_at _ _ _ _ rfl]; rfl
 have a1:W.cell? ⟨w.heap.size,1,none⟩=some (findV bm bl):=by rw [← hW,World.cell?_alloc_past _ _ _ (by simp),World.cell?_alloc_at _ _ _ _ rfl]; rfl
 have b1:W.cell? ⟨w.heap.size + 1,1,none⟩=some (.int .i64 fl.kind):=by rw [← hW,World.cell?_alloc_at _ _ _ _ (by simp)]; rfl
 have b2:W.cell? ⟨w.heap.size + 1,2,none⟩=some (.string fl.type):=by rw [← hW,World.cell?_alloc_at _ _ _ _ (by simp)]; rfl
 have HBW:=Hid.intro hBW
 clear hBW
 unfold findV at hW a1
 unfold findV
 by_cases h1:fl.kind=1
 ·have hk1:(fl.kind == 1)=true:=by rw [h1]; rfl
  have HF:Hid (FillFn (mid N0 w.heap.size) W (.func (.func 96) #[] #[]) d fl.kind (fun nm x=>gotV V L (gots V L d) nm fl x ps)):=Hid.intro ⟨_,_,⟨rfl,Tryz.e96⟩,fun w1 hw1 b nm x hb _=>(fill1_any b nm fl.kind x w1 hb).mono fun e w' ⟨h2,h3,h4⟩=>by
   refine ⟨h2,h3,none,0,none,0,?_,?_⟩
   ·show w'.heap[b]? = some (.cells (gotCs (gotV V L (gots V L d) nm fl x ps) none 0 none 0) _ _)
    rw [h4]; unfold gotV; rw [if_pos h1]; rfl
   ·show GotV _ w' (gotV V L (gots V L d) nm fl x ps) none 0 none 0
    unfold gotV; rw [if_pos h1]
    exact ⟨Nat.le_refl _,Nat.le_refl _,gots_nil,subs_nil⟩⟩
  clear hk HE HGO HPK HM HZ h1
  go_enter Tryz.func65,Tryz.ntmps65
  go_wp2_with fail
  go_ret
  exact ⟨⟨_,rfl,HF.out⟩,HBW.out⟩
 have hk1:(fl.kind == 1)=false:=by rw [beq_eq_false_iff_ne]; exact h1
 have HQ:Hid (ps≠[]∧¬ partIdx L.length (lpOf L) fl.type < 0∧cR L.length (lpOf L) d (pOf L fl.type).fs.length (fsN (pOf L fl.type)) [] ps=0):=by
  rcases HZ.out with ⟨h,-⟩ | ⟨-,h⟩
  ·exact absurd h h1
  ·exact h
 have hcl:=HGO.out N0 pa pn pc (findV bm bl) fl.type a cap ps W (HE.out.kept HBW.out) HQ.out.1 HQ.out.2.1 HQ.out.2.2 HM.out (HPK.out.kept HBW.out)
 unfold findV at hcl
 clear HE HGO HPK HM HZ
 go_enter Tryz.func65,Tryz.ntmps65
 go_wp2_with fail
 clear hW
 refine hcl.mono ?_
 clear hcl
 rintro e w2 ⟨⟨v,rfl,hv⟩,hw2⟩
 have b1:=keptCell hw2 b1
 have hb1:w.heap.size + 1 < w2.heap.size:=block_lt_of_cell b1
 obtain ⟨F,caps,⟨rfl,eF⟩,hFc⟩:=hv
 have HGF:Hid (GetFn (mid N0 w.heap.size) (w2.alloc (Obj.cells #[.func (.func F) #[] caps] 48)) (.func (.func F) #[] caps) d (fun key=>if thereP V (pOf L fl.type) key=true then some (gots V L d (pOf L fl.type) key ps) else none)):=Hid.intro (GetFn.step (X:=mid N0 W.heap.size) ⟨F,caps,⟨rfl,eF⟩,hFc⟩ (KeepX.of (below1 _ _)) fun k _ hk=>⟨hk.1,Nat.lt_of_lt_of_le hk.2 HBW.out.size⟩)
 have HC:Hid ((w2.alloc (Obj.cells #[.func (.func F) #[] caps] 48)).cell? ⟨w2.heap.size,0,none⟩=some (.func (.func F) #[] caps)):=Hid.intro (by rw [World.cell?_alloc_at _ _ _ _ rfl]; rfl)
 have HB2:Hid (Below w.heap.size w (w2.alloc (Obj.cells #[.func (.func F) #[] caps] 48))):=Hid.intro ((HBW.out.trans (hw2.mono HBW.out.size)).trans ((below1 w2 _).mono (Nat.le_trans HBW.out.size hw2.size)))
 have HS:Hid (∀ x:LVal,(keysV x).filterMap (fun key=>if thereP V (pOf L fl.type) key=true then some (gots V L d (pOf L fl.type) key ps) else none)=subsOf V L (gots V L d) fl x ps):=Hid.intro fun x=>filterMap_if _ _ _
 clear hFc hw2
 by_cases h3:fl.kind=3
 ·have hk3:(fl.kind == 3)=true:=by rw [h3]; rfl
  have HF:Hid (FillFn (mid N0 w.heap.size) (w2.alloc (Obj.cells #[.func (.func F) #[] caps] 48)) (.func (.func 97) #[] #[.pointer (some ⟨w2.heap.size,0,none⟩)]) d fl.kind (fun nm x=>gotV V L (gots V L d) nm fl x ps)):=Hid.intro ⟨_,_,⟨rfl,Tryz.e97⟩,fun w1 hw1 b nm x hb hx=>(fill2_any d b w2.heap.size nm fl.kind x _ _ w1 hb hx (hw1.cell HC.out (fun hx=>by have h1:w2.heap.size < w.heap.size:=hx.2; omega)) (HGF.out.step hw1 fun _ _ h=>h.elim)).mono fun e w' ⟨q1,q2,A2,C2,q3,q4,q5⟩=>by
   rw [HS.out] at q3 q4 q5
   have eg:gotV V L (gots V L d) nm fl x ps=mkGot nm fl.kind false ⟨#[]⟩ [] (subsOf V L (gots V L d) fl x ps):=by unfold gotV gotS; rw [if_neg h1,if_neg (by omega)]
   refine ⟨q1,q2,none,0,A2,C2,?_,?_⟩
   ·show w'.heap[b]? = some (.cells (gotCs (gotV V L (gots V L d) nm fl x ps) none 0 A2 C2) _ _)
    rw [q3,eg]; rfl
   ·show GotV _ w' (gotV V L (gots V L d) nm fl x ps) none 0 A2 C2
    rw [eg]
    exact ⟨Nat.le_refl _,q4,gots_nil,q5⟩⟩
  clear hk HGF HC HS h1 h3
  go_wp2_with fail
  go_ret
  exact ⟨⟨_,rfl,HF.out⟩,HB2.out⟩
 ·have hk3:(fl.kind == 3)=false:=by rw [beq_eq_false_iff_ne]; exact h3
  have h2:fl.kind=2:=by omega
  have HF:Hid (FillFn (mid N0 w.heap.size) (w2.alloc (Obj.cells #[.func (.func F) #[] caps] 48)) (.func (.func 99) #[] #[.pointer (some ⟨w2.heap.size,0,none⟩)]) d fl.kind (fun nm x=>gotV V L (gots V L d) nm fl x ps)):=Hid.intro ⟨_,_,⟨rfl,Tryz.e99⟩,fun w1 hw1 b nm x hb hx=>(fill3_any d b w2.heap.size nm fl.kind x _ _ w1 hb hx (hw1.cell HC.out (fun hx=>by have h1:w2.heap.size < w.heap.size:=hx.2; omega)) (HGF.out.step hw1 fun _ _ h=>h.elim)).mono fun e w' ⟨q1,q2,A,C,q3,q4,q5⟩=>by
   rw [HS.out] at q3 q4 q5
   have eg:gotV V L (gots V L d) nm fl x ps=mkGot nm fl.kind (subsOf V L (gots V L d) fl x ps).isEmpty ⟨#[]⟩ ((subsOf V L (gots V L d) fl x ps).headD []) []:=by unfold gotV gotS; rw [if_neg h1,if_pos h2]
   refine ⟨q1,q2,A,C,none,0,?_,?_⟩
   ·show w'.heap[b]? = some (.cells (gotCs (gotV V L (gots V L d) nm fl x ps) A C none 0) _ _)
    rw [q3,eg]; rfl
   ·show GotV _ w' (gotV V L (gots V L d) nm fl x ps) A C none 0
    rw [eg]
    exact ⟨q4,Nat.le_refl _,q5,subs_nil⟩⟩
  clear hk HGF HC HS h1 h3 h2
  go_wp2_with fail
  go_ret
  exact ⟨⟨_,rfl,HF.out⟩,HB2.out⟩
end Go.Proofs.YtjjggefmmeminabGreat
