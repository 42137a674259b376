import Derived.Test.YtjjggefmmeminacGreatGrAsk0
import Derived.Test.YtjjggefmmeminacGreatMgFindF
namespace Go.Proofs.YtjjggefmmeminacGreat
open Go.RowKit Go.Sort Go.PlainAid
structure AskEnv (N0 bg:Nat) (w0:World) (la:Option Addr) (n cap:Nat) (pv:Value) (V:Nat→LServ) (L:List PPart):Prop where
 size:w0.heap.size=N0
 bg:N0≤bg
 servs:ServsAt w0 la n V
 parts:∃ Z rv,Parts Z w0 pv L rv
 light:∀ i,i < n→LightS (svOf (V i))
 part:∀ nm,¬ partIdx L.length (lpOf L) nm < 0→GPart n V (pOf L nm)
 kinds:∀ q,q ∈ L→∀ j,j < q.fs.length→(fsN q j).kind=1∨(fsN q j).kind=2∨(fsN q j).kind=3
def tellF (V:Nat→LServ) (L:List PPart) (d:Nat) (p:PPart) (ps:List (Pick d)) (key:ByteArray):Option (List (Got d)):=if thereP V p key=true then some (gots V L d p key ps) else none
def AskOk (N0 bg:Nat) (w0:World) (la:Option Addr) (n cap:Nat) (pa:Option Addr) (pn pc:Nat) (V:Nat→LServ) (L:List PPart) (d:Nat):Prop := ∀ (type:ByteArray) (keys:List ByteArray) (ka:Option Addr) (kcap:Nat) (a:Option Addr) (acap:Nat) (ps:List (Pick d)) (R:List PReq) (w:World),Below N0 w0 w→GateAt N0 bg (.slice la n cap) (.slice pa pn pc) w R →
 TRow w 0 (.slice ka keys.length kcap) keys→(∀ x,x ∈ keys→Small x)→keys.Nodup→keys≠[]→keys.length≤1200→PicksAt w0 d a ps→ps≠[]→Sm d ps→¬ partIdx L.length (lpOf L) type < 0→cR L.length (lpOf L) d (pOf L type).fs.length (fsN (pOf L type)) [] ps=0→R.length + (asks V L d (pOf L type) keys ps).length≤1000 →
 Calls Tryz.prog 24 #[.pointer (some ⟨bg,0,none⟩),.string type,.slice ka keys.length kcap,.slice a ps.length acap] w fun e w' => ∃ l:LV,e = .returned (.agg #[.slice l.a l.n l.c,.map l.h,.map l.v])∧GateAt N0 bg (.slice la n cap) (.slice pa pn pc) w' (R ++ asks V L d (pOf L type) keys ps)∧KeepQ N0 bg w w'∧TellFn w.heap.size w' l d keys (tellF V L d (pOf L type) ps)
theorem ask_zero (N0 bg:Nat) (w0:World) (la:Option Addr) (n cap:Nat) (pa:Option Addr) (pn pc:Nat) (V:Nat→LServ) (L:List PPart):AskOk N0 bg w0 la n cap pa pn pc V L 0:=by
 intro type keys ka kcap a acap ps R w _ _ _ _ _ _ _ _ hne
 exact absurd (nil0 ps) hne
def PartP (W:World) (i:Nat) (cs:Array Value) (j:Nat) (x:Nat→Value) (o:Option Nat) (w1:World):Prop:=Below W.heap.size W w1∧(1≤j→x 0 = .int .i64 (i:Int))∧(2≤j→o≠none)∧∀ b,o=some b→W.heap.size≤b∧w1.heap[b]? = some (.cells (if 2≤j then cs else #[.string ⟨#[]⟩,.slice none 0 0,.slice none 0 0,.slice none 0 0]) 114 (0,0))
theorem take_flat {α β:Type} {f : α→List β} {l:List α} {k:Nat} (h:k < l.length):(l.take (k + 1)).flatMap f=(l.take k).flatMap f ++ f l[k]:=by
 rw [List.take_succ_eq_append_getElem h,List.flatMap_append]; simp
theorem flat_le {α β:Type} (f:α→List β) (l:List α) (k:Nat):((l.take k).flatMap f).length≤(l.flatMap f).length:=by
 have:(l.flatMap f).length=((l.take k).flatMap f).length + ((l.drop k).flatMap f).length:=by
  rw [← List.length_append,← List.flatMap_append,List.take_append_drop]
 omega
theorem hs_get {p:PPart} {k:Nat} (h:k < p.hs.length):p.hs[k]=hsN p k:=by simp [hsN,List.getD,h]
theorem gfilterMap_if {α β:Type} (q:α→Bool) (f:α→β):∀ l:List α,l.filterMap (fun x=>if q x=true then some (f x) else none)=(l.filter q).map f
 | []=>rfl
 | x :: l=>by
  cases h:q x
  ·rw [List.filterMap_cons_none (by simp [h]),List.filter_cons_of_neg (by simp [h]),gfilterMap_if q f l]
  ·rw [List.filterMap_cons_some (b:=f x) (by simp [h]),List.filter_cons_of_pos h,List.map_cons,gfilterMap_if q f l]
theorem TellFn.mono {N N':Nat} {w:World} {l:LV} {d:Nat} {S:List ByteArray} {f : ByteArray→Option (List (Got d))} (h:TellFn N' w l d S f) (hN:N≤N'):TellFn N w l d S f:=fun w1 h1=>h w1 (h1.mono hN)
theorem KQ.later {N0 N:Nat} {X:Nat→Prop} {w w':World} (h:KQ N0 X w w') (hX:∀ k,X k→k < N):Later N w w':=⟨h.size,fun k hN hk hq=>h.block k hk (fun hx=>by have:=hX k hx; omega) (.inr hq)⟩
def NxOk (N bg cb:Nat) (V:Nat→LServ) (L:List PPart) (d:Nat) (p:PPart) (ps:List (Pick (d + 1))) (keys:List ByteArray) (w:World) (l:LV) (j:Nat):Prop:=(fOf p (pfield (pickN ps j))).kind≠1→nextOf V (oOf p (pfield (pickN ps j))) keys≠[]→∃ Ni,N≤Ni∧cb < Ni∧bg < Ni∧TellFn Ni w l d (nextOf V (oOf p (pfield (pickN ps j))) keys) (tellF V L d (pOf L (fOf p (pfield (pickN ps j))).type) (subs (pickN ps j)))
theorem NxOk.step {N N0 bg cb:Nat} {V:Nat→LServ} {L:List PPart} {d:Nat} {p:PPart} {ps:List (Pick (d + 1))} {keys:List ByteArray} {w w':World} {l:LV} {j:Nat} (h:NxOk N bg cb V L d p ps keys w l j) (hk:KQ N0 (fun q=>q=bg∨q=cb) w w'):NxOk N bg cb V L d p ps keys w' l j:=fun h1 h2=>by
 obtain ⟨Ni,a,b,c,t⟩:=h h1 h2
 exact ⟨Ni,a,b,c,t.step (hk.later fun q hq=>by rcases hq with rfl | rfl <;> assumption)⟩
theorem putLV_block {cb o:Nat} {w:World} {l:LV} {k:Nat} (hk:k≠cb):(putLV cb o w l).heap[k]? = w.heap[k]?:=by
 unfold putLV
 rw [Below.heap_setCell _ _ _ _ (by exact hk),Below.heap_setCell _ _ _ _ (by exact hk),Below.heap_setCell _ _ _ _ (by exact hk)]
theorem putLV_size {cb o:Nat} {w:World} {l:LV} : (putLV cb o w l).heap.size=w.heap.size:=by unfold putLV; simp
theorem putLV_kq {N0 cb o:Nat} {X:Nat→Prop} {w:World} {l:LV} (hX:X cb):KQ N0 X w (putLV cb o w l):=⟨rfl,rfl,rfl,by rw [putLV_size]; exact Nat.le_refl _,fun k _ hx _=>putLV_block fun e=>hx (by rw [e]; exact hX)⟩
theorem putLV_row {d base n cap cb k:Nat} {p:PPart} {ps:List (Pick (d + 1))} {pv:Nat→Value} {nx:Nat→LV} {w:World} {l:LV} (h:Row w base 127 11 (.slice (some ⟨cb,0,none⟩) n cap) n (chCell p ps pv nx)):Row (putLV cb (k * 11) w l) base 127 11 (.slice (some ⟨cb,0,none⟩) n cap) n (chCell p ps pv (fun j=>if j=k then l else nx j)):=by
 have h1:=((h.set (k * 11 + 8) (.slice l.a l.n l.c)).set (k * 11 + 9) (.map l.h)).set (k * 11 + 10) (.map l.v)
 refine h1.congr fun j _=>?_
 unfold chCell
 by_cases e:j / 11=k
 ·have hj:j=k * 11 + j % 11:=by omega
  have hm:j % 11 < 11:=Nat.mod_lt _ (by omega)
  generalize j % 11=q at *
  have hq:q=0∨q=1∨q=2∨q=3∨q=4∨q=5∨q=6∨q=7∨q=8∨q=9∨q=10:=by omega
  rw [e]
  rcases hq with rfl | rfl | rfl | rfl | rfl | rfl | rfl | rfl | rfl | rfl | rfl <;> simp [hj]
 ·have n1:j≠k * 11 + 10:=by omega
  have n2:j≠k * 11 + 9:=by omega
  have n3:j≠k * 11 + 8:=by omega
  simp only [n1,n2,n3,e,if_false]
set_option maxRecDepth 100000 in
set_option maxHeartbeats 8000000 in
theorem ask_succ (N0 bg:Nat) (w0:World) (la:Option Addr) (n cap:Nat) (pa:Option Addr) (pn pc:Nat) (V:Nat→LServ) (L:List PPart) (hE:AskEnv N0 bg w0 la n cap (.slice pa pn pc) V L) (d:Nat) (ih:AskOk N0 bg w0 la n cap pa pn pc V L d):AskOk N0 bg w0 la n cap pa pn pc V L (d + 1):=by
 intro type keys ka kcap a acap ps R w hw0 hGt hK hKs hKd hK0 hKl hP hps0 hSm hpi hcR hlen
 have hGP:=hE.part type hpi
 have hKp:=hE.kinds (pOf L type) (pOf_mem hpi)
 obtain ⟨i,hi⟩:∃ i:Nat,mfind L type=(i:Int):=⟨(mfind L type).toNat,by have : ¬ mfind L type < 0:=hpi; omega⟩
 have hil:i < L.length:=by
  have h1:=(idx_in (p:=fun j=>eqs (nth L j).name type) hpi).1
  have h2:idx L.length (fun j=>eqs (nth L j).name type)=(i:Int):=hi
  rw [h2] at h1; simpa using h1
 have hpO:pOf L type=nth L i:=by
  unfold pOf
  rw [show idx L.length (fun i=>eqs (nth L i).name type)=(i:Int) from hi,Int.toNat_natCast]
 obtain ⟨Z,rv,hparts⟩:=hE.parts
 obtain ⟨g,cap',a1,c1,a2,c2,a3,c3,hpv,-,-,-,hpt⟩:=hparts.pt hil
 cases hpv
 have hps:ps.length≤60:=hSm.1
 have hAF:AskF (pOf L type) ps:=fun k hk=>by
  obtain ⟨j,hj,rfl⟩:=List.getElem_of_mem hk
  have:=(ask_each hcR hj).1
  rw [pickN_get hj] at this
  exact this
 have hAR:∀ j,j < ps.length→AskR L d (fOf (pOf L type) (pfield (pickN ps j))) (subs (pickN ps j)):=fun j hj=>(ask_each hcR hj).2
 rw [hpO] at hGP hKp hcR hlen hAF hAR ⊢
 generalize hpd:nth L i=p at *
 have hN0:N0≤w.heap.size:=by have:=hw0.size; have:=hE.size; omega
 have hNb:=hE.bg
 have hfind:∀ w1,Below N0 w0 w1→Calls Tryz.prog 42 #[.slice (some ⟨g,0,none⟩) L.length pc,.string type] w1 fun e w'=>e = .returned (.int .i64 (i:Int))∧Below w1.heap.size w1 w':=fun w1 hw1=>by
  have:=mfind_any Z _ L rv type w1 (hparts.kept' (by rw [hE.size]; exact hw1))
  rw [hi] at this
  exact this
 have hpt1:∀ w1,Below N0 w0 w1→PtAt w1 g (i * 4) p a1 a2 a3 c1 c2 c3:=fun w1 hw1=>hpt.kept (by rw [hE.size]; exact hw1)
 have hsv1:∀ w1,Below N0 w0 w1→ServsAt w1 la n V:=fun w1 hw1=>hE.servs.kept (by rw [hE.size]; exact hw1)
 obtain ⟨pv,hsub,hpc⟩:=picks_fun hP
 have hpc1:∀ w1,Below N0 w0 w1→∀ i,i < ps.length→∃ b o A C,a=some ⟨b,o,none⟩∧pv i = .slice A (subs (pickN ps i)).length C∧w1.cell? ⟨b,o + i * 3,none⟩=some (.string (nick (pickN ps i)))∧w1.cell? ⟨b,o + i * 3 + 1,none⟩=some (.string (pfield (pickN ps i)))∧w1.cell? ⟨b,o + i * 3 + 2,none⟩=some (.slice A (subs (pickN ps i)).length C):=fun w1 hw1 i hi=>by
  obtain ⟨b,o,A,C,e1,e2,q0,q1,q2⟩:=hpc i hi
  have hw1:Below w0.heap.size w0 w1:=by rw [hE.size]; exact hw1
  exact ⟨b,o,A,C,e1,e2,keptCell hw1 q0,keptCell hw1 q1,keptCell hw1 q2⟩
 have hpvs:∀ i,i < ps.length→∃ a n c,pv i = .slice a n c:=fun i hi=>let ⟨A,C,e,_⟩:=hsub i hi; ⟨A,_,C,e⟩
 have hi1:(i:Int) < (L.length:Int):=by omega
 have hi0:(0:Int)≤(i:Int):=by omega
 have hLmax:L.length≤9223372036854775807:=hparts.nmax
 rw [asks_succ] at hlen ⊢
 have hos:=hGP.r.os
 have HFind:=Hid.intro hfind
 have HPt:=Hid.intro hpt1
 have HSv:=Hid.intro hsv1
 have HPc:=Hid.intro hpc1
 have HE:=Hid.intro hE
 have HIH:=Hid.intro ih
 have HGt:=Hid.intro hGt
 have HK:=Hid.intro hK
 have HKs:=Hid.intro hKs
 have HKd:=Hid.intro hKd
 have HW0:=Hid.intro hw0
 have HSub:=Hid.intro hsub
 have HAF:=Hid.intro hAF
 have HAR:=Hid.intro hAR
 have HGP:=Hid.intro hGP
 have HKp:=Hid.intro hKp
 have HSm:=Hid.intro hSm
 have HLen:=Hid.intro hlen
 have HPV:=Hid.intro hpvs
 have HOS:=Hid.intro hos
 clear hfind hpt1 hsv1 hpc1 hE ih hGt hK hKs hKd hw0 hsub hAF hAR hGP hKp hSm hlen hpvs hos hP hpc hpt hparts hcR hpO hpd hi hpi
 generalize hW:w.alloc (Obj.cells #[.slice none 0 0,.map none,.map none] 88)=W
 have hBW:Below w.heap.size w W:=by rw [← hW]; exact below1 _ _
 have hres:W.heap[w.heap.size]? = some (.cells #[.slice none 0 0,.map none,.map none] 88 (0,0)):=by rw [← hW]; exact heap_alloc_new _ _
 have HBW:=Hid.intro hBW
 have HRes:=Hid.intro hres
 have hWs:w.heap.size < W.heap.size:=lt_of_block hres
 have H0W:Hid (Below N0 w0 W):=HW0.out.trans (hBW.mono hN0)
 have hgW:W.cell? ⟨bg,1,none⟩=some (.slice (some ⟨g,0,none⟩) L.length pc):=by
  obtain ⟨rv9,kv9,fv9,hb9,-⟩:=HGt.out.kept hBW
  simp [World.cell?,hb9]
 clear hBW hres
 go_enter Tryz.func24,Tryz.ntmps24
 go_upto_region 1 with fail
 clear hW
 refine askPart (PartP W i #[.string p.name,.slice a1 p.fs.length c1,.slice a2 p.os.length c2,.slice a3 p.hs.length c3]) (bg:=bg) (pb:=g) (pn:=L.length) (pc:=pc) (fn:=p.fs.length) (fc:=c1) (on:=p.os.length) (oc:=c2) (hn:=p.hs.length) (hc:=c3) (i:=i) (fa:=a1) (oa:=a2) (ha:=a3) (ty:=type) (nm:=p.name) (by kernel_rfl) rfl rfl hi0 hi1 ?_ ?_ ?_ ?_ ?_ ?_ ?_
 ·rintro j x o w1 hj ⟨-,h1,-⟩
  exact h1 hj
 ·intro x
  exact ⟨(Below.refl _ _).drew,fun h=>absurd h (by omega),fun h=>absurd h (by omega),fun b hb=>by cases hb⟩
 ·rintro j x o w1 - ⟨hB,-⟩
  have hq:=HPt.out w1 (H0W.out.trans (hB.mono (by omega)))
  exact ⟨keptCell hB hgW,hq.c0,hq.c1,hq.c2,hq.c3⟩
 ·rintro x o w1 ⟨hB,-,-,hb⟩
  refine (HFind.out w1 (H0W.out.trans (hB.mono (by omega)))).mono ?_
  rintro e w2 ⟨rfl,hB2⟩
  refine ⟨_,rfl,fun x' e1 e2=>⟨hB.trans (hB2.mono hB.size),fun _=>e1,fun h=>absurd h (by omega),fun b hb'=>?_⟩⟩
  obtain ⟨q1,q2⟩:=hb b hb'
  exact ⟨q1,(hB2.block _ (lt_of_block q2)).trans q2⟩
 ·rintro x b w1 ⟨hB,h1,-,hb⟩
  obtain ⟨q1,q2⟩:=hb b rfl
  rw [if_neg (by omega)] at q2
  have g0:=heap_setCell_same _ b 0 _ 114 (.string p.name) q2
  have g1:=heap_setCell_same _ b 1 _ 114 (.slice a1 p.fs.length c1) g0
  have g2:=heap_setCell_same _ b 2 _ 114 (.slice a2 p.os.length c2) g1
  have g3:=heap_setCell_same _ b 3 _ 114 (.slice a3 p.hs.length c3) g2
  refine ⟨q2,hB.trans ⟨rfl,rfl,rfl,by simp,fun k hk=>?_⟩,fun _=>h1 (by omega),(fun _ h=>by cases h),fun b' hb'=>?_⟩
  ·rw [Below.heap_setCell _ _ _ _ (by show k≠b; omega),Below.heap_setCell _ _ _ _ (by show k≠b; omega),Below.heap_setCell _ _ _ _ (by show k≠b; omega),Below.heap_setCell _ _ _ _ (by show k≠b; omega)]
  ·cases hb'
   refine ⟨q1,?_⟩
   rw [g3,if_pos (by omega)]
   rfl
 ·rintro j x w1 ⟨hB,h1,h2,-⟩
  refine ⟨hB.trans ((below1 w1 _).mono hB.size),h1,fun hj=>absurd rfl (h2 hj),fun b hb=>?_⟩
  cases hb
  rw [if_neg (fun hj=>absurd rfl (h2 hj))]
  exact ⟨hB.size,heap_alloc_new _ _⟩
 intro s bt w2 hs9 hp
 obtain ⟨hB2,-,-,hb⟩:=hp
 obtain ⟨hbt,hbx⟩:=hb bt rfl
 rw [if_pos (by omega)] at hbx
 clear hb
 simp only [putAll,Act.put,List.setIfInBounds_toArray,List.set_cons_succ,List.set_cons_zero,hs9]
 clear hs9
 generalize s 16=t16
 generalize s 17=t17
 generalize s 18=t18
 generalize s 19=t19
 generalize s 20=t20
 generalize s 21=t21
 generalize s 22=t22
 generalize s 23=t23
 generalize s 24=t24
 generalize s 25=t25
 generalize s 26=t26
 generalize s 27=t27
 have H02:Hid (Below N0 w0 w2):=H0W.out.trans (hB2.mono (by omega))
 have hq2:=HPt.out w2 H02.out
 have hcl:=newList_any d w.heap.size p a1 a2 a3 c1 c2 p.hs.length c3 a acap ps w2 hq2.fields hq2.owners HOS.out HAF.out pv (HPc.out w2 H02.out) hps
 obtain ⟨b0,b1,b2,b3⟩:w2.cell? ⟨bt,0,none⟩=some (.string p.name)∧w2.cell? ⟨bt,1,none⟩=some (.slice a1 p.fs.length c1)∧w2.cell? ⟨bt,2,none⟩=some (.slice a2 p.os.length c2)∧w2.cell? ⟨bt,3,none⟩=some (.slice a3 p.hs.length c3):=by simp [World.cell?,hbx]
 have HBX:=Hid.intro hbx
 have HB2:Hid (Below w.heap.size w w2):=HBW.out.trans (hB2.mono HBW.out.size)
 have HRes2:=Hid.intro ((hB2.block _ (lt_of_block HRes.out)).trans HRes.out)
 clear hbx hB2 hgW HRes HBW H0W hq2
 go_wp2_with fail
 refine hcl.mono ?_
 clear hcl
 rintro e w3 ⟨ca,cc,bh,bv,rfl,hRow,hCM,hLM,hbh,hbv,hnehv,hB3⟩
 generalize hY:w3.alloc (Obj.cells #[.slice ca ps.length cc,.map (some bh),.map (some bv)] 88)=Y
 have hBY:Below w3.heap.size w3 Y:=by rw [← hY]; exact below1 _ _
 have hblY:Y.heap[w3.heap.size]? = some (.cells #[.slice ca ps.length cc,.map (some bh),.map (some bv)] 88 (0,0)):=by rw [← hY]; exact heap_alloc_new _ _
 have hB23:Below w2.heap.size w2 Y:=hB3.trans (hBY.mono hB3.size)
 have b3:=keptCell hB23 b3
 have HBTY:=Hid.intro ((hB23.block _ (lt_of_block HBX.out)).trans HBX.out)
 have HRY:=Hid.intro ((hB23.block _ (lt_of_block HRes2.out)).trans HRes2.out)
 have HwY:Hid (Below w.heap.size w Y):=HB2.out.trans (hB23.mono HB2.out.size)
 have H0Y:Hid (Below N0 w0 Y):=HW0.out.trans (HwY.out.mono hN0)
 have HGY:=Hid.intro (HGt.out.kept HwY.out)
 have HKY:=Hid.intro (HK.out.kept HwY.out)
 have hw2s:=HB2.out.size
 have HROW:Hid (Row Y w.heap.size 127 11 (.slice ca ps.length cc) ps.length (chCell p ps pv (fun _=>LV.zero))):=(hRow.kept hBY).lower hw2s
 have HCY:=Hid.intro (hCM.kept hBY)
 have HLY:=Hid.intro (hLM.kept hBY)
 have HBLY:=Hid.intro hblY
 have HNs:Hid (w.heap.size≤bh∧w.heap.size≤bv∧bh≠bv∧w.heap.size < bt∧w.heap.size < w3.heap.size):=by
  have h1:=hB3.size
  have h2:=lt_of_block HBX.out
  refine ⟨by omega,by omega,hnehv,by omega,by omega⟩
 have HbgN:Hid (bg < w.heap.size):=by
  obtain ⟨rv9,kv9,fv9,hb9,-⟩:=HGt.out
  exact lt_of_block hb9
 clear hRow hCM hLM hbh hbv hnehv hB3 hBY hblY hB23 HB2 HBX HRes2 b0 b1 b2
 go_wp2_with fail
 clear hY b3
 obtain ⟨bl,ebl⟩:∃ bl,bl=w3.heap.size:=⟨_,rfl⟩
 rw [← ebl] at HBLY HNs
 rw [← ebl]
 clear ebl
 have HF5:Hid (p.hs.length≤5):=HGP.out.few
 have hhl:p.hs.length≤5:=HF5.out
 go_loopw [34] (fun i wr => ∃ k:Nat,k≤p.hs.length∧i = .int .i64 k∧KQ N0 (fun q=>q=bg∨q=bh∨q=bv) Y wr∧GateAt N0 bg (.slice la n cap) (.slice (some ⟨g,0,none⟩) L.length pc) wr (R ++ (p.hs.take k).map (homeAsk p keys ps))∧CMap wr bh (k * 1200) (cntAll V keys (p.hs.take k))∧LMap w.heap.size wr bv (k * 72000) (valsAll V p ps keys (p.hs.take k))) (fun i _=>p.hs.length - (intOf i).toNat)
 case atStart=>exact ⟨0,Nat.zero_le _,rfl,KQ.refl _ _ _,by rw [List.take_zero,List.map_nil,List.append_nil]; exact HGY.out,by rw [Nat.zero_mul]; exact HCY.out,by rw [Nat.zero_mul]; exact HLY.out⟩
 case round =>
  obtain ⟨k,hk,rfl,hw,hG,hC,hM⟩:=hrel
  have hXN:∀ q,(q=bg∨q=bh∨q=bv)→N0≤q:=fun q hq=>by
   have:=HNs.out
   omega
  have hNY:N0≤Y.heap.size:=by have:=HwY.out.size; omega
  have hBr:Below N0 w0 wr:=H0Y.out.trans (hw.below hXN hNY)
  by_cases hlt:k < p.hs.length
  ·have hlt':(k:Int) < (p.hs.length:Int):=by omega
   have hk0:(0:Int)≤(k:Int):=by omega
   obtain ⟨hb,ho,rfl,h0,h1,h2,hgd⟩:=(HPt.out wr hBr).homes.2 k hlt
   have hnl : ¬ (bl=bg∨bl=bh∨bl=bv):=fun e=>by
    rcases e with e | e | e
    ·have:=HbgN.out; have:=HNs.out; omega
    ·obtain ⟨es,c9,hm⟩:=HCY.out.obj
     have:=HBLY.out
     rw [e,hm] at this; cases this
    ·obtain ⟨es,c9,hm⟩:=HLY.out.obj
     have:=HBLY.out
     rw [e,hm] at this; cases this
   have hrowX:∀ q,(Value.slice ca ps.length cc).ownBlock=some q→¬ (q=bg∨q=bh∨q=bv):=fun q hq e=>by
    obtain ⟨c9,ho9⟩:=HROW.out.obj hq
    rcases e with e | e | e
    ·have:=(HROW.out.lt hq).1; have:=HbgN.out; omega
    ·obtain ⟨es,c9,hm⟩:=HCY.out.obj
     rw [← e,ho9] at hm; cases hm
    ·obtain ⟨es,c9,hm⟩:=HLY.out.obj
     rw [← e,ho9] at hm; cases hm
   obtain ⟨X,hX⟩:∃ X,X=wr.alloc (Obj.cells #[.int .i64 (hsN p k).svc,.string (hsN p k).type,.string (hsN p k).field] 118):=⟨_,rfl⟩
   have hBX:Below wr.heap.size wr X:=by rw [hX]; exact below1 _ _
   have hboX:X.heap[wr.heap.size]? = some (.cells #[.int .i64 (hsN p k).svc,.string (hsN p k).type,.string (hsN p k).field] 118 (0,0)):=by rw [hX]; exact heap_alloc_new _ _
   have hblX:X.heap[bl]? = some (.cells #[.slice ca ps.length cc,.map (some bh),.map (some bv)] 88 (0,0)):=by
    have e:=(hw.cells HBLY.out (by decide) hnl).trans HBLY.out
    exact (hBX.block _ (lt_of_block e)).trans e
   have HTK:Hid (p.hs.take (k + 1)=p.hs.take k ++ [hsN p k]):=Hid.intro (by rw [List.take_succ_eq_append_getElem hlt,hs_get hlt])
   have hmem:hsN p k ∈ p.hs:=by rw [← hs_get hlt]; exact List.getElem_mem hlt
   have hKW:TRow wr 0 (.slice ka keys.length kcap) keys:=hw.row HKY.out (by decide) fun q hq e=>by
    obtain ⟨c9,ho9⟩:=Row.obj HKY.out hq
    rcases e with e | e | e
    ·obtain ⟨rv9,kv9,fv9,hb9,-⟩:=HGY.out
     rw [← e,ho9] at hb9; cases hb9
    ·obtain ⟨es,c9,hm⟩:=HCY.out.obj
     rw [← e,ho9] at hm; cases hm
    ·obtain ⟨es,c9,hm⟩:=HLY.out.obj
     rw [← e,ho9] at hm; cases hm
   have HRl:Hid ((R ++ (p.hs.take k).map (homeAsk p keys ps)).length≤1000000):=Hid.intro (by
    have h9:=HLen.out
    rw [List.length_append,List.length_map] at h9
    rw [List.length_append,List.length_map,List.length_take]
    omega)
   have HWX:Hid (KQ N0 (fun q=>q=bg∨q=bh∨q=bv) Y X):=hw.trans (KQ.of hBX)
   have H0X:Hid (Below N0 w0 X):=hBr.trans (hBX.mono (by have:=hw.size; omega))
   have HRX:=Hid.intro ((hw.row HROW.out (by decide) hrowX).kept hBX)
   have HGX:=Hid.intro (hG.kept hBX)
   have HCX:=Hid.intro (hC.kept hBX)
   have HMX:=Hid.intro (hM.kept hBX)
   have HKX:=Hid.intro (hKW.kept hBX)
   have HsX:Hid (w.heap.size≤X.heap.size):=by
    have:=hBX.size
    have:=hw.size
    have:=HwY.out.size
    unfold Hid
    omega
   have HSMF:Hid (∀ j,j < ps.length→Small (oOf p (pfield (pickN ps j))).field):=Hid.intro fun j hj=>by
    have hfk : ¬ fieldIdx p.fs.length (fsN p) (pfield (pickN ps j)) < 0:=HAF.out _ (by rw [pickN_get hj]; exact List.getElem_mem hj)
    have h1:=(idx_in (p:=fun j9=>eqs (fsN p j9).name (pfield (pickN ps j))) hfk).1
    obtain ⟨b9,o9,-,-,-,-,hg9⟩:=(HPt.out w0 (Below.refl _ _)).owners.2 _ (by rw [HOS.out]; exact h1)
    exact hg9.2.1
   have HCN:Hid (∀ s,cntAll V keys (p.hs.take k) s≤10):=Hid.intro fun s=>by
    have:=cntAll_le (V:=V) HKd.out s (p.hs.take k)
    rw [List.length_take] at this
    omega
   clear hw hG hC hM hBX hBr hrowX hnl hKW hXN
   go_upto_region 6 with fail
   rw [← hX]
   refine home_step (N0:=N0) (N:=w.heap.size) (bg:=bg) (n:=n) (cap:=cap) (d:=d) (bl:=bl) (bo:=wr.heap.size) (bh:=bh) (bv:=bv) (n1:=k * 1200) (n2:=k * 72000) (cc:=cc) (kcap:=kcap) (base:=w.heap.size) (la:=la) (pa:=some ⟨g,0,none⟩) (ca:=ca) (ka:=ka) (pn:=L.length) (pc:=pc) (V:=V) (p:=p) (ps:=ps) (h:=hsN p k) (keys:=keys) (R:=R ++ (p.hs.take k).map (homeAsk p keys ps)) (pv:=pv) (nx:=fun _=>LV.zero) (c:=cntAll V keys (p.hs.take k)) (v:=valsAll V p ps keys (p.hs.take k)) (by kernel_rfl) rfl rfl rfl rfl hNb HsX.out HGX.out (fun w9 h9=>HSv.out w9 (H0X.out.trans h9)) HE.out.light HGP.out HAF.out hps hmem HRX.out HPV.out HSMF.out HCX.out HMX.out HNs.out.2.2.1 (by have:=HNs.out; have:=HbgN.out; omega) HKX.out HKs.out HKd.out hK0 hKl hblX hboX HCN.out (by omega) (by omega) HRl.out ?_
   intro s w' hC' hM' hG' hKQ'
   have HEND:Hid (KQ N0 (fun q=>q=bg∨q=bh∨q=bv) Y w'∧GateAt N0 bg (.slice la n cap) (.slice (some ⟨g,0,none⟩) L.length pc) w' (R ++ (p.hs.take (k + 1)).map (homeAsk p keys ps))∧CMap w' bh ((k + 1) * 1200) (cntAll V keys (p.hs.take (k + 1)))∧LMap w.heap.size w' bv ((k + 1) * 72000) (valsAll V p ps keys (p.hs.take (k + 1)))):=by
    rw [HTK.out,cntAll_snoc,valsAll_snoc,List.map_append,← List.append_assoc]
    exact ⟨HWX.out.trans hKQ',hG',hC'.mono (by omega),hM'.mono (by omega)⟩
   clear hC' hM' hG' hKQ' hX hboX hblX h0 h1 h2
   simp only [putAll,Act.put,List.setIfInBounds_toArray,List.set_cons_succ,List.set_cons_zero]
   generalize s 38=t38
   generalize s 39=t39
   generalize s 40=t40
   generalize s 41=t41
   generalize s 42=t42
   generalize s 43=t43
   generalize s 44=t44
   generalize s 45=t45
   generalize s 46=t46
   generalize s 47=t47
   generalize s 48=t48
   go_wp2_with fail
   go_roundw
   case rel=>exact ⟨k + 1,by omega,by go_num,HEND.out.1,HEND.out.2.1,HEND.out.2.2.1,HEND.out.2.2.2⟩
   case measure=>simp [intOf]; omega
  ·have hkn:k=p.hs.length:=by omega
   rw [hkn,List.take_length] at hG hC hM
   have hnl : ¬ (bl=bg∨bl=bh∨bl=bv):=fun e=>by
    rcases e with e | e | e
    ·have:=HbgN.out; have:=HNs.out; omega
    ·obtain ⟨es,c9,hm⟩:=HCY.out.obj
     have:=HBLY.out
     rw [e,hm] at this; cases this
    ·obtain ⟨es,c9,hm⟩:=HLY.out.obj
     have:=HBLY.out
     rw [e,hm] at this; cases this
   have hrowX:∀ q,(Value.slice ca ps.length cc).ownBlock=some q→¬ (q=bg∨q=bh∨q=bv):=fun q hq e=>by
    obtain ⟨c9,ho9⟩:=HROW.out.obj hq
    rcases e with e | e | e
    ·have:=(HROW.out.lt hq).1; have:=HbgN.out; omega
    ·obtain ⟨es,c9,hm⟩:=HCY.out.obj
     rw [← e,ho9] at hm; cases hm
    ·obtain ⟨es,c9,hm⟩:=HLY.out.obj
     rw [← e,ho9] at hm; cases hm
   have hnr : ¬ (w.heap.size=bg∨w.heap.size=bh∨w.heap.size=bv):=fun e=>by
    rcases e with e | e | e
    ·have:=HbgN.out; omega
    ·obtain ⟨es,c9,hm⟩:=HCY.out.obj
     have:=HRY.out
     rw [e,hm] at this; cases this
    ·obtain ⟨es,c9,hm⟩:=HLY.out.obj
     have:=HRY.out
     rw [e,hm] at this; cases this
   have HBLr:=Hid.intro ((hw.cells HBLY.out (by decide) hnl).trans HBLY.out)
   have HRr:=Hid.intro ((hw.cells HRY.out (by decide) hnr).trans HRY.out)
   have HROWr:=Hid.intro (hw.row HROW.out (by decide) hrowX)
   have HKr:Hid (TRow wr 0 (.slice ka keys.length kcap) keys):=hw.row HKY.out (by decide) fun q hq e=>by
    obtain ⟨c9,ho9⟩:=Row.obj HKY.out hq
    rcases e with e | e | e
    ·obtain ⟨rv9,kv9,fv9,hb9,-⟩:=HGY.out
     rw [← e,ho9] at hb9; cases hb9
    ·obtain ⟨es,c9,hm⟩:=HCY.out.obj
     rw [← e,ho9] at hm; cases hm
    ·obtain ⟨es,c9,hm⟩:=HLY.out.obj
     rw [← e,ho9] at hm; cases hm
   obtain ⟨cb,ccp,hcb⟩:∃ g cap,Value.slice ca ps.length cc = .slice (some ⟨g,0,none⟩) ps.length cap:=by
    rcases HROW.out.shape with ⟨-,h0⟩ | ⟨g,cap,hv,-,-,-⟩
    ·exact absurd (List.eq_nil_of_length_eq_zero h0) hps0
    ·exact ⟨g,cap,hv⟩
   cases hcb
   have HKw:Hid (KeepQ N0 bg w wr):=Hid.intro ⟨hw.os.trans HwY.out.os,hw.tape.trans HwY.out.tape,hw.output.trans HwY.out.output,Nat.le_trans HwY.out.size hw.size,fun q hq hne hqq=>by
    have hqY:q < Y.heap.size:=Nat.lt_of_lt_of_le hq HwY.out.size
    have e1:=HwY.out.block q hq
    rw [hw.block q hqY (fun e=>by have:=HNs.out; omega) (hqq.imp id fun hn=>by unfold isReq at hn ⊢; rw [e1]; exact hn),e1]⟩
   have H0r:=Hid.intro hBr
   have HGr:=Hid.intro hG
   have HCr:=Hid.intro hC
   have HMr:=Hid.intro hM
   have l0:wr.cell? ⟨bl,0,none⟩=some (.slice (some ⟨cb,0,none⟩) ps.length cc):=by simp [World.cell?,HBLr.out]
   have HcbN:Hid (w.heap.size≤cb∧cb < wr.heap.size):=HROWr.out.lt rfl
   have hpl:(ps.length:Int)≤60:=by omega
   have HSZ:Hid (w.heap.size < wr.heap.size):=lt_of_block HRr.out
   clear hw hG hC hM hBr hXN hnl hrowX hnr hNY HROW HKY HGY HCY HLY HBTY HRY HwY H0Y HBLY hkn
   go_wp2_with fail
   clear l0 hlt hk
   obtain ⟨Y2,hren⟩:∃ Y2,Y2=wr:=⟨_,rfl⟩
   rw [← hren] at HBLr HRr HROWr HKr HKw H0r HGr HCr HMr HcbN HSZ
   rw [← hren]
   clear hren
   go_loopw [53] (fun i wr => ∃ k:Nat,k≤ps.length∧i = .int .i64 k∧∃ nx:Nat→LV,KQ N0 (fun q=>q=bg∨q=cb) Y2 wr∧Row wr w.heap.size 127 11 (.slice (some ⟨cb,0,none⟩) ps.length cc) ps.length (chCell p ps pv nx)∧GateAt N0 bg (.slice la n cap) (.slice (some ⟨g,0,none⟩) L.length pc) wr (R ++ p.hs.map (homeAsk p keys ps) ++ (ps.take k).flatMap (asksK V L (asks V L d) p keys))∧∀ j,j < k→NxOk w.heap.size bg cb V L d p ps keys wr (nx j) j) (fun i _=>ps.length - (intOf i).toNat)
   case atStart=>exact ⟨0,Nat.zero_le _,rfl,fun _=>LV.zero,KQ.refl _ _ _,HROWr.out,by rw [List.take_zero,List.flatMap_nil,List.append_nil]; exact HGr.out,fun j hj=>absurd hj (Nat.not_lt_zero _)⟩
   case round =>
    obtain ⟨k,hk,rfl,nx,hw,hrow,hG,hNx⟩:=hrel
    have hXN:∀ q,(q=bg∨q=cb)→N0≤q:=fun q hq=>by
     have:=HcbN.out
     omega
    have hNY:N0≤Y2.heap.size:=by have:=HSZ.out; omega
    have hBr:Below N0 w0 wr:=H0r.out.trans (hw.below hXN hNY)
    have hnl : ¬ (bl=bg∨bl=cb):=fun e=>by
     rcases e with e | e
     ·have:=HbgN.out; have:=HNs.out; omega
     ·obtain ⟨c9,ho9⟩:=HROWr.out.obj (k:=cb) rfl
      have:=HBLr.out
      rw [e,ho9] at this; cases this
    have hnr : ¬ (w.heap.size=bg∨w.heap.size=cb):=fun e=>by
     rcases e with e | e
     ·have:=HbgN.out; omega
     ·obtain ⟨c9,ho9⟩:=HROWr.out.obj (k:=cb) rfl
      have:=HRr.out
      rw [e,ho9] at this; cases this
    have hblw:=(hw.cells HBLr.out (by decide) hnl).trans HBLr.out
    have hresw:=(hw.cells HRr.out (by decide) hnr).trans HRr.out
    have hXs:∀ q cs,(q=bg∨q=cb)→Y2.heap[q]? = some (.cells cs 9 (0,0))→False:=fun q cs hq ho=>by
     rcases hq with e | e
     ·obtain ⟨rv9,kv9,fv9,hb9,-⟩:=HGr.out
      rw [← e,ho] at hb9; cases hb9
     ·obtain ⟨c9,ho9⟩:=HROWr.out.obj (k:=cb) rfl
      rw [← e,ho] at ho9; cases ho9
    have hKw:TRow wr 0 (.slice ka keys.length kcap) keys:=hw.row HKr.out (by decide) fun q hq e=>by
     obtain ⟨c9,ho9⟩:=Row.obj HKr.out hq
     exact hXs q _ e ho9
    have hnv : ¬ (bv=bg∨bv=cb):=fun e=>by
     rcases e with e | e
     ·have:=HbgN.out; have:=HNs.out; omega
     ·obtain ⟨c9,ho9⟩:=HROWr.out.obj (k:=cb) rfl
      obtain ⟨es,c8,hm⟩:=HMr.out.obj
      rw [e,ho9] at hm; cases hm
    have hnh : ¬ (bh=bg∨bh=cb):=fun e=>by
     rcases e with e | e
     ·have:=HbgN.out; have:=HNs.out; omega
     ·obtain ⟨c9,ho9⟩:=HROWr.out.obj (k:=cb) rfl
      obtain ⟨es,c8,hm⟩:=HCr.out.obj
      rw [e,ho9] at hm; cases hm
    have hMw:=hw.lmap HMr.out hnv hXs
    have hCw:=hw.cmap HCr.out hnh
    by_cases hlt:k < ps.length
    ·have hlt':(k:Int) < (ps.length:Int):=by omega
     have hk0:(0:Int)≤(k:Int):=by omega
     obtain ⟨c0,c1,c2,c3,c4,c5,c6,c7,c8,c9,c10⟩:=chCells hrow hlt
     obtain ⟨sa,sc,hpvk,hsc,hPk⟩:=HSub.out k hlt
     rw [hpvk] at c1
     have hmem:pickN ps k ∈ ps:=by rw [pickN_get hlt]; exact List.getElem_mem hlt
     have HTF:Hid ((ps.take (k + 1)).flatMap (asksK V L (asks V L d) p keys)=(ps.take k).flatMap (asksK V L (asks V L d) p keys) ++ asksK V L (asks V L d) p keys (pickN ps k)):=Hid.intro (by rw [take_flat hlt,pickN_get hlt])
     have hfk : ¬ fieldIdx p.fs.length (fsN p) (pfield (pickN ps k)) < 0:=HAF.out _ hmem
     have hgO:GoodO (oOf p (pfield (pickN ps k))):=by
      have h1:=(idx_in (p:=fun j9=>eqs (fsN p j9).name (pfield (pickN ps k))) hfk).1
      obtain ⟨b9,o9,-,-,-,-,hg9⟩:=(HPt.out w0 (Below.refl _ _)).owners.2 _ (by rw [HOS.out]; exact h1)
      exact hg9
     have hask:=HAR.out k hlt
     obtain ⟨X,hX⟩:∃ X,X=wr.alloc (Obj.cells #[.string (called (pickN ps k)),.slice sa (subs (pickN ps k)).length sc,.string (fOf p (pfield (pickN ps k))).name,.int .i64 (fOf p (pfield (pickN ps k))).kind,.string (fOf p (pfield (pickN ps k))).type,.int .i64 (oOf p (pfield (pickN ps k))).svc,.string (oOf p (pfield (pickN ps k))).type,.string (oOf p (pfield (pickN ps k))).field,.slice (nx k).a (nx k).n (nx k).c,.map (nx k).h,.map (nx k).v] 127):=⟨_,rfl⟩
     have hBX:Below wr.heap.size wr X:=by rw [hX]; exact below1 _ _
     have hbcX:X.heap[wr.heap.size]? = some (.cells #[.string (called (pickN ps k)),.slice sa (subs (pickN ps k)).length sc,.string (fOf p (pfield (pickN ps k))).name,.int .i64 (fOf p (pfield (pickN ps k))).kind,.string (fOf p (pfield (pickN ps k))).type,.int .i64 (oOf p (pfield (pickN ps k))).svc,.string (oOf p (pfield (pickN ps k))).type,.string (oOf p (pfield (pickN ps k))).field,.slice (nx k).a (nx k).n (nx k).c,.map (nx k).h,.map (nx k).v] 127 (0,0)):=by rw [hX]; exact heap_alloc_new _ _
     have HWX:Hid (KQ N0 (fun q=>q=bg∨q=cb) Y2 X):=hw.trans (KQ.of hBX)
     have HRX:=Hid.intro (hrow.kept hBX)
     have HGX:=Hid.intro (hG.kept hBX)
     have HMX:=Hid.intro (hMw.kept hBX)
     have HKX:=Hid.intro (hKw.kept hBX)
     have hblX:=(hBX.block _ (lt_of_block hblw)).trans hblw
     have HNX:Hid (∀ j,j < k→NxOk w.heap.size bg cb V L d p ps keys X (nx j) j):=Hid.intro fun j hj=>(hNx j hj).step (N0:=N0) (KQ.of hBX)
     have H0X:Hid (Below N0 w0 X):=hBr.trans (hBX.mono (by have:=hw.size; omega))
     have hsX:wr.heap.size < X.heap.size:=lt_of_block hbcX
     have hsw:=hw.size
     by_cases k1:(fOf p (pfield (pickN ps k))).kind=1
     ·have hk1:((fOf p (pfield (pickN ps k))).kind == 1)=true:=by rw [k1]; rfl
      have HEND:Hid (KQ N0 (fun q=>q=bg∨q=cb) Y2 X∧Row X w.heap.size 127 11 (.slice (some ⟨cb,0,none⟩) ps.length cc) ps.length (chCell p ps pv nx)∧GateAt N0 bg (.slice la n cap) (.slice (some ⟨g,0,none⟩) L.length pc) X (R ++ p.hs.map (homeAsk p keys ps) ++ (ps.take (k + 1)).flatMap (asksK V L (asks V L d) p keys))∧∀ j,j < k + 1→NxOk w.heap.size bg cb V L d p ps keys X (nx j) j):=by
       refine ⟨HWX.out,HRX.out,?_,fun j hj=>?_⟩
       ·have e0:asksK V L (asks V L d) p keys (pickN ps k) = []:=by unfold asksK; rw [if_pos k1]
        rw [HTF.out,e0,List.append_nil]
        exact HGX.out
       ·rcases Nat.lt_succ_iff_lt_or_eq.1 hj with h | h
        ·exact HNX.out j h
        ·subst h
         exact fun hne _=>absurd k1 hne
      clear hw hrow hG hNx hBr hblw hresw hKw hMw hCw hBX hbcX hblX k1 hask hgO hPk
      go_wp2_with fail
      rw [← hX]
      go_roundw
      case rel=>exact ⟨k + 1,by omega,by go_num,nx,HEND.out.1,HEND.out.2.1,HEND.out.2.2.1,HEND.out.2.2.2⟩
      case measure=>simp [intOf]; omega
     ·have hk1:((fOf p (pfield (pickN ps k))).kind == 1)=false:=by rw [beq_eq_false_iff_ne]; exact k1
      have hkeys:keys.flatMap (fun key=>keysO (valsAll V p ps keys p.hs (oOf p (pfield (pickN ps k))).svc (oOf p (pfield (pickN ps k))).type (oOf p (pfield (pickN ps k))).field key))=keys.flatMap (leads V (oOf p (pfield (pickN ps k)))):=flatMap_same fun key hkey=>keysO_pick HGP.out HAF.out hmem hkey
      have hnf:=next_few HGP.out HAF.out hmem HKd.out
      obtain ⟨a9,e9,e8,-,htx⟩:=HKX.out.at (by unfold maxLen; omega) HKs.out
      cases e8
      have hcl:=keysOf_any w.heap.size (some ⟨cb,0,none⟩) ps.length cc bv (p.hs.length * 72000) (some bh) (oOf p (pfield (pickN ps k))) (valsAll V p ps keys p.hs) ka kcap keys X HMX.out hgO.2.2 hgO.1 hgO.2.1 htx (by rw [hkeys]; exact hnf)
      rw [hkeys] at hcl
      replace hcl:Calls Tryz.prog 47 #[.agg #[.slice (some ⟨cb,0,none⟩) ps.length cc,.map (some bh),.map (some bv)],.agg #[.int .i64 (oOf p (pfield (pickN ps k))).svc,.string (oOf p (pfield (pickN ps k))).type,.string (oOf p (pfield (pickN ps k))).field],.slice ka keys.length kcap] X fun e w'=>(∃ u,e = .returned u∧TRow w' X.heap.size u (nextOf V (oOf p (pfield (pickN ps k))) keys))∧Below X.heap.size X w':=hcl
      have hnl2:(nextOf V (oOf p (pfield (pickN ps k))) keys).length≤1200:=Nat.le_trans (once_len _) hnf
      have HNSm:Hid (∀ x,x ∈ nextOf V (oOf p (pfield (pickN ps k))) keys→Small x):=Hid.intro fun x hx=>by
       obtain ⟨key,hkey,hx⟩:=List.mem_flatMap.1 (once_mem.1 hx)
       unfold leads at hx
       by_cases hh:hasT (V (oOf p (pfield (pickN ps k))).svc.toNat) (oOf p (pfield (pickN ps k))).type key=true
       ·rw [if_pos hh] at hx
        obtain ⟨s9,hs9,es9,ho9⟩:=HGP.out.r.owner _ hfk
        have es8:(oOf p (pfield (pickN ps k))).svc.toNat=s9:=by rw [es9]; simp
        rw [es8] at hx hh
        obtain ⟨m9,hm9,em9,-⟩:=ho9 key hh
        rw [em9] at hx
        obtain ⟨i9,hi9,-,ei9,-⟩:=hasT_iff hh
        rw [ei9] at hx hm9
        obtain ⟨b9,o9,-,hsv9⟩:=HE.out.servs.2 s9 hs9
        obtain ⟨b8,o8,-,-,-,-,-,-,-,hv9⟩:=hsv9.ok.things.2 i9 hi9
        obtain ⟨b7,o7,-,-,-,-,-,-,-,hk9⟩:=hv9.2 m9 hm9
        unfold keysV at hx
        obtain ⟨j9,hj9,rfl⟩:=List.mem_map.1 hx
        obtain ⟨b6,o6,-,-,hs6⟩:=hk9.2 j9 (by simpa using hj9)
        exact hs6
       ·rw [if_neg hh] at hx; cases hx
      obtain ⟨m0,m1,m2⟩:wr.cell? ⟨bl,0,none⟩=some (.slice (some ⟨cb,0,none⟩) ps.length cc)∧wr.cell? ⟨bl,1,none⟩=some (.map (some bh))∧wr.cell? ⟨bl,2,none⟩=some (.map (some bv)):=by simp [World.cell?,hblw]
      have hblt:bl < wr.heap.size:=block_lt_of_cell m0
      have HblX:=Hid.intro hblX
      have HbcX:=Hid.intro hbcX
      have HPk:=Hid.intro hPk
      have HAk:=Hid.intro hask
      have Hk1:=Hid.intro k1
      rw [hX] at hcl
      clear hw hrow hG hNx hBr hblw hresw hKw hMw hCw hBX hbcX hblX k1 hask hgO hPk hkeys hnf htx hfk
      go_wp2_with fail
      refine hcl.mono ?_
      clear hcl
      rw [← hX]
      rintro e w1 ⟨⟨u,rfl,hT⟩,hB1⟩
      obtain ⟨na,nc,rfl,hnc⟩:=hT.slice
      have HT1:=Hid.intro hT
      have HB1:=Hid.intro hB1
      have HW1:Hid (KQ N0 (fun q=>q=bg∨q=cb) Y2 w1):=HWX.out.trans (KQ.of hB1)
      have HR1:=Hid.intro (HRX.out.kept hB1)
      have HG1:=Hid.intro (HGX.out.kept hB1)
      have HN1:Hid (∀ j,j < k→NxOk w.heap.size bg cb V L d p ps keys w1 (nx j) j):=Hid.intro fun j hj=>(HNX.out j hj).step (N0:=N0) (KQ.of hB1)
      have hB1s:=hB1.size
      clear hT hB1 hX c0 c1 c2 c3 c4 c5 c6 c7 c8 c9 c10 m0 m1 m2
      by_cases hnn:nextOf V (oOf p (pfield (pickN ps k))) keys = []
      ·have hl0:(nextOf V (oOf p (pfield (pickN ps k))) keys).length=0:=by rw [hnn]; rfl
       have HEND:Hid (KQ N0 (fun q=>q=bg∨q=cb) Y2 w1∧Row w1 w.heap.size 127 11 (.slice (some ⟨cb,0,none⟩) ps.length cc) ps.length (chCell p ps pv nx)∧GateAt N0 bg (.slice la n cap) (.slice (some ⟨g,0,none⟩) L.length pc) w1 (R ++ p.hs.map (homeAsk p keys ps) ++ (ps.take (k + 1)).flatMap (asksK V L (asks V L d) p keys))∧∀ j,j < k + 1→NxOk w.heap.size bg cb V L d p ps keys w1 (nx j) j):=by
        refine ⟨HW1.out,HR1.out,?_,fun j hj=>?_⟩
        ·have e0:asksK V L (asks V L d) p keys (pickN ps k) = []:=by unfold asksK; rw [if_neg Hk1.out,if_pos hnn]
         rw [HTF.out,e0,List.append_nil]
         exact HG1.out
        ·rcases Nat.lt_succ_iff_lt_or_eq.1 hj with h | h
         ·exact HN1.out j h
         ·subst h
          exact fun _ hne=>absurd hnn hne
       rw [hl0]
       clear hnn hl0 hnc hnl2 HT1
       go_wp2_with fail
       go_roundw
       case rel=>exact ⟨k + 1,by omega,by go_num,nx,HEND.out.1,HEND.out.2.1,HEND.out.2.2.1,HEND.out.2.2.2⟩
       case measure=>simp [intOf]; omega
      ·have hpos:0 < (nextOf V (oOf p (pfield (pickN ps k))) keys).length:=List.length_pos_iff.2 hnn
       have hpos':(0:Int) < ((nextOf V (oOf p (pfield (pickN ps k))) keys).length:Int):=by omega
       rcases HAk.out with ⟨h9,-⟩ | ⟨-,hsne,hpi9,hcR9⟩
       ·exact absurd h9 Hk1.out
       have e0:asksK V L (asks V L d) p keys (pickN ps k)=asks V L d (pOf L (fOf p (pfield (pickN ps k))).type) (nextOf V (oOf p (pfield (pickN ps k))) keys) (subs (pickN ps k)):=by unfold asksK; rw [if_neg Hk1.out,if_neg hnn]
       have HE0:=Hid.intro e0
       have HRl:Hid ((R ++ p.hs.map (homeAsk p keys ps) ++ (ps.take k).flatMap (asksK V L (asks V L d) p keys)).length + (asks V L d (pOf L (fOf p (pfield (pickN ps k))).type) (nextOf V (oOf p (pfield (pickN ps k))) keys) (subs (pickN ps k))).length≤1000):=Hid.intro (by
        have h9:=HLen.out
        have h8:=flat_le (asksK V L (asks V L d) p keys) ps (k + 1)
        rw [HTF.out,e0,List.length_append] at h8
        rw [List.length_append] at h9
        rw [List.length_append,List.length_append]
        omega)
       have HA9:Hid (∀ wA,Below w1.heap.size w1 wA→Calls Tryz.prog 24 #[.pointer (some ⟨bg,0,none⟩),.string (fOf p (pfield (pickN ps k))).type,.slice na (nextOf V (oOf p (pfield (pickN ps k))) keys).length nc,.slice sa (subs (pickN ps k)).length sc] wA fun e w' => ∃ l:LV,e = .returned (.agg #[.slice l.a l.n l.c,.map l.h,.map l.v])∧(GateAt N0 bg (.slice la n cap) (.slice (some ⟨g,0,none⟩) L.length pc) w' (R ++ p.hs.map (homeAsk p keys ps) ++ (ps.take k).flatMap (asksK V L (asks V L d) p keys) ++ asks V L d (pOf L (fOf p (pfield (pickN ps k))).type) (nextOf V (oOf p (pfield (pickN ps k))) keys) (subs (pickN ps k)))∧KeepQ N0 bg wA w'∧TellFn wA.heap.size w' l d (nextOf V (oOf p (pfield (pickN ps k))) keys) (tellF V L d (pOf L (fOf p (pfield (pickN ps k))).type) (subs (pickN ps k))))):=Hid.intro fun wA hA =>
        HIH.out _ (nextOf V (oOf p (pfield (pickN ps k))) keys) na nc sa sc (subs (pickN ps k)) _ wA ((H0X.out.trans (HB1.out.mono (by omega))).trans (hA.mono (by omega))) (HG1.out.kept hA) ((HT1.out.base (Nat.zero_le _)).kept hA) HNSm.out (once_nodup _) hnn hnl2 HPk.out hsne (HSm.out.2 k hlt) hpi9 hcR9 HRl.out
       have Hg1:Hid (∃ cs,w1.heap[bg]? = some (.cells cs 82 (0,0))):=Hid.intro (let ⟨_,_,_,hb9,_⟩:=HG1.out; ⟨_,hb9⟩)
       have Hbl1:=Hid.intro ((HB1.out.block _ (lt_of_block HblX.out)).trans HblX.out)
       have Hbc1:=Hid.intro ((HB1.out.block _ (lt_of_block HbcX.out)).trans HbcX.out)
       clear hsne hpi9 hcR9 e0 hnc
       go_upto_region 14 with fail
       refine next_step (N0:=N0) (bg:=bg) (d:=d) (bl:=bl) (bc:=wr.heap.size) (cb:=cb) (cn:=ps.length) (cc:=cc) (kn:=(nextOf V (oOf p (pfield (pickN ps k))) keys).length) (kc:=nc) (sn:=(subs (pickN ps k)).length) (sc:=sc) (k:=k) (base:=w.heap.size) (ka:=na) (sa:=sa) (ty:=(fOf p (pfield (pickN ps k))).type) (p:=p) (ps:=ps) (pv:=pv) (nx:=nx)
        (A1:=fun wA l w'=>GateAt N0 bg (.slice la n cap) (.slice (some ⟨g,0,none⟩) L.length pc) w' (R ++ p.hs.map (homeAsk p keys ps) ++ (ps.take k).flatMap (asksK V L (asks V L d) p keys) ++ asks V L d (pOf L (fOf p (pfield (pickN ps k))).type) (nextOf V (oOf p (pfield (pickN ps k))) keys) (subs (pickN ps k)))∧KeepQ N0 bg wA w'∧TellFn wA.heap.size w' l d (nextOf V (oOf p (pfield (pickN ps k))) keys) (tellF V L d (pOf L (fOf p (pfield (pickN ps k))).type) (subs (pickN ps k)))) (lh:=some bh) (lv:=some bv)
        (by kernel_rfl) rfl rfl rfl rfl rfl hlt HR1.out Hbl1.out Hbc1.out Hg1.out HA9.out (fun _ _ _ h=>h.2.1) ?_
       rintro s l wA wB hBA ⟨hG',hK',hT'⟩
       have hKQ9:KQ N0 (fun q=>q=bg∨q=cb) w1 (putLV cb (k * 11) wB l):=((KQ.of hBA).trans (KQ.ofQ hK' (.inl rfl))).trans (putLV_kq (.inr rfl))
       have hcbw1:cb < w1.heap.size:=(HR1.out.lt rfl).2
       have hrB:Row wB w.heap.size 127 11 (.slice (some ⟨cb,0,none⟩) ps.length cc) ps.length (chCell p ps pv nx):=HR1.out.at fun q hq=>by
        obtain ⟨c9,ho9⟩:=HR1.out.obj hq
        have hKB:KeepQ N0 bg w1 wB:=(KeepQ.of hBA).trans hK'
        refine hKB.cells ho9 (by decide) fun e=>?_
        have:=(HR1.out.lt hq).1
        have:=HbgN.out
        omega
       obtain ⟨c8,ho8⟩:=hrB.obj (k:=cb) rfl
       have hGB:GateAt N0 bg (.slice la n cap) (.slice (some ⟨g,0,none⟩) L.length pc) (putLV cb (k * 11) wB l) (R ++ p.hs.map (homeAsk p keys ps) ++ (ps.take k).flatMap (asksK V L (asks V L d) p keys) ++ asks V L d (pOf L (fOf p (pfield (pickN ps k))).type) (nextOf V (oOf p (pfield (pickN ps k))) keys) (subs (pickN ps k))):=hG'.at fun q cs t _ ho9 ht9=>putLV_block fun e=>by
        subst e
        rw [ho8] at ho9
        cases ho9
        rcases ht9 with h | h | h <;> exact absurd h (by decide)
       have HEND:Hid (KQ N0 (fun q=>q=bg∨q=cb) Y2 (putLV cb (k * 11) wB l)∧Row (putLV cb (k * 11) wB l) w.heap.size 127 11 (.slice (some ⟨cb,0,none⟩) ps.length cc) ps.length (chCell p ps pv (fun j=>if j=k then l else nx j))∧GateAt N0 bg (.slice la n cap) (.slice (some ⟨g,0,none⟩) L.length pc) (putLV cb (k * 11) wB l) (R ++ p.hs.map (homeAsk p keys ps) ++ (ps.take (k + 1)).flatMap (asksK V L (asks V L d) p keys))∧∀ j,j < k + 1→NxOk w.heap.size bg cb V L d p ps keys (putLV cb (k * 11) wB l) (if j=k then l else nx j) j):=by
        refine ⟨HW1.out.trans hKQ9,putLV_row hrB,?_,fun j hj=>?_⟩
        ·rw [HTF.out,HE0.out,← List.append_assoc]
         exact hGB
        ·rcases Nat.lt_succ_iff_lt_or_eq.1 hj with h | h
         ·rw [if_neg (by omega)]
          exact (HN1.out j h).step hKQ9
         ·subst h
          rw [if_pos rfl]
          have hAs:=hBA.size
          have hbN:=HbgN.out
          have hSZ:=HSZ.out
          refine fun _ _=>⟨wA.heap.size,by omega,by omega,by omega,hT'.step ?_⟩
          exact (putLV_kq (N0:=N0) (X:=fun q=>q=bg∨q=cb) (.inr rfl)).later fun q hq=>by
           rcases hq with rfl | rfl <;> omega
       clear hG' hK' hT' hKQ9 hrB hGB ho8 hBA
       generalize putLV cb (k * 11) wB l=w9 at *
       generalize hnx':(fun j=>if j=k then l else nx j)=nx' at *
       have HEND2:Hid (KQ N0 (fun q=>q=bg∨q=cb) Y2 w9∧Row w9 w.heap.size 127 11 (.slice (some ⟨cb,0,none⟩) ps.length cc) ps.length (chCell p ps pv nx')∧GateAt N0 bg (.slice la n cap) (.slice (some ⟨g,0,none⟩) L.length pc) w9 (R ++ p.hs.map (homeAsk p keys ps) ++ (ps.take (k + 1)).flatMap (asksK V L (asks V L d) p keys))∧∀ j,j < k + 1→NxOk w.heap.size bg cb V L d p ps keys w9 (nx' j) j):=by
        rw [← hnx'] at HEND ⊢
        exact HEND
       clear HEND hnx'
       simp only [putAll,Act.put,List.setIfInBounds_toArray,List.set_cons_succ,List.set_cons_zero]
       generalize s 70=t70
       generalize s 71=t71
       generalize s 72=t72
       generalize s 73=t73
       generalize s 74=t74
       generalize s 75=t75
       generalize s 76=t76
       generalize s 77=t77
       generalize s 78=t78
       generalize s 79=t79
       generalize s 80=t80
       generalize s 81=t81
       generalize s 82=t82
       go_wp2_with fail
       go_roundw
       case rel=>exact ⟨k + 1,by omega,by go_num,nx',HEND2.out.1,HEND2.out.2.1,HEND2.out.2.2.1,HEND2.out.2.2.2⟩
       case measure=>simp [intOf]; omega
    ·have hkn:k=ps.length:=by omega
     rw [hkn,List.take_length] at hG
     have HNxA:Hid (∀ j,j < ps.length→NxOk w.heap.size bg cb V L d p ps keys wr (nx j) j):=Hid.intro fun j hj=>hNx j (by omega)
     obtain ⟨d0,d1,d2⟩:wr.cell? ⟨bl,0,none⟩=some (.slice (some ⟨cb,0,none⟩) ps.length cc)∧wr.cell? ⟨bl,1,none⟩=some (.map (some bh))∧wr.cell? ⟨bl,2,none⟩=some (.map (some bv)):=by simp [World.cell?,hblw]
     obtain ⟨x0,x1,x2⟩:wr.cell? ⟨w.heap.size,0,none⟩=some (.slice none 0 0)∧wr.cell? ⟨w.heap.size,1,none⟩=some (.map none)∧wr.cell? ⟨w.heap.size,2,none⟩=some (.map none):=by simp [World.cell?,hresw]
     obtain ⟨y0,y1,y2⟩:wr.frozen? ⟨w.heap.size,0,none⟩=false∧wr.frozen? ⟨w.heap.size,1,none⟩=false∧wr.frozen? ⟨w.heap.size,2,none⟩=false:=by simp [World.frozen?,hresw]
     have hnlr:bl≠w.heap.size:=by have:=HNs.out; omega
     have hnrl:w.heap.size≠bl:=Ne.symm hnlr
     have HEND:Hid (∀ u0 u1 u2:Value,GateAt N0 bg (.slice la n cap) (.slice (some ⟨g,0,none⟩) L.length pc) (((wr.setCell ⟨w.heap.size,0,none⟩ u0).setCell ⟨w.heap.size,1,none⟩ u1).setCell ⟨w.heap.size,2,none⟩ u2) (R ++ (p.hs.map (homeAsk p keys ps) ++ ps.flatMap (asksK V L (asks V L d) p keys)))∧KeepQ N0 bg w (((wr.setCell ⟨w.heap.size,0,none⟩ u0).setCell ⟨w.heap.size,1,none⟩ u1).setCell ⟨w.heap.size,2,none⟩ u2)∧TellFn w.heap.size (((wr.setCell ⟨w.heap.size,0,none⟩ u0).setCell ⟨w.heap.size,1,none⟩ u1).setCell ⟨w.heap.size,2,none⟩ u2) ⟨some ⟨cb,0,none⟩,ps.length,cc,some bh,some bv⟩ (d + 1) keys (tellF V L (d + 1) p ps)):=Hid.intro fun u0 u1 u2=>by
      have hset:∀ q,q≠w.heap.size→(((wr.setCell ⟨w.heap.size,0,none⟩ u0).setCell ⟨w.heap.size,1,none⟩ u1).setCell ⟨w.heap.size,2,none⟩ u2).heap[q]? = wr.heap[q]?:=fun q hq=>by
       rw [Below.heap_setCell _ _ _ _ (by exact hq),Below.heap_setCell _ _ _ _ (by exact hq),Below.heap_setCell _ _ _ _ (by exact hq)]
      have hsz:(((wr.setCell ⟨w.heap.size,0,none⟩ u0).setCell ⟨w.heap.size,1,none⟩ u1).setCell ⟨w.heap.size,2,none⟩ u2).heap.size=wr.heap.size:=by simp
      generalize hZ:((wr.setCell ⟨w.heap.size,0,none⟩ u0).setCell ⟨w.heap.size,1,none⟩ u1).setCell ⟨w.heap.size,2,none⟩ u2=Z9 at *
      have hos9:Z9.os=wr.os∧Z9.tape=wr.tape∧Z9.output=wr.output:=by rw [← hZ]; exact ⟨rfl,rfl,rfl⟩
      have hnn:∀ {q t:Nat} {cs:Array Value} {fz:Nat × Nat},wr.heap[q]? = some (.cells cs t fz)→t≠88→q≠w.heap.size:=fun ho ht e=>by
       rw [e,hresw] at ho; cases ho; exact ht rfl
      refine ⟨?_,?_,?_⟩
      ·rw [← List.append_assoc]
       refine hG.at fun q cs t _ ho ht=>hset q (hnn ho ?_)
       rcases ht with h | h | h <;> rw [h] <;> decide
      ·refine ⟨hos9.1.trans (hw.os.trans HKw.out.os),hos9.2.1.trans (hw.tape.trans HKw.out.tape),hos9.2.2.trans (hw.output.trans HKw.out.output),by rw [hsz]; exact Nat.le_trans HKw.out.size hw.size,fun q hq hne hqq=>?_⟩
       have e1:=HKw.out.block q hq hne hqq
       have hcbN:=HcbN.out
       rw [hset q (by omega),hw.block q (by have:=HSZ.out; omega) (fun e=>by omega) (hqq.imp id fun hn=>by unfold isReq at hn ⊢; rw [e1]; exact hn),e1]
      ·intro w1 hLat key hks hkey
       have hrowZ:Row Z9 w.heap.size 127 11 (.slice (some ⟨cb,0,none⟩) ps.length cc) ps.length (chCell p ps pv nx):=hrow.at fun q hq=>let ⟨_,ho⟩:=hrow.obj hq; hset q (hnn ho (by decide))
       have hCZ:CMap Z9 bh (p.hs.length * 1200) (cntAll V keys p.hs):=hCw.at (hset bh (fun e=>by
        obtain ⟨es,c9,hm⟩:=hCw.obj
        rw [e,hresw] at hm; cases hm))
       have hMZ:LMap w.heap.size Z9 bv (p.hs.length * 72000) (valsAll V p ps keys p.hs):=hMw.at (hset bv (fun e=>by
        obtain ⟨es,c9,hm⟩:=hMw.obj
        rw [e,hresw] at hm; cases hm)) fun q cs _ _ ho=>hset q (hnn ho (by decide))
       have hNs:=HNs.out
       refine tell_any d w.heap.size w.heap.size (p.hs.length * 1200) (p.hs.length * 72000) p ps V L (some ⟨cb,0,none⟩) cc bh bv pv nx (cntAll V keys p.hs) (valsAll V p ps keys p.hs) key w1 (hrowZ.later hLat (by decide) (Nat.le_refl _)) HPV.out (hCZ.later hLat hNs.1) (hMZ.later hLat hNs.2.1) hks ?_ hps fun j hj=>?_
       ·rw [cntAll_eq HKd.out hkey]
        exact cntH_zero
       have hmem:pickN ps j ∈ ps:=by rw [pickN_get hj]; exact List.getElem_mem hj
       have hfk : ¬ fieldIdx p.fs.length (fsN p) (pfield (pickN ps j)) < 0:=HAF.out _ hmem
       have hix:=(idx_in (p:=fun j9=>eqs (fsN p j9).name (pfield (pickN ps j))) hfk).1
       obtain ⟨b9,o9,-,-,-,-,hg9⟩:=(HPt.out w0 (Below.refl _ _)).owners.2 _ (by rw [HOS.out]; exact hix)
       have hg9:GoodO (oOf p (pfield (pickN ps j))):=hg9
       have hkd:=HKp.out _ hix
       have hkd:(fOf p (pfield (pickN ps j))).kind=1∨(fOf p (pfield (pickN ps j))).kind=2∨(fOf p (pfield (pickN ps j))).kind=3:=hkd
       have hvp:=valsAll_pick HGP.out HAF.out hmem hkey
       refine ⟨hg9.2.2,hg9.1,hg9.2.1,hkd,nextOf V (oOf p (pfield (pickN ps j))) keys,tellF V L d (pOf L (fOf p (pfield (pickN ps j))).type) (subs (pickN ps j)),fun x hx=>?_,?_⟩
       ·rw [hvp] at hx
        by_cases hh:hasT (V (oOf p (pfield (pickN ps j))).svc.toNat) (oOf p (pfield (pickN ps j))).type key=true
        ·rw [if_pos hh] at hx
         cases hx
         obtain ⟨h9,hm9,es9,et9⟩:=HGP.out.home _ hfk
         have hin:∀ q,q < (valT (thingT (V (oOf p (pfield (pickN ps j))).svc.toNat) (oOf p (pfield (pickN ps j))).type key) (oOf p (pfield (pickN ps j))).field).nk→(valT (thingT (V (oOf p (pfield (pickN ps j))).svc.toNat) (oOf p (pfield (pickN ps j))).type key) (oOf p (pfield (pickN ps j))).field).K q ∈ nextOf V (oOf p (pfield (pickN ps j))) keys:=fun q hq=>by
          unfold nextOf
          refine once_mem.2 (List.mem_flatMap.2 ⟨key,hkey,?_⟩)
          unfold leads
          rw [if_pos hh]
          exact List.mem_map.2 ⟨q,by simpa using hq,rfl⟩
         refine ⟨?_,fun h1 h2=>?_,hin⟩
         ·obtain ⟨s9,hs9,es8,ho9⟩:=HGP.out.r.owner _ hfk
          have es7:(oOf p (pfield (pickN ps j))).svc.toNat=s9:=by rw [es8]; simp
          rw [es7] at hh ⊢
          obtain ⟨m9,-,em9,-,g9,-,hr9⟩:=ho9 key hh
          rw [em9]
          exact hr9.few
         ·have hne:nextOf V (oOf p (pfield (pickN ps j))) keys≠[]:=fun e=>by
           have:=hin 0 h2
           rw [e] at this; cases this
          obtain ⟨Ni,q1,q2,q3,q4⟩:=HNxA.out j hj h1 hne
          have hcbN:=HcbN.out
          have hl1:Later Ni wr w1:=Later.trans ⟨by rw [hsz]; exact Nat.le_refl _,fun q hN _ _=>hset q (by omega)⟩ (hLat.mono q1)
          exact (q4.step hl1).mono q1
        ·rw [if_neg hh] at hx; cases hx
       ·rw [hvp]
        unfold gotK gotO
        by_cases hh:hasT (V (oOf p (pfield (pickN ps j))).svc.toNat) (oOf p (pfield (pickN ps j))).type key=true
        ·rw [if_pos hh,if_pos hh]
         unfold gotX gotV
         show (if _ then _ else _)=_
         by_cases k1:(fOf p (pfield (pickN ps j))).kind=1
         ·rw [if_pos k1,if_pos k1]
         ·rw [if_neg k1,if_neg k1]
          unfold subsOf tellF
          rw [gfilterMap_if]
        ·rw [if_neg hh,if_neg hh]
         rfl
     clear hw hrow hG hNx hBr hblw hresw hKw hMw hCw hXN hNY hnl hnr hXs hnv hnh
     go_wp2_with fail
     obtain ⟨e1,e2,e3⟩:=HEND.out (.slice (some ⟨cb,0,none⟩) ps.length cc) (.map (some bh)) (.map (some bv))
     exact bodyPost_ret (v:=.agg #[.slice (some ⟨cb,0,none⟩) ps.length cc,.map (some bh),.map (some bv)]) (by simp [results,Tryz.results24,go_sem,x0,x1,x2]) rfl ⟨⟨some ⟨cb,0,none⟩,ps.length,cc,some bh,some bv⟩,rfl,e1,e2,e3⟩
theorem ask_any (N0 bg:Nat) (w0:World) (la:Option Addr) (n cap:Nat) (pa:Option Addr) (pn pc:Nat) (V:Nat→LServ) (L:List PPart) (hE:AskEnv N0 bg w0 la n cap (.slice pa pn pc) V L):∀ d,AskOk N0 bg w0 la n cap pa pn pc V L d
 | 0=>ask_zero N0 bg w0 la n cap pa pn pc V L
 | d + 1=>ask_succ N0 bg w0 la n cap pa pn pc V L hE d (ask_any N0 bg w0 la n cap pa pn pc V L hE d)
end Go.Proofs.YtjjggefmmeminacGreat
