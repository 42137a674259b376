import Derived.Test.YtjjggefmmeminacGreatJRe2
import Derived.Test.YtjjggefmmeminacGreatQyCheck
import Derived.Deep.CutRange
namespace Go.Proofs.YtjjggefmmeminacGreat
open Go.RowKit Go.Sort Go.PlainAid
theorem Tryz.e79:∀ args w,(callFunc 79 args).run Tryz.prog w = .ok (.enter 79 args) w:=enters_of Tryz.func79 (by kernel_rfl) rfl
theorem Env.valsAt {w:World} {pv vv:Value} {n:Nat} {V:Nat→LServ} {L:List PPart} (h:Env w pv vv n V L) {s:Nat} (hs:s < n) {ty key:ByteArray} (hh:hasT (V s) ty key=true):ValsAt w (thingT (V s) ty key).va (thingT (V s) ty key).nv (thingT (V s) ty key).V:=by
 obtain ⟨bm,bl,m,la,cap,-,-,hS⟩:=h.finds
 obtain ⟨b,o,-,hsv⟩:=hS.2 s hs
 obtain ⟨i,hi,-,e,-,-⟩:=hasT_iff hh
 obtain ⟨b2,o2,-,-,-,-,-,-,-,hv⟩:=hsv.ok.things.2 i hi
 rw [e]; exact hv
theorem set6 {w:World} {b:Nat} {c0 c1 c2 c3 c4 c5:Value} : OnlyB b w ((((((w.setCell ⟨b,0,none⟩ c0).setCell ⟨b,1,none⟩ c1).setCell ⟨b,2,none⟩ c2).setCell ⟨b,3,none⟩ c3).setCell ⟨b,4,none⟩ c4).setCell ⟨b,5,none⟩ c5):=((((((OnlyB.refl _ _).set _ _).set _ _).set _ _).set _ _).set _ _).set _ _
set_option maxRecDepth 100000 in
set_option maxHeartbeats 2000000 in
theorem picker1_any (d n:Nat) (V:Nat→LServ) (L:List PPart) (pv vv:Value) (bk bf bw bo bi s_ kn kc:Nat) (nk pf key:ByteArray) (A0:Option Addr) (fl:LField) (o:POwner) (ps:List (Pick d)) (fv:Value) (w:World)
  (hE:Env w pv vv n V L) (k0:w.cell? ⟨bk,0,none⟩=some (.string nk)) (k1:w.cell? ⟨bk,1,none⟩=some (.string pf)) (k2:w.cell? ⟨bk,2,none⟩=some (.slice A0 kn kc)) (f1:w.cell? ⟨bf,1,none⟩=some (.int .i64 fl.kind)) (hw1:w.cell? ⟨bw,1,none⟩=some vv)
  (o0:w.cell? ⟨bo,0,none⟩=some (.int .i64 o.svc)) (o1:w.cell? ⟨bo,1,none⟩=some (.string o.type)) (o2:w.cell? ⟨bo,2,none⟩=some (.string o.field)) (hc:w.cell? ⟨bi,0,none⟩=some fv) (hF:FillFn noB w fv d fl.kind (fun nm x=>gotV V L (gots V L d) nm fl x ps))
  (hs:s_ < n) (hsv:o.svc=(s_:Int)) (hO:OwnR V s_ fl o) (hty:Small o.type) (hks:Small key) :
  Calls Tryz.prog 79 #[.string key,.pointer (some ⟨bk,0,none⟩),.pointer (some ⟨bf,0,none⟩),.pointer (some ⟨bw,0,none⟩),.pointer (some ⟨bo,0,none⟩),.pointer (some ⟨bi,0,none⟩)] w fun e w'=>Below w.heap.size w w' ∧
   ∃ A C A2 C2,e = .returned (gotA (gotO V L (gots V L d) key (calledS nk pf) fl o ps) A C A2 C2)∧GotV (fun k=>k < w.heap.size) w' (gotO V L (gots V L d) key (calledS nk pf) fl o ps) A C A2 C2:=by
 obtain ⟨bm,bl,hvv,hvals⟩:=hE.vals
 subst hvv
 unfold findV at hw1
 rw [hsv] at o0
 obtain ⟨G0,hG0⟩:∃ G0,G0=gotO V L (gots V L d) key (calledS nk pf) fl o ps:=⟨_,rfl⟩
 rw [← hG0]
 have HG:Hid (G0=if hasT (V s_) o.type key=true then gotV V L (gots V L d) (calledS nk pf) fl (valT (thingT (V s_) o.type key) o.field) ps else mkGot (calledS nk pf) fl.kind true ⟨#[]⟩ [] []):=Hid.intro (by rw [hG0]; unfold gotO; rw [hsv,Int.toNat_natCast])
 clear hG0
 have HE:=Hid.intro hE
 have HF:=Hid.intro hF
 have HO:=Hid.intro hO
 have HV:=Hid.intro hvals
 clear hE hF hO hvals hsv
 generalize hW:w.alloc (Obj.cells #[.string ⟨#[]⟩,.int .i64 0,.bool false,.string ⟨#[]⟩,.slice none 0 0,.slice none 0 0] 56)=W
 have hBW:Below w.heap.size w W:=by rw [← hW]; exact below1 _ _
 have hR0:W.heap[w.heap.size]? = some (.cells #[.string ⟨#[]⟩,.int .i64 0,.bool false,.string ⟨#[]⟩,.slice none 0 0,.slice none 0 0] 56 (0,0)):=by rw [← hW]; exact heap_alloc_new _ _
 have HBW:=Hid.intro hBW
 have HR0:=Hid.intro hR0
 have HK0:=Hid.intro (keptCell hBW k0)
 have HK1:=Hid.intro (keptCell hBW k1)
 have HK2:=Hid.intro (keptCell hBW k2)
 have HF1:=Hid.intro (keptCell hBW f1)
 have HW1:=Hid.intro hw1
 have HO0:=Hid.intro o0
 have HO1:=Hid.intro o1
 have HO2:=Hid.intro o2
 have HC:=Hid.intro hc
 clear hBW hR0 k0 k1 k2 f1 hw1 o0 o1 o2 hc
 go_enter Tryz.func79,Tryz.ntmps79
 go_upto_region 1 with fail
 clear hW
 refine pickNew (bp:=bk) (bf:=bf) (kd:=fl.kind) (nm:=calledS nk pf) (by kernel_rfl) rfl rfl HK0.out HK1.out HK2.out HF1.out (fun w1 _=>qcalled_any nk pf A0 kn kc w1) ?_
 intro s w2 b0 hB2 hs8 hb0 hbox
 have hB3:Below w.heap.size w w2:=HBW.out.trans (hB2.mono HBW.out.size)
 have hw1:=keptCell hB3 HW1.out
 have o0:=keptCell hB3 HO0.out
 have o1:=keptCell hB3 HO1.out
 have o2:=keptCell hB3 HO2.out
 have HB3:=Hid.intro hB3
 have HBX:Hid (GBox w2 b0 (calledS nk pf) fl.kind):=Hid.intro hbox
 have HR2:=Hid.intro ((hB2.block _ (lt_of_block HR0.out)).trans HR0.out)
 have hb0w:w.heap.size < b0:=Nat.lt_of_lt_of_le (lt_of_block HR0.out) hb0
 have hcl:=HV.out w2 hB3 s_ o.type o.field key hs hty hks
 clear hB2 hbox hB3 hb0 HK0 HK1 HK2 HF1 HR0
 simp only [putAll,Act.put,List.setIfInBounds_toArray,List.set_cons_succ,List.set_cons_zero,hs8]
 generalize s 11=t11
 generalize s 12=t12
 generalize s 13=t13
 generalize s 14=t14
 generalize s 15=t15
 go_wp2_with fail
 refine hcl.mono ?_
 clear hcl
 rintro e w3 ⟨rfl,hw3⟩
 have hB3:Below w.heap.size w w3:=HB3.out.trans (hw3.mono HB3.out.size)
 have HBX3:Hid (GBox w3 b0 (calledS nk pf) fl.kind):=Hid.intro ((hw3.block _ (lt_of_block HBX.out)).trans HBX.out)
 have HR3:=Hid.intro ((hw3.block _ (lt_of_block HR2.out)).trans HR2.out)
 have hlt0:b0 < w3.heap.size:=lt_of_block HBX3.out
 have HB4:=Hid.intro hB3
 have HC3:=Hid.intro (keptCell hB3 HC.out)
 have o2:=keptCell hw3 o2
 have HO3:=Hid.intro o2
 clear hw3 hB3 HB3 HBX HR2 hw1 o0 o1 HV o2
 cases hh:hasT (V s_) o.type key with
 | true =>
  obtain ⟨m,hm,ev,hu,gl,hgk,hvr⟩:=HO.out key hh
  have hVA:=HE.out.valsAt hs hh
  have ex:valsV (V s_) o.type key = .slice (thingT (V s_) o.type key).va (thingT (V s_) o.type key).nv (thingT (V s_) o.type key).vcap:=by unfold valsV; rw [if_pos hh]
  rw [ex]
  rw [hh,if_pos rfl,ev] at HG
  have hidx:idx (thingT (V s_) o.type key).nv (fun j=>eqs ((thingT (V s_) o.type key).V j).field o.field)=(m:Int):=idx_hit hm ((hu m hm).2 rfl) fun j hj=>by
   rw [Bool.eq_false_iff]
   intro e9
   have:=(hu j (by omega)).1 e9
   omega
  generalize thingT (V s_) o.type key=th at *
  have HX:Hid (∀ w1,Below w.heap.size w w1→ValOk w1 (th.V m)):=Hid.intro fun w1 hw1=>by
   obtain ⟨b,o',-,-,-,-,-,-,-,hk⟩:=(hVA.kept hw1).2 m hm
   exact ⟨hk,hvr.few⟩
  have HVO:Hid (∀ w1,Below w.heap.size w w1→Calls Tryz.prog 80 #[.slice th.va th.nv th.vcap,.string o.field] w1 fun e w'=>e = .returned (valA (th.V m))∧Below w1.heap.size w1 w'):=Hid.intro fun w1 hw1=>valOf_any th.va th.nv th.vcap m th.V o.field w1 (hVA.kept hw1) hm hidx
  obtain ⟨K,caps,⟨hfv,eK⟩,hfc⟩:=HF.out
  subst hfv
  have HFC:=Hid.intro hfc
  clear hh hu hidx hVA ex ev hvr hgk hm hfc HF HO HE
  go_upto_region 4 with fail
  refine pickFill (R:=fun w'=>Below w.heap.size w w'∧w'.heap[w.heap.size]? = some (.cells #[.string ⟨#[]⟩,.int .i64 0,.bool false,.string ⟨#[]⟩,.slice none 0 0,.slice none 0 0] 56 (0,0))∧∃ A C A2 C2,w'.heap[b0]? = some (.cells (gotCs (gotV V L (gots V L d) (calledS nk pf) fl (th.V m) ps) A C A2 C2) 56 (0,0))∧GotV (fun k=>k < w3.heap.size) w' (gotV V L (gots V L d) (calledS nk pf) fl (th.V m) ps) A C A2 C2) (bi:=bi) (bo:=bo) (b:=b0) (a:=th.va) (n:=th.nv) (cap:=th.vcap) (x:=th.V m) (by kernel_rfl) rfl rfl rfl rfl HC3.out eK HO3.out (fun w1 h1=>HVO.out w1 (HB4.out.trans (h1.mono HB4.out.size))) (fun w1 h1=>?_) ?_
  ·have h1w:Below w.heap.size w w1:=HB4.out.trans (h1.mono HB4.out.size)
   refine (HFC.out w1 (KeepX.of h1w) b0 (calledS nk pf) (th.V m) ((h1.block _ hlt0).trans HBX3.out) (HX.out w1 h1w)).mono ?_
   rintro e w' ⟨rfl,hk,A,C,A2,C2,hb,hv⟩
   have hsz:=h1.size
   have hw3s:=HB4.out.size
   have hlr:w.heap.size < w3.heap.size:=lt_of_block HR3.out
   refine ⟨rfl,?_,?_,A,C,A2,C2,hb,hv.step (Nat.le_refl _) (fun _ _ _=>rfl) (fun k _ hk=>Nat.lt_of_lt_of_le hk hsz)⟩
   ·exact h1w.trans ⟨hk.os,hk.tape,hk.output,hk.size,fun k hk9=>hk.block k ⟨by omega,by omega⟩⟩
   ·rw [hk.block _ ⟨by omega,by omega⟩,h1.block _ hlr]; exact HR3.out
  intro s w4 hR
  obtain ⟨hB5,hr5,A,C,A2,C2,hb5,hg5⟩:=hR
  have hlr:w.heap.size < w3.heap.size:=lt_of_block HR3.out
  have hlr5:w.heap.size < w4.heap.size:=lt_of_block hr5
  generalize gotV V L (gots V L d) (calledS nk pf) fl (th.V m) ps=gg at *
  obtain ⟨⟨x0,x1,x2,x3,x4,x5⟩,y0,y1,y2,y3,y4,y5⟩:=got_box hr5 rfl
  obtain ⟨⟨g0,g1,g2,g3,g4,g5⟩,-⟩:=got_box hb5 rfl
  have HEND:Hid (∀ c0 c1 c2 c3 c4 c5:Value,Below w.heap.size w ((((((w4.setCell ⟨w.heap.size,0,none⟩ c0).setCell ⟨w.heap.size,1,none⟩ c1).setCell ⟨w.heap.size,2,none⟩ c2).setCell ⟨w.heap.size,3,none⟩ c3).setCell ⟨w.heap.size,4,none⟩ c4).setCell ⟨w.heap.size,5,none⟩ c5)∧GotV (fun k=>k < w.heap.size) ((((((w4.setCell ⟨w.heap.size,0,none⟩ c0).setCell ⟨w.heap.size,1,none⟩ c1).setCell ⟨w.heap.size,2,none⟩ c2).setCell ⟨w.heap.size,3,none⟩ c3).setCell ⟨w.heap.size,4,none⟩ c4).setCell ⟨w.heap.size,5,none⟩ c5) gg A C A2 C2):=Hid.intro fun c0 c1 c2 c3 c4 c5 =>
   ⟨hB5.trans (set6.below (Nat.le_refl _)),hg5.step (by rw [set6.size]; exact Nat.le_refl _) (fun k _ hk=>set6.block k (fun e=>hk (by rw [e]; exact hlr))) (fun k _ hk=>by show k < w3.heap.size; have:k < w.heap.size:=hk; omega)⟩
  clear hB5 hr5 hb5 hg5 hlr HX HVO HFC HBX3 HR3 HB4 HC3 HO3 HC HO0 HO1 HO2 HW1 HBW hlt0 hb0w
  simp only [putAll,Act.put,List.setIfInBounds_toArray,List.set_cons_succ,List.set_cons_zero]
  generalize s 25=t25
  generalize s 26=t26
  generalize s 27=t27
  generalize s 28=t28
  generalize s 29=t29
  generalize s 30=t30
  go_wp2_with fail
  exact bodyPost_ret (v:=gotA gg A C A2 C2) (by simp [results,Tryz.results79,go_sem,gotA,x0,x1,x2,x3,x4,x5]) rfl ⟨(HEND.out _ _ _ _ _ _).1,A,C,A2,C2,by rw [HG.out],by rw [HG.out]; exact (HEND.out _ _ _ _ _ _).2⟩
 | false =>
  have ex:valsV (V s_) o.type key = .slice none 0 0:=by unfold valsV; rw [hh]; rfl
  rw [ex]
  rw [hh,if_neg (by decide)] at HG
  obtain ⟨c0,c1,c2,c3,c4,c5⟩:=HBX3.out.cells
  obtain ⟨z2,z3,z4,z5⟩:=HBX3.out.free
  obtain ⟨⟨x0,x1,x2,x3,x4,x5⟩,y0,y1,y2,y3,y4,y5⟩:=got_box HR3.out rfl
  have hne:b0≠w.heap.size:=by omega
  have HEND:Hid (∀ u c0 c1 c2 c3 c4 c5:Value,Below w.heap.size w (((((((w3.setCell ⟨b0,2,none⟩ u).setCell ⟨w.heap.size,0,none⟩ c0).setCell ⟨w.heap.size,1,none⟩ c1).setCell ⟨w.heap.size,2,none⟩ c2).setCell ⟨w.heap.size,3,none⟩ c3).setCell ⟨w.heap.size,4,none⟩ c4).setCell ⟨w.heap.size,5,none⟩ c5)):=Hid.intro fun u c0 c1 c2 c3 c4 c5 =>
   (HB4.out.trans (((OnlyB.refl b0 w3).set 2 u).below (by omega))).trans (set6.below (Nat.le_refl _))
  clear HF HO HE hh ex HBX3 HR3 HB4 HC3 HO3 HC HO0 HO1 HO2 HW1 HBW
  go_wp2_with fail
  exact bodyPost_ret (v:=gotA (mkGot (d:=d) (calledS nk pf) fl.kind true ⟨#[]⟩ [] []) none 0 none 0) (by simp [results,Tryz.results79,go_sem,gotA,x0,x1,x2,x3,x4,x5]; exact ⟨rfl,rfl,rfl,rfl,rfl,rfl⟩) rfl ⟨HEND.out _ _ _ _ _ _ _,none,0,none,0,by rw [HG.out],by rw [HG.out]; exact ⟨Nat.le_refl _,Nat.le_refl _,gots_nil,subs_nil⟩⟩
set_option maxRecDepth 100000 in
set_option maxHeartbeats 2000000 in
theorem picker_any (n:Nat) (V:Nat→LServ) (L:List PPart) (d:Nat) (hG:GetterOk n V L d) (N0:Nat) (pa:Option Addr) (pn pc:Nat) (vv:Value) (p:PPart) (fa oa ha9:Option Addr) (fc oc hn hc:Nat) (k:Pick (d + 1)) (A:Option Addr) (C:Nat) (w:World)
  (hE:EnvN N0 w (.slice pa pn pc) vv n V L) (hFs:FieldsAt w fa p.fs.length (fsN p)) (hOs:OwnersAt w oa p.os.length (osN p)) (hR:PartR n V p) (hK:∀ j,j < p.fs.length→(fsN p j).kind=1∨(fsN p j).kind=2∨(fsN p j).kind=3)
  (hf : ¬ fieldIdx p.fs.length (fsN p) (pfield k) < 0) (hz:AskR L d (fOf p (pfield k)) (subs k))
  (hP:PicksAt w d A (subs k)) (hm:Sm d (subs k)) :
  Calls Tryz.prog 54 #[.agg #[.slice pa pn pc,vv],.agg #[.string p.name,.slice fa p.fs.length fc,.slice oa p.os.length oc,.slice ha9 hn hc],.agg #[.string (nick k),.string (pfield k),.slice A (subs k).length C]] w fun e w'=>(∃ v,e = .returned v∧PickFn (mid N0 w.heap.size) w' v d (fun key=>gotK V L (gots V L d) p key k))∧Below w.heap.size w w':=by
 have hmf:∀ (fn:Fn) (first cap:Array Value) (w:World),(Instr.makeFunc fn first cap).run Tryz.prog w = .ok (.func fn first cap) w:=fun _ _ _ _=>rfl
 obtain ⟨bm,bl,hvv,-⟩:=hE.now.vals
 subst hvv
 have hN0:N0≤w.heap.size:=hE.size
 obtain ⟨i,hi⟩:∃ i:Nat,fieldIdx p.fs.length (fsN p) (pfield k)=(i:Int):=⟨(fieldIdx p.fs.length (fsN p) (pfield k)).toNat,by omega⟩
 have hil:i < p.fs.length:=by
  have h1:=(idx_in (p:=fun j=>eqs (fsN p j).name (pfield k)) hf).1
  have h2:idx p.fs.length (fun j=>eqs (fsN p j).name (pfield k))=(i:Int):=hi
  rw [h2] at h1; simpa using h1
 have hio:i < p.os.length:=by rw [hR.os]; exact hil
 have ef:fOf p (pfield k)=fsN p i:=by unfold fOf; rw [hi,Int.toNat_natCast]
 have eo:oOf p (pfield k)=osN p i:=by unfold oOf; rw [hi,Int.toNat_natCast]
 obtain ⟨s_,hs,hsv,hOR⟩:=hR.owner (pfield k) hf
 rw [ef] at hz hOR
 rw [eo] at hsv hOR
 obtain ⟨gf,of,rfl,c0,c1,c2,-,hst,-⟩:=hFs.2 i hil
 obtain ⟨go,oo,rfl,d0,d1,d2,hgo⟩:=hOs.2 i hio
 have HE:=Hid.intro hE
 have HGK:Hid (∀ key,gotK V L (gots V L d) p key k=gotO V L (gots V L d) key (calledS (nick k) (pfield k)) (fsN p i) (osN p i) (subs k)):=Hid.intro fun key=>by unfold gotK; rw [ef,eo]; rfl
 have HOR:Hid (OwnR V s_ (fsN p i) (osN p i)):=Hid.intro hOR
 have HSV:=Hid.intro hsv
 have hty:Small (osN p i).type:=hgo.1
 generalize hW:((w.alloc (Obj.cells #[.slice pa pn pc,findV bm bl] 98)).alloc (Obj.cells #[.string p.name,.slice (some ⟨gf,of,none⟩) p.fs.length fc,.slice (some ⟨go,oo,none⟩) p.os.length oc,.slice ha9 hn hc] 114)).alloc (Obj.cells #[.string (nick k),.string (pfield k),.slice A (subs k).length C] 76)=W
 have hBW:Below w.heap.size w W:=by rw [← hW]; exact below3 _ _ _ _
 have a0:W.cell? ⟨w.heap.size,0,none⟩=some (.slice pa pn pc):=by rw [← hW,World.cell?_alloc_past _ _ _ (by simp; omega),World.cell?_alloc_past _ _ _ (by simp),World.cell?_alloc_at _ _ _ _ rfl]; rfl
 have a1:W.cell? ⟨w.heap.size,1,none⟩=some (findV bm bl):=by rw [← hW,World.cell?_alloc_past _ _ _ (by simp; omega),World.cell?_alloc_past _ _ _ (by simp),World.cell?_alloc_at _ _ _ _ rfl]; rfl
 have b1:W.cell? ⟨w.heap.size + 1,1,none⟩=some (.slice (some ⟨gf,of,none⟩) p.fs.length fc):=by rw [← hW,World.cell?_alloc_past _ _ _ (by simp),World.cell?_alloc_at _ _ _ _ (by simp)]; rfl
 have b2:W.cell? ⟨w.heap.size + 1,2,none⟩=some (.slice (some ⟨go,oo,none⟩) p.os.length oc):=by rw [← hW,World.cell?_alloc_past _ _ _ (by simp),World.cell?_alloc_at _ _ _ _ (by simp)]; rfl
 have e0:W.cell? ⟨w.heap.size + 1 + 1,0,none⟩=some (.string (nick k)):=by rw [← hW,World.cell?_alloc_at _ _ _ _ (by simp)]; rfl
 have e1:W.cell? ⟨w.heap.size + 1 + 1,1,none⟩=some (.string (pfield k)):=by rw [← hW,World.cell?_alloc_at _ _ _ _ (by simp)]; rfl
 have e2:W.cell? ⟨w.heap.size + 1 + 1,2,none⟩=some (.slice A (subs k).length C):=by rw [← hW,World.cell?_alloc_at _ _ _ _ (by simp)]; rfl
 have hcl:=field_any (some ⟨gf,of,none⟩) p.fs.length fc (fsN p) (pfield k) W (hFs.kept hBW)
 rw [hi] at hcl
 have HBW:=Hid.intro hBW
 have HC0:=Hid.intro c0
 have HC1:=Hid.intro c1
 have HC2:=Hid.intro c2
 have HD0:=Hid.intro d0
 have HD1:=Hid.intro d1
 have HD2:=Hid.intro d2
 have HKi:=Hid.intro (hK i hil)
 have HZ:=Hid.intro hz
 have HP:=Hid.intro hP
 have HM:=Hid.intro hm
 have HGO:=Hid.intro hG
 have hgl:gf < w.heap.size:=block_lt_of_cell c0
 have hgl2:go < w.heap.size:=block_lt_of_cell d0
 clear hE hFs hOs hR hK hf hz hP hm hG hi ef eo hOR hsv hgo hst c0 c1 c2 d0 d1 d2 hBW
 unfold findV at hW a1
 unfold findV
 go_enter Tryz.func54,Tryz.ntmps54
 go_wp2_with fail
 clear hW
 refine hcl.mono ?_
 clear hcl
 rintro e w1 ⟨rfl,hw1⟩
 have hB1:Below w.heap.size w w1:=HBW.out.trans (hw1.mono HBW.out.size)
 have HA0:=Hid.intro (keptCell hw1 a0)
 have HA1:=Hid.intro (keptCell hw1 a1)
 have HB1:=Hid.intro (keptCell hw1 b1)
 have HB2:=Hid.intro (keptCell hw1 b2)
 have HE0:=Hid.intro (keptCell hw1 e0)
 have HE1:=Hid.intro (keptCell hw1 e1)
 have HE2:=Hid.intro (keptCell hw1 e2)
 have HW1:=Hid.intro hB1
 clear hw1 a0 a1 b1 b2 e0 e1 e2 hB1 HBW
 go_upto_region 2 with fail
 refine pickTwo (bp:=w.heap.size + 1) (g:=gf) (o:=of) (g2:=go) (o2:=oo) (i:=i) (by kernel_rfl) rfl rfl hil hio HB1.out HB2.out (keptCell HW1.out HC0.out) (keptCell HW1.out HC1.out) (keptCell HW1.out HC2.out) (keptCell HW1.out HD0.out) (keptCell HW1.out HD1.out) (keptCell HW1.out HD2.out) ?_
 intro s w2 bf bo hB2 hs8 hbf hbx hs9 hbo hby
 have hB3:Below w.heap.size w w2:=HW1.out.trans (hB2.mono HW1.out.size)
 have a0:=keptCell hB2 HA0.out
 have a1:=keptCell hB2 HA1.out
 have e2:=keptCell hB2 HE2.out
 obtain ⟨f0,f1,f2⟩:w2.cell? ⟨bf,0,none⟩=some (.string (fsN p i).name)∧w2.cell? ⟨bf,1,none⟩=some (.int .i64 (fsN p i).kind)∧w2.cell? ⟨bf,2,none⟩=some (.string (fsN p i).type):=by simp [World.cell?,hbx]
 have HF1:=Hid.intro f1
 have HO0:Hid (w2.cell? ⟨bo,0,none⟩=some (.int .i64 (osN p i).svc)):=Hid.intro (by simp [World.cell?,hby])
 have HO1:Hid (w2.cell? ⟨bo,1,none⟩=some (.string (osN p i).type)):=Hid.intro (by simp [World.cell?,hby])
 have HO2:Hid (w2.cell? ⟨bo,2,none⟩=some (.string (osN p i).field)):=Hid.intro (by simp [World.cell?,hby])
 have HK0:=Hid.intro (keptCell hB2 HE0.out)
 have HK1:=Hid.intro (keptCell hB2 HE1.out)
 have HK2:=Hid.intro e2
 have HWV:=Hid.intro a1
 have hcl:=filler_any n V L d HGO.out N0 pa pn pc (findV bm bl) (fsN p i) A C (subs k) w2 (HE.out.kept hB3) (HP.out.kept hB3) HM.out HKi.out HZ.out
 unfold findV at hcl
 have HW2:=Hid.intro hB3
 have hsz1:w.heap.size≤w1.heap.size:=HW1.out.size
 clear hB2 hbx hby hB3 HA0 HA1 HB1 HB2 HE0 HE1 HE2 HC0 HC1 HC2 HD0 HD1 HD2 HW1 HKi HZ HP HM HGO
 simp only [putAll,Act.put,List.setIfInBounds_toArray,List.set_cons_succ,List.set_cons_zero,hs8,hs9]
 generalize s 17=t17
 generalize s 18=t18
 generalize s 19=t19
 generalize s 20=t20
 generalize s 21=t21
 generalize s 22=t22
 generalize s 23=t23
 generalize s 24=t24
 generalize s 25=t25
 generalize s 26=t26
 generalize s 27=t27
 go_wp2_with fail
 refine hcl.mono ?_
 clear hcl
 rintro e w3 ⟨⟨fv,rfl,hfv⟩,hw3⟩
 obtain ⟨KF,caps,⟨rfl,eKF⟩,hfc⟩:=hfv
 have hB4:Below w2.heap.size w2 (w3.alloc (Obj.cells #[.func (.func KF) #[] caps] 169)):=hw3.trans ((below1 w3 _).mono hw3.size)
 have hB5:Below w.heap.size w (w3.alloc (Obj.cells #[.func (.func KF) #[] caps] 169)):=HW2.out.trans (hB4.mono HW2.out.size)
 have hc0:(w3.alloc (Obj.cells #[.func (.func KF) #[] caps] 169)).cell? ⟨w3.heap.size,0,none⟩=some (.func (.func KF) #[] caps):=by rw [World.cell?_alloc_at _ _ _ _ rfl]; rfl
 have hFF:FillFn (mid N0 w.heap.size) (w3.alloc (Obj.cells #[.func (.func KF) #[] caps] 169)) (.func (.func KF) #[] caps) d (fsN p i).kind (fun nm x=>gotV V L (gots V L d) nm (fsN p i) x (subs k)) :=
  FillFn.step (X:=mid N0 w2.heap.size) ⟨KF,caps,⟨rfl,eKF⟩,hfc⟩ (KeepX.of (below1 _ _)) fun q _ hq=>⟨hq.1,Nat.lt_of_lt_of_le hq.2 HW2.out.size⟩
 have hsz3:w.heap.size≤w3.heap.size:=Nat.le_trans HW2.out.size hw3.size
 have HEND:Hid (PickFn (mid N0 w.heap.size) (w3.alloc (Obj.cells #[.func (.func KF) #[] caps] 169)) (.func (.func 79) #[] #[.pointer (some ⟨w.heap.size + 1 + 1,0,none⟩),.pointer (some ⟨bf,0,none⟩),.pointer (some ⟨w.heap.size,0,none⟩),.pointer (some ⟨bo,0,none⟩),.pointer (some ⟨w3.heap.size,0,none⟩)]) d (fun key=>gotK V L (gots V L d) p key k)):=Hid.intro ⟨_,_,⟨rfl,Tryz.e79⟩,fun w9 hw9 key hks=>by
  have nx:∀ q,w.heap.size≤q→¬ mid N0 w.heap.size q:=fun q hq hm=>by have:=hm.2; omega
  show Calls Tryz.prog _ _ w9 fun e w'=>Below w9.heap.size w9 w'∧∃ A C A2 C2,e = .returned (gotA (gotK V L (gots V L d) p key k) A C A2 C2)∧GotV (fun k=>k < w9.heap.size) w' (gotK V L (gots V L d) p key k) A C A2 C2
  rw [HGK.out key]
  exact picker1_any d n V L (.slice pa pn pc) (findV bm bl) (w.heap.size + 1 + 1) bf w.heap.size bo w3.heap.size s_ (subs k).length C (nick k) (pfield k) key A (fsN p i) (osN p i) (subs k) (.func (.func KF) #[] caps) w9 (((HE.out.kept hB5).x hw9).now)
   (hw9.cell (keptCell hB4 HK0.out) (nx _ (by show w.heap.size≤w.heap.size + 1 + 1; omega))) (hw9.cell (keptCell hB4 HK1.out) (nx _ (by show w.heap.size≤w.heap.size + 1 + 1; omega))) (hw9.cell (keptCell hB4 HK2.out) (nx _ (by show w.heap.size≤w.heap.size + 1 + 1; omega))) (hw9.cell (keptCell hB4 HF1.out) (nx _ (Nat.le_trans hsz1 hbf))) (hw9.cell (keptCell hB4 HWV.out) (nx _ (Nat.le_refl _)))
   (hw9.cell (keptCell hB4 HO0.out) (nx _ (Nat.le_trans hsz1 hbo))) (hw9.cell (keptCell hB4 HO1.out) (nx _ (Nat.le_trans hsz1 hbo))) (hw9.cell (keptCell hB4 HO2.out) (nx _ (Nat.le_trans hsz1 hbo))) (hw9.cell hc0 (nx _ hsz3)) (hFF.step hw9 fun _ _ h=>h.elim) hs HSV.out HOR.out hty hks⟩
 have HB5:=Hid.intro hB5
 clear hw3 hB4 hB5 hc0 hFF hfc HE HGK HOR HSV HF1 HO0 HO1 HO2 HK0 HK1 HK2 HWV HW2 a0 a1 e2 f0 f1 f2
 go_wp2_with fail
 go_ret
 exact ⟨⟨_,rfl,HEND.out⟩,HB5.out⟩
end Go.Proofs.YtjjggefmmeminacGreat
