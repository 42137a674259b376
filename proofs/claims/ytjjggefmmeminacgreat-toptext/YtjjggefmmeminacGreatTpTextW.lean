import Derived.Test.YtjjggefmmeminacGreatJGe
import Derived.Test.YtjjggefmmeminacGreatMgAll
import Derived.Test.YtjjggefmmeminacGreatQyCheckW
import Derived.Test.YtjjggefmmeminacGreatJTr
import Derived.Test.YtjjggefmmeminacGreatRgSame
namespace Go.Proofs.YtjjggefmmeminacGreat
open Go.RowKit Go.Sort Go.PlainAid
set_option maxRecDepth 100000 in
set_option maxHeartbeats 4000000 in
theorem mean_any (la:Option Addr) (n cap:Nat) (V:Nat→LServ) (d:Nat) (type key:ByteArray) (a:Option Addr) (acap:Nat) (ps:List (Pick d)) (w:World) (hS:ServsAt w la n V) (hP:PicksAt w d a ps) (hcap:ps.length≤acap) (hs0:Small type) (hs1:Small key) :
  Calls Tryz.prog 16 #[.slice la n cap,.agg #[.string type,.string key,.slice a ps.length acap]] w fun e w'=>MeanEnd w.heap.size d (meanG n V d type key ps) (meanE n V d type key ps) e w'∧Below w.heap.size w w':=by
 have HS:=Hid.intro hS
 have HP:=Hid.intro hP
 obtain ⟨M,hM⟩:∃ M,M=meanG n V d type key ps:=⟨_,rfl⟩
 obtain ⟨x,hx⟩:∃ x,x=meanE n V d type key ps:=⟨_,rfl⟩
 rw [← hM,← hx]
 have HM:Hid (M=if x=0 then gots V (allP (ntS V) (seenA V) n) d (pOf (allP (ntS V) (seenA V) n) type) key ps else []):=Hid.intro (by rw [hM,hx]; rfl)
 have HX:Hid (x=if (allF n V).1≠0 then (allF n V).1 else askE V (allP (ntS V) (seenA V) n) d type key ps):=Hid.intro hx
 generalize hW:w.alloc (Obj.cells #[.string type,.string key,.slice a ps.length acap] 25)=W
 have hBW:Below w.heap.size w W:=by rw [← hW]; exact below1 _ _
 have a0:W.cell? ⟨w.heap.size,0,none⟩=some (.string type):=by rw [← hW,World.cell?_alloc_at _ _ _ _ rfl]; rfl
 have a1:W.cell? ⟨w.heap.size,1,none⟩=some (.string key):=by rw [← hW,World.cell?_alloc_at _ _ _ _ rfl]; rfl
 have a2:W.cell? ⟨w.heap.size,2,none⟩=some (.slice a ps.length acap):=by rw [← hW,World.cell?_alloc_at _ _ _ _ rfl]; rfl
 have hcl:=mall_any la n cap V W (hS.kept hBW)
 have HBW:=Hid.intro hBW
 clear hS hP hM hx hBW
 go_enter Tryz.func16,Tryz.ntmps16
 go_wp2_with fail
 clear hW
 refine hcl.mono ?_
 clear hcl
 rintro e w1 ⟨⟨va,vn,vc,rfl,-,hPt⟩,hw1⟩
 have hB1:Below w.heap.size w w1:=HBW.out.trans (hw1.mono HBW.out.size)
 have a0:=keptCell hw1 a0
 have a1:=keptCell hw1 a1
 have a2:=keptCell hw1 a2
 have hab:w.heap.size < w1.heap.size:=block_lt_of_cell a0
 have HPt:=Hid.intro hPt
 have HF0:Hid (allF n V=allF n V):=Hid.intro rfl
 obtain ⟨fl,hfl⟩:∃ fl,fl=allF n V:=⟨_,rfl⟩
 rw [← hfl] at HX HPt
 rw [← hfl]
 have HFL:=Hid.intro hfl
 clear hfl HF0 hPt
 unfold faultV
 generalize hX1:w1.alloc (Obj.cells #[.int .i64 fl.1,.int .i64 fl.2] 45)=X1
 have hBX:Below w1.heap.size w1 X1:=by rw [← hX1]; exact below1 _ _
 have f0:X1.cell? ⟨w1.heap.size,0,none⟩=some (.int .i64 fl.1):=by rw [← hX1,World.cell?_alloc_at _ _ _ _ rfl]; rfl
 have b0:=keptCell hBX a0
 have b1:=keptCell hBX a1
 have b2:=keptCell hBX a2
 have HBX:=Hid.intro (hB1.trans (hBX.mono hB1.size))
 have HX1:=Hid.intro hBX
 clear hw1 hB1 hBX a0 a1 a2
 by_cases h0:fl.1=0
 case neg =>
  have hb:(fl.1 != 0)=true:=by simpa using h0
  have HE:Hid (x=fl.1∧M = []):=Hid.intro (by
   have e1:x=fl.1:=by rw [HX.out,if_pos h0]
   refine ⟨e1,?_⟩
   rw [HM.out,if_neg (by rw [e1]; exact h0)])
  clear h0 HX HM HPt HS HP
  go_wp2_with fail
  clear hX1
  go_quiet (fail)
  go_wp2_with fail
  exact bodyPost_ret (v:=.tuple #[.slice none 0 0,.int .i64 fl.1]) (by simp [results,Tryz.results16,go_sem]) rfl ⟨by rw [HE.out.1]; exact meanEnd_none HE.out.2,HBX.out.trans ((below_drewN _ _).mono HBX.out.size)⟩
 have hb:(fl.1 != 0)=false:=by simpa using h0
 obtain ⟨rv,hPa⟩:=HPt.out h0
 obtain ⟨hvn,hvc,hpts⟩:=hPa.pts
 have HXE:Hid (x=askE V (allP (ntS V) (seenA V) n) d type key ps):=Hid.intro (by rw [HX.out,if_neg (fun h=>h h0)])
 have hall:(allF n V).1=0:=by rw [← HFL.out]; exact h0
 have HR:Hid (∀ nm,¬ partIdx (allP (ntS V) (seenA V) n).length (lpOf (allP (ntS V) (seenA V) n)) nm < 0→PartR n V (pOf (allP (ntS V) (seenA V) n) nm)):=Hid.intro fun nm h=>part_r hall h
 have HKD:=Hid.intro (kinds_all hall)
 have hwr:=wrongF_ok (allF_wrong hall)
 have hn5:n≤5:=hwr.1
 have HX60:Hid (∀ i,i < n→(V i).nx≤60):=Hid.intro fun i hi=>by
  rcases Nat.eq_zero_or_pos (V i).nx with h | h
  ·omega
  ·exact (thing_right (hwr.2 i hi).2 h).1
 have HON:Hid (∀ i,i < n→Onces (V i).nx (V i).X):=Hid.intro fun i hi=>things_once (hwr.2 i hi).2
 generalize allP (ntS V) (seenA V) n=L at *
 subst hvn
 obtain ⟨P,hPA,hcA⟩:=hpts.check
 have hcl:=qcheck_any va L.length vc P d type key a acap ps X1 (hPA.kept HX1.out) (HP.out.kept HBX.out) hcap hs0 hs1
 rw [hcA] at hcl
 have HPA:=Hid.intro hPa
 clear hPa hpts hPA hcA hall hwr HPt HFL HX h0
 go_wp2_with fail
 clear hX1
 refine hcl.mono ?_
 clear hcl
 rintro e w2 ⟨rfl,hw2⟩
 have HB2:Hid (Below w.heap.size w w2):=Hid.intro (HBX.out.trans (hw2.mono HBX.out.size))
 have hB12:Below w1.heap.size w1 w2:=HX1.out.trans (hw2.mono HX1.out.size)
 have HPA2:=Hid.intro (HPA.out.kept' hB12)
 have b0:=keptCell hw2 b0
 have b1:=keptCell hw2 b1
 have b2:=keptCell hw2 b2
 clear hw2 hB12 HPA HX1 HBX f0
 by_cases hc0:cA L.length (lpOf L) d type key ps=0
 case neg =>
  have hcb:(cA L.length (lpOf L) d type key ps != 0)=true:=by simpa using hc0
  have HE:Hid (x=cA L.length (lpOf L) d type key ps∧M = []):=Hid.intro (by
   have e1:x=cA L.length (lpOf L) d type key ps:=by rw [HXE.out]; unfold askE; rw [if_pos hc0]
   refine ⟨e1,?_⟩
   rw [HM.out,if_neg (by rw [e1]; exact hc0)])
  generalize cA L.length (lpOf L) d type key ps=y at *
  clear hc0 HXE HM HS HP HPA2 HR HKD HX60 HON
  go_wp2_with fail
  exact bodyPost_ret (v:=.tuple #[.slice none 0 0,.int .i64 y]) (by simp [results,Tryz.results16,go_sem]) rfl ⟨by rw [HE.out.1]; exact meanEnd_none HE.out.2,HB2.out⟩
 have hcb:(cA L.length (lpOf L) d type key ps != 0)=false:=by simpa using hc0
 obtain ⟨hwA,hpi,hcR⟩:=cA_wA hc0
 have HSM:=Hid.intro (wA_sm hwA)
 have HPI:Hid (¬ partIdx L.length (lpOf L) type < 0∧cR L.length (lpOf L) d (pOf L type).fs.length (fsN (pOf L type)) [] ps=0):=Hid.intro ⟨hpi,hcR⟩
 have hpos:0≤partIdx L.length (lpOf L) type:=by omega
 have HCR:Hid (cR L.length (lpOf L) d (pOf L type).fs.length (fsN (pOf L type)) [] ps=0):=Hid.intro hcR
 have HXT:Hid (x=if thereP V (pOf L type) key=true then 0 else 5):=Hid.intro (by rw [HXE.out]; unfold askE; rw [if_neg (fun h=>h hc0)])
 clear hwA hpi hcR HXE hc0 HPI
 have hcl:=mfinder_any la n cap V w2 (HS.out.kept HB2.out) hn5 HX60.out HON.out
 go_wp2_with fail
 refine hcl.mono ?_
 clear hcl
 rintro e w3 ⟨bm,bl,m,rfl,hFi,hw3⟩
 have hB3:Below w.heap.size w w3:=HB2.out.trans (hw3.mono HB2.out.size)
 unfold findV
 generalize hX3:w3.alloc (Obj.cells #[.slice va L.length vc,.func (.func 53) #[] #[.pointer (some ⟨bm,0,none⟩),.pointer (some ⟨bl,0,none⟩)]] 98)=X3
 have hBX3:Below w3.heap.size w3 X3:=by rw [← hX3]; exact below1 _ _
 have HC0:Hid (X3.cell? ⟨w3.heap.size,0,none⟩=some (.slice va L.length vc)):=Hid.intro (by rw [← hX3,World.cell?_alloc_at _ _ _ _ rfl]; rfl)
 have HC1:Hid (X3.cell? ⟨w3.heap.size,1,none⟩=some (findV bm bl)):=Hid.intro (by rw [← hX3,World.cell?_alloc_at _ _ _ _ rfl]; rfl)
 have hw3X:Below w2.heap.size w2 X3:=hw3.trans (hBX3.mono hw3.size)
 have HB0:=Hid.intro (keptCell hw3X b0)
 have HB1:=Hid.intro (keptCell hw3X b1)
 have HB2':=Hid.intro (keptCell hw3X b2)
 have HBX3:Hid (Below w.heap.size w X3):=Hid.intro (HB2.out.trans (hw3X.mono HB2.out.size))
 have HEN:Hid (EnvN X3.heap.size X3 (.slice va L.length vc) (findV bm bl) n V L):=Hid.intro ⟨Nat.le_refl _,⟨_,rv,fun q hq=>(HPA2.out.kept' hw3X).kept' (hq.below fun _ h=>h)⟩,⟨bm,bl,m,la,cap,rfl,fun q hq=>⟨(hFi.kept hBX3).kept (hq.below fun _ h=>h),(HS.out.kept HBX3.out).kept (hq.below fun _ h=>h)⟩⟩⟩
 have HPX:=Hid.intro (HP.out.kept HBX3.out)
 clear hw3 hB3 hFi hBX3 hw3X HPA2 HS HP HB2 b0 b1 b2
 go_upto_region 8 with fail
 clear hX3
 refine meanAsk (d:=d) (bw:=w3.heap.size) (ba:=w.heap.size) (pa:=va) (pn:=L.length) (pc:=vc) (vv:=findV bm bl) (type:=type) (key:=key) (f:=fun key=>if thereP V (pOf L type) key=true then some (gots V L d (pOf L type) key ps) else none) (by kernel_rfl) rfl rfl HC0.out HC1.out ⟨bm,bl,rfl⟩ HB0.out HB1.out HB2'.out hs1 (fun q hq=>?_) ?_
 ·refine (getter_any n V L (fun nm h=>HR.out nm (by omega)) HKD.out d X3.heap.size va L.length vc (findV bm bl) type a acap ps q (HEN.out.kept hq) (fun e=>?_) (by omega) HCR.out HSM.out.1 (HPX.out.kept hq)).mono fun e w' h=>?_
  ·have:=HSM.out.2
   rw [e] at this
   simp at this
  ·obtain ⟨⟨v,e1,hv⟩,hb⟩:=h
   exact ⟨⟨v,e1,hv.step (KeepX.refl _ _) fun _ _ h=>h.elim⟩,hb⟩
 intro s w4 y hB4 hs10 hs11 hSl
 have HB4:Hid (Below w.heap.size w w4):=Hid.intro (HBX3.out.trans (hB4.mono HBX3.out.size))
 have hsz:=HBX3.out.size
 have HFIN:Hid ((∀ t,t=(if thereP V (pOf L type) key=true then some (gots V L d (pOf L type) key ps) else none)→t.isSome=thereP V (pOf L type) key)):=Hid.intro (fun t ht=>by rw [ht]; cases thereP V (pOf L type) key <;> rfl)
 cases ht:thereP V (pOf L type) key with
 | false =>
  have hy:y = .slice none 0 0:=by
   rcases hSl with ⟨-,h⟩ | ⟨M',a',c',h,-⟩
   ·exact h
   ·rw [ht] at h; cases h
  have hs11':s 11 = .bool false:=by rw [hs11]; show Value.bool (if thereP V (pOf L type) key=true then some (gots V L d (pOf L type) key ps) else none).isSome=_; rw [ht]; rfl
  have HE:Hid (x=5∧M = []):=Hid.intro (by
   have e1:x=5:=by rw [HXT.out,ht]; rfl
   exact ⟨e1,by rw [HM.out,e1]; rfl⟩)
  subst hy
  clear hSl hB4 hs11 HXT HM HFIN HEN HPX HBX3 HSM HCR HR HKD HX60 HON HC0 HC1 HB0 HB1 HB2' hsz
  simp only [putAll,Act.put,List.setIfInBounds_toArray,List.set_cons_succ,List.set_cons_zero,hs10,hs11']
  generalize s 33=t33
  generalize s 34=t34
  generalize s 35=t35
  generalize s 36=t36
  generalize s 37=t37
  generalize s 38=t38
  generalize s 39=t39
  generalize s 40=t40
  generalize s 41=t41
  generalize s 32=t32
  generalize s 42=t42
  generalize s 43=t43
  go_wp2_with fail
  exact bodyPost_ret (v:=.tuple #[.slice none 0 0,.int .i64 5]) (by simp [results,Tryz.results16,go_sem]) rfl ⟨by rw [HE.out.1]; exact meanEnd_none HE.out.2,HB4.out⟩
 | true =>
  obtain ⟨M',a',c',hM',rfl,hc',hout⟩:∃ M' a' c',(if thereP V (pOf L type) key=true then some (gots V L d (pOf L type) key ps) else none)=some M'∧y = .slice a' M'.length c'∧M'.length≤c'∧GotsOut X3.heap.size d w4 a' c' M':=by
   rcases hSl with ⟨h,-⟩ | h
   ·rw [ht] at h; cases h
   ·exact h
  have hs11':s 11 = .bool true:=by rw [hs11]; show Value.bool (if thereP V (pOf L type) key=true then some (gots V L d (pOf L type) key ps) else none).isSome=_; rw [ht]; rfl
  have HE:Hid (x=0∧M=M'):=Hid.intro (by
   have e1:x=0:=by rw [HXT.out,ht]; rfl
   refine ⟨e1,?_⟩
   rw [HM.out,e1,if_pos rfl]
   rw [ht,if_pos rfl] at hM'
   exact Option.some.inj hM')
  have HO:=Hid.intro (hout.base hsz)
  clear hSl hB4 hs11 HXT HM HFIN HEN HPX HBX3 HSM HCR HR HKD HX60 HON HC0 HC1 HB0 HB1 HB2' hsz hM' hout
  simp only [putAll,Act.put,List.setIfInBounds_toArray,List.set_cons_succ,List.set_cons_zero,hs10,hs11']
  generalize s 33=t33
  generalize s 34=t34
  generalize s 35=t35
  generalize s 36=t36
  generalize s 37=t37
  generalize s 38=t38
  generalize s 39=t39
  generalize s 40=t40
  generalize s 41=t41
  generalize s 32=t32
  generalize s 42=t42
  generalize s 43=t43
  go_wp2_with fail
  exact bodyPost_ret (v:=.tuple #[.slice a' M'.length c',.int .i64 0]) (by simp [results,Tryz.results16,go_sem]) rfl ⟨by rw [HE.out.1,HE.out.2]; exact ⟨a',c',rfl,hc',HO.out⟩,HB4.out⟩
end Go.Proofs.YtjjggefmmeminacGreat
namespace Go.Proofs.YtjjggefmmeminacGreat
open Go.RowKit Go.Sort Go.PlainAid
set_option maxRecDepth 100000 in
set_option maxHeartbeats 4000000 in
theorem topText_any (a:Option Addr) (n cap:Nat) (V:Nat→LServ) (s:ByteArray) (w:World) (hS:ServsAt w a n V) (hs:Small s) :
  Calls Tryz.prog 4 #[.slice a n cap,.string s] w fun e w'=>e = .returned (.bool true)∧Below w.heap.size w w':=by
 have hcl:=talive_any w
 have HS:=Hid.intro hS
 clear hS
 go_enter Tryz.func4,Tryz.ntmps4
 go_wp2_with fail
 refine hcl.mono ?_
 clear hcl
 rintro e w0 ⟨rfl,hw0⟩
 have HW0:=Hid.intro hw0
 have hcl:=parse_any s w0 hs
 clear hw0
 go_wp2_with fail
 refine hcl.mono ?_
 clear hcl
 rintro e w1 ⟨hok,herr,hw1⟩
 have HW1:=Hid.intro (HW0.out.trans (hw1.mono HW0.out.size))
 clear hw1 HW0
 cases hp:parse s with
 | error x =>
  have he:=herr x hp
  subst he
  have hx:=parse_err hp
  have hxb:(x.1 != 0)=true:=by simpa using hx
  have HP:Hid (parse s = .error x):=Hid.intro hp
  clear hok herr hp hx
  obtain ⟨x1,x2⟩:=x
  dsimp only at hxb
  go_upto_region 4 with fail
  generalize hX:(w1.alloc (Obj.cells #[.string ⟨#[]⟩,.string ⟨#[]⟩,.slice none 0 0] 25)).alloc (Obj.cells #[.int .i64 x1,.int .i64 (x2:Int)] 45)=X
  have f0:X.cell? ⟨w1.heap.size + 1,0,none⟩=some (.int .i64 x1):=by rw [← hX,World.cell?_alloc_at _ _ _ _ (by simp)]; rfl
  have HX:Hid (Below w.heap.size w X):=Hid.intro (by rw [← hX]; exact HW1.out.trans ((below2 w1 _ _).mono HW1.out.size))
  have hcl:=trun_any a n cap V s X (HS.out.kept HX.out) hs
  clear hX
  go_wp2_with fail
  refine hcl.mono ?_
  clear hcl
  rintro e w2 ⟨⟨-,h2⟩,hw2⟩
  have he:=h2 _ HP.out
  dsimp only at he
  subst he
  have f0:=keptCell hw2 f0
  have HB2:=Hid.intro (HX.out.trans (hw2.mono HX.out.size))
  clear h2 hw2 HX
  go_wp2_with fail
  go_ret
  exact ⟨rfl,HB2.out⟩
 | ok r =>
  obtain ⟨pa,pc,he,hpc,hPk⟩:=hok r hp
  subst he
  obtain ⟨hs1,hs2⟩:=parse_ok hp
  have HP:Hid (parse s = .ok r):=Hid.intro hp
  have HPk:=Hid.intro hPk
  clear hok herr hp hPk
  obtain ⟨r1,r2,r3⟩:=r
  dsimp only at hs1 hs2 HPk hpc
  go_upto_region 4 with fail
  generalize hX:(w1.alloc (Obj.cells #[.string r1,.string r2,.slice pa r3.length pc] 25)).alloc (Obj.cells #[.int .i64 0,.int .i64 0] 45)=X
  have hBX:Below w1.heap.size w1 X:=by rw [← hX]; exact below2 w1 _ _
  have f0:X.cell? ⟨w1.heap.size + 1,0,none⟩=some (.int .i64 0):=by rw [← hX,World.cell?_alloc_at _ _ _ _ (by simp)]; rfl
  obtain ⟨g0,g1,g2⟩:X.cell? ⟨w1.heap.size,0,none⟩=some (.string r1)∧X.cell? ⟨w1.heap.size,1,none⟩=some (.string r2)∧X.cell? ⟨w1.heap.size,2,none⟩=some (.slice pa r3.length pc):=by
   rw [← hX]
   refine ⟨?_,?_,?_⟩
   all_goals (rw [World.cell?_of_block (Below.heap_alloc _ _ _ (by simp)),World.cell?_alloc_at _ _ _ _ rfl]; rfl)
  have HX:Hid (Below w.heap.size w X):=Hid.intro (HW1.out.trans (hBX.mono HW1.out.size))
  have HPX:=Hid.intro (HPk.out.kept hBX)
  have hcl:=trun_any a n cap V s X (HS.out.kept HX.out) hs
  clear hX hBX HPk HW1
  go_wp2_with fail
  refine hcl.mono ?_
  clear hcl
  rintro e w2 ⟨⟨h1,-⟩,hw2⟩
  obtain ⟨va,vc,qa,qc,rfl,-,-,hG,-⟩:=h1 _ HP.out
  have f0:=keptCell hw2 f0
  have g0:=keptCell hw2 g0
  have g1:=keptCell hw2 g1
  have g2:=keptCell hw2 g2
  have HB2:=Hid.intro (HX.out.trans (hw2.mono HX.out.size))
  have HG:=Hid.intro hG
  have hcl:=mean_any a n cap V 8 r1 r2 pa pc r3 w2 (HS.out.kept HB2.out) (HPX.out.kept hw2) hpc hs1 hs2
  clear h1 hw2 HX hG HPX HS
  dsimp only at HG ⊢
  generalize meanG n V 8 r1 r2 r3=M at *
  generalize meanE n V 8 r1 r2 r3=x at *
  generalize (reqs n V 8 r1 r2 r3).length=R at *
  go_wp2_with fail
  refine hcl.mono ?_
  clear hcl
  rintro e w4 ⟨⟨va4,vc4,rfl,hc4,ho4⟩,hw4⟩
  have hcl:=sameGot_any 8 va va4 vc vc4 M w4 (HG.out.kept hw4) ho4.free.at
  have HB4:=Hid.intro (HB2.out.trans (hw4.mono HB2.out.size))
  clear hw4 ho4 HG HB2 g0 g1 g2 f0
  go_wp2_with fail
  refine hcl.mono ?_
  clear hcl
  rintro e w5 ⟨rfl,hw5⟩
  have HB5:=Hid.intro (HB4.out.trans (hw5.mono HB4.out.size))
  clear hw5 HB4
  go_wp2_with fail
  go_ret
  exact ⟨rfl,HB5.out⟩
end Go.Proofs.YtjjggefmmeminacGreat
