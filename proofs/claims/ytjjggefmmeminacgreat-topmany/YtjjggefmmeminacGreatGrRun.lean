import Derived.Test.YtjjggefmmeminacGreatGrAsk
import Derived.Test.YtjjggefmmeminacGreatGrRunReg
import Derived.Test.YtjjggefmmeminacGreatJGq
import Derived.Test.YtjjggefmmeminacGreatMgAll
import Derived.Test.YtjjggefmmeminacGreatQyCheckW
namespace Go.Proofs.YtjjggefmmeminacGreat
open Go.RowKit Go.Sort Go.PlainAid
theorem row_text (w:World) (key:ByteArray):TRow (w.alloc (.cells #[.string key] 9)) 0 (.slice (some ⟨w.heap.size,0,none⟩) 1 1) [key] :=
 ⟨rfl,.inr ⟨w.heap.size,1,#[.string key],rfl,Nat.zero_le _,heap_alloc_new _ _,Nat.le_refl _,by unfold maxLen; omega,rfl,rfl⟩⟩
def RunP (X:World) (A:World→LV→Prop) (T:World→Value→Prop) (key:ByteArray) (b:Bool) (j:Nat) (x:Nat→Value) (w1:World):Prop:=(j=0→Below X.heap.size X w1)∧(j=1→∃ Y,Below X.heap.size X Y∧w1=Y.alloc (.cells #[.string key] 9)∧x 0 = .slice (some ⟨Y.heap.size,0,none⟩) 1 1)∧(j=2→∃ l:LV,x 1 = .agg #[.slice l.a l.n l.c,.map l.h,.map l.v]∧A w1 l) ∧
 (3≤j→∃ va vn vc,x 2 = .tuple #[.slice va vn vc,.bool b]∧T w1 (.slice va vn vc)∧(4≤j→x 3=x 2)∧(5≤j→x 4 = .slice va vn vc)∧(6≤j→x 5=x 4)∧(7≤j→x 6 = .bool b))
theorem runEnd_none {d:Nat} {M:List (Got d)} {R:List PReq} {x:Int} {w:World} (h:M = []) (hR:R = []):RunEnd d M R x (.returned (.tuple #[.slice none 0 0,.slice none 0 0,.int .i64 x])) w:=by
 subst h
 subst hR
 exact ⟨none,0,none,0,rfl,Nat.le_refl _,Nat.le_refl _,GotsAt.none,ReqsAt.none⟩
set_option maxRecDepth 100000 in
set_option maxHeartbeats 4000000 in
theorem grun_any:RunOk 10:=by
 intro la n cap V d type key a acap ps w hS hP hcap hs0 hs1
 have HS:=Hid.intro hS
 have HP:=Hid.intro hP
 obtain ⟨M,hM⟩:∃ M,M=meanG n V d type key ps:=⟨_,rfl⟩
 obtain ⟨R,hR⟩:∃ R,R=reqs n V d type key ps:=⟨_,rfl⟩
 obtain ⟨x,hx⟩:∃ x,x=meanE n V d type key ps:=⟨_,rfl⟩
 rw [← hM,← hx,← hR]
 have HM:Hid (M=if x=0 then gots V (allP (ntS V) (seenA V) n) d (pOf (allP (ntS V) (seenA V) n) type) key ps else []):=Hid.intro (by rw [hM,hx]; rfl)
 have HR:Hid (R=if x=0 then asks V (allP (ntS V) (seenA V) n) d (pOf (allP (ntS V) (seenA V) n) type) [key] ps else []):=Hid.intro (by rw [hR,hx]; rfl)
 have HX:Hid (x=if (allF n V).1≠0 then (allF n V).1 else askE V (allP (ntS V) (seenA V) n) d type key ps):=Hid.intro hx
 generalize hW:w.alloc (Obj.cells #[.string type,.string key,.slice a ps.length acap] 25)=W
 have hBW:Below w.heap.size w W:=by rw [← hW]; exact below1 _ _
 have a0:W.cell? ⟨w.heap.size,0,none⟩=some (.string type):=by rw [← hW,World.cell?_alloc_at _ _ _ _ rfl]; rfl
 have a1:W.cell? ⟨w.heap.size,1,none⟩=some (.string key):=by rw [← hW,World.cell?_alloc_at _ _ _ _ rfl]; rfl
 have a2:W.cell? ⟨w.heap.size,2,none⟩=some (.slice a ps.length acap):=by rw [← hW,World.cell?_alloc_at _ _ _ _ rfl]; rfl
 have hcl:=mall_any la n cap V W (hS.kept hBW)
 have HBW:=Hid.intro hBW
 clear hS hP hM hx hR hBW
 go_enter Tryz.func10,Tryz.ntmps10
 go_wp2_with fail
 clear hW
 refine hcl.mono ?_
 clear hcl
 rintro e w1 ⟨⟨va,vn,vc,rfl,-,hPt⟩,hw1⟩
 have hB1:Below w.heap.size w w1:=HBW.out.trans (hw1.mono HBW.out.size)
 have a0:=keptCell hw1 a0
 have a1:=keptCell hw1 a1
 have a2:=keptCell hw1 a2
 have hab:w.heap.size < w1.heap.size:=block_lt_of_cell a0
 have HPt:=Hid.intro hPt
 obtain ⟨fl,hfl⟩:∃ fl,fl=allF n V:=⟨_,rfl⟩
 rw [← hfl] at HX HPt
 rw [← hfl]
 have HFL:=Hid.intro hfl
 clear hfl hPt
 unfold faultV
 generalize hX1:w1.alloc (Obj.cells #[.int .i64 fl.1,.int .i64 fl.2] 45)=X1
 have hBX:Below w1.heap.size w1 X1:=by rw [← hX1]; exact below1 _ _
 have f0:X1.cell? ⟨w1.heap.size,0,none⟩=some (.int .i64 fl.1):=by rw [← hX1,World.cell?_alloc_at _ _ _ _ rfl]; rfl
 have b0:=keptCell hBX a0
 have b1:=keptCell hBX a1
 have b2:=keptCell hBX a2
 have HBX:=Hid.intro (hB1.trans (hBX.mono hB1.size))
 have HX1:=Hid.intro hBX
 clear hw1 hB1 hBX a0 a1 a2
 by_cases h0:fl.1=0
 case neg =>
  have hb:(fl.1 != 0)=true:=by simpa using h0
  have HE:Hid (x=fl.1∧M = []∧R = []):=Hid.intro (by
   have e1:x=fl.1:=by rw [HX.out,if_pos h0]
   refine ⟨e1,?_,?_⟩
   ·rw [HM.out,if_neg (by rw [e1]; exact h0)]
   ·rw [HR.out,if_neg (by rw [e1]; exact h0)])
  clear h0 HX HM HR HPt HS HP
  go_wp2_with fail
  clear hX1
  go_quiet (fail)
  go_wp2_with fail
  exact bodyPost_ret (v:=.tuple #[.slice none 0 0,.slice none 0 0,.int .i64 fl.1]) (by simp [results,Tryz.results10,go_sem]) rfl ⟨by rw [HE.out.1]; exact runEnd_none HE.out.2.1 HE.out.2.2,HBX.out.trans ((below_drewN _ _).mono HBX.out.size)⟩
 have hb:(fl.1 != 0)=false:=by simpa using h0
 obtain ⟨rv,hPa⟩:=HPt.out h0
 obtain ⟨hvn,hvc,hpts⟩:=hPa.pts
 have HXE:Hid (x=askE V (allP (ntS V) (seenA V) n) d type key ps):=Hid.intro (by rw [HX.out,if_neg (fun h=>h h0)])
 have hall:(allF n V).1=0:=by rw [← HFL.out]; exact h0
 have HGPs:Hid (∀ nm,¬ partIdx (allP (ntS V) (seenA V) n).length (lpOf (allP (ntS V) (seenA V) n)) nm < 0→GPart n V (pOf (allP (ntS V) (seenA V) n) nm)):=Hid.intro fun nm h=>gpart hall h
 have HKD:=Hid.intro (kinds_all hall)
 have HLT:=Hid.intro (light_right hall)
 have HFEW:Hid (∀ (ahead:List ByteArray),¬ partIdx (allP (ntS V) (seenA V) n).length (lpOf (allP (ntS V) (seenA V) n)) type < 0→cR (allP (ntS V) (seenA V) n).length (lpOf (allP (ntS V) (seenA V) n)) d (pOf (allP (ntS V) (seenA V) n) type).fs.length (fsN (pOf (allP (ntS V) (seenA V) n) type)) ahead ps=0→(asks V (allP (ntS V) (seenA V) n) d (pOf (allP (ntS V) (seenA V) n) type) [key] ps).length≤lists d ps * n):=Hid.intro fun ahead h1 h2=>asks_few hall d type [key] ps ahead h1 h2
 have hn5:n≤5:=(wrongF_ok (allF_wrong hall)).1
 generalize allP (ntS V) (seenA V) n=L at *
 subst hvn
 obtain ⟨P,hPA,hcA⟩:=hpts.check
 have hcl:=qcheck_any va L.length vc P d type key a acap ps X1 (hPA.kept HX1.out) (HP.out.kept HBX.out) hcap hs0 hs1
 rw [hcA] at hcl
 have HPA:=Hid.intro hPa
 clear hPa hpts hPA hcA hall HPt HFL HX h0
 go_wp2_with fail
 clear hX1
 refine hcl.mono ?_
 clear hcl
 rintro e w2 ⟨rfl,hw2⟩
 have HB2:Hid (Below w.heap.size w w2):=Hid.intro (HBX.out.trans (hw2.mono HBX.out.size))
 have hB12:Below w1.heap.size w1 w2:=HX1.out.trans (hw2.mono HX1.out.size)
 have HPA2:=Hid.intro (HPA.out.kept' hB12)
 have b0:=keptCell hw2 b0
 have b1:=keptCell hw2 b1
 have b2:=keptCell hw2 b2
 clear hw2 hB12 HPA HX1 HBX f0
 by_cases hc0:cA L.length (lpOf L) d type key ps=0
 case neg =>
  have hcb:(cA L.length (lpOf L) d type key ps != 0)=true:=by simpa using hc0
  have HE:Hid (x=cA L.length (lpOf L) d type key ps∧M = []∧R = []):=Hid.intro (by
   have e1:x=cA L.length (lpOf L) d type key ps:=by rw [HXE.out]; unfold askE; rw [if_pos hc0]
   refine ⟨e1,?_,?_⟩
   ·rw [HM.out,if_neg (by rw [e1]; exact hc0)]
   ·rw [HR.out,if_neg (by rw [e1]; exact hc0)])
  generalize cA L.length (lpOf L) d type key ps=y at *
  clear hc0 HXE HM HR HS HP HPA2 HGPs HKD HLT HFEW
  go_wp2_with fail
  exact bodyPost_ret (v:=.tuple #[.slice none 0 0,.slice none 0 0,.int .i64 y]) (by simp [results,Tryz.results10,go_sem]) rfl ⟨by rw [HE.out.1]; exact runEnd_none HE.out.2.1 HE.out.2.2,HB2.out⟩
 have hcb:(cA L.length (lpOf L) d type key ps != 0)=false:=by simpa using hc0
 obtain ⟨hwA,hpi,hcR⟩:=cA_wA hc0
 have HSM:=Hid.intro (wA_sm hwA)
 have HTOT:=Hid.intro (wA_total hwA)
 have HPI:Hid (¬ partIdx L.length (lpOf L) type < 0):=Hid.intro hpi
 have HCR:Hid (cR L.length (lpOf L) d (pOf L type).fs.length (fsN (pOf L type)) [] ps=0):=Hid.intro hcR
 have HXT:Hid (x=if thereP V (pOf L type) key=true then 0 else 5):=Hid.intro (by rw [HXE.out]; unfold askE; rw [if_neg (fun h=>h hc0)])
 clear hwA hpi hcR HXE hc0
 have HLen:Hid ((asks V L d (pOf L type) [key] ps).length≤1000):=Hid.intro (by
  have h1:=HFEW.out [] (by have:=HPI.out; omega) HCR.out
  have h2:=lists_total d ps
  have h3:=HTOT.out
  have h4:lists d ps * n≤61 * 5:=Nat.mul_le_mul (by omega) hn5
  omega)
 obtain ⟨X3,hX3⟩:∃ X3,X3=w2.alloc (Obj.cells #[.slice la n cap,.slice va L.length vc,.slice none 0 0] 82):=⟨_,rfl⟩
 have hBX3:Below w2.heap.size w2 X3:=by rw [hX3]; exact below1 _ _
 have hg3:X3.heap[w2.heap.size]? = some (.cells #[.slice la n cap,.slice va L.length vc,.slice none 0 0] 82 (0,0)):=by rw [hX3]; exact heap_alloc_new _ _
 have HG3:Hid (GateAt w2.heap.size w2.heap.size (.slice la n cap) (.slice va L.length vc) X3 []):=Hid.intro ⟨.slice none 0 0,fun _=>undef,fun _=>undef,hg3,RRow.nil _ _ _ _⟩
 have HENV:Hid (AskEnv w2.heap.size w2.heap.size w2 la n cap (.slice va L.length vc) V L):=Hid.intro ⟨rfl,Nat.le_refl _,HS.out.kept HB2.out,⟨_,rv,HPA2.out⟩,HLT.out,(fun nm h=>HGPs.out nm (by omega)),HKD.out⟩
 have HPX:=Hid.intro (HP.out.kept HB2.out)
 have HBX3:=Hid.intro hBX3
 have HB0:=Hid.intro (keptCell hBX3 b0)
 have HB1:=Hid.intro (keptCell hBX3 b1)
 have HB2':=Hid.intro (keptCell hBX3 b2)
 have hba:w.heap.size < w2.heap.size:=block_lt_of_cell b0
 have hX3s:w2.heap.size < X3.heap.size:=lt_of_block hg3
 clear hBX3 hg3 HPA2 HS HP b0 b1 b2 HGPs HKD HLT HFEW HTOT
 obtain ⟨bt,hbt⟩:∃ bt,bt=thereP V (pOf L type) key:=⟨_,rfl⟩
 rw [← hbt] at HXT
 have HBT:=Hid.intro hbt
 clear hbt
 have HX3:=Hid.intro hX3
 clear hX3
 go_upto_region 8 with fail
 rw [← HX3.out]
 refine runAsk (RunP X3 (fun w9 l=>GateAt w2.heap.size w2.heap.size (.slice la n cap) (.slice va L.length vc) w9 (asks V L d (pOf L type) [key] ps)∧KeepQ w2.heap.size w2.heap.size X3 w9∧∃ NN,TellFn NN w9 l d [key] (tellF V L d (pOf L type) ps)) (fun w9 y=>GateAt w2.heap.size w2.heap.size (.slice la n cap) (.slice va L.length vc) w9 (asks V L d (pOf L type) [key] ps)∧KeepQ w2.heap.size w2.heap.size X3 w9∧((bt=false∧y = .slice none 0 0)∨∃ a' c',bt=true∧y = .slice a' (gots V L d (pOf L type) key ps).length c'∧(gots V L d (pOf L type) key ps).length≤c'∧GotsAt w9 d a' (gots V L d (pOf L type) key ps))) key bt)
  (ba:=w.heap.size) (bg:=w2.heap.size) (pn:=ps.length) (pc:=acap) (pa:=a) (ty:=type) (key:=key) (b:=bt) (by kernel_rfl) rfl rfl ?_ ?_ ?_ ?_ ?_ ?_ ?_ ?_ ?_ ?_ ?_
 ·rintro j x9 w9 hj ⟨-,-,-,h3⟩
  obtain ⟨f1,f2,f3,e1,-,e2,-⟩:=h3 (by omega)
  exact ⟨_,(e2 hj).trans e1⟩
 ·intro x9
  exact ⟨fun _=>(Below.refl _ _).drew,fun h=>absurd h (by omega),fun h=>absurd h (by omega),fun h=>absurd h (by omega)⟩
 ·rintro j x9 w9 - ⟨h0,h1,h2,h3⟩
  have hk:w9.heap[w.heap.size]? = X3.heap[w.heap.size]?:=by
   rcases Nat.lt_or_ge j 3 with hj | hj
   ·have hj:j=0∨j=1∨j=2:=by omega
    rcases hj with rfl | rfl | rfl
    ·exact (h0 rfl).block _ (by omega)
    ·obtain ⟨Y,hY,rfl,-⟩:=h1 rfl
     rw [(below1 Y _).block _ (by have:=hY.size; omega),hY.block _ (by omega)]
    ·obtain ⟨l,-,-,hk9,-⟩:=h2 rfl
     exact hk9.block _ (by omega) (by omega) (.inl hba)
   ·obtain ⟨f1,f2,f3,-,⟨-,hk9,-⟩,-⟩:=h3 hj
    exact hk9.block _ (by omega) (by omega) (.inl hba)
  exact ⟨(World.cell?_of_block hk).trans HB0.out,(World.cell?_of_block hk).trans HB1.out,(World.cell?_of_block hk).trans HB2'.out⟩
 ·rintro x9 w9 ⟨h0,-⟩ x' e1 e2
  exact ⟨fun h=>absurd h (by omega),fun _=>⟨w9,h0 rfl,rfl,e1⟩,fun h=>absurd h (by omega),fun h=>absurd h (by omega)⟩
 ·rintro x9 w9 ⟨-,h1,-⟩
  obtain ⟨Y,hY,rfl,hx9⟩:=h1 rfl
  rw [hx9]
  have hbY:=below1 Y (Obj.cells #[.string key] 9)
  have hXY:Below X3.heap.size X3 (Y.alloc (Obj.cells #[.string key] 9)):=hY.trans (hbY.mono hY.size)
  refine (ask_any w2.heap.size w2.heap.size w2 la n cap va L.length vc V L HENV.out d type [key] (some ⟨Y.heap.size,0,none⟩) 1 a acap ps [] (Y.alloc (Obj.cells #[.string key] 9)) (HBX3.out.trans (hXY.mono HBX3.out.size)) (HG3.out.kept hXY) (row_text Y key) (fun y hy=>by simp at hy; rw [hy]; exact hs1) (by simp) (by simp) (by simp) HPX.out (fun e=>?_) HSM.out.1 (by have:=HPI.out; omega) HCR.out (by simpa using HLen.out)).mono ?_
  ·have:=HSM.out.2
   rw [e] at this
   simp at this
  rintro e w8 ⟨l,rfl,q1,q2,q3⟩
  exact ⟨_,rfl,fun x' e1 e2=>⟨fun h=>absurd h (by omega),fun h=>absurd h (by omega),fun _=>⟨l,e1,q1,(KeepQ.of hXY).trans q2,_,q3⟩,fun h=>absurd h (by omega)⟩⟩
 ·rintro x9 w9 ⟨-,-,h2,-⟩
  obtain ⟨l,hx9,q1,q2,NN,q3⟩:=h2 rfl
  rw [hx9]
  refine (q3 w9 (Later.refl _ _) key hs1 (by simp)).mono ?_
  rintro e w8 ⟨hB8,hE8⟩
  have hK8:=q2.trans (KeepQ.of hB8)
  have hG8:=q1.kept hB8
  have hbt:=HBT.out
  rcases hE8 with ⟨h9,rfl⟩ | ⟨M',a',c',h9,rfl,hc',hout⟩
  ·have hbf:bt=false:=by
    cases hb9:bt with
    | false=>rfl
    | true =>
     unfold tellF at h9
     rw [← hbt,hb9,if_pos rfl] at h9
     cases h9
   rw [hbf]
   exact ⟨_,rfl,fun x' e1 e2=>⟨fun h=>absurd h (by omega),fun h=>absurd h (by omega),fun h=>absurd h (by omega),fun _=>⟨none,0,0,e1,⟨hG8,hK8,.inl ⟨rfl,rfl⟩⟩,fun h=>absurd h (by omega),fun h=>absurd h (by omega),fun h=>absurd h (by omega),fun h=>absurd h (by omega)⟩⟩⟩
  ·have hbf:bt=true:=by
    cases hb9:bt with
    | true=>rfl
    | false =>
     unfold tellF at h9
     rw [← hbt,hb9,if_neg (by decide)] at h9
     cases h9
   have hMM:M'=gots V L d (pOf L type) key ps:=by
    unfold tellF at h9
    rw [← hbt,hbf,if_pos rfl] at h9
    exact (Option.some.inj h9).symm
   subst hMM
   rw [hbf]
   exact ⟨_,rfl,fun x' e1 e2=>⟨fun h=>absurd h (by omega),fun h=>absurd h (by omega),fun h=>absurd h (by omega),fun _=>⟨a',_,c',e1,⟨hG8,hK8,.inr ⟨a',c',rfl,rfl,hc',hout.free.at⟩⟩,fun h=>absurd h (by omega),fun h=>absurd h (by omega),fun h=>absurd h (by omega),fun h=>absurd h (by omega)⟩⟩⟩
 ·rintro x9 w9 ⟨-,-,-,h3⟩ x' e1 e2
  obtain ⟨f1,f2,f3,r1,r2,-⟩:=h3 (by omega)
  have e0:x' 2=x9 2:=e2 2 (by decide)
  exact ⟨fun h=>absurd h (by omega),fun h=>absurd h (by omega),fun h=>absurd h (by omega),fun _=>⟨f1,f2,f3,e0.trans r1,r2,fun _=>e1.trans e0.symm,fun h=>absurd h (by omega),fun h=>absurd h (by omega),fun h=>absurd h (by omega)⟩⟩
 ·rintro x9 w9 ⟨-,-,-,h3⟩
  obtain ⟨f1,f2,f3,r1,r2,r3,-⟩:=h3 (by omega)
  refine ⟨f1,f2,f3,(r3 (by omega)).trans r1,fun x' e1 e2=>?_⟩
  have e0:x' 2=x9 2:=e2 2 (by decide)
  have e9:x' 3=x9 3:=e2 3 (by decide)
  exact ⟨fun h=>absurd h (by omega),fun h=>absurd h (by omega),fun h=>absurd h (by omega),fun _=>⟨f1,f2,f3,e0.trans r1,r2,fun _=>by rw [e9,e0]; exact r3 (by omega),fun _=>e1,fun h=>absurd h (by omega),fun h=>absurd h (by omega)⟩⟩
 ·rintro x9 w9 ⟨-,-,-,h3⟩ x' e1 e2
  obtain ⟨f1,f2,f3,r1,r2,r3,r4,-⟩:=h3 (by omega)
  have e0:x' 2=x9 2:=e2 2 (by decide)
  have e9:x' 3=x9 3:=e2 3 (by decide)
  have e8:x' 4=x9 4:=e2 4 (by decide)
  exact ⟨fun h=>absurd h (by omega),fun h=>absurd h (by omega),fun h=>absurd h (by omega),fun _=>⟨f1,f2,f3,e0.trans r1,r2,fun _=>by rw [e9,e0]; exact r3 (by omega),fun _=>e8.trans (r4 (by omega)),fun _=>e1.trans e8.symm,fun h=>absurd h (by omega)⟩⟩
 ·rintro x9 w9 ⟨-,-,-,h3⟩ x' e1 e2
  obtain ⟨f1,f2,f3,r1,r2,r3,r4,r5,-⟩:=h3 (by omega)
  have e0:x' 2=x9 2:=e2 2 (by decide)
  have e9:x' 3=x9 3:=e2 3 (by decide)
  have e8:x' 4=x9 4:=e2 4 (by decide)
  have e7:x' 5=x9 5:=e2 5 (by decide)
  exact ⟨fun h=>absurd h (by omega),fun h=>absurd h (by omega),fun h=>absurd h (by omega),fun _=>⟨f1,f2,f3,e0.trans r1,r2,fun _=>by rw [e9,e0]; exact r3 (by omega),fun _=>e8.trans (r4 (by omega)),fun _=>by rw [e7,e8]; exact r5 (by omega),fun _=>e1⟩⟩
 intro s w4 hp
 obtain ⟨-,-,-,hp⟩:=hp
 obtain ⟨f1,f2,f3,-,⟨hG4,hK4,hT4⟩,-,q4,q5,q6⟩:=hp (by omega)
 have hs44:s 44 = .slice f1 f2 f3:=q4 (by omega)
 have hs11:s 11 = .slice f1 f2 f3:=(show s 11=s 44 from q5 (by omega)).trans hs44
 have hs12:s 12 = .bool bt:=q6 (by omega)
 obtain ⟨rv4,kv4,fv4,hg4,hr4⟩:=hG4
 obtain ⟨qa,qc,hq4,hqc,hreq⟩:=hr4.out (by unfold maxLen; have:=HLen.out; omega)
 subst hq4
 have hgc:w4.cell? ⟨w2.heap.size,2,none⟩=some (.slice qa (asks V L d (pOf L type) [key] ps).length qc):=by simp [World.cell?,hg4]
 have HB4:Hid (Below w.heap.size w w4):=Hid.intro (HB2.out.trans ((HBX3.out.mono (by omega)).trans ⟨hK4.os,hK4.tape,hK4.output,hK4.size,fun q hq=>hK4.block q (by omega) (by omega) (.inl (by omega))⟩))
 have HREQ:=Hid.intro hreq
 have HT4:=Hid.intro hT4
 clear hp q4 q5 q6 hs44 hK4 hT4 hg4 hr4 hreq HG3 HENV HPX HBX3 HB0 HB1 HB2' HSM HPI HCR HB2
 cases bt with
 | false =>
  have hy:Value.slice f1 f2 f3 = .slice none 0 0:=by
   rcases HT4.out with ⟨-,h⟩ | ⟨a',c',h,-⟩
   ·exact h
   ·cases h
  cases hy
  have HE:Hid (x=5∧M = []∧R = []):=Hid.intro (by
   have e1:x=5:=by rw [HXT.out]; rfl
   exact ⟨e1,by rw [HM.out,e1]; rfl,by rw [HR.out,e1]; rfl⟩)
  clear HT4 HREQ HXT HM HR HBT HLen
  simp only [putAll,Act.put,List.setIfInBounds_toArray,List.set_cons_succ,List.set_cons_zero,hs11,hs12]
  generalize s 33=t33
  generalize s 34=t34
  generalize s 35=t35
  generalize s 36=t36
  generalize s 37=t37
  generalize s 38=t38
  generalize s 39=t39
  generalize s 40=t40
  generalize s 41=t41
  generalize s 42=t42
  generalize s 43=t43
  generalize s 32=t32
  generalize s 44=t44
  generalize s 45=t45
  clear hs11 hs12
  go_wp2_with fail
  exact bodyPost_ret (v:=.tuple #[.slice none 0 0,.slice none 0 0,.int .i64 5]) (by simp [results,Tryz.results10,go_sem]) rfl ⟨by rw [HE.out.1]; exact runEnd_none HE.out.2.1 HE.out.2.2,HB4.out⟩
 | true =>
  obtain ⟨a',c',hy,hc',hout⟩:∃ a' c',Value.slice f1 f2 f3 = .slice a' (gots V L d (pOf L type) key ps).length c'∧(gots V L d (pOf L type) key ps).length≤c'∧GotsAt w4 d a' (gots V L d (pOf L type) key ps):=by
   rcases HT4.out with ⟨h,-⟩ | ⟨a',c',-,h2,h3,h4⟩
   ·cases h
   ·exact ⟨a',c',h2,h3,h4⟩
  cases hy
  have HE:Hid (x=0∧M=gots V L d (pOf L type) key ps∧R=asks V L d (pOf L type) [key] ps):=Hid.intro (by
   have e1:x=0:=by rw [HXT.out]; rfl
   exact ⟨e1,by rw [HM.out,e1]; rfl,by rw [HR.out,e1]; rfl⟩)
  have HO:=Hid.intro hout
  clear HT4 HXT HM HR HBT HLen hout
  simp only [putAll,Act.put,List.setIfInBounds_toArray,List.set_cons_succ,List.set_cons_zero,hs11,hs12]
  generalize s 33=t33
  generalize s 34=t34
  generalize s 35=t35
  generalize s 36=t36
  generalize s 37=t37
  generalize s 38=t38
  generalize s 39=t39
  generalize s 40=t40
  generalize s 41=t41
  generalize s 42=t42
  generalize s 43=t43
  generalize s 32=t32
  generalize s 44=t44
  generalize s 45=t45
  clear hs11 hs12
  generalize gots V L d (pOf L type) key ps=MM at *
  generalize asks V L d (pOf L type) [key] ps=RR at *
  go_wp2_with fail
  go_quiet (fail)
  go_wp2_with fail
  exact bodyPost_ret (v:=.tuple #[.slice f1 MM.length f3,.slice qa RR.length qc,.int .i64 0]) (by simp [results,Tryz.results10,go_sem]) rfl ⟨by rw [HE.out.1,HE.out.2.1,HE.out.2.2]; exact ⟨f1,f3,qa,qc,rfl,hc',hqc,GotsAt.kept (below_drewN _ _) HO.out,HREQ.out.kept (below_drewN _ _)⟩,HB4.out.trans ((below_drewN _ _).mono HB4.out.size)⟩
end Go.Proofs.YtjjggefmmeminacGreat
