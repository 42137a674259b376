import Derived.Test.YtjjggefmmeminacGreatMgAddW
import Derived.Test.YtjjggefmmeminacGreatJMt
namespace Go.Proofs.YtjjggefmmeminacGreat
open Go.RowKit Go.Sort Go.PlainAid
theorem errV_hit {svc:Int} {L:List PPart} {S:Nat→PSeen} {n k:Nat} (hk:k < n) (h:errT (foldT svc L S k) (S k)≠0) (hb:∀ j,j < k→errT (foldT svc L S j) (S j)=0):errV svc L S n=errT (foldT svc L S k) (S k):=by
 unfold errV; rw [fault_hit (g:=fun k=>errT (foldT svc L S k) (S k)) hk h hb]
theorem errV_none {svc:Int} {L:List PPart} {S:Nat→PSeen} {n:Nat} (hb:∀ j,j < n→errT (foldT svc L S j) (S j)=0):errV svc L S n=0:=by
 unfold errV; rw [fault_none (g:=fun k=>errT (foldT svc L S k) (S k)) hb]
set_option maxRecDepth 100000 in
set_option maxHeartbeats 4000000 in
theorem withService_any (Z:Nat→Prop) (v:Value) (L:List PPart) (rv:Nat→Nat→Value) (svc:Int) (s:LServ) (q:Nat) (w:World) (hP:Parts Z w v L rv) (hZ:∀ b,Z b→b < w.heap.size) (hR:Rise L) (hs:ServOk w s) (hok:(seeE s).1=0) (hfew:Few L q) (hq:q≤50) (hsvc:(Lit.int .i64 svc).wf=true) :
  Calls Tryz.prog 39 #[v,.int .i64 svc,.agg #[.slice s.ta s.nt s.tcap,.slice s.ca s.nc s.ccap,.slice s.xa s.nx s.xcap]] w fun e w' => ∃ va vn vc,e = .returned (.tuple #[.slice va vn vc,.int .i64 (errV svc L (seenS s) s.nt)])∧(errV svc L (seenS s) s.nt=0→∃ rv',Parts Z w' (.slice va vn vc) (foldT svc L (seenS s) s.nt) rv')∧Keep Z w w':=by
 obtain ⟨a,cap,hv,-⟩:=hP.slice
 subst hv
 have hRS:RightS s.nt (seenS s):=right_run (seeF_right hok) s.nc
 have hn8:s.nt≤8:=hRS.few
 have hnf:∀ i,i < s.nt→(seenS s i).nf≤10:=fun i hi=>(hRS.fld i hi).few
 have HNF:=Hid.intro hnf
 have HS:=Hid.intro hs
 have HP:=Hid.intro hP
 have HZ:=Hid.intro hZ
 have HR:=Hid.intro hR
 have HFW:=Hid.intro hfew
 have HOK:=Hid.intro hok
 clear hs hP hZ hR hfew hRS hnf hok
 generalize hW:w.alloc (Obj.cells #[.slice s.ta s.nt s.tcap,.slice s.ca s.nc s.ccap,.slice s.xa s.nx s.xcap] 40)=W
 have hBW:Below w.heap.size w W:=by rw [← hW]; exact below1 _ _
 have b0:W.cell? ⟨w.heap.size,0,none⟩=some (.slice s.ta s.nt s.tcap):=by rw [← hW,World.cell?_alloc_at _ _ _ _ rfl]; rfl
 have b1:W.cell? ⟨w.heap.size,1,none⟩=some (.slice s.ca s.nc s.ccap):=by rw [← hW,World.cell?_alloc_at _ _ _ _ rfl]; rfl
 have hcl:=see_any s.ta s.ca s.nt s.tcap s.nc s.ccap s.T s.C W (HS.out.types.kept hBW) (HS.out.changes.kept hBW) HS.out.tcap
 have HBW:=Hid.intro hBW
 clear hBW
 go_enter Tryz.func39,Tryz.ntmps39
 go_wp2_with fail
 clear hW
 refine hcl.mono ?_
 clear hcl
 rintro e w1 ⟨⟨u,rfl,-,hyes⟩,hw1⟩
 obtain ⟨fv,ov,hS⟩:=hyes HOK.out
 clear hyes
 obtain ⟨ua,uc,hu,-⟩:=hS.slice
 subst hu
 have HS1:Hid (Seens w1 W.heap.size (.slice ua s.nt uc) s.nt fv ov (seenS s)):=hS
 have HB1:Hid (Below w.heap.size w w1):=HBW.out.trans (hw1.mono HBW.out.size)
 have hz1:w.heap.size < W.heap.size:=block_lt_of_cell b0
 clear hS hw1 b0 b1
 generalize hr:seeF s.nt s.T s.nc s.C=r
 clear hr
 unfold faultV
 generalize hX:w1.alloc (Obj.cells #[.int .i64 r.1,.int .i64 r.2] 45)=X
 have hBX:Below w1.heap.size w1 X:=by rw [← hX]; exact below1 _ _
 obtain ⟨Y,hYd⟩:∃ Y:Nat→Prop,Y=fun b=>Z b∨(w.heap.size≤b∧b < X.heap.size):=⟨_,rfl⟩
 have hwX:Below w.heap.size w X:=HB1.out.trans (hBX.mono HB1.out.size)
 have HPX:Hid (Parts Y X (.slice a L.length cap) L rv):=by rw [hYd]; exact HP.out.kept hwX
 have HYX:Hid (∀ b,Y b→b < X.heap.size):=fun b hb=>by
  rw [hYd] at hb
  rcases hb with hb | hb
  ·exact Nat.lt_of_lt_of_le (HZ.out b hb) hwX.size
  ·exact hb.2
 have HKX:Hid (Keep Z w X):=Keep.of hwX HZ.out
 have HYZ:Hid (∀ {a b:World},Keep Y a b→Keep Z a b):=fun h=>h.mono fun b hb=>by rw [hYd]; exact .inl hb
 have HPZ:Hid (∀ {a:World} {v:Value} {L':List PPart} {r:Nat→Nat→Value},Parts Y a v L' r→Parts Z a v L' r):=fun h=>h.less fun b hb=>by rw [hYd]; exact .inl hb
 have HSX:Hid (∀ w',Keep Y X w'→Seens w' W.heap.size (.slice ua s.nt uc) s.nt fv ov (seenS s)):=fun w' hk=>(HS1.out.kept hBX).keep fun b h1 h2=>hk.block b (by rw [hYd]; exact .inr ⟨by omega,h2⟩)
 clear hBX hwX hYd HS1
 go_wp2_with fail
 clear hX
 go_loopw [0,24] (fun p i wr => ∃ k:Nat,k≤s.nt∧i = .int .i64 k∧Hid (∀ j,j < k→errT (foldT svc L (seenS s) j) (seenS s j)=0)∧Keep Y X wr∧∃ rk,Parts Y wr p (foldT svc L (seenS s) k) rk) (fun _ i _=>s.nt - (intOf i).toNat)
 case atStart=>exact ⟨0,Nat.zero_le _,rfl,(fun j hj=>absurd hj (Nat.not_lt_zero _)),Keep.refl _ _,rv,HPX.out⟩
 case round =>
  clear HPX
  obtain ⟨k,hk,rfl,hcl,hKr,rk,hPr⟩:=hrel
  have HCL:=Hid.intro hcl
  clear hcl
  obtain ⟨pa,pc,hpv,-⟩:=hPr.slice
  subst hpv
  by_cases hlt:k < s.nt
  ·have hSr:=HSX.out wr hKr
   obtain ⟨g,cap',hv,-,-⟩:=hSr.ptr hlt
   cases hv
   obtain ⟨q0,q1,q2,q3⟩:=hSr.cells hlt
   obtain ⟨a1,c1,e1,-⟩:=(hSr.fields k hlt).slice
   obtain ⟨a2,c2,e2,-⟩:=(hSr.owns k hlt).slice
   have hgd:=hSr.good k hlt
   rw [e1] at q1
   rw [e2] at q3
   have hlt':(k:Int) < (s.nt:Int):=by omega
   have hk0:(0:Int)≤(k:Int):=by omega
   generalize hV:wr.alloc (Obj.cells #[.string (seenS s k).name,.slice a1 (seenS s k).nf c1,.string (seenS s k).own,.slice a2 (seenS s k).nf c2] 147)=V
   have hBV:Below wr.heap.size wr V:=by rw [← hV]; exact below1 _ _
   have hbx:V.heap[wr.heap.size]? = some (.cells #[.string (seenS s k).name,.slice a1 (seenS s k).nf c1,.string (seenS s k).own,.slice a2 (seenS s k).nf c2] 147 (0,0)):=by rw [← hV]; exact heap_alloc_new _ _
   have m0:V.cell? ⟨wr.heap.size,0,none⟩=some (.string (seenS s k).name):=by simp [World.cell?,hbx]
   have hYr:∀ b,Y b→b < wr.heap.size:=fun b hb=>Nat.lt_of_lt_of_le (HYX.out b hb) hKr.size
   obtain ⟨Y2,hY2d⟩:∃ Y2:Nat→Prop,Y2=fun b=>Y b∨(wr.heap.size≤b∧b < V.heap.size):=⟨_,rfl⟩
   have hPV:Parts Y2 V (.slice pa (foldT svc L (seenS s) k).length pc) (foldT svc L (seenS s) k) rk:=by rw [hY2d]; exact hPr.kept hBV
   have hY2V:∀ b,Y2 b→b < V.heap.size:=fun b hb=>by
    rw [hY2d] at hb
    rcases hb with hb | hb
    ·exact Nat.lt_of_lt_of_le (hYr b hb) hBV.size
    ·exact hb.2
   have hY2x:Y2 wr.heap.size:=by rw [hY2d]; exact .inr ⟨Nat.le_refl _,lt_of_block hbx⟩
   have HYY:Hid (∀ {a b:World},Keep Y2 a b→Keep Y a b):=fun h=>h.mono fun b hb=>by rw [hY2d]; exact .inl hb
   have HPY:Hid (∀ {a:World} {v:Value} {L':List PPart} {r:Nat→Nat→Value},Parts Y2 a v L' r→Parts Y a v L' r):=fun h=>h.less fun b hb=>by rw [hY2d]; exact .inl hb
   have HKV:Hid (Keep Y X V):=hKr.trans (Keep.of hBV hYr)
   have hfk:=HFW.out.fold (svc:=svc) (S:=seenS s) k (fun q' hq'=>HNF.out q' (by omega))
   have hcl:=withPart_any Y2 _ (foldT svc L (seenS s) k) rk (seenS s k).name V hPV hY2V (fold_rise HR.out k) (by have:=hfk.len; omega) hgd.1
   have HFI:=Hid.intro (hfk.ins (seenS s k).name)
   have HGD:=Hid.intro hgd
   have E1:=Hid.intro e1
   have E2:=Hid.intro e2
   have HBX:=Hid.intro hbx
   have HY2V:=Hid.intro hY2V
   have HY2X:=Hid.intro hY2x
   clear hSr hgd e1 e2 hPV hY2V hY2x hYr hBV hfk hbx hKr hPr hY2d
   go_wp2_with fail
   clear hV q0 q1 q2 q3
   refine hcl.mono ?_
   clear hcl m0
   rintro e w3 ⟨⟨v3,rv3,rfl,hP3⟩,hK3⟩
   obtain ⟨hpi,-⟩:=ins_pos (L:=foldT svc L (seenS s) k) (s:=(seenS s k).name)
   obtain ⟨g3,cap3,hv3,-⟩:=hP3.ptr hpi
   subst hv3
   obtain ⟨f1,f2,f3⟩:=HFI.out.2 _ hpi
   have hbx3:=(hK3.block _ HY2X.out).trans HBX.out
   have x0:w3.cell? ⟨wr.heap.size,0,none⟩=some (.string (seenS s k).name):=by simp [World.cell?,hbx3]
   have x1:w3.cell? ⟨wr.heap.size,1,none⟩=some (.slice a1 (seenS s k).nf c1):=by simp [World.cell?,hbx3]
   have x2:w3.cell? ⟨wr.heap.size,2,none⟩=some (.string (seenS s k).own):=by simp [World.cell?,hbx3]
   have x3:w3.cell? ⟨wr.heap.size,3,none⟩=some (.slice a2 (seenS s k).nf c2):=by simp [World.cell?,hbx3]
   have HK3:Hid (Keep Y X w3):=HKV.out.trans (HYY.out hK3)
   have hY3:∀ b,Y2 b→b < w3.heap.size:=fun b hb=>Nat.lt_of_lt_of_le (HY2V.out b hb) hK3.size
   have hcl:∀ d:Nat,Calls Tryz.prog 61 #[.pointer (some ⟨g3,pos (foldT svc L (seenS s) k) (seenS s k).name * 4,none⟩),.int .i64 svc,.agg #[.string (seenS s k).name,.slice a1 (seenS s k).nf c1,.string (seenS s k).own,.slice a2 (seenS s k).nf c2]] (w3.drewN d) fun e w'=>e = .returned (.int .i64 (errT (foldT svc L (seenS s) k) (seenS s k)))∧(errT (foldT svc L (seenS s) k) (seenS s k)=0→∃ rv',Parts Y w' (.slice (some ⟨g3,0,none⟩) (ins (foldT svc L (seenS s) k) (seenS s k).name).length cap3) (foldT svc L (seenS s) (k + 1)) rv')∧Keep Y X w':=fun d =>
    (addType_any Y2 g3 cap3 _ _ rv3 svc (seenS s k) a1 a2 c1 c2 (w3.drewN d) (hP3.kept' (below_drewN w3 d)) (fun b hb=>hY3 b hb) hpi (fun w' hk'=>by
     have hSw:=HSX.out w' (HK3.out.trans ((Keep.of (below_drewN w3 d) (fun b hb=>Nat.lt_of_lt_of_le (HYX.out b hb) HK3.out.size)).trans (HYY.out hk')))
     obtain ⟨a8,c8,e8,-,hF8⟩:=(hSw.fields k hlt).fieldsAt HGD.out.2.2.1 HGD.out.2.2.2.1
     obtain ⟨a9,c9,e9,-,hK9⟩:=(hSw.owns k hlt).keysAt HGD.out.2.2.1 HGD.out.2.2.2.2
     rw [E1.out] at e8
     rw [E2.out] at e9
     cases e8
     cases e9
     exact ⟨hF8,hK9⟩) HGD.out.2.1 hsvc (HNF.out k hlt) (by omega) (by omega) (by omega)).mono fun e w' h=>⟨h.1,fun h0=>let ⟨r,hr⟩:=h.2.1 h0; ⟨r,HPY.out hr⟩,HK3.out.trans ((Keep.of (below_drewN w3 d) (fun b hb=>Nat.lt_of_lt_of_le (HYX.out b hb) HK3.out.size)).trans (HYY.out h.2.2))⟩
   have HPI:=Hid.intro hpi
   have hpI:(pos (foldT svc L (seenS s) k) (seenS s k).name:Int) < ((ins (foldT svc L (seenS s) k) (seenS s k).name).length:Int):=by omega
   have hp0:(0:Int)≤(pos (foldT svc L (seenS s) k) (seenS s k).name:Int):=by omega
   have hcl1:=hcl 1
   clear hcl hP3 hK3 hbx3 hY3 f1 f2 f3
   generalize hps:pos (foldT svc L (seenS s) k) (seenS s k).name=ps at *
   generalize hil:(ins (foldT svc L (seenS s) k) (seenS s k).name).length=il at *
   generalize hee:errT (foldT svc L (seenS s) k) (seenS s k)=ee at *
   have HEE:=Hid.intro hee
   clear hps hil hee
   go_wp2_with fail
   go_region_law (go_simp; go_at_call 61; refine hcl1.mono ?_; rintro e w4 ⟨rfl,hP4,hK4⟩; have HP4:=Hid.intro hP4; have HK4:=Hid.intro hK4; clear hP4 hK4)
   by_cases h0:ee=0
   case neg =>
    have hb:(ee != 0)=true:=by simpa using h0
    have HER:Hid (errV svc L (seenS s) s.nt=ee):=by
     have:=errV_hit (svc:=svc) (L:=L) (S:=seenS s) hlt (by rw [HEE.out]; exact h0) HCL.out
     rw [this]; exact HEE.out
    have H0:=Hid.intro h0
    clear h0
    go_wp2_with fail
    go_ret2
    exact ⟨none,0,0,by rw [HER.out]; rfl,fun h=>absurd (by rw [HER.out] at h; exact h) H0.out,HKX.out.trans (HYZ.out HK4.out)⟩
   have hb:(ee != 0)=false:=by simpa using h0
   have HP5:=Hid.intro (HP4.out h0)
   have HCL2:Hid (∀ j,j < k + 1→errT (foldT svc L (seenS s) j) (seenS s j)=0):=fun j hj=>by
    rcases Nat.lt_succ_iff_lt_or_eq.1 hj with h | h
    ·exact HCL.out j h
    ·rw [h,HEE.out]; exact h0
   clear h0 HP4
   go_wp2_with fail
   go_roundw
   case rel=>exact ⟨k + 1,by omega,by go_num,HCL2,HK4.out,HP5.out⟩
   case measure=>simp [intOf]; omega
  ·have hkn:k=s.nt:=by omega
   subst hkn
   have HER:Hid (errV svc L (seenS s) s.nt=0):=errV_none HCL.out
   have HPR:=Hid.intro hPr
   have HKR:=Hid.intro hKr
   clear hPr hKr
   go_wp2_with fail
   go_ret2
   exact ⟨_,_,_,by rw [HER.out]; rfl,fun _=>⟨rk,HPZ.out HPR.out⟩,HKX.out.trans (HYZ.out HKR.out)⟩
end Go.Proofs.YtjjggefmmeminacGreat
