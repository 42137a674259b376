import Derived.Test.YtjjggefmmeminacGreatJPa
import Derived.Deep.CutRange
namespace Go.Proofs.YtjjggefmmeminacGreat
open Go.RowKit Go.Sort Go.PlainAid
theorem owns_slice {w:World} {base e size n:Nat} {v:Value} {xs:List Value} (h:w.ownsRow base e size v n xs):∃ a c,v = .slice a n c:=by
 rcases h.2 with ⟨rfl,rfl⟩ | ⟨g,cap,cur,rfl,-⟩
 ·exact ⟨_,_,rfl⟩
 ·exact ⟨_,_,rfl⟩
set_option maxRecDepth 100000 in
set_option maxHeartbeats 4000000 in
theorem addType_any (Z:Nat→Prop) (g cap t:Nat) (L:List PPart) (rv:Nat→Nat→Value) (svc:Int) (S:PSeen) (fa oa:Option Addr) (fc oc:Nat) (w:World) (hP:Parts Z w (.slice (some ⟨g,0,none⟩) L.length cap) L rv) (hZ:∀ b,Z b→b < w.heap.size) (ht:t < L.length)
  (hF:∀ w',Keep Z w w'→FieldsAt w' fa S.nf S.F∧KeysAt w' oa S.nf S.O) (hown:Small S.own) (hsvc:(Lit.int .i64 svc).wf=true) (hnf:S.nf≤10) (hfs:(nth L t).fs.length≤900) (hos:(nth L t).os.length≤900) (hhs:(nth L t).hs.length≤900) :
  Calls Tryz.prog 61 #[.pointer (some ⟨g,t * 4,none⟩),.int .i64 svc,.agg #[.string S.name,.slice fa S.nf fc,.string S.own,.slice oa S.nf oc]] w fun e w'=>e = .returned (.int .i64 (errP (nth L t) S))∧(errP (nth L t) S=0→∃ rv',Parts Z w' (.slice (some ⟨g,0,none⟩) L.length cap) (L.set t (partK (nth L t) svc S S.nf)) rv')∧Keep Z w w':=by
 obtain ⟨iO,oi,oz0,oz1,oz2⟩:=info_parts' Tryz.info118
 obtain ⟨iF,fi,fz0,fz1,fz2⟩:=info_parts' Tryz.info66
 have hGp:=hP.good t ht
 generalize hW:w.alloc (Obj.cells #[.string S.name,.slice fa S.nf fc,.string S.own,.slice oa S.nf oc] 147)=W
 have hBW:Below w.heap.size w W:=by rw [← hW]; exact below1 _ _
 have hbx:W.heap[w.heap.size]? = some (.cells #[.string S.name,.slice fa S.nf fc,.string S.own,.slice oa S.nf oc] 147 (0,0)):=by rw [← hW]; exact heap_alloc_new _ _
 have hbl:w.heap.size < W.heap.size:=lt_of_block hbx
 obtain ⟨Y,hYd⟩:∃ Y:Nat→Prop,Y=fun b=>Z b∨(w.heap.size≤b∧b < W.heap.size):=⟨_,rfl⟩
 have hPW:Parts Y W (.slice (some ⟨g,0,none⟩) L.length cap) L rv:=by rw [hYd]; exact hP.kept hBW
 have hYW:∀ b,Y b→b < W.heap.size:=fun b hb=>by
  rw [hYd] at hb
  rcases hb with hb | hb
  ·have:=hZ b hb; omega
  ·exact hb.2
 have hYx:Y w.heap.size:=by rw [hYd]; exact .inr ⟨Nat.le_refl _,hbl⟩
 have HKW:Hid (Keep Z w W):=Keep.of hBW hZ
 have HYZ:Hid (∀ {a b:World},Keep Y a b→Keep Z a b):=fun h=>h.mono fun b hb=>by rw [hYd]; exact .inl hb
 have HPZ:Hid (∀ {a:World} {v:Value} {L':List PPart} {r:Nat→Nat→Value},Parts Y a v L' r→Parts Z a v L' r):=fun h=>h.less fun b hb=>by rw [hYd]; exact .inl hb
 have b1:W.cell? ⟨w.heap.size,1,none⟩=some (.slice fa S.nf fc):=by simp [World.cell?,hbx]
 have b2:W.cell? ⟨w.heap.size,2,none⟩=some (.string S.own):=by simp [World.cell?,hbx]
 obtain ⟨g',cap',a1,c1,a2,c2,a3,c3,hv,e1,e2,e3,k0,k1,k2,k3⟩:=hPW.aggs ht
 cases hv
 have R2:=hPW.rows 2 t (by decide) ht
 have HF:=Hid.intro hF
 have HAP:Hid (∀ {X w':World} {v':Value},Below W.heap.size W X→w'.ownsRow 0 118 3 v' ((nth L t).hs.length + 1) ((List.range ((nth L t).hs.length * 3)).map (ownerCell (hsN (nth L t))) ++ ownerL ⟨svc,S.own,⟨#[]⟩⟩)→X.grownBy w' (Value.slice a3 (nth L t).hs.length c3).ownBlock→(v'.ownBlock=(Value.slice a3 (nth L t).hs.length c3).ownBlock∨v'.ownBlock=some X.heap.size) →
   (∃ rv',Parts Y (w'.setCell ⟨g,t * 4 + 3,none⟩ v') (.slice (some ⟨g,0,none⟩) L.length cap) (L.set t (partK (nth L t) svc S 0)) rv')∧Keep Y W (w'.setCell ⟨g,t * 4 + 3,none⟩ v')∧w'.cell? ⟨g,t * 4 + 3,none⟩=some (.slice a3 (nth L t).hs.length c3)∧w'.frozen? ⟨g,t * 4 + 3,none⟩=false):=fun hX h1 h2 h3=>by
  rw [← e3] at h2 h3 ⊢
  rw [partK_zero]
  exact app_region hPW hYW (c:=2) (by decide) ht (app_H (nth L t) ⟨svc,S.own,⟨#[]⟩⟩) (good_H hGp ⟨hown,Nat.zero_le _,hsvc⟩ (by unfold maxLen; omega)) hX h1 h2 h3
 rw [e3] at R2
 have HR2:Hid (Row W 0 118 3 (.slice a3 (nth L t).hs.length c3) (nth L t).hs.length (ownerCell (hsN (nth L t)))):=R2
 have HYW:=Hid.intro hYW
 have HPW:=Hid.intro hPW
 have HBX:=Hid.intro hbx
 have HYX:=Hid.intro hYx
 have HBW:=Hid.intro hBW
 have HGP:=Hid.intro hGp
 clear hP hZ hPW hYW hYx hbx hBW R2 hF e1 e2 e3 hYd hGp
 have hg0:g < W.heap.size:=block_lt_of_cell k3
 go_enter Tryz.func61,Tryz.ntmps61
 go_wp2_with fail
 go_cut [] from 9 to 21 (fun wx=>(∃ rv',Parts Y wx (.slice (some ⟨g,0,none⟩) L.length cap) (L.set t (partK (nth L t) svc S 0)) rv')∧Keep Y W wx)
 case first =>
  go_region_law (refine step_append_at rfl (.tmp 13) (.tmp 18) 112 rfl 0 118 iO _ 3 40 Tryz.underlying112 oi oz0 oz1 oz2 rfl (by decide) (.slice a3 (nth L t).hs.length c3) (nth L t).hs.length _ (by simp [Act.eval]) ((HR2.out.kept (below1 W (Obj.cells #[.int .i64 svc,.string S.own,.string ⟨#[]⟩] 118))).at (fun _ _=>rfl)) (some ⟨W.heap.size,0,none⟩) 1 1 (ownerL ⟨svc,S.own,⟨#[]⟩⟩) (by simp [Act.eval]) rfl (alloc_news W #[.int .i64 svc,.string S.own,.string ⟨#[]⟩] _) (fun h=>by cases h) (by intro u hu; simp [ownerL] at hu; rcases hu with rfl | rfl | rfl <;> rfl) (by unfold maxLen; omega) (by omega) (Nat.zero_le _) ?_; intro v' w' hw1 hw2 hw3; obtain ⟨va,vc,hvv⟩:=owns_slice hw1; subst hvv; obtain ⟨hpp,hkk,hcc,hff⟩:=HAP.out (X:=(W.alloc (Obj.cells #[.int .i64 svc,.string S.own,.string ⟨#[]⟩] 118)).drew) (below1 W _).drew hw1 hw2 hw3; have HPP:=Hid.intro hpp; have HKK:=Hid.intro hkk; clear hpp hkk hw1 hw2 hw3)
  all_goals (try go_wp2_with fail)
  all_goals go_meet
  all_goals exact ⟨HPP.out,HKK.out⟩
 case rest =>
  obtain ⟨hP0,hK0⟩:=hcut
  have HP0:=Hid.intro hP0
  have HK0:=Hid.intro hK0
  have hb0:=(hK0.block _ HYX.out).trans HBX.out
  have b1':wc.cell? ⟨w.heap.size,1,none⟩=some (.slice fa S.nf fc):=by simp [World.cell?,hb0]
  clear hP0 hK0 hb0 HAP HR2 k0 k1 k2 k3 b1 b2 hW HPW
  go_wp2_with fail
  go_loopw [26] (fun i wr => ∃ k:Nat,k≤S.nf∧i = .int .i64 k∧Hid (∀ j,j < k→clash (nth L t) S j=false)∧Keep Y W wr∧∃ rv',Parts Y wr (.slice (some ⟨g,0,none⟩) L.length cap) (L.set t (partK (nth L t) svc S k)) rv') (fun i _=>S.nf - (intOf i).toNat)
  case atStart=>exact ⟨0,Nat.zero_le _,rfl,(fun j hj=>absurd hj (Nat.not_lt_zero _)),HK0.out,HP0.out⟩
  case round =>
   clear HP0 HK0 b1'
   obtain ⟨k,hk,rfl,hcl,hKr,rk,hPr⟩:=hrel
   have HCL:=Hid.intro hcl
   have HKR:=Hid.intro hKr
   clear hcl
   by_cases hlt:k < S.nf
   ·obtain ⟨hFA,hKA⟩:=HF.out wr (HKW.out.trans (HYZ.out hKr))
    obtain ⟨fb,fo,rfl,f0,f1,f2,hs0,hs2,hkw⟩:=hFA.2 k hlt
    have HGF:Hid (GoodF (S.F k)):=⟨hs0,hs2,hkw⟩
    have hlt':(k:Int) < (S.nf:Int):=by omega
    have hk0:(0:Int)≤(k:Int):=by omega
    have htl:t < (L.set t (partK (nth L t) svc S k)).length:=by rw [List.length_set]; exact ht
    generalize hV:wr.alloc (Obj.cells #[.string (S.F k).name,.int .i64 (S.F k).kind,.string (S.F k).type] 66)=V
    have hBV:Below wr.heap.size wr V:=by rw [← hV]; exact below1 _ _
    have m0:V.cell? ⟨wr.heap.size,0,none⟩=some (.string (S.F k).name):=by rw [← hV,World.cell?_alloc_at _ _ _ _ rfl]; rfl
    have m1:V.cell? ⟨wr.heap.size,1,none⟩=some (.int .i64 (S.F k).kind):=by rw [← hV,World.cell?_alloc_at _ _ _ _ rfl]; rfl
    have m2:V.cell? ⟨wr.heap.size,2,none⟩=some (.string (S.F k).type):=by rw [← hV,World.cell?_alloc_at _ _ _ _ rfl]; rfl
    have hYr:∀ b,Y b→b < wr.heap.size:=fun b hb=>Nat.lt_of_lt_of_le (HYW.out b hb) hKr.size
    have hPV:=hPr.kept' hBV
    have hKV:Keep Y W V:=hKr.trans (Keep.of hBV hYr)
    have hlS:(L.set t (partK (nth L t) svc S k)).length=L.length:=List.length_set
    rw [← hlS] at hPV
    obtain ⟨g',cap',a1',c1',a2',c2',a3',c3',hv,e1,e2,e3,k0,k1,k2,k3⟩:=hPV.aggs htl
    cases hv
    have R0:=hPV.rows 0 t (by decide) htl
    have hgd:=hPV.good t htl
    rw [nth_set_self ht] at e1 e2 e3 k0 k1 k2 k3 R0 hgd
    have R0':Row V 0 66 3 (rk 0 t) (partK (nth L t) svc S k).fs.length (fieldCell (fsN (partK (nth L t) svc S k))):=R0
    obtain ⟨a9,c9,e9,-,hFA9⟩:=R0'.fieldsAt (hgd.len 0) hgd.fs
    rw [e1] at e9
    cases e9
    have hfl:(partK (nth L t) svc S k).fs.length≤910:=by unfold partK; simp; omega
    have hol:(partK (nth L t) svc S k).os.length≤910:=by unfold partK; simp; omega
    have cA:∀ d os,Calls Tryz.prog 66 #[.slice a1' (partK (nth L t) svc S k).fs.length c1',.string (S.F k).name] (grow (redrawn V d) os) fun e w''=>e = .returned (.int .i64 (fieldIdx (partK (nth L t) svc S k).fs.length (fsN (partK (nth L t) svc S k)) (S.F k).name))∧∃ p:Regrown,w''=grow (redrawn V p.d) p.os:=fun d os=>Calls.regrown_of (field_any _ _ _ _ _ _ (hFA9.kept (below_regrown V d os)))
    have HCI:=Hid.intro (clash_iff (p:=nth L t) (svc:=svc) (S:=S) (k:=k))
    rw [e1] at R0'
    have HR0:=Hid.intro R0'
    have HPV:=Hid.intro hPV
    have HKV:=Hid.intro hKV
    have HYV:Hid (∀ b,Y b→b < V.heap.size):=fun b hb=>Nat.lt_of_lt_of_le (hYr b hb) hBV.size
    have HGD:=Hid.intro hgd
    have E1:=Hid.intro e1
    have p1:=cell_regrown k1
    have p0:=cell_regrown m0
    clear hPV hKV hYr hBV R0 R0' hgd e1 e2 e3 k0 k2 k3 hFA9 hFA hKA hKr hPr hs0 hs2 hkw
    generalize fieldIdx (partK (nth L t) svc S k).fs.length (fsN (partK (nth L t) svc S k)) (S.F k).name=fx at *
    go_wp2_with fail
    clear hV f0 f1 f2
    refine wp_region_quiet_below (by kernel_rfl) (by kernel_rfl) ?_
    repeat (go_big_quiet_step (first | exact cA _ _))
    refine wpQuiet_nil ?_
    intro _ hw'
    obtain ⟨⟨dq,osq⟩,hw''⟩:=hw'
    subst hw''
    have hBU:=below_regrown V dq osq
    have k1:=cell_regrown k1 dq osq
    have m0:=cell_regrown m0 dq osq
    have m1:=cell_regrown m1 dq osq
    have m2:=cell_regrown m2 dq osq
    have HKU:Hid (Keep Y W (grow (redrawn V dq) osq)):=HKV.out.trans (Keep.of hBU HYV.out)
    have HPU:=Hid.intro (HPV.out.kept' hBU)
    have HR0U:=Hid.intro (HR0.out.kept hBU)
    have HYU:Hid (∀ b,Y b→b < (grow (redrawn V dq) osq).heap.size):=fun b hb=>Nat.lt_of_lt_of_le (HYV.out b hb) hBU.size
    clear hBU cA p0 p1 HPV HR0 HKV HYV
    generalize grow (redrawn V dq) osq=U at *
    by_cases hneg:fx < 0
    case neg =>
     have hge:(0:Int)≤fx:=by omega
     have HE:Hid (errP (nth L t) S=6):=errP_hit hlt (HCI.out.2 (by first | exact hneg | omega))
     clear hneg
     go_wp2_with fail
     go_ret
     exact ⟨by rw [HE.out]; rfl,fun h=>by rw [HE.out] at h; exact absurd h (by decide),HKW.out.trans (HYZ.out HKU.out)⟩
    have hge : ¬ (0:Int)≤fx:=by omega
    have HCL2:Hid (∀ j,j < k + 1→clash (nth L t) S j=false):=fun j hj=>by
     rcases Nat.lt_succ_iff_lt_or_eq.1 hj with h | h
     ·exact HCL.out j h
     ·rw [h]
      cases hc:clash (nth L t) S k with
      | false=>rfl
      | true=>have:=HCI.out.1 hc; omega
    clear hneg HCI HCL
    have HAP:Hid (∀ {X w':World} {v':Value},Below U.heap.size U X→w'.ownsRow 0 66 3 v' ((partK (nth L t) svc S k).fs.length + 1) ((List.range ((partK (nth L t) svc S k).fs.length * 3)).map (fieldCell (fsN (partK (nth L t) svc S k))) ++ fieldL (S.F k))→X.grownBy w' (Value.slice a1' (partK (nth L t) svc S k).fs.length c1').ownBlock→(v'.ownBlock=(Value.slice a1' (partK (nth L t) svc S k).fs.length c1').ownBlock∨v'.ownBlock=some X.heap.size) →
      (∃ rv',Parts Y (w'.setCell ⟨g,t * 4 + 1,none⟩ v') (.slice (some ⟨g,0,none⟩) (L.set t (partK (nth L t) svc S k)).length cap) ((L.set t (partK (nth L t) svc S k)).set t (pF (partK (nth L t) svc S k) (S.F k))) rv')∧Keep Y U (w'.setCell ⟨g,t * 4 + 1,none⟩ v')∧w'.cell? ⟨g,t * 4 + 1,none⟩=some (.slice a1' (partK (nth L t) svc S k).fs.length c1')∧w'.frozen? ⟨g,t * 4 + 1,none⟩=false):=fun hX h1 h2 h3=>by
     rw [← E1.out] at h2 h3 ⊢
     have e:=nth_set_self (p:=partK (nth L t) svc S k) ht
     exact app_region HPU.out HYU.out (c:=0) (by decide) htl (by rw [e]; exact app_F _ _) (good_F HGD.out HGF.out (by unfold maxLen; omega)) hX (by rw [e]; exact h1) h2 h3
    have hgU:g < U.heap.size:=block_lt_of_cell k1
    have hbU:wr.heap.size < U.heap.size:=block_lt_of_cell m0
    go_wp2_with fail
    go_cut [26] from 26 to 70 (fun i wx=>i = .int .i64 k∧(∃ rv',Parts Y wx (.slice (some ⟨g,0,none⟩) (L.set t (partK (nth L t) svc S k)).length cap) ((L.set t (partK (nth L t) svc S k)).set t (pF (partK (nth L t) svc S k) (S.F k))) rv')∧Keep Y U wx)
    case first =>
     go_region_law (refine step_append_at rfl (.tmp 45) (.tmp 47) 68 rfl 0 66 iF _ 3 40 Tryz.underlying68 fi fz0 fz1 fz2 rfl (by decide) (.slice a1' (partK (nth L t) svc S k).fs.length c1') (partK (nth L t) svc S k).fs.length _ (by simp [Act.eval]) ((HR0U.out.kept (below1 U (Obj.cells #[.string (S.F k).name,.int .i64 (S.F k).kind,.string (S.F k).type] 66))).at (fun _ _=>rfl)) (some ⟨U.heap.size,0,none⟩) 1 1 (fieldL (S.F k)) (by simp [Act.eval]) rfl (alloc_news U #[.string (S.F k).name,.int .i64 (S.F k).kind,.string (S.F k).type] _) (fun h=>by cases h) (by intro u hu; simp [fieldL] at hu; rcases hu with rfl | rfl | rfl <;> rfl) (by unfold maxLen; omega) (by omega) (Nat.zero_le _) ?_; intro v' w' hw1 hw2 hw3; obtain ⟨va,vc,hvv⟩:=owns_slice hw1; subst hvv; obtain ⟨hpp,hkk,hcc,hff⟩:=HAP.out (X:=(U.alloc (Obj.cells #[.string (S.F k).name,.int .i64 (S.F k).kind,.string (S.F k).type] 66)).drew) (below1 U _).drew hw1 hw2 hw3; have HPP:=Hid.intro hpp; have HKK:=Hid.intro hkk; clear hpp hkk hw1 hw2 hw3)
     all_goals (try go_wp2_with fail)
     all_goals go_meet
     all_goals exact ⟨rfl,HPP.out,HKK.out⟩
    case rest =>
     obtain ⟨rfl,⟨rk2,hP2⟩,hK2⟩:=hcut
     have hK2':Keep Y W wc:=HKU.out.trans hK2
     have hY2:∀ b,Y b→b < wc.heap.size:=fun b hb=>Nat.lt_of_lt_of_le (HYW.out b hb) hK2'.size
     rw [set_set] at hP2
     have hls2:(L.set t (pF (partK (nth L t) svc S k) (S.F k))).length=L.length:=List.length_set
     rw [hlS,← hls2] at hP2
     have htl2:t < (L.set t (pF (partK (nth L t) svc S k) (S.F k))).length:=by rw [hls2]; exact ht
     obtain ⟨g',cap',b1',d1',b2',d2',b3',d3',hv,e1,e2,e3,k0,k1,k2,k3⟩:=hP2.aggs htl2
     cases hv
     have hb0:=(hK2'.block _ HYX.out).trans HBX.out
     have x2:wc.cell? ⟨w.heap.size,2,none⟩=some (.string S.own):=by simp [World.cell?,hb0]
     have x3:wc.cell? ⟨w.heap.size,3,none⟩=some (.slice oa S.nf oc):=by simp [World.cell?,hb0]
     obtain ⟨-,hKA⟩:=HF.out wc (HKW.out.trans (HYZ.out hK2'))
     obtain ⟨ob,oo,rfl,o0,hso⟩:=hKA.2 k hlt
     have R1:=hP2.rows 1 t (by decide) htl2
     have hgd:=hP2.good t htl2
     rw [nth_set_self ht] at e1 e2 e3 k0 k1 k2 k3 R1 hgd
     have HAP2:Hid (∀ {X w':World} {v':Value},Below wc.heap.size wc X→w'.ownsRow 0 118 3 v' ((partK (nth L t) svc S k).os.length + 1) ((List.range ((partK (nth L t) svc S k).os.length * 3)).map (ownerCell (osN (partK (nth L t) svc S k))) ++ ownerL ⟨svc,S.own,S.O k⟩)→X.grownBy w' (Value.slice b2' (partK (nth L t) svc S k).os.length d2').ownBlock→(v'.ownBlock=(Value.slice b2' (partK (nth L t) svc S k).os.length d2').ownBlock∨v'.ownBlock=some X.heap.size) →
       (∃ rv',Parts Y (w'.setCell ⟨g,t * 4 + 2,none⟩ v') (.slice (some ⟨g,0,none⟩) L.length cap) (L.set t (partK (nth L t) svc S (k + 1))) rv')∧Keep Y wc (w'.setCell ⟨g,t * 4 + 2,none⟩ v')∧w'.cell? ⟨g,t * 4 + 2,none⟩=some (.slice b2' (partK (nth L t) svc S k).os.length d2')∧w'.frozen? ⟨g,t * 4 + 2,none⟩=false):=fun hX h1 h2 h3=>by
      have e2':rk2 1 t = .slice b2' (partK (nth L t) svc S k).os.length d2':=e2
      rw [← e2'] at h2 h3 ⊢
      have e:=nth_set_self (p:=pF (partK (nth L t) svc S k) (S.F k)) ht
      have hh:=app_region hP2 hY2 (c:=1) (by decide) htl2 (p':=pO (pF (partK (nth L t) svc S k) (S.F k)) ⟨svc,S.own,S.O k⟩) (by rw [e]; exact app_O _ _) (good_O hgd ⟨hown,hso,hsvc⟩ (by show (partK (nth L t) svc S k).os.length < maxLen; unfold maxLen; omega)) hX (by rw [e]; exact h1) h2 h3
      rw [set_set,hls2,← partK_succ] at hh
      exact hh
     have HR1:Hid (Row wc 0 118 3 (.slice b2' (partK (nth L t) svc S k).os.length d2') (partK (nth L t) svc S k).os.length (ownerCell (osN (partK (nth L t) svc S k)))):=by
      have e2':rk2 1 t = .slice b2' (partK (nth L t) svc S k).os.length d2':=e2
      have R1':Row wc 0 118 3 (rk2 1 t) (partK (nth L t) svc S k).os.length (ownerCell (osN (partK (nth L t) svc S k))):=R1
      rw [e2'] at R1'; exact R1'
     have k2':wc.cell? ⟨g,t * 4 + 2,none⟩=some (.slice b2' (partK (nth L t) svc S k).os.length d2'):=k2
     have hgC:g < wc.heap.size:=block_lt_of_cell k2'
     have hxC:w.heap.size < wc.heap.size:=block_lt_of_cell x2
     have hoC:ob < wc.heap.size:=block_lt_of_cell o0
     have HK2:=Hid.intro hK2'
     clear hP2 hK2 hK2' hY2 e1 e2 e3 k0 k1 k2 k3 hb0 hKA R1 hgd HAP HR0U HPU m0 m1 m2
     go_wp2_with fail
     go_region_law (refine step_append_at rfl (.tmp 56) (.tmp 66) 112 rfl 0 118 iO _ 3 40 Tryz.underlying112 oi oz0 oz1 oz2 rfl (by decide) (.slice b2' (partK (nth L t) svc S k).os.length d2') (partK (nth L t) svc S k).os.length _ (by simp [Act.eval]) ((HR1.out.kept (below1 wc (Obj.cells #[.int .i64 svc,.string S.own,.string (S.O k)] 118))).at (fun _ _=>rfl)) (some ⟨wc.heap.size,0,none⟩) 1 1 (ownerL ⟨svc,S.own,S.O k⟩) (by simp [Act.eval]) rfl (alloc_news wc #[.int .i64 svc,.string S.own,.string (S.O k)] _) (fun h=>by cases h) (by intro u hu; simp [ownerL] at hu; rcases hu with rfl | rfl | rfl <;> rfl) (by unfold maxLen; omega) (by omega) (Nat.zero_le _) ?_; intro v' w' hw1 hw2 hw3; obtain ⟨va,vc,hvv⟩:=owns_slice hw1; subst hvv; obtain ⟨hpp,hkk,hcc,hff⟩:=HAP2.out (X:=(wc.alloc (Obj.cells #[.int .i64 svc,.string S.own,.string (S.O k)] 118)).drew) (below1 wc _).drew hw1 hw2 hw3; have HPP:=Hid.intro hpp; have HKK:=Hid.intro hkk; clear hpp hkk hw1 hw2 hw3)
     all_goals (
      have HK3:=Hid.intro (HK2.out.trans HKK.out)
      go_wp2_with fail
      go_roundw
      case rel=>exact ⟨k + 1,by omega,by go_num,HCL2,HK3.out,HPP.out⟩
      case measure=>simp [intOf]; omega)
   ·have hkn:k=S.nf:=by omega
    subst hkn
    have HE:Hid (errP (nth L t) S=0):=errP_none HCL.out
    have HPR:=Hid.intro hPr
    clear hPr hKr
    go_wp2_with fail
    go_ret
    exact ⟨by rw [HE.out]; rfl,fun _=>⟨rk,HPZ.out HPR.out⟩,HKW.out.trans (HYZ.out HKR.out)⟩
end Go.Proofs.YtjjggefmmeminacGreat
