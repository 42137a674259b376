import Derived.Test.YtjjggefmmeminacGreatJTr
import Derived.Test.YtjjggefmmeminacGreatTpManyM
import Derived.Lib.QuietBelow
import Derived.BigQuiet
namespace Go.Proofs.YtjjggefmmeminacGreat
open Go.RowKit Go.Sort Go.PlainAid
theorem manyT_eq:(⟨#[117,115,101,114,40]⟩:ByteArray) ++ ⟨#[117,97,97]⟩ ++ ⟨#[41,123,117,110,100,101,114,123,110,97,109,101,125,125]⟩=manyT:=by kernel_rfl
theorem manyG_is {n:Nat} {g:List (Got 8)} (h:manyG n g=true):g.length=1∧(gSubs (gotN g 0)).length=n∧∀ i,i < n→(nthG (gSubs (gotN g 0)) i).length=1∧gText (gotN (nthG (gSubs (gotN g 0)) i) 0)=nameP (i + 1):=by
 unfold manyG at h
 simp only [Bool.and_eq_true,decide_eq_true_eq] at h
 refine ⟨h.1.1,h.1.2,fun i hi=>?_⟩
 have:=then_all h.2 hi
 simp only [Bool.and_eq_true,decide_eq_true_eq] at this
 exact ⟨this.1,eqs_iff.1 this.2⟩
theorem texts_snoc (O:Nat→ByteArray) (k:Nat):(List.range ((k + 1) * 1)).map (textCell O)=(List.range (k * 1)).map (textCell O) ++ [.string (O k)]:=by
 rw [Nat.mul_one,Nat.mul_one,List.range_succ,List.map_append]
 rfl
set_option maxRecDepth 100000 in
set_option maxHeartbeats 4000000 in
theorem topMany_any (z0:Int) (w:World):Calls Tryz.prog 6 #[.int .i64 z0] w fun e w'=>e = .returned (.bool true)∧Below w.heap.size w w':=by
 obtain ⟨i0,hi0,hz0,hz1,hz2⟩:=info_parts' Tryz.info9
 have hcl:=talive_any w
 go_enter Tryz.func6,Tryz.ntmps6
 go_wp2_with fail
 refine hcl.mono ?_
 clear hcl
 rintro e w0 ⟨rfl,hw0⟩
 have HW0:=Hid.intro hw0
 clear hw0
 by_cases h1:z0 < 1
 ·go_wp2_with fail
  go_ret
  exact ⟨rfl,HW0.out⟩
 by_cases h2:20 < z0
 ·go_wp2_with fail
  go_ret
  exact ⟨rfl,HW0.out⟩
 obtain ⟨n,rfl⟩:∃ n:Nat,z0=(n:Int):=⟨z0.toNat,by omega⟩
 have HN:Hid (1≤n∧n≤20):=Hid.intro (by omega)
 have hcl:=people_lo (n + 1) (by omega) w0
 rw [show ((n + 1:Nat):Int)=(n:Int) + 1 from by omega] at hcl
 go_wp2_with fail
 clear h1 h2
 refine hcl.mono ?_
 clear hcl
 rintro e w1 ⟨⟨ba,bb,ta,fa,tb,fb,tc,p,q,r,va,vb,lb,rfl,hT,hF,hTw,hl,hql,-⟩,hw1⟩
 have HQL:Hid (w.heap.size≤q 0):=Hid.intro (Nat.le_trans HW0.out.size (hql 0 (by omega)))
 clear hql
 have HW1:=Hid.intro (HW0.out.trans (hw1.mono HW0.out.size))
 obtain ⟨a1,c1,hva,-⟩:=hTw.r1.slice
 subst hva
 obtain ⟨a4,c4,hvb,-⟩:=hTw.r2.slice
 subst hvb
 have HT:=Hid.intro hT
 have HF:=Hid.intro hF
 have HTW:=Hid.intro hTw
 have HL:=Hid.intro hl
 have HS0:Hid (w0.heap.size≤w1.heap.size):=Hid.intro hw1.size
 have HW00:=Hid.intro HW0.out.size
 have HW01:=Hid.intro hw1
 clear hw1 hT hF hTw hl HW0
 go_upto_region 8 with fail
 go_loopw [4,23] (fun v i wr => ∃ k:Nat,k≤n∧i = .int .i64 (k:Int)∧Row wr w0.heap.size 9 1 v k (textCell (fun i=>kP (i + 1)))∧Below w1.heap.size w1 wr∧(∀ b,v.ownBlock=some b→w1.heap.size≤b)) (fun _ i _=>n - (intOf i).toNat)
 case atStart=>exact ⟨0,Nat.zero_le _,rfl,World.ownsRow_nil _ _ _ _,Below.refl _ _,fun b h=>(by cases h)⟩
 case round =>
  obtain ⟨k,hk,rfl,hR,hw,hnew⟩:=hrel
  by_cases hlt:k < n
  ·have hlt':(k:Int) < (n:Int):=by omega
   have hcl:=key_kP (k + 1) (by have:=HN.out; omega) wr
   rw [show ((k + 1:Nat):Int)=(k:Int) + 1 from by omega] at hcl
   obtain ⟨va,vc,hv,-⟩:=hR.slice
   subst hv
   have HR:=Hid.intro hR
   have HW:=Hid.intro hw
   have HNW:=Hid.intro hnew
   have HNX:Hid ((List.range ((k + 1) * 1)).map (textCell (fun i=>kP (i + 1)))=(List.range (k * 1)).map (textCell (fun i=>kP (i + 1))) ++ [.string (kP (k + 1))]):=Hid.intro (texts_snoc _ k)
   generalize kP (k + 1)=kk at *
   clear hR hw hnew
   go_wp2_with fail
   refine hcl.mono ?_
   clear hcl
   rintro e w2 ⟨rfl,hw2⟩
   have HR:=Hid.intro (HR.out.kept hw2)
   have HW:=Hid.intro (HW.out.trans (hw2.mono HW.out.size))
   have HSZ:Hid (w0.heap.size≤w2.heap.size):=Hid.intro (Nat.le_trans HS0.out HW.out.size)
   have HN20:=HN.out
   clear hw2
   go_wp2_with (at_builtin; refine wpList_append_any _ rfl _ _ 33 rfl w0.heap.size 9 i0 _ 1 16 Tryz.underlying33 hi0 hz0 hz1 hz2 rfl (by decide) _ k _ rfl (HR.out.kept (below1 w2 (Obj.cells #[.string kk] 9))) (some ⟨w2.heap.size,0,none⟩) 1 1 [.string kk] rfl rfl (alloc_news w2 #[.string kk] _) (fun h=>by cases h) (by intro u hu; simp at hu; rw [hu]; rfl) (by unfold maxLen; omega) (by omega) (by have:=HSZ.out; simp; omega) ?_)
   intro v' w' hown hg hv'
   have HR2:Hid (Row w' w0.heap.size 9 1 v' (k + 1) (textCell (fun i=>kP (i + 1)))):=Hid.intro (by
    unfold Row; rw [HNX.out,Nat.mul_one]; exact hown)
   have HW2:Hid (Below w1.heap.size w1 w'):=Hid.intro ((HW.out.trans ((below1 w2 _).mono HW.out.size)).grown hg (by have:=HW.out.size; simp; omega) (fun b hb=>HNW.out b hb))
   have HNW2:Hid (∀ b,v'.ownBlock=some b→w1.heap.size≤b):=Hid.intro fun b hb=>by
    rcases hv' with h | h
    ·exact HNW.out b (h ▸ hb)
    ·rw [h] at hb; cases hb; have:=HW.out.size; simp at *; omega
   clear hown hg hv' HN20
   go_wp2_with fail
   go_roundw
   case rel=>exact ⟨k + 1,by omega,by go_num,HR2.out,HW2.out,HNW2.out⟩
   case measure=>simp [intOf]; omega
  ·obtain rfl:k=n:=by omega
   obtain ⟨a9,c9,hv,-⟩:=hR.slice
   subst hv
   have hT:=HT.out.ev (.of hw)
   have hF:=HF.out.ev (.of hw)
   have hTw:=HTW.out.kept hw
   have hl:=(hw.block _ (lt_of_block HL.out)).trans HL.out
   obtain ⟨n1,n2⟩:=HN.out
   obtain ⟨z,y,hS⟩:=many_servs n1 (by omega) hT hF hTw hl hR
   have hq0:=hF.b 0 (by omega)
   unfold keyV at hq0
   rw [if_pos (by omega)] at hq0
   rcases hTw.r2.shape with ⟨-,h0⟩ | ⟨g,cap,hg4,-,-,-⟩
   ·omega
   cases hg4
   have k2:=hTw.r2.cell (j:=0 * 3 + 2) (by omega)
   rw [tcell2] at k2
   have k2:wr.cell? ⟨g,2,none⟩=some (.slice (some ⟨q 0,0,none⟩) 1 1):=k2
   have l5:wr.cell? ⟨lb,5,none⟩=some (.slice (some ⟨g,0,none⟩) (k + 1) c4):=by simp [World.cell?,hl]
   obtain ⟨d2,d3⟩:wr.cell? ⟨q 0,2,none⟩=some (.slice (some ⟨r 0,0,none⟩) 1 1)∧wr.frozen? ⟨q 0,2,none⟩=false:=by simp [World.cell?,World.frozen?,hq0]
   have HS:=Hid.intro hS
   have HBE:Hid (Below w.heap.size w (wr.setCell ⟨q 0,2,none⟩ (.slice a9 k c9))):=Hid.intro ((HW1.out.trans (hw.mono HW1.out.size)).setCell HQL.out _)
   clear hT hF hTw hl hS hw hnew hR hq0 HT HF HTW HL HW01 HW00 HS0
   go_upto_region 13 with fail
   generalize wr.setCell ⟨q 0,2,none⟩ (.slice a9 k c9)=E at *
   clear d2 d3 k2 l5
   have hcl:Calls Tryz.prog 17 #[.int .i64 0] E fun e w'=>e = .returned (.string ⟨#[117,97,97]⟩)∧Below E.heap.size E w':=key_any 0 (by decide) E
   go_wp2_with fail
   refine hcl.mono ?_
   clear hcl
   rintro e w2 ⟨rfl,hw2⟩
   have hQ:=many_plain z y n1 n2
   unfold manyQ at hQ
   simp only [Bool.and_eq_true,decide_eq_true_eq] at hQ
   obtain ⟨⟨hE,hG⟩,hR4⟩:=hQ
   have hcl:=trun_any (some ⟨lb,0,none⟩) 2 2 _ manyT w2 (HS.out.kept hw2) (small_lit 22 rfl (by decide))
   rw [← manyT_eq] at hcl
   have HPt:Hid (parse (⟨#[117,115,101,114,40]⟩ ++ ⟨#[117,97,97]⟩ ++ ⟨#[41,123,117,110,100,101,114,123,110,97,109,101,125,125]⟩) = .ok (bUser,keyP 0,manyK)):=Hid.intro (by rw [manyT_eq]; exact many_parse)
   have HEE:=Hid.intro hE
   have HGG:=Hid.intro (manyG_is hG)
   have HR4:=Hid.intro hR4
   have HW2:=Hid.intro (HBE.out.trans (hw2.mono HBE.out.size))
   clear hE hG hR4 hw2 HBE HS
   generalize manyV z y k=V at *
   go_wp2_with fail
   refine hcl.mono ?_
   clear hcl
   rintro e w3 ⟨⟨hok,-⟩,hw3⟩
   have h:=hok _ HPt.out
   dsimp only at h
   rw [HEE.out] at h
   obtain ⟨va3,vc3,qa,qc,rfl,-,-,hout,-⟩:=h
   rw [HR4.out]
   have HW3:=Hid.intro (HW2.out.trans (hw3.mono HW2.out.size))
   generalize meanG 2 V 8 bUser (keyP 0) manyK=G at *
   obtain ⟨g1,g2,g3⟩:=HGG.out
   obtain ⟨b,o,A,C,A2,C2,ha,-,-,-,-,-,c5,-,-,-,hsub⟩:=hout.2 0 (by omega)
   subst ha
   rw [Nat.zero_mul,Nat.add_zero,g2] at c5
   rw [g1]
   have HSUB:=Hid.intro hsub
   have HG3:=Hid.intro g3
   have HG2:=Hid.intro g2
   clear hok hw3 hout HW2 HPt HEE HGG HR4 hsub g1 g2 g3
   generalize gSubs (gotN G 0)=S9 at *
   go_wp2_with fail
   go_loopw [78] (fun i wr => ∃ j:Nat,j≤k∧i = .int .i64 (j:Int)∧Below w3.heap.size w3 wr) (fun i _=>k - (intOf i).toNat)
   case atStart=>exact ⟨0,Nat.zero_le _,rfl,Below.refl _ _⟩
   case round =>
    obtain ⟨j,hj,rfl,hw⟩:=hrel
    by_cases hlt:j < k
    ·obtain ⟨b2,o2,A3,C3,hb2,c6,-,hs2⟩:=HSUB.out.2 j (by rw [HG2.out]; exact hlt)
     subst hb2
     obtain ⟨e1,e2⟩:=HG3.out j hlt
     have e1:(subN S9 j).length=1:=e1
     have e2:gText (gotN (subN S9 j) 0)=nameP (j + 1):=e2
     obtain ⟨b3,o3,A4,C4,A5,C5,hb3,-,-,-,c3,-⟩:=hs2.2 0 (by omega)
     subst hb3
     obtain ⟨x,y',hxy⟩:∃ x y,kP (j + 1)=⟨#[117,x,y]⟩:=⟨_,_,rfl⟩
     have hkn:nameP (j + 1)=⟨#[78]⟩ ++ ⟨#[117,x,y']⟩:=by rw [← hxy]; exact (kN_eq (j + 1)).symm
     rw [Nat.zero_mul,Nat.add_zero,e2,hkn] at c3
     rw [e1] at c6
     have c6:=keptCell hw c6
     have c3:=keptCell hw c3
     have cK:∀ d os,Calls Tryz.prog 17 #[.int .i64 ((j:Int) + 1)] (grow (redrawn wr d) os) fun e w''=>e = .returned (.string ⟨#[117,x,y']⟩)∧∃ p:Regrown,w''=grow (redrawn wr p.d) p.os:=fun d os=>Calls.regrown_of (by
      have:=key_kP (j + 1) (by omega) (grow (redrawn wr d) os)
      rw [hxy,show ((j + 1:Nat):Int)=(j:Int) + 1 from by omega] at this
      exact this)
     have r3:=cell_regrown c3
     have hlt':(j:Int) < (k:Int):=by omega
     have hj0:(0:Int)≤(j:Int):=by omega
     have HW:=Hid.intro hw
     clear hs2 e1 e2 hkn hxy hw
     go_upto_region 19 with fail
     refine wp_region_quiet_below (by kernel_rfl) (by kernel_rfl) ?_
     repeat (go_big_quiet_step (first | exact cK _ _))
     refine wpQuiet_nil ?_
     intro _ hw'
     obtain ⟨⟨dq,osq⟩,hw''⟩:=hw'
     subst hw''
     have hbq:=below_regrown wr dq osq
     have HWQ:=Hid.intro (HW.out.trans (hbq.mono HW.out.size))
     clear hbq r3 cK c3 HW c6
     generalize grow (redrawn wr dq) osq=Q at *
     go_wp2_with fail
     go_roundw
     case rel=>exact ⟨j + 1,by omega,by go_num,HWQ.out⟩
     case measure=>simp [intOf]; omega
    ·have HW9:=Hid.intro (HW3.out.trans (hw.mono HW3.out.size))
     clear hw
     go_wp2_with fail
     go_ret
     exact ⟨rfl,HW9.out⟩
end Go.Proofs.YtjjggefmmeminacGreat
