import Derived.Test.YtjjggefmmeminacGreatGrRun
import Derived.Test.YtjjggefmmeminacGreatJQp
import Derived.Test.YtjjggefmmeminacGreatJTq
namespace Go.Proofs.YtjjggefmmeminacGreat
open Go.RowKit Go.Sort Go.PlainAid
theorem parse_ok {s:ByteArray} {r:ByteArray × ByteArray × List (Pick 8)} (h:parse s = .ok r):Small r.1∧Small r.2.1:=by
 unfold parse at h
 by_cases h1:1000 < s.size
 ·rw [if_pos h1] at h; cases h
 ·rw [if_neg h1] at h
  unfold pAsk at h
  cases e1:pName s 0 with
  | error x=>rw [e1] at h; cases h
  | ok t =>
   rw [e1] at h
   dsimp only at h
   cases e2:pSign s 40 t.2 with
   | error x=>rw [e2] at h; cases h
   | ok i =>
    rw [e2] at h
    dsimp only at h
    cases e3:pName s i with
    | error x=>rw [e3] at h; cases h
    | ok k =>
     rw [e3] at h
     dsimp only at h
     cases e4:pSign s 41 k.2 with
     | error x=>rw [e4] at h; cases h
     | ok j =>
      rw [e4] at h
      dsimp only at h
      cases e5:pList s 8 j 0 with
      | error x=>rw [e5] at h; cases h
      | ok q =>
       rw [e5] at h
       dsimp only at h
       by_cases h6:skipB s q.2.1 < s.size
       ·rw [if_pos h6] at h; cases h
       ·rw [if_neg h6] at h
        cases h
        have a1:=(pName_at e1).2.2
        have a2:=(pName_at e3).2.2
        exact ⟨(by show t.1.size≤maxLen; unfold maxLen; omega),(by show k.1.size≤maxLen; unfold maxLen; omega)⟩
theorem parse_err {s:ByteArray} {x:Int × Nat} (h:parse s = .error x):x.1≠0:=by
 unfold parse at h
 by_cases h1:1000 < s.size
 ·rw [if_pos h1] at h; cases h; decide
 ·rw [if_neg h1] at h
  unfold pAsk at h
  cases e1:pName s 0 with
  | error y=>rw [e1] at h; cases h; exact (pName_err (Nat.zero_le _) e1).1
  | ok t =>
   rw [e1] at h
   dsimp only at h
   have l1:=(pName_at e1).2.1
   cases e2:pSign s 40 t.2 with
   | error y=>rw [e2] at h; cases h; exact (pSign_err l1 e2).1
   | ok i =>
    rw [e2] at h
    dsimp only at h
    have l2:=(pSign_at e2).2
    cases e3:pName s i with
    | error y=>rw [e3] at h; cases h; exact (pName_err l2 e3).1
    | ok k =>
     rw [e3] at h
     dsimp only at h
     have l3:=(pName_at e3).2.1
     cases e4:pSign s 41 k.2 with
     | error y=>rw [e4] at h; cases h; exact (pSign_err l3 e4).1
     | ok j =>
      rw [e4] at h
      dsimp only at h
      have l4:=(pSign_at e4).2
      cases e5:pList s 8 j 0 with
      | error y=>rw [e5] at h; cases h; exact ((pList_goes s 8 j 0 l4 (by decide)).2 _ e5).1
      | ok q =>
       rw [e5] at h
       dsimp only at h
       by_cases h6:skipB s q.2.1 < s.size
       ·rw [if_pos h6] at h; cases h; show (2:Int)≠0; decide
       ·rw [if_neg h6] at h; cases h
def TextEnd (s:ByteArray) (n:Nat) (V:Nat→LServ) (e:Ending) (w':World):Prop :=
 (∀ r,parse s = .ok r→RunEnd 8 (meanG n V 8 r.1 r.2.1 r.2.2) (reqs n V 8 r.1 r.2.1 r.2.2) (meanE n V 8 r.1 r.2.1 r.2.2) e w')∧∀ x,parse s = .error x→e = .returned (.tuple #[.slice none 0 0,.slice none 0 0,.int .i64 x.1])
set_option maxRecDepth 100000 in
set_option maxHeartbeats 4000000 in
theorem trun_any (a:Option Addr) (n cap:Nat) (V:Nat→LServ) (s:ByteArray) (w:World) (hS:ServsAt w a n V) (hs:Small s) :
  Calls Tryz.prog 15 #[.slice a n cap,.string s] w fun e w'=>TextEnd s n V e w'∧Below w.heap.size w w':=by
 have hcl:=parse_any s w hs
 have HS:=Hid.intro hS
 clear hS
 go_enter Tryz.func15,Tryz.ntmps15
 go_wp2_with fail
 refine hcl.mono ?_
 clear hcl
 rintro e w1 ⟨hok,herr,hw1⟩
 cases hp:parse s with
 | error x =>
  have he:=herr x hp
  subst he
  have hx:=parse_err hp
  have hxb:(x.1 != 0)=true:=by simpa using hx
  have HP:Hid (parse s = .error x):=Hid.intro hp
  have HW:=Hid.intro hw1
  clear hok herr hp hw1 hx
  obtain ⟨x1,x2⟩:=x
  dsimp only at hxb
  go_upto_region 2 with fail
  generalize hX:(w1.alloc (Obj.cells #[.string ⟨#[]⟩,.string ⟨#[]⟩,.slice none 0 0] 25)).alloc (Obj.cells #[.int .i64 x1,.int .i64 (x2:Int)] 45)=X
  have f0:X.cell? ⟨w1.heap.size + 1,0,none⟩=some (.int .i64 x1):=by rw [← hX,World.cell?_alloc_at _ _ _ _ (by simp)]; rfl
  have HX:Hid (Below w.heap.size w X):=Hid.intro (by rw [← hX]; exact HW.out.trans ((below2 w1 _ _).mono HW.out.size))
  clear hX
  go_wp2_with fail
  go_quiet (fail)
  go_wp2_with fail
  exact bodyPost_ret (v:=.tuple #[.slice none 0 0,.slice none 0 0,.int .i64 x1]) (by simp [results,Tryz.results15,go_sem]) rfl ⟨⟨(fun r hr=>by rw [HP.out] at hr; cases hr),(fun y hy=>by rw [HP.out] at hy; cases hy; rfl)⟩,HX.out.trans ((below_drewN _ _).mono HX.out.size)⟩
 | ok r =>
  obtain ⟨pa,pc,he,hpc,hPk⟩:=hok r hp
  subst he
  obtain ⟨hs1,hs2⟩:=parse_ok hp
  have HP:Hid (parse s = .ok r):=Hid.intro hp
  have HW:=Hid.intro hw1
  have HPk:=Hid.intro hPk
  clear hok herr hp hw1 hPk
  obtain ⟨r1,r2,r3⟩:=r
  dsimp only at hs1 hs2 HPk hpc
  go_upto_region 2 with fail
  generalize hX:(w1.alloc (Obj.cells #[.string r1,.string r2,.slice pa r3.length pc] 25)).alloc (Obj.cells #[.int .i64 0,.int .i64 0] 45)=X
  have hBX:Below w1.heap.size w1 X:=by rw [← hX]; exact below2 w1 _ _
  have f0:X.cell? ⟨w1.heap.size + 1,0,none⟩=some (.int .i64 0):=by rw [← hX,World.cell?_alloc_at _ _ _ _ (by simp)]; rfl
  obtain ⟨g0,g1,g2⟩:X.cell? ⟨w1.heap.size,0,none⟩=some (.string r1)∧X.cell? ⟨w1.heap.size,1,none⟩=some (.string r2)∧X.cell? ⟨w1.heap.size,2,none⟩=some (.slice pa r3.length pc):=by
   rw [← hX]
   refine ⟨?_,?_,?_⟩
   all_goals (rw [World.cell?_of_block (Below.heap_alloc _ _ _ (by simp)),World.cell?_alloc_at _ _ _ _ rfl]; rfl)
  have hWX:Below w.heap.size w X:=HW.out.trans (hBX.mono HW.out.size)
  have hcl:=grun_any a n cap V 8 r1 r2 pa pc r3 X (HS.out.kept hWX) (HPk.out.kept hBX) hpc hs1 hs2
  have HX:=Hid.intro hWX
  clear hX hBX hWX HW
  go_wp2_with fail
  refine hcl.mono ?_
  clear hcl
  rintro e w2 ⟨hend,hw2⟩
  have HEE:=Hid.intro hend
  obtain ⟨va,vc,qa,qc,rfl,-⟩:=hend
  have HW2:=Hid.intro (HX.out.trans (hw2.mono HX.out.size))
  clear hw2 HX g0 g1 g2 f0
  obtain ⟨M,hM⟩:∃ M,M=meanG n V 8 r1 r2 r3:=⟨_,rfl⟩
  obtain ⟨x,hx⟩:∃ x,x=meanE n V 8 r1 r2 r3:=⟨_,rfl⟩
  obtain ⟨R,hR⟩:∃ R,R=reqs n V 8 r1 r2 r3:=⟨_,rfl⟩
  have HEE:Hid (RunEnd 8 (meanG n V 8 r1 r2 r3) (reqs n V 8 r1 r2 r3) (meanE n V 8 r1 r2 r3) (.returned (.tuple #[.slice va M.length vc,.slice qa R.length qc,.int .i64 x])) w2):=Hid.intro (by rw [hM,hx,hR]; exact HEE.out)
  rw [← hM,← hx,← hR]
  clear hM hx hR
  go_wp2_with fail
  exact bodyPost_ret (v:=.tuple #[.slice va M.length vc,.slice qa R.length qc,.int .i64 x]) (by simp [results,Tryz.results15,go_sem]) rfl ⟨⟨(fun r hr=>by rw [HP.out] at hr; cases hr; exact HEE.out),(fun y hy=>by rw [HP.out] at hy; cases hy)⟩,HW2.out⟩
end Go.Proofs.YtjjggefmmeminacGreat
namespace Go.Proofs.YtjjggefmmeminacGreat
open Go.RowKit Go.Sort Go.PlainAid
theorem half0:halfT 0=⟨#[117,115,101,114,40,117,97,97,41,123,110,97,109,101,32,117,110,100,101,114,123,110,97,109,101,125,125]⟩:=by kernel_rfl
set_option maxRecDepth 100000 in
set_option maxHeartbeats 4000000 in
theorem talive_any (w:World):Calls Tryz.prog 13 #[] w fun e w'=>e = .returned (.bool true)∧Below w.heap.size w w':=by
 have hcl:Calls Tryz.prog 18 #[.int .i64 2] w _:=people_any 2 (by decide) w
 go_enter Tryz.func13,Tryz.ntmps13
 go_wp2_with fail
 refine hcl.mono ?_
 clear hcl
 rintro e w1 ⟨⟨ba,bb,ta,fa,tb,fb,tc,p,q,r,va,vb,lb,rfl,hT,hF,hTw,hl⟩,hw1⟩
 obtain ⟨a1,c1,hva,-⟩:=hTw.r1.slice
 subst hva
 obtain ⟨a4,c4,hvb,-⟩:=hTw.r2.slice
 subst hvb
 have hS:=chain_servs (by decide) hT hF hTw hl
 obtain ⟨hp,hE,hG⟩:=pair_plain (lieZ 2 fa fb p q r) (lieY ta tb tc a1 c1 a4 c4)
 have hcl:=trun_any (some ⟨lb,0,none⟩) 2 2 _ ⟨#[117,115,101,114,40,117,97,97,41,123,110,97,109,101,32,117,110,100,101,114,123,110,97,109,101,125,125]⟩ w1 hS (small_lit 27 rfl (by decide))
 rw [half0] at hp
 have HP:=Hid.intro hp
 have HE:=Hid.intro hE
 have HG:=Hid.intro hG
 have HW:=Hid.intro hw1
 clear hT hF hTw hl hS hp hE hG hw1
 generalize chainV (lieZ 2 fa fb p q r) (lieY ta tb tc a1 c1 a4 c4) 2=V at *
 go_wp2_with fail
 refine hcl.mono ?_
 clear hcl
 rintro e w2 ⟨⟨hok,-⟩,hw2⟩
 have h:=hok _ HP.out
 dsimp only at h
 rw [HE.out,HG.out] at h
 obtain ⟨va2,vc2,qa,qc,rfl,-,-,hout,-⟩:=h
 obtain ⟨b,o,A,C,A2,C2,hb,-,-,-,c3,-,-,-,-,-,-⟩:=hout.2 0 (show 0 < 2 by decide)
 obtain ⟨b',o',A',C',A2',C2',hb',-,-,-,-,-,c5,-,-,-,hsub⟩:=hout.2 1 (show 1 < 2 by decide)
 subst hb
 cases hb'
 obtain ⟨b2,o2,A3,C3,hb2,c6,-,hsub2⟩:=hsub.2 0 (show 0 < 1 by decide)
 subst hb2
 obtain ⟨b3,o3,A4,C4,A5,C5,hb3,-,-,-,d3,-⟩:=hsub2.2 0 (show 0 < 1 by decide)
 subst hb3
 have c3':w2.cell? ⟨b,o + 3,none⟩=some (.string ⟨#[78,117,97,97]⟩):=by rw [Nat.zero_mul,Nat.add_zero] at c3; exact c3
 have c5':w2.cell? ⟨b,o + 11,none⟩=some (.slice (some ⟨b2,o2,none⟩) 1 C2'):=by rw [show o + 11=o + 1 * 6 + 5 by omega]; exact c5
 have c6':w2.cell? ⟨b2,o2,none⟩=some (.slice (some ⟨b3,o3,none⟩) 1 C3):=by rw [Nat.add_zero] at c6; exact c6
 have d3':w2.cell? ⟨b3,o3 + 3,none⟩=some (.string ⟨#[78,117,97,98]⟩):=by rw [Nat.zero_mul,Nat.add_zero] at d3; exact d3
 have HB2:Hid (Below w.heap.size w w2):=Hid.intro (HW.out.trans (hw2.mono HW.out.size))
 clear c3 c5 c6 d3 hsub hsub2 hout hw2 HW hok HP HE HG
 generalize (reqs 2 V 8 bUser (keyP 0) pairK).length=R
 rw [show ([mkGot bName 1 false (nameP 0) [] [],mkGot bUnder 3 false ⟨#[]⟩ [] [[mkGot bName 1 false (nameP 1) [] []]]]:List (Got 8)).length=2 from rfl]
 go_wp2_with fail
 go_ret
 exact ⟨rfl,HB2.out⟩
end Go.Proofs.YtjjggefmmeminacGreat
