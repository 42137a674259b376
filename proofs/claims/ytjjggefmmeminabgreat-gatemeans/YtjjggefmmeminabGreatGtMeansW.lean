import Derived.Test.YtjjggefmmeminabGreatGtAlive
import Derived.Test.YtjjggefmmeminabGreatMnMean
import Derived.Test.YtjjggefmmeminabGreatRgSame
namespace Go.Proofs.YtjjggefmmeminabGreat
open Go.RowKit Go.Sort Go.PlainAid
set_option maxRecDepth 100000 in
set_option maxHeartbeats 4000000 in
theorem gateMeans_any (hRun:RunOk 9) (a:Option Addr) (n cap:Nat) (V:Nat→LServ) (d:Nat) (type key:ByteArray) (pa:Option Addr) (pcap:Nat) (ps:List (Pick d)) (w:World) (hS:ServsAt w a n V) (hP:PicksAt w d pa ps) (hcap:ps.length≤pcap) (hs0:Small type) (hs1:Small key) :
  Calls Tryz.prog 5 #[.slice a n cap,.agg #[.string type,.string key,.slice pa ps.length pcap]] w fun e w'=>e = .returned (.bool true)∧Below w.heap.size w w':=by
 have HS:=Hid.intro hS
 have HP:=Hid.intro hP
 generalize hW:w.alloc (Obj.cells #[.string type,.string key,.slice pa ps.length pcap] 25)=W
 have hBW:Below w.heap.size w W:=by rw [← hW]; exact below1 _ _
 have a0:W.cell? ⟨w.heap.size,0,none⟩=some (.string type):=by rw [← hW,World.cell?_alloc_at _ _ _ _ rfl]; rfl
 have a1:W.cell? ⟨w.heap.size,1,none⟩=some (.string key):=by rw [← hW,World.cell?_alloc_at _ _ _ _ rfl]; rfl
 have a2:W.cell? ⟨w.heap.size,2,none⟩=some (.slice pa ps.length pcap):=by rw [← hW,World.cell?_alloc_at _ _ _ _ rfl]; rfl
 have hcl:=alive7_any hRun W
 have HBW:=Hid.intro hBW
 have HRun:=Hid.intro hRun
 clear hS hP hBW hRun
 go_enter Tryz.func5,Tryz.ntmps5
 go_wp2_with fail
 clear hW
 refine hcl.mono ?_
 clear hcl
 rintro e w1 ⟨rfl,hw1⟩
 have HB1:=Hid.intro (HBW.out.trans (hw1.mono HBW.out.size))
 have a0:=keptCell hw1 a0
 have a1:=keptCell hw1 a1
 have a2:=keptCell hw1 a2
 have hcl:=HRun.out a n cap V d type key pa pcap ps w1 (HS.out.kept HB1.out) (HP.out.kept HB1.out) hcap hs0 hs1
 have HC2:Hid (∀ w3,Below w.heap.size w w3→Calls Tryz.prog 6 #[.slice a n cap,.agg #[.string type,.string key,.slice pa ps.length pcap]] w3 fun e w'=>MeanEnd w3.heap.size d (meanG n V d type key ps) (meanE n V d type key ps) e w'∧Below w3.heap.size w3 w'):=Hid.intro fun w3 h3=>mean_any a n cap V d type key pa pcap ps w3 (HS.out.kept h3) (HP.out.kept h3) hcap hs0 hs1
 have HF:Hid (meanE n V d type key ps≠0→(reqs n V d type key ps).length=0):=Hid.intro fun h=>by unfold reqs; rw [if_neg h]; rfl
 clear hw1 HBW HS HRun HP
 generalize meanG n V d type key ps=M at *
 generalize meanE n V d type key ps=x at *
 generalize reqs n V d type key ps=R at *
 go_wp2_with fail
 refine hcl.mono ?_
 clear hcl
 rintro e w2 ⟨⟨va,vc,qa,qc,rfl,-,-,hG,-⟩,hw2⟩
 have HB2:=Hid.intro (HB1.out.trans (hw2.mono HB1.out.size))
 have HG:=Hid.intro hG
 have a0:=keptCell hw2 a0
 have a1:=keptCell hw2 a1
 have a2:=keptCell hw2 a2
 have hcl:=HC2.out w2 HB2.out
 clear hw2 HB1 HC2 hG
 go_wp2_with fail
 refine hcl.mono ?_
 clear hcl
 rintro e w4 ⟨⟨va4,vc4,rfl,hc4,ho4⟩,hw4⟩
 have hcl:=sameGot_any d va va4 vc vc4 M w4 (HG.out.kept hw4) ho4.free.at
 have HB4:=Hid.intro (HB2.out.trans (hw4.mono HB2.out.size))
 clear hw4 ho4 HG HB2 a0 a1 a2
 go_wp2_with fail
 refine hcl.mono ?_
 clear hcl
 rintro e w5 ⟨rfl,hw5⟩
 have HB5:=Hid.intro (HB4.out.trans (hw5.mono HB4.out.size))
 clear hw5 HB4
 by_cases h0:x=0
 ·have hb:(x == 0)=true:=by simpa using h0
  clear HF h0
  go_wp2_with fail
  go_ret
  exact ⟨rfl,HB5.out⟩
 ·have hb:(x == 0)=false:=by simpa using h0
  have hl:=HF.out h0
  generalize R.length=k at *
  subst hl
  clear HF h0
  go_wp2_with fail
  go_ret
  exact ⟨rfl,HB5.out⟩
end Go.Proofs.YtjjggefmmeminabGreat
