import Derived.Test.YtjjggefmmeminacGtAlive
import Derived.Test.YtjjggefmmeminacGtMvT
import Derived.Test.YtjjggefmmeminacGtMvE
import Derived.Test.YtjjggefmmeminacMgAll
import Derived.Deep.CutBlock
namespace Go.Proofs.Ytjjggefmmeminac
open Go.RowKit Go.Sort Go.PlainAid
def cutC (T:Nat→LType) (m n:Nat) (u:ByteArray):Nat:=((cutK T m n u).getD 0).toNat
theorem mv_plain {n c0 m:Nat} {V:Nat→LServ} (h0:(allF n V).1=0) (hc0:c0 < n):(V c0).nt≤8∧(V c0).nx≤60∧(∀ j,j < (V c0).nt→cutC (V c0).T m (V c0).nt ((V c0).T j).name=min m ((V c0).T j).nf)∧∀ i,i < (V c0).nx→(cutK (V c0).T m (V c0).nt ((V c0).X i).type).getD 0=(cutC (V c0).T m (V c0).nt ((V c0).X i).type:Int)∧cutC (V c0).T m (V c0).nt ((V c0).X i).type≤((V c0).X i).nv:=by
 obtain ⟨h1,h2⟩:=(wrongF_ok (allF_wrong h0)).2 c0 hc0
 have hR:=seeF_right h1
 have hone:∀ i j,i < j→j < (V c0).nt→((V c0).T i).name≠((V c0).T j).name:=fun i j hij hj=>hR.one i j hij hj
 have hcut:∀ j,j < (V c0).nt→cutC (V c0).T m (V c0).nt ((V c0).T j).name=min m ((V c0).T j).nf:=fun j hj=>by
  unfold cutC
  rw [cutK_hit hone hj]
  rfl
 refine ⟨hR.few,?_,hcut,fun i hi=>⟨?_,?_⟩⟩
 ·by_cases h6:60 < (V c0).nx
  ·unfold wrongThings at h2
   rw [if_pos h6] at h2; cases h2
  ·omega
 ·obtain ⟨c,e,-⟩:=cutK_le (T:=(V c0).T) (m:=m) (V c0).nt ((V c0).X i).type
  unfold cutC
  rw [e]; rfl
 ·obtain ⟨-,⟨t,ht⟩,-⟩:=thing_right h2 hi
  have h3:=(idx_in (p:=fun k=>eqs ((V c0).T k).name ((V c0).X i).type) (n:=(V c0).nt) (by have h':idx (V c0).nt (fun k=>eqs ((V c0).T k).name ((V c0).X i).type)=(t:Int):=ht.find; omega)).2
  have h':idx (V c0).nt (fun k=>eqs ((V c0).T k).name ((V c0).X i).type)=(t:Int):=ht.find
  rw [h',Int.toNat_natCast] at h3
  rw [← eqs_iff.1 h3,hcut t ht.lt,ht.nv]
  exact Nat.min_le_right ..
theorem mv_old {w:World} {o:Obj} {b:Nat} {x:Obj} (h:w.heap[b]? = some x):(w.alloc o).heap[b]? = some x:=((below1 w o).block b (lt_of_block h)).trans h
theorem mv_new {w:World} {o:Obj} {b:Nat} (h:b=w.heap.size):(w.alloc o).heap[b]? = some o:=h ▸ heap_alloc_new w o
theorem mv_halves {w w':World} {s:LServ} {m bx bz:Nat} {vt ut vx ux:Value} (hs:ServOk w s) (hw:Below w.heap.size w w') (hcn:∀ i,i < s.nx→cutC s.T m s.nt (s.X i).type≤(s.X i).nv)
  (hM:MvB w.heap.size w' bx bz vt ut vx ux s.nt s.nt s.nx s.nx (typeCell (xTs s.T m)) (typeCell (yTs s.T m)) (thCell (xXs s.X (cutC s.T m s.nt))) (thCell (yXs s.X (cutC s.T m s.nt)))) :
  ∃ ta tc xa xc tb td xb xd,vt = .slice ta s.nt tc∧vx = .slice xa s.nx xc∧ut = .slice tb s.nt td∧ux = .slice xb s.nx xd∧ServOk w' (halfS ta tc xa xc s (xTs s.T m) (xXs s.X (cutC s.T m s.nt)))∧ServOk w' (halfS tb td xb xd s (yTs s.T m) (yXs s.X (cutC s.T m s.nt))):=by
 have hT:=hs.types.kept hw
 have hX:=hs.things.kept hw
 obtain ⟨ta,tc,e1,l1,g1⟩:=row_types hM.t1 hT.1 (fun i hi=>by
  obtain ⟨b,o,-,-,-,hc,hsn,hF⟩:=hT.2 i hi
  exact ⟨Nat.le_trans (Nat.min_le_right ..) hc,hsn,hF.head (Nat.min_le_right ..)⟩)
 obtain ⟨tb,td,e2,l2,g2⟩:=row_types hM.t2 hT.1 (fun i hi=>by
  obtain ⟨b,o,-,-,-,hc,hsn,hF⟩:=hT.2 i hi
  exact ⟨Nat.sub_le_sub_right hc _,hsn,hF.tail (Nat.min_le_right ..) hc⟩)
 obtain ⟨xa,xc,e3,l3,g3⟩:=row_things hM.x1 hX.1 (fun i hi=>by
  obtain ⟨b,o,-,-,-,-,hc,hsn,hsk,hF⟩:=hX.2 i hi
  exact ⟨Nat.le_trans (hcn i hi) hc,hsn,hsk,hF.head (hcn i hi)⟩)
 obtain ⟨xb,xd,e4,l4,g4⟩:=row_things hM.x2 hX.1 (fun i hi=>by
  obtain ⟨b,o,-,-,-,-,hc,hsn,hsk,hF⟩:=hX.2 i hi
  exact ⟨Nat.sub_le_sub_right hc _,hsn,hsk,hF.tail (hcn i hi) hc⟩)
 exact ⟨ta,tc,xa,xc,tb,td,xb,xd,e1,e3,e2,e4,⟨g1,⟨Nat.zero_le _,fun i hi=>absurd hi (Nat.not_lt_zero _)⟩,g3,l1,l3⟩,⟨g2,⟨Nat.zero_le _,fun i hi=>absurd hi (Nat.not_lt_zero _)⟩,g4,l2,l4⟩⟩
set_option maxRecDepth 100000 in
set_option maxHeartbeats 80000000 in
theorem gateMoved_any (hRun:RunOk 8) (a:Option Addr) (n cap:Nat) (V:Nat→LServ) (d:Nat) (type key:ByteArray) (pa:Option Addr) (pcap:Nat) (ps:List (Pick d)) (z2 z3:Int) (w:World) (hS:ServsAt w a n V) (hP:PicksAt w d pa ps) (hcap:ps.length≤pcap) (hs0:Small type) (hs1:Small key) :
  Calls Try.prog 6 #[.slice a n cap,.agg #[.string type,.string key,.slice pa ps.length pcap],.int .i64 z2,.int .i64 z3] w fun e w'=>e = .returned (.bool true)∧Below w.heap.size w w':=by
 have hmm:=@run_makeMap Try.prog
 have HS:=Hid.intro hS
 have HP:=Hid.intro hP
 generalize hW:w.alloc (Obj.cells #[.string type,.string key,.slice pa ps.length pcap] 25)=W
 have hBW:Below w.heap.size w W:=by rw [← hW]; exact below1 _ _
 have hA:W.heap[w.heap.size]? = some (.cells #[.string type,.string key,.slice pa ps.length pcap] 25 (0,0)):=by rw [← hW]; exact heap_alloc_new _ _
 have hcl:=alive7_any hRun W
 have HBW:=Hid.intro hBW
 have HA:=Hid.intro hA
 have HRun:=Hid.intro hRun
 clear hS hP hBW hRun hA
 go_enter Try.func6,Try.ntmps6
 go_wp2_with fail
 clear hW
 refine hcl.mono ?_
 clear hcl
 rintro e w1 ⟨rfl,hw1⟩
 have HB1:=Hid.intro (HBW.out.trans (hw1.mono HBW.out.size))
 have HA1:=Hid.intro ((hw1.block _ (lt_of_block HA.out)).trans HA.out)
 clear hw1 HBW HA
 by_cases h1:z2 < 0
 ·go_wp2_with fail
  go_ret
  exact ⟨rfl,HB1.out⟩
 by_cases h2:(n:Int)≤z2
 ·go_wp2_with fail
  go_ret
  exact ⟨rfl,HB1.out⟩
 by_cases h3:5≤n
 ·have h3':(5:Int)≤(n:Int):=by omega
  go_wp2_with fail
  go_ret
  exact ⟨rfl,HB1.out⟩
 have h3' : ¬ (5:Int)≤(n:Int):=by omega
 obtain ⟨c0,rfl⟩:∃ c0:Nat,z2=(c0:Int):=⟨z2.toNat,by omega⟩
 have hc0:c0 < n:=by omega
 obtain ⟨lb,lo,rfl,hsv⟩:=HS.out.2 c0 hc0
 have l0:=keptCell HB1.out hsv.c0
 have l1:=keptCell HB1.out hsv.c1
 have l2:=keptCell HB1.out hsv.c2
 have HOK:=Hid.intro hsv.ok
 have hlt:(c0:Int) < (n:Int):=by omega
 have hge:(0:Int)≤(c0:Int):=by omega
 clear hsv
 by_cases h4:0 < (V c0).nc
 ·have h4':(0:Int) < ((V c0).nc:Int):=by omega
  go_wp2_with fail
  go_ret
  exact ⟨rfl,HB1.out⟩
 have h4' : ¬ (0:Int) < ((V c0).nc:Int):=by omega
 have hnc:(V c0).nc=0:=by omega
 have HNC:=Hid.intro hnc
 have hcl:=mall_any (some ⟨lb,lo,none⟩) n cap V w1 (HS.out.kept HB1.out)
 go_wp2_with fail
 clear h1 h2 h3' h4 h4' hnc
 refine hcl.mono ?_
 clear hcl
 rintro e w2 ⟨⟨va,vn,vc,rfl,-,-⟩,hw2⟩
 have HB2:=Hid.intro (HB1.out.trans (hw2.mono HB1.out.size))
 have HA2:=Hid.intro ((hw2.block _ (lt_of_block HA1.out)).trans HA1.out)
 have l0:=keptCell hw2 l0
 have l1:=keptCell hw2 l1
 have l2:=keptCell hw2 l2
 clear hw2 HB1 HA1
 obtain ⟨fl,hfl⟩:∃ fl,fl=allF n V:=⟨_,rfl⟩
 rw [← hfl]
 have HFL:=Hid.intro hfl
 clear hfl
 unfold faultV
 generalize hX1:w2.alloc (Obj.cells #[.int .i64 fl.1,.int .i64 fl.2] 40)=X1
 have hBX:Below w2.heap.size w2 X1:=by rw [← hX1]; exact below1 _ _
 have f0:X1.cell? ⟨w2.heap.size,0,none⟩=some (.int .i64 fl.1):=by rw [← hX1,World.cell?_alloc_at _ _ _ _ rfl]; rfl
 have l0:=keptCell hBX l0
 have l1:=keptCell hBX l1
 have l2:=keptCell hBX l2
 have HBX:=Hid.intro (HB2.out.trans (hBX.mono HB2.out.size))
 have HAX:=Hid.intro ((hBX.block _ (lt_of_block HA2.out)).trans HA2.out)
 clear hBX HB2 HA2
 by_cases h0:fl.1=0
 case neg =>
  have hb:(fl.1 != 0)=true:=by simpa using h0
  clear h0
  go_wp2_with fail
  clear hX1
  go_ret
  exact ⟨rfl,HBX.out⟩
 have hb:(fl.1 != 0)=false:=by simpa using h0
 have H0:=Hid.intro h0
 clear h0
 by_cases h5:z3 < 0
 ·go_wp2_with fail
  clear hX1
  go_ret
  exact ⟨rfl,HBX.out⟩
 by_cases h6:10 < z3
 ·go_wp2_with fail
  clear hX1
  go_ret
  exact ⟨rfl,HBX.out⟩
 obtain ⟨m,rfl⟩:∃ m:Nat,z3=(m:Int):=⟨z3.toNat,by omega⟩
 have hall:(allF n V).1=0:=by rw [← HFL.out]; exact H0.out
 obtain ⟨p1,p2,p3,p4⟩:=mv_plain (m:=m) hall hc0
 have HALL:=Hid.intro hall
 have HP3:=Hid.intro p3
 have HP4:=Hid.intro p4
 clear hall HFL p3 p4 H0
 have hXs:w.heap.size≤X1.heap.size:=HBX.out.size
 go_upto_block 0 with fail
 clear hX1 f0 hb h5 h6
 generalize hU:(((X1.alloc (Obj.cells #[.slice (V c0).ta (V c0).nt (V c0).tcap,.slice (V c0).ca (V c0).nc (V c0).ccap,.slice (V c0).xa (V c0).nx (V c0).xcap] 47)).alloc (Obj.cells #[.slice none 0 0,.slice none 0 0,.slice none 0 0] 47)).alloc (Obj.cells #[.slice none 0 0,.slice none 0 0,.slice none 0 0] 47)).alloc (.map #[] 0)=U
 have hu0:U.heap[X1.heap.size]? = some (.cells #[.slice (V c0).ta (V c0).nt (V c0).tcap,.slice (V c0).ca (V c0).nc (V c0).ccap,.slice (V c0).xa (V c0).nx (V c0).xcap] 47 (0,0)):=by rw [← hU]; exact mv_old (mv_old (mv_old (mv_new rfl)))
 have hu1:U.heap[X1.heap.size + 1]? = some (.cells #[.slice none 0 0,.slice none 0 0,.slice none 0 0] 47 (0,0)):=by rw [← hU]; exact mv_old (mv_old (mv_new (by simp)))
 have hu2:U.heap[X1.heap.size + 1 + 1]? = some (.cells #[.slice none 0 0,.slice none 0 0,.slice none 0 0] 47 (0,0)):=by rw [← hU]; exact mv_old (mv_new (by simp))
 have hTM:TMap U (X1.heap.size + 1 + 1 + 1) 0 (cutK (V c0).T m 0):=by
  rw [← hU]
  have h9:=TMap.made (((X1.alloc (Obj.cells #[.slice (V c0).ta (V c0).nt (V c0).tcap,.slice (V c0).ca (V c0).nc (V c0).ccap,.slice (V c0).xa (V c0).nx (V c0).xcap] 47)).alloc (Obj.cells #[.slice none 0 0,.slice none 0 0,.slice none 0 0] 47)).alloc (Obj.cells #[.slice none 0 0,.slice none 0 0,.slice none 0 0] 47))
  have e9:(((X1.alloc (Obj.cells #[.slice (V c0).ta (V c0).nt (V c0).tcap,.slice (V c0).ca (V c0).nc (V c0).ccap,.slice (V c0).xa (V c0).nx (V c0).xcap] 47)).alloc (Obj.cells #[.slice none 0 0,.slice none 0 0,.slice none 0 0] 47)).alloc (Obj.cells #[.slice none 0 0,.slice none 0 0,.slice none 0 0] 47)).heap.size=X1.heap.size + 1 + 1 + 1:=by simp
  rw [e9] at h9
  exact h9.congr fun _ _=>rfl
 have hXU:Below X1.heap.size X1 U:=by rw [← hU]; exact Below.alloc (Below.alloc (Below.alloc (below1 X1 _) (by simp) _) (by simp; omega) _) (by simp; omega) _
 have HU0:=Hid.intro hu0
 have HAU:=Hid.intro ((hXU.block _ (lt_of_block HAX.out)).trans HAX.out)
 have HBU:=Hid.intro (HBX.out.trans (hXU.mono hXs))
 have HTM:=Hid.intro hTM
 have HM:Hid (MvB w.heap.size U (X1.heap.size + 1) (X1.heap.size + 1 + 1) (.slice none 0 0) (.slice none 0 0) (.slice none 0 0) (.slice none 0 0) 0 0 0 0 (typeCell (xTs (V c0).T m)) (typeCell (yTs (V c0).T m)) (thCell (xXs (V c0).X (cutC (V c0).T m (V c0).nt))) (thCell (yXs (V c0).X (cutC (V c0).T m (V c0).nt)))):=Hid.intro ⟨hu1,hu2,World.ownsRow_nil _ _ _ _,World.ownsRow_nil _ _ _ _,World.ownsRow_nil _ _ _ _,World.ownsRow_nil _ _ _ _,(fun b h=>by cases h),(fun b h=>by cases h),by omega⟩
 have hax:w.heap.size < X1.heap.size:=lt_of_block HAX.out
 clear hU hu0 hu1 hu2 hTM hXU l0 l1 l2 HBX HAX
 refine mv_types (m:=m) (w0:=w) (Hid.intro HOK.out.types) p1 HBU (by omega) (by omega) (by omega) (by omega) (by omega) HM HTM _ _ _ _ _ _ _ _ _ _ _ _ _ _ _ _ _ _ _ _ _ _ _ _ _ _ _ _ _ _ _ _ _ _ _ _ _ _ _ _ _ _ _ _ _ _ _ _ _ _ _ _ _ _ _ _ _ _ _ _ _ _ _ _ _ _ _ _ _ _ _ _ _ _ _ _ _ _ _ _ _ _ _ _ _ _ _ _ _ _ _ _ _ _ _ _ _ _ _ _ _ _ _ _ _ _ _ _ _ _ _ _ _ _ _ _ _ _ _ _ _ _ _ _ _ _ _ _ _ _ _ _ _ _ _ _ _ _ _ _ _ _ _ _ _ _ _ _ _ _ _ _ _ _ _ _ _ _ _ _ _ _ _ _ _ _ _ _ _ _ _ _ _ _ _ _ _ _ _ _ (Hid.intro ?_)
 intro u16 u17 u76 u77 u78 u79 u80 u81 u82 u83 u84 u85 u86 u87 u88 u89 u90 u91 u92 u93 u94 u95 u96 u97 u98 u99 u100 u101 u102 u103 u104 u105 u106 u107 u108 u109 u110 u111 u112 u113 w5 vt ut hM5 hTM5 hB5 hS5
 have HM5:=Hid.intro hM5
 have HT5:=Hid.intro hTM5
 have HB5:=Hid.intro hB5
 have HA5:=Hid.intro (hS5.keep _ _ _ HAU.out (by omega) (by omega) (by decide) (by decide))
 have hs5:=hS5.keep _ _ _ HU0.out (by omega) (by omega) (by decide) (by decide)
 have s2:w5.cell? ⟨X1.heap.size,2,none⟩=some (.slice (V c0).xa (V c0).nx (V c0).xcap):=by simp [World.cell?,hs5]
 clear hM5 hTM5 hB5 hS5 hs5 HAU HU0 HBU HTM HM
 rename_i Kx hKx
 refine hKx _ _ ?_
 clear hKx
 go_upto_block 2 with fail
 clear s2
 refine mv_things (w0:=w) (c:=cutC (V c0).T m (V c0).nt) (Hid.intro HOK.out.things) p2 HP4 HB5 (by omega) (by omega) (by omega) (by omega) HM5 HT5 _ _ _ _ _ _ _ _ _ _ _ _ _ _ _ _ _ _ _ _ _ _ _ _ _ _ _ _ _ _ _ _ _ _ _ _ _ _ _ _ _ _ _ _ _ _ _ _ _ _ _ _ _ _ _ _ _ _ _ _ _ _ _ _ _ _ _ _ _ _ _ _ _ _ _ _ _ _ _ _ _ _ _ _ _ _ _ _ _ _ _ _ _ _ _ _ _ _ _ _ _ _ _ _ _ _ _ _ _ _ _ _ _ _ _ _ _ _ _ _ _ _ _ _ _ _ _ _ _ _ _ _ _ _ _ _ _ _ _ _ _ _ _ _ _ _ _ _ _ _ _ _ _ _ _ _ _ _ _ _ _ _ _ _ _ _ _ _ _ _ _ _ _ _ _ _ _ _ _ _ _ (Hid.intro ?_)
 intro y19 y20 y117 y118 y119 y120 y121 y122 y123 y124 y125 y126 y127 y128 y129 y130 y131 y132 y133 y134 y135 y136 y137 y138 y139 y140 y141 y142 y143 y144 y145 y146 y147 y148 y149 y150 y151 y152 y153 w6 vx ux hM6 hB6 hS6
 obtain ⟨ta,tc,xa,xc,tb,td,xb,xd,e1,e2,e3,e4,ok1,ok2⟩:=mv_halves HOK.out hB6 (fun i hi=>(HP4.out i hi).2) hM6
 have HA6:=Hid.intro (hS6.keep _ _ _ HA5.out (by omega) (by omega) (by decide) (by decide))
 have HX6:=Hid.intro hM6.s1
 have HZ6:=Hid.intro hM6.s2
 have HB6:=Hid.intro hB6
 have HO1:=Hid.intro ok1
 have HO2:=Hid.intro ok2
 subst e1 e2 e3 e4
 have hspl:=split_of (kt:=fun j=>min m ((V c0).T j).nf) (c:=cutC (V c0).T m (V c0).nt) (ta:=ta) (tb:=tb) (xa:=xa) (xb:=xb) (tc:=tc) (td:=td) (xc:=xc) (xd:=xd) hc0 HALL.out HNC.out (fun j _=>Nat.min_le_right ..) HP3.out
 have HEQ:=Hid.intro (hspl.mean HALL.out (by omega) d type key ps)
 clear hM6 hB6 hS6 ok1 ok2 hspl
 rename_i Kx hKx
 refine hKx _ _ ?_
 clear hKx
 refine mv_end (sx:=halfS ta tc xa xc (V c0) (xTs (V c0).T m) (xXs (V c0).X (cutC (V c0).T m (V c0).nt))) (sy:=halfS tb td xb xd (V c0) (yTs (V c0).T m) (yXs (V c0).X (cutC (V c0).T m (V c0).nt))) HRun HS HP hcap hs0 hs1 HB6 hc0 (by omega) HA6 HX6 HZ6 HO1 HO2 HEQ _ _ _ _ _ _ _ _ _ _ _ _ _ _ _ _ _ _ _ _ _ _ _ _ _ _ _ _ _ _ _ _ _ _ _ _ _ _ _ _ _ _ _ _ _ _ _ _ _ _ _ _ _ _ _ _ _ _ _ _ _ _ _ _ _ _ _ _ _ _ _ _ _ _ _ _ _ _ _ _ _ _ _ _ _ _ _ _ _ _ _ _ _ _ _ _ _ _ _ _ _ _ _ _ _ _ _ _ _ _ _ _ _ _ _ _ _ _ _ _ _ _ _ _ _ _ _ _ _ _ _ _ _ _ _ _ _ _ _ _ _ _ _ _ _ _ _ _ _ _ _ _ _ _ _ _ _ _ _ _ _ _ _ _ _ _ _ _ _ _ _ _ _ _ _ _ _ _ _ _ _ _
end Go.Proofs.Ytjjggefmmeminac
