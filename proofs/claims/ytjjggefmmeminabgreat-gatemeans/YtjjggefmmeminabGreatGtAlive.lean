import Derived.Test.YtjjggefmmeminabGreatJGq
import Derived.WalkKit
import Derived.WalkSpells
import Derived.Test.YtjjggefmmeminabGreatMgServRow
namespace Go.Proofs.YtjjggefmmeminabGreat
open Go.RowKit Go.Sort Go.PlainAid
def bU:ByteArray:=⟨#[117,115,101,114]⟩
def bA:ByteArray:=⟨#[97,110,110]⟩
def bN:ByteArray:=⟨#[110,97,109,101]⟩
def bB:ByteArray:=⟨#[98,111,115,115]⟩
theorem small_bytes {s:ByteArray} (n:Nat) (h:s.size=n) (hn:n≤100):Small s:=by unfold Small maxLen; omega
def twoS (ta fa xa va:Option Addr) (f:LField) (v:LVal):LServ:=⟨ta,1,1,fun _=>⟨bU,fa,1,1,fun _=>f⟩,none,0,0,fun _=>⟨0,⟨#[]⟩,⟨#[]⟩,⟨#[]⟩⟩,xa,1,1,fun _=>⟨bU,bA,va,1,1,fun _=>v⟩⟩
theorem Tryz.e53:∀ args w,(callFunc 53 args).run Tryz.prog w = .ok (.enter 53 args) w:=enters_of Tryz.func53 (by kernel_rfl) rfl
set_option maxRecDepth 100000 in
set_option maxHeartbeats 1000000 in
theorem two1_any (f:LField) (v:LVal) (w:World) (hf:GoodF f) (hv:v.nk≤v.kcap∧Small v.field∧Small v.text) (hk:KeysAt w v.ka v.nk v.K) :
  Calls Tryz.prog 53 #[.agg #[.string f.name,.int .i64 f.kind,.string f.type],.agg #[.string v.field,.string v.text,.slice v.ka v.nk v.kcap]] w fun e w'=>(∃ ta fa xa va,e = .returned (servV (twoS ta fa xa va f v))∧ServOk w' (twoS ta fa xa va f v))∧Below w.heap.size w w':=by
 generalize hW:(w.alloc (Obj.cells #[.string f.name,.int .i64 f.kind,.string f.type] 113)).alloc (Obj.cells #[.string v.field,.string v.text,.slice v.ka v.nk v.kcap] 120)=W
 have hBW:Below w.heap.size w W:=by rw [← hW]; exact below2 _ _ _
 have a0:W.cell? ⟨w.heap.size,0,none⟩=some (.string f.name):=by rw [← hW,World.cell?_alloc_past _ _ _ (by simp),World.cell?_alloc_at _ _ _ _ rfl]; rfl
 have a1:W.cell? ⟨w.heap.size,1,none⟩=some (.int .i64 f.kind):=by rw [← hW,World.cell?_alloc_past _ _ _ (by simp),World.cell?_alloc_at _ _ _ _ rfl]; rfl
 have a2:W.cell? ⟨w.heap.size,2,none⟩=some (.string f.type):=by rw [← hW,World.cell?_alloc_past _ _ _ (by simp),World.cell?_alloc_at _ _ _ _ rfl]; rfl
 have b0:W.cell? ⟨w.heap.size + 1,0,none⟩=some (.string v.field):=by rw [← hW,World.cell?_alloc_at _ _ _ _ (by simp)]; rfl
 have b1:W.cell? ⟨w.heap.size + 1,1,none⟩=some (.string v.text):=by rw [← hW,World.cell?_alloc_at _ _ _ _ (by simp)]; rfl
 have b2:W.cell? ⟨w.heap.size + 1,2,none⟩=some (.slice v.ka v.nk v.kcap):=by rw [← hW,World.cell?_alloc_at _ _ _ _ (by simp)]; rfl
 have hsz:w.heap.size + 1 + 1=W.heap.size:=by rw [← hW]; simp
 have hl0:w.heap.size < W.heap.size:=by omega
 have hl1:w.heap.size + 1 < W.heap.size:=by omega
 have HBW:=Hid.intro hBW
 have HSZ:=Hid.intro hsz
 have HK:=Hid.intro hk
 clear hBW hsz hk
 go_enter Tryz.func53,Tryz.ntmps53
 go_wp2_with fail
 obtain ⟨X1,h1⟩:∃ X1,X1=W.alloc (Obj.cells #[.slice (some ⟨W.heap.size + 1 + 1,0,none⟩) 1 1,.slice none 0 0,.slice (some ⟨W.heap.size + 1 + 1 + 1 + 1,0,none⟩) 1 1] 81):=⟨_,rfl⟩
 rw [← h1]
 obtain ⟨X2,h2⟩:∃ X2,X2=X1.alloc (Obj.cells #[.string f.name,.int .i64 f.kind,.string f.type] 113):=⟨_,rfl⟩
 rw [← h2]
 obtain ⟨X3,h3⟩:∃ X3,X3=X2.alloc (Obj.cells #[.string bU,.slice (some ⟨W.heap.size + 1,0,none⟩) 1 1] 96):=⟨_,rfl⟩
 rw [show (⟨#[117,115,101,114]⟩:ByteArray)=bU from rfl,← h3]
 obtain ⟨X4,h4⟩:∃ X4,X4=X3.alloc (Obj.cells #[.string v.field,.string v.text,.slice v.ka v.nk v.kcap] 120):=⟨_,rfl⟩
 rw [← h4]
 obtain ⟨X5,h5⟩:∃ X5,X5=X4.alloc (Obj.cells #[.string bU,.string bA,.slice (some ⟨W.heap.size + 1 + 1 + 1,0,none⟩) 1 1] 88):=⟨_,rfl⟩
 rw [show (⟨#[97,110,110]⟩:ByteArray)=bA from rfl,← h5]
 have z1:X1.heap.size=W.heap.size + 1:=by rw [h1]; simp
 have z2:X2.heap.size=W.heap.size + 1 + 1:=by rw [h2]; simp [z1]
 have z3:X3.heap.size=W.heap.size + 1 + 1 + 1:=by rw [h3]; simp [z2]
 have z4:X4.heap.size=W.heap.size + 1 + 1 + 1 + 1:=by rw [h4]; simp [z3]
 have B1:Below W.heap.size W X1:=by rw [h1]; exact below1 _ _
 have B2:Below X1.heap.size X1 X2:=by rw [h2]; exact below1 _ _
 have B3:Below X2.heap.size X2 X3:=by rw [h3]; exact below1 _ _
 have B4:Below X3.heap.size X3 X4:=by rw [h4]; exact below1 _ _
 have B5:Below X4.heap.size X4 X5:=by rw [h5]; exact below1 _ _
 have g1:X1.heap[W.heap.size]? = some (.cells #[.slice (some ⟨W.heap.size + 1 + 1,0,none⟩) 1 1,.slice none 0 0,.slice (some ⟨W.heap.size + 1 + 1 + 1 + 1,0,none⟩) 1 1] 81 (0,0)):=by rw [h1]; exact heap_alloc_new _ _
 have g2:X2.heap[W.heap.size + 1]? = some (.cells #[.string f.name,.int .i64 f.kind,.string f.type] 113 (0,0)):=by rw [h2,← z1]; exact heap_alloc_new _ _
 have g3:X3.heap[W.heap.size + 1 + 1]? = some (.cells #[.string bU,.slice (some ⟨W.heap.size + 1,0,none⟩) 1 1] 96 (0,0)):=by rw [h3,← z2]; exact heap_alloc_new _ _
 have g4:X4.heap[W.heap.size + 1 + 1 + 1]? = some (.cells #[.string v.field,.string v.text,.slice v.ka v.nk v.kcap] 120 (0,0)):=by rw [h4,← z3]; exact heap_alloc_new _ _
 have g5:X5.heap[W.heap.size + 1 + 1 + 1 + 1]? = some (.cells #[.string bU,.string bA,.slice (some ⟨W.heap.size + 1 + 1 + 1,0,none⟩) 1 1] 88 (0,0)):=by rw [h5,← z4]; exact heap_alloc_new _ _
 have B45:Below X3.heap.size X3 X5:=B4.trans (B5.mono B4.size)
 have B35:Below X2.heap.size X2 X5:=B3.trans (B45.mono B3.size)
 have B25:Below X1.heap.size X1 X5:=B2.trans (B35.mono B2.size)
 have B15:Below W.heap.size W X5:=B1.trans (B25.mono B1.size)
 have k1:=(B25.block _ (lt_of_block g1)).trans g1
 have k2:=(B35.block _ (lt_of_block g2)).trans g2
 have k3:=(B45.block _ (lt_of_block g3)).trans g3
 have k4:=(B5.block _ (lt_of_block g4)).trans g4
 have BW:Below w.heap.size w X5:=HBW.out.trans (B15.mono HBW.out.size)
 have hK:=HK.out.kept BW
 obtain ⟨c0,c1,c2⟩:X5.cell? ⟨W.heap.size,0,none⟩=some (.slice (some ⟨W.heap.size + 1 + 1,0,none⟩) 1 1)∧X5.cell? ⟨W.heap.size,1,none⟩=some (.slice none 0 0)∧X5.cell? ⟨W.heap.size,2,none⟩=some (.slice (some ⟨W.heap.size + 1 + 1 + 1 + 1,0,none⟩) 1 1):=by simp [World.cell?,k1]
 have one:∀ {i:Nat},i < 1→i=0:=fun h=>by omega
 refine bodyPost_ret (v:=servV (twoS (some ⟨W.heap.size + 1 + 1,0,none⟩) (some ⟨W.heap.size + 1,0,none⟩) (some ⟨W.heap.size + 1 + 1 + 1 + 1,0,none⟩) (some ⟨W.heap.size + 1 + 1 + 1,0,none⟩) f v)) (by unfold servV twoS; simp [results,Tryz.results53,go_sem,c0,c1,c2]) rfl ⟨⟨_,_,_,_,rfl,⟨⟨show 1≤maxLen by decide,fun i hi=>?_⟩,⟨Nat.zero_le _,fun i hi=>absurd hi (Nat.not_lt_zero _)⟩,⟨show 1≤maxLen by decide,fun i hi=>?_⟩,Nat.le_refl 1,Nat.le_refl 1⟩⟩,BW⟩
 ·obtain rfl:=one hi
  refine ⟨_,_,rfl,by simp [World.cell?,k3,twoS],by simp [World.cell?,k3,twoS],Nat.le_refl 1,small_bytes 4 rfl (by decide),⟨show 1≤maxLen by decide,fun j hj=>?_⟩⟩
  obtain rfl:=one hj
  exact ⟨_,_,rfl,by simp [World.cell?,k2,twoS],by simp [World.cell?,k2,twoS],by simp [World.cell?,k2,twoS],hf⟩
 ·obtain rfl:=one hi
  refine ⟨_,_,rfl,by simp [World.cell?,g5,twoS],by simp [World.cell?,g5,twoS],by simp [World.cell?,g5,twoS],Nat.le_refl 1,small_bytes 4 rfl (by decide),small_bytes 3 rfl (by decide),⟨show 1≤maxLen by decide,fun j hj=>?_⟩⟩
  obtain rfl:=one hj
  exact ⟨_,_,rfl,by simp [World.cell?,k4,twoS],by simp [World.cell?,k4,twoS],by simp [World.cell?,k4,twoS],hv.1,hv.2.1,hv.2.2,hK⟩
def fN:LField:=⟨bN,1,⟨#[]⟩⟩
def fB:LField:=⟨bB,2,bU⟩
def vN:LVal:=⟨bN,⟨#[65,110,110]⟩,none,0,0,fun _=>⟨#[]⟩⟩
def vB (ka:Option Addr):LVal:=⟨bB,⟨#[]⟩,ka,1,1,fun _=>bA⟩
def twoV (ta fa xa va tb fb xb vb ka:Option Addr) (i:Nat):LServ:=if i=0 then twoS ta fa xa va fN vN else twoS tb fb xb vb fB (vB ka)
def alAsk:List (Pick 2):=[mkPick ⟨#[]⟩ bB [mkPick ⟨#[]⟩ bN []]]
def alGot:List (Got 2):=[mkGot bB 2 false ⟨#[]⟩ [mkGot bN 1 false ⟨#[65,110,110]⟩ [] []] []]
theorem two_meanE (ta fa xa va tb fb xb vb ka:Option Addr):meanE 2 (twoV ta fa xa va tb fb xb vb ka) 2 bU bA alAsk=0:=by kernel_rfl
theorem two_reqs (ta fa xa va tb fb xb vb ka:Option Addr):(reqs 2 (twoV ta fa xa va tb fb xb vb ka) 2 bU bA alAsk).length=4:=by kernel_rfl
theorem two_meanG (ta fa xa va tb fb xb vb ka:Option Addr):meanG 2 (twoV ta fa xa va tb fb xb vb ka) 2 bU bA alAsk=alGot:=by kernel_rfl
set_option maxRecDepth 100000 in
set_option maxHeartbeats 1000000 in
theorem two_any (w:World):Calls Tryz.prog 26 #[] w fun e w'=>(∃ la ta fa xa va tb fb xb vb ka,e = .returned (.slice la 2 2)∧ServsAt w' la 2 (twoV ta fa xa va tb fb xb vb ka))∧Below w.heap.size w w':=by
 have e1:=Tryz.e53
 have hcl:=two1_any fN vN w ⟨small_bytes 4 rfl (by decide),small_bytes 0 rfl (by decide),by decide⟩ ⟨Nat.le_refl 0,small_bytes 4 rfl (by decide),small_bytes 3 rfl (by decide)⟩ ⟨Nat.zero_le _,fun i hi=>absurd hi (Nat.not_lt_zero _)⟩
 unfold fN vN bN at hcl
 go_enter Tryz.func26,Tryz.ntmps26
 go_wp2_with fail
 refine hcl.mono ?_
 clear hcl
 rintro e w1 ⟨⟨ta,fa,xa,va,rfl,hS1⟩,hw1⟩
 have HS1:=Hid.intro hS1
 have HW1:=Hid.intro hw1
 clear hS1 hw1
 generalize hX:w1.alloc (Obj.cells #[.string ⟨#[97,110,110]⟩] 9)=X
 have hBX:Below w1.heap.size w1 X:=by rw [← hX]; exact below1 _ _
 have hka:X.cell? ⟨w1.heap.size,0,none⟩=some (.string bA):=by rw [← hX,World.cell?_alloc_at _ _ _ _ rfl]; rfl
 have hcl:=two1_any fB (vB (some ⟨w1.heap.size,0,none⟩)) X ⟨small_bytes 4 rfl (by decide),small_bytes 4 rfl (by decide),by decide⟩ ⟨Nat.le_refl 1,small_bytes 4 rfl (by decide),small_bytes 0 rfl (by decide)⟩ ⟨show 1≤maxLen by decide,fun i hi=>by
  obtain rfl:i=0:=by have:i < 1:=hi; omega
  exact ⟨_,_,rfl,hka,small_bytes 3 rfl (by decide)⟩⟩
 unfold fB vB bB bU at hcl
 have HBX:=Hid.intro hBX
 clear hBX hka
 unfold servV twoS
 go_wp2_with fail
 clear hX
 refine hcl.mono ?_
 clear hcl
 rintro e w2 ⟨⟨tb,fb,xb,vb,rfl,hS2⟩,hw2⟩
 have hw12:Below w1.heap.size w1 w2:=HBX.out.trans (hw2.mono HBX.out.size)
 have hB:=below1 w2 (Obj.cells #[.slice ta 1 1,.slice none 0 0,.slice xa 1 1,.slice tb 1 1,.slice none 0 0,.slice xb 1 1] 81)
 have HFIN:Hid (ServsAt (w2.alloc (Obj.cells #[.slice ta 1 1,.slice none 0 0,.slice xa 1 1,.slice tb 1 1,.slice none 0 0,.slice xb 1 1] 81)) (some ⟨w2.heap.size,0,none⟩) 2 (twoV ta fa xa va tb fb xb vb (some ⟨w1.heap.size,0,none⟩))):=Hid.intro (by
  refine ⟨show 2≤maxLen by decide,fun i hi=>⟨_,_,rfl,?_⟩⟩
  have hi':i=0∨i=1:=by omega
  rcases hi' with rfl | rfl
  ·refine ⟨?_,?_,?_,(HS1.out.kept hw12).kept hB⟩
   all_goals (rw [World.cell?_alloc_at _ _ _ _ rfl]; rfl)
  ·refine ⟨?_,?_,?_,hS2.kept hB⟩
   all_goals (rw [World.cell?_alloc_at _ _ _ _ rfl]; rfl))
 have HBF:Hid (Below w.heap.size w (w2.alloc (Obj.cells #[.slice ta 1 1,.slice none 0 0,.slice xa 1 1,.slice tb 1 1,.slice none 0 0,.slice xb 1 1] 81))):=Hid.intro (HW1.out.trans ((hw12.trans (hB.mono hw12.size)).mono HW1.out.size))
 clear hS2 hw2 hw12 hB HS1 HW1 HBX
 unfold servV twoS
 go_wp2_with fail
 go_ret
 exact ⟨⟨_,_,_,_,_,_,_,_,_,_,rfl,HFIN.out⟩,HBF.out⟩
set_option maxRecDepth 100000 in
set_option maxHeartbeats 1000000 in
theorem alive7_any (hRun:RunOk 9) (w:World):Calls Tryz.prog 12 #[] w fun e w'=>e = .returned (.bool true)∧Below w.heap.size w w':=by
 have hcl:=two_any w
 go_enter Tryz.func12,Tryz.ntmps12
 go_wp2_with fail
 refine hcl.mono ?_
 clear hcl
 rintro e w1 ⟨⟨la,ta,fa,xa,va,tb,fb,xb,vb,ka,rfl,hS⟩,hw1⟩
 generalize hX:(w1.alloc (Obj.cells #[.string ⟨#[]⟩,.string ⟨#[110,97,109,101]⟩,.slice none 0 0] 72)).alloc (Obj.cells #[.string ⟨#[]⟩,.string ⟨#[98,111,115,115]⟩,.slice (some ⟨w1.heap.size,0,none⟩) 1 1] 72)=X
 have hBX:Below w1.heap.size w1 X:=by rw [← hX]; exact below2 _ _ _
 have p0:X.heap[w1.heap.size]? = some (.cells #[.string ⟨#[]⟩,.string ⟨#[110,97,109,101]⟩,.slice none 0 0] 72 (0,0)):=by rw [← hX]; exact (Below.heap_alloc _ _ _ (by simp)).trans (heap_alloc_new _ _)
 have p1:X.heap[w1.heap.size + 1]? = some (.cells #[.string ⟨#[]⟩,.string ⟨#[98,111,115,115]⟩,.slice (some ⟨w1.heap.size,0,none⟩) 1 1] 72 (0,0)):=by
  rw [← hX]
  exact (show w1.heap.size + 1=(w1.alloc (Obj.cells #[.string ⟨#[]⟩,.string ⟨#[110,97,109,101]⟩,.slice none 0 0] 72)).heap.size by simp) ▸ heap_alloc_new _ _
 have one:∀ {i:Nat},i < 1→i=0:=fun h=>by omega
 have hP:PicksAt X 2 (some ⟨w1.heap.size + 1,0,none⟩) alAsk:=⟨show 1≤maxLen by decide,fun i hi=>by
  obtain rfl:=one hi
  refine ⟨_,_,some ⟨w1.heap.size,0,none⟩,1,rfl,by simp [World.cell?,p1,alAsk]; rfl,by simp [World.cell?,p1,alAsk]; rfl,by simp [World.cell?,p1,alAsk]; rfl,Nat.le_refl 1,small_bytes 0 rfl (by decide),small_bytes 4 rfl (by decide),show 1≤maxLen by decide,fun j hj=>?_⟩
  obtain rfl:=one hj
  exact ⟨_,_,none,0,rfl,by simp [World.cell?,p0,alAsk]; rfl,by simp [World.cell?,p0,alAsk]; rfl,by simp [World.cell?,p0,alAsk]; rfl,Nat.le_refl 0,small_bytes 0 rfl (by decide),small_bytes 4 rfl (by decide),trivial⟩⟩
 have hcl:=hRun la 2 2 (twoV ta fa xa va tb fb xb vb ka) 2 bU bA (some ⟨w1.heap.size + 1,0,none⟩) 1 alAsk X (hS.kept hBX) hP (Nat.le_refl 1) (small_bytes 4 rfl (by decide)) (small_bytes 3 rfl (by decide))
 rw [two_meanE,two_meanG] at hcl
 have hq4:=two_reqs ta fa xa va tb fb xb vb ka
 generalize reqs 2 (twoV ta fa xa va tb fb xb vb ka) 2 bU bA alAsk=R at *
 rw [show alAsk.length=1 from rfl] at hcl
 unfold bU bA at hcl
 have HBX:Hid (Below w.heap.size w X):=Hid.intro (hw1.trans (hBX.mono hw1.size))
 have HQ4:=Hid.intro hq4
 clear hS hw1 hBX p0 p1 hP one hq4 hRun
 go_wp2_with fail
 clear hX
 refine hcl.mono ?_
 clear hcl
 rintro e w2 ⟨⟨va2,vc2,qa,qc,rfl,-,-,hout,-⟩,hw2⟩
 rw [HQ4.out]
 obtain ⟨b,o,A,C,A2,C2,rfl,-,-,-,-,c4,-,-,-,hsub,-⟩:=hout.2 0 (show 0 < 1 by decide)
 obtain ⟨b2,o2,A3,C3,A4,C4,rfl,-,-,-,d3,-⟩:=hsub.2 0 (show 0 < 1 by decide)
 have c4':w2.cell? ⟨b,o + 4,none⟩=some (.slice (some ⟨b2,o2,none⟩) 1 C):=by rw [Nat.zero_mul,Nat.add_zero] at c4; exact c4
 have d3':w2.cell? ⟨b2,o2 + 3,none⟩=some (.string ⟨#[65,110,110]⟩):=by rw [Nat.zero_mul,Nat.add_zero] at d3; exact d3
 rw [show alGot.length=1 from rfl]
 have HB2:Hid (Below w.heap.size w w2):=Hid.intro (HBX.out.trans (hw2.mono HBX.out.size))
 clear c4 d3 hsub hout hw2 HBX
 go_wp2_with fail
 go_ret
 exact ⟨rfl,HB2.out⟩
end Go.Proofs.YtjjggefmmeminabGreat
