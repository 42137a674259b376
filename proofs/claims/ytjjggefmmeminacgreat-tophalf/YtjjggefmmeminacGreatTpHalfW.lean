import Derived.Test.YtjjggefmmeminacGreatTpManyM
import Derived.Test.YtjjggefmmeminacGreatJTr
import Derived.Test.YtjjggefmmeminacGreatTpHalfReg
import Derived.Deep.CutRange
namespace Go.Proofs.YtjjggefmmeminacGreat
open Go.RowKit Go.Sort Go.PlainAid
def hcell (X p:Nat→Nat) (j:Nat):Value:=if j % 3=0 then .string ⟨#[117,115,101,114]⟩ else if j % 3=1 then .string (kP (X (j / 3))) else .slice (some ⟨p (X (j / 3)),0,none⟩) 1 1
theorem hcell0 (X p:Nat→Nat) (i:Nat):hcell X p (i * 3) = .string ⟨#[117,115,101,114]⟩:=by unfold hcell; rw [if_pos (by omega)]
theorem hcell1 (X p:Nat→Nat) (i:Nat):hcell X p (i * 3 + 1) = .string (kP (X i)):=by unfold hcell; rw [if_neg (by omega),if_pos (by omega),show (i * 3 + 1) / 3=i by omega]
theorem hcell2 (X p:Nat→Nat) (i:Nat):hcell X p (i * 3 + 2) = .slice (some ⟨p (X i),0,none⟩) 1 1:=by unfold hcell; rw [if_neg (by omega),if_neg (by omega),show (i * 3 + 2) / 3=i by omega]
theorem some_servs {w:World} {N n ta fa tb fb tc lb:Nat} {p q X:Nat→Nat} {nA:Nat} {ka:Nat→Option Addr} {kc nk:Nat→Nat} {K:Nat→Nat→ByteArray} {a1 a4:Option Addr} {c1 c4:Nat} (hn:n≤40) (hT:PpT ta fa tb fb tc w) (hA:∀ i,i < n→w.heap[p i]? = some (.cells #[.string ⟨#[110,97,109,101]⟩,.string (kN i),.slice none 0 0] 59 (0,0)))
  (hB:∀ i,i < n→w.heap[q i]? = some (.cells #[.string ⟨#[117,110,100,101,114]⟩,.string ⟨#[]⟩,.slice (ka i) (nk i) (kc i)] 59 (0,0))) (hK:∀ i,i < n→nk i≤kc i∧KeysAt w (ka i) (nk i) (K i))
  (hX:∀ i,i < nA→X i < n) (hnA:nA≤40) (r1:Row w N 62 3 (.slice a1 nA c1) nA (hcell X p)) (r2:Row w N 62 3 (.slice a4 n c4) n (tcell ⟨#[109,97,110]⟩ q))
  (hl:w.heap[lb]? = some (.cells #[.slice (some ⟨ta,0,none⟩) 1 1,.slice none 0 0,.slice a1 nA c1,.slice (some ⟨tb,0,none⟩) 1 1,.slice (some ⟨tc,0,none⟩) 1 1,.slice a4 n c4] 40 (0,0))) :
  ServsAt w (some ⟨lb,0,none⟩) 2 (pplV (lieG fa fb p q ka kc) (lieY ta tb tc a1 c1 a4 c4) nA X n nk K):=by
 have hcap:nA≤c1∧n≤c4:=by
  obtain ⟨a,c,e,h⟩:=r1.slice
  obtain ⟨a',c',e',h'⟩:=r2.slice
  cases e; cases e'
  exact ⟨h,h'⟩
 refine ⟨by decide,fun i hi=>⟨lb,0,rfl,?_⟩⟩
 have hi':i=0∨i=1:=by omega
 rcases hi' with rfl | rfl
 ·refine ⟨by simp [World.cell?,hl,pplV,lieY],by simp [World.cell?,hl,pplV,lieY],by simp [World.cell?,hl,pplV,lieY],⟨?_,?_,?_,Nat.le_refl _,hcap.1⟩⟩
  ·exact types_one (t:=pyA (lieG fa fb p q ka kc)) hT.ta (Nat.le_refl _) (small_lit 4 rfl (by decide)) (fields_one (f:=⟨bName,1,⟨#[]⟩⟩) hT.fa ⟨small_lit 4 rfl (by decide),small_lit 0 rfl (by decide),by decide⟩)
  ·exact ⟨Nat.zero_le _,fun _ hi=>absurd hi (Nat.not_lt_zero _)⟩
  ·refine ⟨by show nA≤maxLen; unfold maxLen; omega,fun i hi=>?_⟩
   have hi:i < nA:=hi
   have hxi:=hX i hi
   rcases r1.shape with ⟨-,h0⟩ | ⟨g,cap,e,-,-,-⟩
   ·omega
   cases e
   refine ⟨g,0,rfl,?_⟩
   have k0:=r1.cell (j:=i * 3) (by omega)
   have k1:=r1.cell (j:=i * 3 + 1) (by omega)
   have k2:=r1.cell (j:=i * 3 + 2) (by omega)
   rw [hcell0] at k0
   rw [hcell1] at k1
   rw [hcell2] at k2
   show ThingAt w g (0 + i * 3) (ptA (lieG fa fb p q ka kc) (X i))
   rw [Nat.zero_add]
   refine ⟨k0,k1,?_,?_,small_lit 4 rfl (by decide),small_lit 3 rfl (by decide),?_⟩
   ·show w.cell? _=some (.slice ((lieG fa fb p q ka kc).a (6 * X i + 2)) 1 ((lieG fa fb p q ka kc).c (6 * X i + 2)))
    rw [(lg2 (X i)).1,(lg2 (X i)).2]; exact k2
   ·show 1≤(lieG fa fb p q ka kc).c (6 * X i + 2)
    rw [(lg2 (X i)).2]; exact Nat.le_refl _
   ·show ValsAt w ((lieG fa fb p q ka kc).a (6 * X i + 2)) 1 _
    rw [(lg2 (X i)).1]
    refine vals_one (v:=pvA (lieG fa fb p q ka kc) (X i)) ?_ (Nat.zero_le _) (small_lit 4 rfl (by decide)) (small_lit 4 rfl (by decide)) ⟨Nat.zero_le _,fun _ hi=>absurd hi (Nat.not_lt_zero _)⟩
    show w.heap[p (X i)]? = some (.cells #[.string bName,.string (nameP (X i)),.slice ((lieG fa fb p q ka kc).a (6 * X i)) 0 ((lieG fa fb p q ka kc).c (6 * X i))] 59 (0,0))
    rw [(lg0 (X i)).1,(lg0 (X i)).2]; exact hA (X i) hxi
 ·refine ⟨by simp [World.cell?,hl,pplV,lieY],by simp [World.cell?,hl,pplV,lieY],by simp [World.cell?,hl,pplV,lieY],⟨?_,?_,?_,Nat.le_refl _,hcap.2⟩⟩
  ·exact types_one (t:=pyB (lieG fa fb p q ka kc)) hT.tb (Nat.le_refl _) (small_lit 3 rfl (by decide)) (fields_one (f:=⟨bUnder,3,bMan⟩) hT.fb ⟨small_lit 5 rfl (by decide),small_lit 3 rfl (by decide),by decide⟩)
  ·refine ⟨by show 1≤maxLen; decide,fun i hi=>⟨tc,0,rfl,?_⟩⟩
   have hi:i < 1:=hi
   obtain rfl:i=0:=by omega
   exact ⟨by simp [World.cell?,hT.tc,pplV],by simp [World.cell?,hT.tc,pplV,bMan],by simp [World.cell?,hT.tc,pplV],by simp [World.cell?,hT.tc,pplV,bUser],small_lit 3 rfl (by decide),small_lit 0 rfl (by decide),small_lit 4 rfl (by decide)⟩
  ·refine ⟨by show n≤maxLen; unfold maxLen; omega,fun i hi=>?_⟩
   have hi:i < n:=hi
   rcases r2.shape with ⟨-,h0⟩ | ⟨g,cap,e,-,-,-⟩
   ·omega
   cases e
   refine ⟨g,0,rfl,?_⟩
   have k0:=r2.cell (j:=i * 3) (by omega)
   have k1:=r2.cell (j:=i * 3 + 1) (by omega)
   have k2:=r2.cell (j:=i * 3 + 2) (by omega)
   rw [tcell0] at k0
   rw [tcell1] at k1
   rw [tcell2] at k2
   show ThingAt w g (0 + i * 3) (ptB (lieG fa fb p q ka kc) nk K i)
   rw [Nat.zero_add]
   refine ⟨k0,k1,?_,?_,small_lit 3 rfl (by decide),small_lit 3 rfl (by decide),?_⟩
   ·show w.cell? _=some (.slice ((lieG fa fb p q ka kc).a (6 * i + 3)) 1 ((lieG fa fb p q ka kc).c (6 * i + 3)))
    rw [(lg3 i).1,(lg3 i).2]; exact k2
   ·show 1≤(lieG fa fb p q ka kc).c (6 * i + 3)
    rw [(lg3 i).2]; exact Nat.le_refl _
   ·show ValsAt w ((lieG fa fb p q ka kc).a (6 * i + 3)) 1 _
    rw [(lg3 i).1]
    refine vals_one (v:=pvB (lieG fa fb p q ka kc) (nk i) (K i) i) ?_ ?_ (small_lit 5 rfl (by decide)) (small_lit 0 rfl (by decide)) ?_
    ·show w.heap[q i]? = some (.cells #[.string bUnder,.string ⟨#[]⟩,.slice ((lieG fa fb p q ka kc).a (6 * i + 1)) (nk i) ((lieG fa fb p q ka kc).c (6 * i + 1))] 59 (0,0))
     rw [(lg1 i).1,(lg1 i).2]; exact hB i hi
    ·show nk i≤(lieG fa fb p q ka kc).c (6 * i + 1)
     rw [(lg1 i).2]; exact (hK i hi).1
    ·show KeysAt w ((lieG fa fb p q ka kc).a (6 * i + 1)) (nk i) (K i)
     rw [(lg1 i).1]; exact (hK i hi).2
end Go.Proofs.YtjjggefmmeminacGreat
namespace Go.Proofs.YtjjggefmmeminacGreat
open Go.RowKit Go.Sort Go.PlainAid
theorem half_build (w:World):(Instr.buildSlice 38 0 #[]).run Tryz.prog w = .ok (.slice (some ⟨w.heap.size,0,none⟩) 0 0) (w.alloc (.cells #[] 62)):=by kernel_rfl
theorem half_head (g n c k:Nat) (hk:k≤c) (w:World):(Instr.sliceAt 38 (.slice (some ⟨g,0,none⟩) n c) none (some (.int .i64 (k:Int))) none).run Tryz.prog w = .ok (.slice (some ⟨g,0,none⟩) k c) w:=by
 have h1:(0:Int)≤(k:Int):=by omega
 have h2:(k:Int)≤(c:Int):=by omega
 go_simp
theorem half_tail (g n c k:Nat) (hk:k + 1≤n) (w:World):(Instr.sliceAt 38 (.slice (some ⟨g,0,none⟩) n c) (some (.int .i64 ((k:Int) + 1))) none none).run Tryz.prog w = .ok (.slice (if c=k + 1 then some ⟨g,0,none⟩ else some ⟨g,(k + 1) * 3,none⟩) (n - (k + 1)) (c - (k + 1))) w:=by
 have h1:(0:Int)≤(k:Int) + 1:=by omega
 have h2:(k:Int) + 1≤(n:Int):=by omega
 have h4:((k:Int) + 1).toNat=k + 1:=by omega
 go_simp
theorem half_row (w:World) (N:Nat) (f:Nat→Value) (hN:N≤w.heap.size):Row (w.alloc (.cells #[] 62)) N 62 3 (.slice (some ⟨w.heap.size,0,none⟩) 0 0) 0 f :=
 ⟨rfl,.inr ⟨w.heap.size,0,#[],rfl,hN,heap_alloc_new _ _,Nat.le_refl _,Nat.zero_le _,rfl,rfl⟩⟩
def outX (k i:Nat):Nat:=if i < k then i else i + 1
theorem hcell_low (k:Nat) (p:Nat→Nat) {j:Nat} (hj:j < k * 3):hcell (outX k) p j=tcell ⟨#[117,115,101,114]⟩ p j:=by
 unfold hcell tcell outX
 rw [if_pos (show j / 3 < k by omega)]
theorem hcell_high (k:Nat) (p:Nat→Nat) (j:Nat):hcell (outX k) p (k * 3 + j)=tcell ⟨#[117,115,101,114]⟩ p ((k + 1) * 3 + j):=by
 unfold hcell tcell outX
 rw [if_neg (show ¬ (k * 3 + j) / 3 < k by omega),show (k * 3 + j) % 3=((k + 1) * 3 + j) % 3 by omega,show (k * 3 + j) / 3 + 1=((k + 1) * 3 + j) / 3 by omega]
theorem tcell_one (nm:ByteArray) (p:Nat→Nat) (j:Nat):(tcell nm p j).oneCell'=true:=by
 unfold tcell
 split
 ·rfl
 ·split <;> rfl
def HalfP (W0:World) (lb n k:Nat) (p:Nat→Nat) (j:Nat) (x:Nat→Value) (w:World):Prop :=
 (j < 4→Below W0.heap.size W0 w)∧(j=1→Row w W0.heap.size 62 3 (x 0) 0 (hcell (outX k) p))∧(j=2→Row w W0.heap.size 62 3 (x 1) k (hcell (outX k) p))∧(j=3→Row w W0.heap.size 62 3 (x 2) (n - 1) (hcell (outX k) p)) ∧
 (j=4→∃ w9 a c,Below W0.heap.size W0 w9∧Row w9 W0.heap.size 62 3 (x 2) (n - 1) (hcell (outX k) p)∧x 2 = .slice a (n - 1) c∧w=w9.setCell ⟨lb,2,none⟩ (.slice a (n - 1) c))
set_option maxRecDepth 100000 in
set_option maxHeartbeats 4000000 in
theorem topHalf_any (z0 z1:Int) (w:World):Calls Tryz.prog 8 #[.int .i64 z0,.int .i64 z1] w fun e w'=>e = .returned (.bool true)∧Below w.heap.size w w':=by
 obtain ⟨i0,hi0,hz0,hz1,hz2⟩:=info_parts' Tryz.info62
 have hcl:=talive_any w
 go_enter Tryz.func8,Tryz.ntmps8
 go_wp2_with fail
 refine hcl.mono ?_
 clear hcl
 rintro e w0 ⟨rfl,hw0⟩
 have HW0:=Hid.intro hw0
 clear hw0
 by_cases h1:z0 < 1
 ·go_wp2_with fail
  go_ret
  exact ⟨rfl,HW0.out⟩
 by_cases h2:20 < z0
 ·go_wp2_with fail
  go_ret
  exact ⟨rfl,HW0.out⟩
 by_cases h3:z1 < 0
 ·go_wp2_with fail
  go_ret
  exact ⟨rfl,HW0.out⟩
 by_cases h4:z0≤z1
 ·go_wp2_with fail
  go_ret
  exact ⟨rfl,HW0.out⟩
 obtain ⟨n,rfl⟩:∃ n:Nat,z0=(n:Int):=⟨z0.toNat,by omega⟩
 obtain ⟨k,rfl⟩:∃ m:Nat,z1=(m:Int):=⟨z1.toNat,by omega⟩
 have HN:Hid (1≤n∧n≤20∧k < n):=Hid.intro (by omega)
 have hcl:=people_lo n (by omega) w0
 go_wp2_with fail
 clear h1 h2 h3 h4
 refine hcl.mono ?_
 clear hcl
 rintro e w1 ⟨⟨ba,bb,ta,fa,tb,fb,tc,p,q,r,va,vb,lb,rfl,hT,hF,hTw,hl,-,hlb⟩,hw1⟩
 obtain ⟨n1,n2,n3⟩:=HN.out
 rcases hTw.r1.shape with ⟨-,h0⟩ | ⟨g,c1,hg,-,hc1,-⟩
 ·omega
 subst hg
 obtain ⟨a4,c4,hvb,-⟩:=hTw.r2.slice
 subst hvb
 have HW1:=Hid.intro (HW0.out.trans (hw1.mono HW0.out.size))
 have HLB:Hid (w.heap.size≤lb):=Hid.intro (Nat.le_trans HW0.out.size hlb)
 have HS01:Hid (w0.heap.size≤w1.heap.size):=Hid.intro hw1.size
 clear hlb
 have HT:=Hid.intro hT
 have HF:=Hid.intro hF
 have HTW:=Hid.intro hTw
 have HL:=Hid.intro hl
 clear hT hF hTw hl hw1
 have hwr:IntKind.i64.wrap ((k:Int) + 1)=(k:Int) + 1:=by
  simp only [IntKind.wrap,IntKind.bits,IntKind.signed]
  simp
  omega
 go_upto_region 6 with fail
 refine halfOut (HalfP w1 lb n k p) (lb:=lb) (g:=g) (n:=n) (c:=c1) (k:=k) (by kernel_rfl) rfl rfl hwr (half_head g n c1 k (by omega)) (half_tail g n c1 k (by omega)) ?_ ?_ ?_ ?_ ?_ ?_ ?_
 ·intro x9
  exact ⟨fun _=>(Below.refl _ _).drew,fun h=>absurd h (by omega),fun h=>absurd h (by omega),fun h=>absurd h (by omega),fun h=>absurd h (by omega)⟩
 ·rintro j x9 w9 hj ⟨hB,-⟩
  exact keptCell (hB hj) (by simp [World.cell?,HL.out])
 ·rintro x9 w9 ⟨hB,-⟩
  have hB:=hB (by omega)
  refine ⟨_,_,half_build w9,fun x' e1 e2=>⟨fun _=>hB.trans ((below1 w9 _).mono hB.size),fun _=>?_,fun h=>absurd h (by omega),fun h=>absurd h (by omega),fun h=>absurd h (by omega)⟩⟩
  rw [e1]; exact half_row w9 _ _ hB.size
 ·rintro x9 w9 ⟨hB,hR,-⟩ ty
  have hB:=hB (by omega)
  have hR:=hR rfl
  have hc:=HTW.out.r1.kept hB
  obtain ⟨v',w',hr,hown,hg,-⟩:=run_append_any (P:=Tryz.prog) w9 w1.heap.size 38 ty 62 i0 _ 3 56 Tryz.underlying38 hi0 hz0 hz1 hz2 rfl (by decide) (x9 0) 0 _ hR (some ⟨g,0,none⟩) k c1 ((List.range (k * 3)).map (tcell ⟨#[117,115,101,114]⟩ p)) (by simp) (fun ad ha j u hu=>by
   cases ha
   have hj:j < k * 3:=by
    have:=(List.getElem?_eq_some_iff.1 hu).1
    simpa using this
   have hu':u=tcell ⟨#[117,115,101,114]⟩ p j:=by
    rw [List.getElem?_map,List.getElem?_range hj] at hu
    simpa using hu.symm
   have ha':(⟨g,0,none⟩:Addr).add j=⟨g,j,none⟩:=by unfold Addr.add; simp; exact fun h=>h.symm
   rw [ha',hu']
   exact hc.cell (by omega)) (fun h=>by cases h) (fun u hu=>by
    obtain ⟨j,-,rfl⟩:=List.mem_map.1 hu
    exact tcell_one _ _ _) (by unfold maxLen; omega) (by omega) hB.size
  refine ⟨v',w',hr,fun x' e1 e2=>⟨fun _=>hB.grown hg hB.size (fun b hb=>(hR.lt hb).1),fun h=>absurd h (by omega),fun _=>?_,fun h=>absurd h (by omega),fun h=>absurd h (by omega)⟩⟩
  rw [e1]
  unfold Row
  have e:(List.range (k * 3)).map (hcell (outX k) p)=(List.range (k * 3)).map (tcell ⟨#[117,115,101,114]⟩ p):=List.map_congr_left fun j hj=>hcell_low k p (by simpa using hj)
  rw [e]
  simpa using hown
 ·rintro x9 w9 ⟨hB,-,hR,-⟩ ty
  have hB:=hB (by omega)
  have hR:=hR rfl
  have hc:=HTW.out.r1.kept hB
  obtain ⟨v',w',hr,hown,hg,-⟩:=run_append_any (P:=Tryz.prog) w9 w1.heap.size 38 ty 62 i0 _ 3 56 Tryz.underlying38 hi0 hz0 hz1 hz2 rfl (by decide) (x9 1) k _ hR (if c1=k + 1 then some ⟨g,0,none⟩ else some ⟨g,(k + 1) * 3,none⟩) (n - (k + 1)) (c1 - (k + 1)) ((List.range ((n - (k + 1)) * 3)).map (fun j=>tcell ⟨#[117,115,101,114]⟩ p ((k + 1) * 3 + j))) (by simp) (fun ad ha j u hu=>by
   have hj:j < (n - (k + 1)) * 3:=by
    have:=(List.getElem?_eq_some_iff.1 hu).1
    simpa using this
   rw [if_neg (by omega)] at ha
   cases ha
   have hu':u=tcell ⟨#[117,115,101,114]⟩ p ((k + 1) * 3 + j):=by
    rw [List.getElem?_map,List.getElem?_range hj] at hu
    simpa using hu.symm
   have ha':(⟨g,(k + 1) * 3,none⟩:Addr).add j=⟨g,(k + 1) * 3 + j,none⟩:=by unfold Addr.add; simp
   rw [ha',hu']
   exact hc.cell (by omega)) (fun h=>by split at h <;> cases h) (fun u hu=>by
    obtain ⟨j,-,rfl⟩:=List.mem_map.1 hu
    exact tcell_one _ _ _) (by unfold maxLen; omega) (by omega) hB.size
  refine ⟨v',w',hr,fun x' e1 e2=>⟨fun _=>hB.grown hg hB.size (fun b hb=>(hR.lt hb).1),fun h=>absurd h (by omega),fun h=>absurd h (by omega),fun _=>?_,fun h=>absurd h (by omega)⟩⟩
  rw [e1]
  unfold Row
  have e:(List.range ((n - 1) * 3)).map (hcell (outX k) p)=(List.range (k * 3)).map (hcell (outX k) p) ++ (List.range ((n - (k + 1)) * 3)).map (fun j=>tcell ⟨#[117,115,101,114]⟩ p ((k + 1) * 3 + j)):=by
   rw [show (n - 1) * 3=k * 3 + (n - (k + 1)) * 3 by omega,List.range_add,List.map_append,List.map_map]
   congr 1
   exact List.map_congr_left fun j _=>hcell_high k p j
  rw [e,show n - 1=k + (n - (k + 1)) by omega]
  exact hown
 ·rintro x9 w9 ⟨hB,-,-,hR,-⟩
  have hB:=hB (by omega)
  have hR:=hR rfl
  obtain ⟨a,c,ex,-⟩:=hR.slice
  have hl9:=(hB.block _ (lt_of_block HL.out)).trans HL.out
  refine ⟨a,n - 1,c,.slice (some ⟨g,0,none⟩) n c1,ex,by simp [World.cell?,hl9],by simp [World.frozen?,hl9],fun h=>absurd h (by omega),fun h=>absurd h (by omega),fun h=>absurd h (by omega),fun h=>absurd h (by omega),fun _=>⟨w9,a,c,hB,hR,ex,by rw [ex]⟩⟩
 intro s E hp
 obtain ⟨-,-,-,-,hp⟩:=hp
 obtain ⟨w9,a9,c9,hB9,hR9,hx,hEq⟩:=hp rfl
 have hR9:Row w9 w1.heap.size 62 3 (.slice a9 (n - 1) c9) (n - 1) (hcell (outX k) p):=hx ▸ hR9
 subst hEq
 have hl9:=(hB9.block _ (lt_of_block HL.out)).trans HL.out
 have hlE:=heap_setCell_same _ lb 2 _ 40 (.slice a9 (n - 1) c9) hl9
 have hev:Ev w1 (w9.setCell ⟨lb,2,none⟩ (.slice a9 (n - 1) c9)):=(Ev.of hB9).trans (Ev.set hl9 _)
 have hne:∀ {N m:Nat} {v:Value} {f : Nat→Value},Row w9 N 62 3 v m f→v.ownBlock≠some lb:=fun hr e=>by
  obtain ⟨cs',ho⟩:=hr.obj e
  rw [hl9] at ho
  cases ho
 have hr2:=HTW.out.r2.kept hB9
 have hr1:=(hR9.base HS01.out).set_other (p:=⟨lb,2,none⟩) (hne hR9) (.slice a9 (n - 1) c9)
 have hr2:=hr2.set_other (p:=⟨lb,2,none⟩) (hne hr2) (.slice a9 (n - 1) c9)
 have hFE:=HF.out.ev hev
 have hS:=some_servs (n:=n) (nA:=n - 1) (X:=outX k) (ka:=fun i=>if i + 1 < n then some ⟨r i,0,none⟩ else none) (kc:=fun i=>if i + 1 < n then 1 else 0) (nk:=fun i=>if i + 1 < n then 1 else 0) (K:=fun i _=>keyP (i + 1)) (by omega) (HT.out.ev hev) (fun i hi=>hFE.a i hi) (fun i hi=>by
   have hb:=hFE.b i hi
   unfold keyV at hb
   by_cases h1:i + 1 < n
   ·simp only [if_pos h1] at hb ⊢; exact hb
   ·simp only [if_neg h1] at hb ⊢; exact hb) (fun i hi=>by
   by_cases h1:i + 1 < n
   ·simp only [if_pos h1]
    refine ⟨Nat.le_refl _,by decide,fun j hj=>⟨r i,0,rfl,?_,small_lit 3 rfl (by decide)⟩⟩
    obtain rfl:j=0:=by omega
    have:=hFE.c i hi h1
    simp [World.cell?,this]
    rfl
   ·simp only [if_neg h1]
    exact ⟨Nat.le_refl _,Nat.zero_le _,fun _ hi=>absurd hi (Nat.not_lt_zero _)⟩) (fun i hi=>by unfold outX; split <;> omega) (by omega) hr1 hr2 hlE
 have HBE:Hid (Below w.heap.size w (w9.setCell ⟨lb,2,none⟩ (.slice a9 (n - 1) c9))):=Hid.intro ((HW1.out.trans (hB9.mono HW1.out.size)).setCell HLB.out _)
 obtain ⟨Z,Y,hZY⟩:∃ Z Y,ServsAt (w9.setCell ⟨lb,2,none⟩ (.slice a9 (n - 1) c9)) (some ⟨lb,0,none⟩) 2 (halfV Z Y n k):=⟨_,_,hS⟩
 have HS:=Hid.intro hZY
 have hQ:=half_plain Z Y n1 n2 n3
 have hcl:=key_kP k (by omega) (w9.setCell ⟨lb,2,none⟩ (.slice a9 (n - 1) c9))
 generalize w9.setCell ⟨lb,2,none⟩ (.slice a9 (n - 1) c9)=E at *
 obtain ⟨x,y,hxy⟩:∃ x y,kP k=⟨#[117,x,y]⟩:=⟨_,_,rfl⟩
 rw [hxy] at hcl
 have HTX:Hid (⟨#[117,115,101,114,40]⟩ ++ ⟨#[117,x,y]⟩ ++ ⟨#[41,123,110,97,109,101,32,117,110,100,101,114,123,110,97,109,101,125,125]⟩=halfT k):=Hid.intro (by rw [← hxy]; rfl)
 have HQ:=Hid.intro hQ
 clear hp hB9 hR9 hx hl9 hlE hev hne hr1 hr2 hFE hS hZY hQ HT HF HTW HL HLB HS01 HW1 hxy hwr
 simp only [putAll,Act.put,List.setIfInBounds_toArray,List.set_cons_succ,List.set_cons_zero]
 generalize s 28=t28
 generalize s 29=t29
 generalize s 30=t30
 generalize s 31=t31
 generalize s 32=t32
 generalize s 33=t33
 generalize s 34=t34
 generalize s 35=t35
 generalize s 36=t36
 generalize s 37=t37
 generalize s 38=t38
 generalize s 39=t39
 generalize s 40=t40
 generalize s 41=t41
 generalize s 42=t42
 generalize s 43=t43
 generalize s 44=t44
 generalize s 45=t45
 generalize s 46=t46
 go_wp2_with fail
 refine hcl.mono ?_
 clear hcl
 rintro e w2 ⟨rfl,hw2⟩
 have hcl:=trun_any (some ⟨lb,0,none⟩) 2 2 _ (halfT k) w2 (HS.out.kept hw2) (by rw [← HTX.out]; exact small_lit 27 (by simp [ByteArray.size_append]; rfl) (by decide))
 rw [← HTX.out] at hcl
 have HPt:Hid (parse (⟨#[117,115,101,114,40]⟩ ++ ⟨#[117,x,y]⟩ ++ ⟨#[41,123,110,97,109,101,32,117,110,100,101,114,123,110,97,109,101,125,125]⟩) = .ok (bUser,keyP k,halfK)):=Hid.intro (by rw [HTX.out]; exact half_parse k (by omega))
 have hQ:=HQ.out
 unfold halfQ at hQ
 simp only [Bool.and_eq_true,decide_eq_true_eq] at hQ
 obtain ⟨hE,hG⟩:=hQ
 have HEE:=Hid.intro hE
 have HGG:=Hid.intro hG
 have HW2:=Hid.intro (HBE.out.trans (hw2.mono HBE.out.size))
 clear hE hG hw2 HBE HS HQ HTX
 generalize halfV Z Y n k=V at *
 go_wp2_with fail
 refine hcl.mono ?_
 clear hcl
 rintro e w3 ⟨⟨hok,-⟩,hw3⟩
 have h:=hok _ HPt.out
 dsimp only at h
 rw [HEE.out] at h
 obtain ⟨va3,vc3,qa,qc,rfl,-,-,hout,-⟩:=h
 have HW3:=Hid.intro (HW2.out.trans (hw3.mono HW2.out.size))
 generalize (reqs 2 V 8 bUser (keyP k) halfK).length=R at *
 generalize meanG 2 V 8 bUser (keyP k) halfK=G at *
 have hG:=HGG.out
 unfold halfG at hG
 simp only [Bool.and_eq_true,decide_eq_true_eq,Bool.not_eq_true'] at hG
 obtain ⟨⟨⟨⟨g1,g2⟩,g3⟩,g4⟩,g5⟩:=hG
 have g3:gText (gotN G 0)=⟨#[]⟩:=by
  unfold emp at g3
  have h0:(gText (gotN G 0)).size=0:=by simpa using g3
  exact eqs_iff.1 (by unfold eqs; rw [show (gText (gotN G 0)).data.toList = [] from List.eq_nil_of_length_eq_zero (by simpa using h0)]; rfl)
 obtain ⟨b,o,A,C,A2,C2,ha,-,-,d2,d3,-⟩:=hout.2 0 (by omega)
 obtain ⟨b',o',A',C',A2',C2',ha',-,-,f2,-,-,f5,-⟩:=hout.2 1 (by omega)
 subst ha
 cases ha'
 rw [Nat.zero_mul,Nat.add_zero,g2] at d2
 rw [Nat.zero_mul,Nat.add_zero,g3] at d3
 rw [g4,show o + 1 * 6 + 2=o + 8 by omega] at f2
 rw [g5,show o + 1 * 6 + 5=o + 11 by omega] at f5
 rw [g1]
 clear hok hw3 hout HW2 HPt HEE HGG g1 g2 g3 g4 g5
 by_cases hk1:k + 1 < n
 ·rw [show min 1 (n - 1 - k)=1 by omega] at f5
  have hmin:min (1:Int) ((n:Int) - 1 - (k:Int))=1:=by omega
  have hle:(1:Int)≤(n:Int) - 1 - (k:Int):=by omega
  go_wp2_with fail
  go_ret
  exact ⟨rfl,HW3.out⟩
 ·rw [show min 1 (n - 1 - k)=0 by omega] at f5
  have hz:(n:Int) - 1 - (k:Int)=0:=by omega
  go_wp2_with fail
  go_ret
  exact ⟨rfl,HW3.out⟩
end Go.Proofs.YtjjggefmmeminacGreat
