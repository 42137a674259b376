import Derived.Test.YtjjggefmmeminacGreatJTq
namespace Go.Proofs.YtjjggefmmeminacGreat
open Go.RowKit Go.Sort Go.PlainAid
def lieG (fa fb:Nat) (p q:Nat→Nat) (ka:Nat→Option Addr) (kc:Nat→Nat):Lie:=⟨fun m=>if m % 6=1 then ka (m / 6) else if m % 6=2 then some ⟨p (m / 6),0,none⟩ else if m % 6=3 then some ⟨q (m / 6),0,none⟩ else if m % 6=4 then some ⟨fa,0,none⟩ else if m % 6=5 then some ⟨fb,0,none⟩ else none,fun m=>if m % 6=0 then 0 else if m % 6=1 then kc (m / 6) else 1⟩
section
variable {fa fb:Nat} {p q:Nat→Nat} {ka:Nat→Option Addr} {kc:Nat→Nat} (i:Nat)
theorem lg0:(lieG fa fb p q ka kc).a (6 * i)=none∧(lieG fa fb p q ka kc).c (6 * i)=0:=by
 refine ⟨?_,?_⟩
 ·unfold lieG; dsimp only; rw [if_neg (by omega),if_neg (by omega),if_neg (by omega),if_neg (by omega),if_neg (by omega)]
 ·unfold lieG; dsimp only; rw [if_pos (by omega)]
theorem lg1:(lieG fa fb p q ka kc).a (6 * i + 1)=ka i∧(lieG fa fb p q ka kc).c (6 * i + 1)=kc i:=by
 have e:(6 * i + 1) / 6=i:=by omega
 refine ⟨?_,?_⟩
 ·unfold lieG; dsimp only; rw [if_pos (by omega),e]
 ·unfold lieG; dsimp only; rw [if_neg (by omega),if_pos (by omega),e]
theorem lg2:(lieG fa fb p q ka kc).a (6 * i + 2)=some ⟨p i,0,none⟩∧(lieG fa fb p q ka kc).c (6 * i + 2)=1:=by
 have e:(6 * i + 2) / 6=i:=by omega
 refine ⟨?_,?_⟩
 ·unfold lieG; dsimp only; rw [if_neg (by omega),if_pos (by omega),e]
 ·unfold lieG; dsimp only; rw [if_neg (by omega),if_neg (by omega)]
theorem lg3:(lieG fa fb p q ka kc).a (6 * i + 3)=some ⟨q i,0,none⟩∧(lieG fa fb p q ka kc).c (6 * i + 3)=1:=by
 have e:(6 * i + 3) / 6=i:=by omega
 refine ⟨?_,?_⟩
 ·unfold lieG; dsimp only; rw [if_neg (by omega),if_neg (by omega),if_pos (by omega),e]
 ·unfold lieG; dsimp only; rw [if_neg (by omega),if_neg (by omega)]
end
theorem ppl_servs {w:World} {N n ba bb ta fa tb fb tc lb:Nat} {p q:Nat→Nat} {ka:Nat→Option Addr} {kc nk:Nat→Nat} {K:Nat→Nat→ByteArray} {a1 a4:Option Addr} {c1 c4:Nat} (hn:n≤40) (hT:PpT ta fa tb fb tc w) (hA:∀ i,i < n→w.heap[p i]? = some (.cells #[.string ⟨#[110,97,109,101]⟩,.string (kN i),.slice none 0 0] 59 (0,0)))
  (hB:∀ i,i < n→w.heap[q i]? = some (.cells #[.string ⟨#[117,110,100,101,114]⟩,.string ⟨#[]⟩,.slice (ka i) (nk i) (kc i)] 59 (0,0))) (hK:∀ i,i < n→nk i≤kc i∧KeysAt w (ka i) (nk i) (K i))
  (hTw:Two N w ba bb (.slice (some ⟨ta,0,none⟩) 1 1) (.slice none 0 0) (.slice (some ⟨tb,0,none⟩) 1 1) (.slice (some ⟨tc,0,none⟩) 1 1) (.slice a1 n c1) (.slice a4 n c4) n n (tcell ⟨#[117,115,101,114]⟩ p) (tcell ⟨#[109,97,110]⟩ q))
  (hl:w.heap[lb]? = some (.cells #[.slice (some ⟨ta,0,none⟩) 1 1,.slice none 0 0,.slice a1 n c1,.slice (some ⟨tb,0,none⟩) 1 1,.slice (some ⟨tc,0,none⟩) 1 1,.slice a4 n c4] 40 (0,0))) :
  ServsAt w (some ⟨lb,0,none⟩) 2 (pplV (lieG fa fb p q ka kc) (lieY ta tb tc a1 c1 a4 c4) n id n nk K):=by
 have hcap:n≤c1∧n≤c4:=by
  obtain ⟨a,c,e,h⟩:=hTw.r1.slice
  obtain ⟨a',c',e',h'⟩:=hTw.r2.slice
  cases e; cases e'
  exact ⟨h,h'⟩
 refine ⟨by decide,fun i hi=>⟨lb,0,rfl,?_⟩⟩
 have hi':i=0∨i=1:=by omega
 rcases hi' with rfl | rfl
 ·refine ⟨by simp [World.cell?,hl,pplV,lieY],by simp [World.cell?,hl,pplV,lieY],by simp [World.cell?,hl,pplV,lieY],⟨?_,?_,?_,Nat.le_refl _,hcap.1⟩⟩
  ·exact types_one (t:=pyA (lieG fa fb p q ka kc)) hT.ta (Nat.le_refl _) (small_lit 4 rfl (by decide)) (fields_one (f:=⟨bName,1,⟨#[]⟩⟩) hT.fa ⟨small_lit 4 rfl (by decide),small_lit 0 rfl (by decide),by decide⟩)
  ·exact ⟨Nat.zero_le _,fun _ hi=>absurd hi (Nat.not_lt_zero _)⟩
  ·refine ⟨by show n≤maxLen; unfold maxLen; omega,fun i hi=>?_⟩
   have hi:i < n:=hi
   rcases hTw.r1.shape with ⟨-,h0⟩ | ⟨g,cap,e,-,-,-⟩
   ·omega
   cases e
   refine ⟨g,0,rfl,?_⟩
   have k0:=hTw.r1.cell (j:=i * 3) (by omega)
   have k1:=hTw.r1.cell (j:=i * 3 + 1) (by omega)
   have k2:=hTw.r1.cell (j:=i * 3 + 2) (by omega)
   rw [tcell0] at k0
   rw [tcell1] at k1
   rw [tcell2] at k2
   show ThingAt w g (0 + i * 3) (ptA (lieG fa fb p q ka kc) i)
   rw [Nat.zero_add]
   refine ⟨k0,k1,?_,?_,small_lit 4 rfl (by decide),small_lit 3 rfl (by decide),?_⟩
   ·show w.cell? _=some (.slice ((lieG fa fb p q ka kc).a (6 * i + 2)) 1 ((lieG fa fb p q ka kc).c (6 * i + 2)))
    rw [(lg2 i).1,(lg2 i).2]; exact k2
   ·show 1≤(lieG fa fb p q ka kc).c (6 * i + 2)
    rw [(lg2 i).2]; exact Nat.le_refl _
   ·show ValsAt w ((lieG fa fb p q ka kc).a (6 * i + 2)) 1 _
    rw [(lg2 i).1]
    refine vals_one (v:=pvA (lieG fa fb p q ka kc) i) ?_ (Nat.zero_le _) (small_lit 4 rfl (by decide)) (small_lit 4 rfl (by decide)) ⟨Nat.zero_le _,fun _ hi=>absurd hi (Nat.not_lt_zero _)⟩
    show w.heap[p i]? = some (.cells #[.string bName,.string (nameP i),.slice ((lieG fa fb p q ka kc).a (6 * i)) 0 ((lieG fa fb p q ka kc).c (6 * i))] 59 (0,0))
    rw [(lg0 i).1,(lg0 i).2]; exact hA i hi
 ·refine ⟨by simp [World.cell?,hl,pplV,lieY],by simp [World.cell?,hl,pplV,lieY],by simp [World.cell?,hl,pplV,lieY],⟨?_,?_,?_,Nat.le_refl _,hcap.2⟩⟩
  ·exact types_one (t:=pyB (lieG fa fb p q ka kc)) hT.tb (Nat.le_refl _) (small_lit 3 rfl (by decide)) (fields_one (f:=⟨bUnder,3,bMan⟩) hT.fb ⟨small_lit 5 rfl (by decide),small_lit 3 rfl (by decide),by decide⟩)
  ·refine ⟨by show 1≤maxLen; decide,fun i hi=>⟨tc,0,rfl,?_⟩⟩
   have hi:i < 1:=hi
   obtain rfl:i=0:=by omega
   exact ⟨by simp [World.cell?,hT.tc,pplV],by simp [World.cell?,hT.tc,pplV,bMan],by simp [World.cell?,hT.tc,pplV],by simp [World.cell?,hT.tc,pplV,bUser],small_lit 3 rfl (by decide),small_lit 0 rfl (by decide),small_lit 4 rfl (by decide)⟩
  ·refine ⟨by show n≤maxLen; unfold maxLen; omega,fun i hi=>?_⟩
   have hi:i < n:=hi
   rcases hTw.r2.shape with ⟨-,h0⟩ | ⟨g,cap,e,-,-,-⟩
   ·omega
   cases e
   refine ⟨g,0,rfl,?_⟩
   have k0:=hTw.r2.cell (j:=i * 3) (by omega)
   have k1:=hTw.r2.cell (j:=i * 3 + 1) (by omega)
   have k2:=hTw.r2.cell (j:=i * 3 + 2) (by omega)
   rw [tcell0] at k0
   rw [tcell1] at k1
   rw [tcell2] at k2
   show ThingAt w g (0 + i * 3) (ptB (lieG fa fb p q ka kc) nk K i)
   rw [Nat.zero_add]
   refine ⟨k0,k1,?_,?_,small_lit 3 rfl (by decide),small_lit 3 rfl (by decide),?_⟩
   ·show w.cell? _=some (.slice ((lieG fa fb p q ka kc).a (6 * i + 3)) 1 ((lieG fa fb p q ka kc).c (6 * i + 3)))
    rw [(lg3 i).1,(lg3 i).2]; exact k2
   ·show 1≤(lieG fa fb p q ka kc).c (6 * i + 3)
    rw [(lg3 i).2]; exact Nat.le_refl _
   ·show ValsAt w ((lieG fa fb p q ka kc).a (6 * i + 3)) 1 _
    rw [(lg3 i).1]
    refine vals_one (v:=pvB (lieG fa fb p q ka kc) (nk i) (K i) i) ?_ ?_ (small_lit 5 rfl (by decide)) (small_lit 0 rfl (by decide)) ?_
    ·show w.heap[q i]? = some (.cells #[.string bUnder,.string ⟨#[]⟩,.slice ((lieG fa fb p q ka kc).a (6 * i + 1)) (nk i) ((lieG fa fb p q ka kc).c (6 * i + 1))] 59 (0,0))
     rw [(lg1 i).1,(lg1 i).2]; exact hB i hi
    ·show nk i≤(lieG fa fb p q ka kc).c (6 * i + 1)
     rw [(lg1 i).2]; exact (hK i hi).1
    ·show KeysAt w ((lieG fa fb p q ka kc).a (6 * i + 1)) (nk i) (K i)
     rw [(lg1 i).1]; exact (hK i hi).2
theorem kP_one:∀ i,i < 40→kP (i + 1)=kP 1→i=0:=by
 have h:((List.range 40).all fun i=>i == 0 || !eqs (kP (i + 1)) (kP 1))=true:=by kernel_rfl
 intro i hi e
 have:=List.all_eq_true.1 h i (List.mem_range.2 hi)
 rw [e,eqs_iff.2 rfl] at this
 simpa using this
theorem many_servs {w:World} {N n ba bb ta fa tb fb tc lb:Nat} {p q r:Nat→Nat} {a1 a4 a9:Option Addr} {c1 c4 c9:Nat} (h1:1≤n) (hn:n≤30) (hT:PpT ta fa tb fb tc w) (hF:PpF (n + 1) (n + 1) p q r w)
  (hTw:Two N w ba bb (.slice (some ⟨ta,0,none⟩) 1 1) (.slice none 0 0) (.slice (some ⟨tb,0,none⟩) 1 1) (.slice (some ⟨tc,0,none⟩) 1 1) (.slice a1 (n + 1) c1) (.slice a4 (n + 1) c4) (n + 1) (n + 1) (tcell ⟨#[117,115,101,114]⟩ p) (tcell ⟨#[109,97,110]⟩ q))
  (hl:w.heap[lb]? = some (.cells #[.slice (some ⟨ta,0,none⟩) 1 1,.slice none 0 0,.slice a1 (n + 1) c1,.slice (some ⟨tb,0,none⟩) 1 1,.slice (some ⟨tc,0,none⟩) 1 1,.slice a4 (n + 1) c4] 40 (0,0)))
  (hR:Row w N 9 1 (.slice a9 n c9) n (textCell (fun i=>kP (i + 1)))) :
  ∃ z y,ServsAt (w.setCell ⟨q 0,2,none⟩ (.slice a9 n c9)) (some ⟨lb,0,none⟩) 2 (manyV z y n):=by
 have q0:=hF.b 0 (by omega)
 obtain ⟨E,hE⟩:∃ E,E=w.setCell ⟨q 0,2,none⟩ (.slice a9 n c9):=⟨_,rfl⟩
 rw [← hE]
 have other:∀ {b:Nat} {o:Obj},w.heap[b]? = some o→b≠q 0→E.heap[b]? = some o:=fun {b o} hb hne=>by
  rw [hE,Below.heap_setCell _ _ _ _ (by show b≠q 0; exact hne)]; exact hb
 have ne:∀ {b:Nat} {cs:Array Value} {t : TypeId},w.heap[b]? = some (.cells cs t (0,0))→t≠59→b≠q 0:=fun {b cs t} hb ht e=>by
  subst e; rw [q0] at hb; cases hb; exact ht rfl
 have hE0:E.heap[q 0]? = some (.cells #[.string ⟨#[117,110,100,101,114]⟩,.string ⟨#[]⟩,.slice a9 n c9] 59 (0,0)):=by rw [hE]; exact heap_setCell_same _ _ 2 _ 59 _ q0
 have hqi:∀ i,i < n + 1→i≠0→q i≠q 0:=fun i hi h0 e=>by
  have hb:=hF.b i hi
  rw [e,q0] at hb
  have hk:keyV (n + 1) r 0=keyV (n + 1) r i:=by simpa using hb
  unfold keyV at hk
  rw [if_pos (by omega)] at hk
  by_cases h2:i + 1 < n + 1
  ·rw [if_pos h2] at hk
   have er:r 0=r i:=by simpa using hk
   have c0:=hF.c 0 (by omega) (by omega)
   have c1:=hF.c i hi h2
   rw [← er,c0] at c1
   have ek:kP (0 + 1)=kP (i + 1):=by simpa using c1
   exact h0 (kP_one i (by omega) ek.symm)
  ·rw [if_neg h2] at hk; cases hk
 have hrow:∀ {v:Value} {m:Nat} {f : Nat→Value},Row w N 62 3 v m f→Row E N 62 3 v m f:=fun {v m f} hr=>by
  rw [hE]
  refine hr.set_other (p:=⟨q 0,2,none⟩) (fun e=>?_) _
  obtain ⟨cs,ho⟩:=hr.obj e
  exact ne ho (by decide) rfl
 have hRE:Row E N 9 1 (.slice a9 n c9) n (textCell (fun i=>kP (i + 1))):=by
  rw [hE]
  refine hR.set_other (p:=⟨q 0,2,none⟩) (fun e=>?_) _
  obtain ⟨cs,ho⟩:=hR.obj e
  exact ne ho (by decide) rfl
 obtain ⟨a',c',e',hc9,hkeys⟩:=hRE.keysAt (by unfold maxLen; omega) (fun j _=>small_lit 3 rfl (by decide))
 cases e'
 refine ⟨_,_,ppl_servs (n:=n + 1) (p:=p) (q:=q) (ka:=fun i=>if i=0 then a9 else if i < n then some ⟨r i,0,none⟩ else none) (kc:=fun i=>if i=0 then c9 else if i < n then 1 else 0) (nk:=fun i=>if i=0 then n else if i < n then 1 else 0) (K:=fun i j=>if i=0 then keyP (j + 1) else keyP (i + 1)) (by omega)
  ⟨other hT.ta (ne hT.ta (by decide)),other hT.fa (ne hT.fa (by decide)),other hT.tb (ne hT.tb (by decide)),other hT.fb (ne hT.fb (by decide)),other hT.tc (ne hT.tc (by decide))⟩ (fun i hi=>?_) (fun i hi=>?_) (fun i hi=>?_)
  ⟨other hTw.s1 (ne hTw.s1 (by decide)),other hTw.s2 (ne hTw.s2 (by decide)),hrow hTw.r1,hrow hTw.r2,hTw.apart,hTw.ne⟩ (other hl (ne hl (by decide)))⟩
 ·refine other (hF.a i hi) (fun e=>?_)
  have:=hF.a i hi
  rw [e,q0] at this
  simp at this
 ·by_cases h0:i=0
  ·subst h0; simp only [if_true]; exact hE0
  ·simp only [if_neg h0]
   have:=hF.b i hi
   unfold keyV at this
   by_cases h2:i < n
   ·rw [if_pos (by omega)] at this
    simp only [if_pos h2]
    exact other this (hqi i hi h0)
   ·rw [if_neg (by omega)] at this
    simp only [if_neg h2]
    exact other this (hqi i hi h0)
 ·by_cases h0:i=0
  ·subst h0; simp only [if_true]; exact ⟨hc9,hkeys⟩
  ·simp only [if_neg h0]
   by_cases h2:i < n
   ·simp only [if_pos h2]
    refine ⟨Nat.le_refl _,by decide,fun j hj=>⟨r i,0,rfl,?_,small_lit 3 rfl (by decide)⟩⟩
    obtain rfl:j=0:=by omega
    have hc:=hF.c i hi (by omega)
    have:=other hc (ne hc (by decide))
    simp [World.cell?,this]
    rfl
   ·simp only [if_neg h2]
    exact ⟨Nat.le_refl _,Nat.zero_le _,fun _ hi=>absurd hi (Nat.not_lt_zero _)⟩
end Go.Proofs.YtjjggefmmeminacGreat
