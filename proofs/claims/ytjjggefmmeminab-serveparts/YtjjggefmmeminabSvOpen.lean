/-
  From what an argument reads as to what lies in memory, and how much of it a machine may hold: services, requests.
-/
import Derived.Test.YtjjggefmmeminabOpen
import Derived.Test.YtjjggefmmeminabSvPlain
import Derived.SizedLaws
import Derived.Lib.SmallJoins
namespace Go.Proofs.Ytjjggefmmeminab
open Go.ChangeShapes Go.WideShapes Go.ChangeAt Go.RowKit Go.Deep

theorem Try.cellsSvc : Try.prog.cellsOf 74 = 3 := by kernel_rfl
theorem Try.cellsTys : Try.prog.cellsOf 70 = 1 := by kernel_rfl
theorem Try.cellsChs : Try.prog.cellsOf 71 = 1 := by kernel_rfl
theorem Try.cellsThs : Try.prog.cellsOf 72 = 1 := by kernel_rfl
theorem Try.cellsReq : Try.prog.cellsOf 42 = 4 := by kernel_rfl
theorem Try.bytesStr : Try.prog.bytesOf 9 = 16 := by kernel_rfl
theorem Try.bytesVal : Try.prog.bytesOf 56 = 56 := by kernel_rfl
theorem list4s {cs : List Value} (h : cs.length = 4) : ∃ c0 c1 c2 c3, cs = [c0, c1, c2, c3] := by
  match cs, h with
  | [c0, c1, c2, c3], _ => exact ⟨c0, c1, c2, c3, rfl⟩

section
variable {H : Type}
/-- What it takes is no more than a machine has. -/
def Lgt (t : TypeId) (d : DataW H) : Prop := ∀ x ∈ DataW.weights Try.prog t d, x ≤ reachBytes
theorem mem_weightsAll {e : TypeId} {d : DataW H} {x : Nat} : ∀ {l : List (DataW H)}, d ∈ l → x ∈ DataW.weights Try.prog e d → x ∈ DataW.weightsAll Try.prog e l
  | y :: l, hd, hx => by
    rw [DataW.weightsAll, List.mem_append]
    rcases List.mem_cons.1 hd with rfl | h
    · exact .inl hx
    · exact .inr (mem_weightsAll h hx)
theorem Lgt.slice {t e : TypeId} (ht : Try.prog.underlying t = some (.slice e)) {els spare : List (DataW H)} (h : Lgt t (.slice els spare)) : els.length * Try.prog.bytesOf e ≤ reachBytes ∧ ∀ d ∈ els, Lgt e d := by
  unfold Lgt at h
  rw [DataW.weights, ht] at h
  refine ⟨?_, fun d hd x hx => h x (List.mem_cons_of_mem _ (List.mem_append_left _ (mem_weightsAll hd hx)))⟩
  have h1 := h _ (List.mem_cons_self)
  rw [Nat.add_mul] at h1
  omega
theorem Lgt.part {t : TypeId} {fs : Array Field} (ht : Try.prog.underlying t = some (.struct fs)) {l : List (DataW H)} (h : Lgt t (.agg l)) {j : Nat} {t' : TypeId} {d : DataW H} (hj : (fs.toList.map (·.type))[j]? = some t') (hd : l[j]? = some d) : Lgt t' d := by
  unfold Lgt at h
  rw [DataW.weights, ht] at h
  exact fun x hx => h x (DataW.weights_mem_each hj hd x hx)

variable {enc : TypeId × Value → H} {w : World} {base : Nat} {spare : Nat → Bool} {held : Bool}

/-- A slice of elements of k cells, each of which is made of an x as f says; and how many there may be. -/
theorem open_elsL {α : Type} (d : α) {t e k : Nat} (ht : Try.prog.underlying t = some (.slice e)) (hc : Try.prog.cellsOf e = k) (hk : 0 < k) (f : α → List Value) (good : α → Prop)
    (each : ∀ {fuel : Nat} {cs : List Value} {x : DataW H × List MemPlace}, DataW.trod enc Try.prog w base spare held fuel e cs = some x → Lgt e x.1 → ∃ y : α, cs = f y ∧ good y)
    {fuel : Nat} {cs : List Value} {x : DataW H × List MemPlace} (h : DataW.trod enc Try.prog w base spare held fuel t cs = some x) (hx0 : Lgt t x.1) :
    ∃ (a : Option Addr) (n cap : Nat) (F : Nat → α), cs = [.slice a n cap] ∧ n ≤ cap ∧ n ≤ maxLen ∧ n * Try.prog.bytesOf e ≤ reachBytes ∧ ∀ i, i < n → ∃ b o, a = some ⟨b, o, none⟩ ∧ (∀ j, j < k → w.cell? ⟨b, o + i * k + j, none⟩ = (f (F i))[j]?) ∧ good (F i) := by
  rcases open_slice ht h with ⟨rfl, -⟩ | ⟨a, len, cap, m, n, D, Pl, rfl, -, hl, hm, hmm, he, hx⟩
  · exact ⟨none, 0, 0, fun _ => d, rfl, Nat.le_refl _, Nat.zero_le _, by omega, fun i hi => absurd hi (Nat.not_lt_zero _)⟩
  · have hlm : len ≤ m := by rw [hmm]; split <;> omega
    rw [hc] at hx
    rw [he] at hx0
    obtain ⟨hby, hel⟩ := Lgt.slice ht hx0
    simp only [List.length_map, List.length_range] at hby
    haveI : Inhabited α := ⟨d⟩
    obtain ⟨F, hF⟩ := choose_lt (α := α) (n := len) (p := fun i y => w.cells? base (a.add (i * k)) k = some (f y) ∧ good y) (fun i hi => by
      obtain ⟨cs', h1, h2⟩ := hx i (by omega)
      obtain ⟨y, rfl, hy⟩ := each h2 (hel _ (List.mem_map.2 ⟨i, by simpa using hi, rfl⟩))
      exact ⟨y, h1, hy⟩)
    refine ⟨some a, len, cap, F, rfl, hl, Nat.le_trans hl hm, hby, fun i hi => ?_⟩
    obtain ⟨b, o, spot⟩ := a
    obtain ⟨h1, h2⟩ := hF i hi
    obtain ⟨-, hlen, hcell⟩ := World.cells?_some h1
    have hspot : spot = none := by
      obtain ⟨-, hlen0, hcell0⟩ := World.cells?_some (hF 0 (by omega)).1
      have h3 := hcell0 0 hk
      rw [List.getElem?_eq_getElem (by omega)] at h3
      simpa [Addr.add] using World.cell?_spot h3
    subst hspot
    refine ⟨b, o, rfl, fun j hj => ?_, h2⟩
    rw [← hcell j hj, add_plain, add_plain]

theorem open_keysL {fuel : Nat} {cs : List Value} {x : DataW H × List MemPlace} (h : DataW.trod enc Try.prog w base spare held fuel 40 cs = some x) (hL : Lgt 40 x.1) :
    ∃ (a : Option Addr) (n cap : Nat) (K : Nat → ByteArray), cs = [.slice a n cap] ∧ n ≤ cap ∧ KeysAt w a n K ∧ n * 16 ≤ reachBytes := by
  obtain ⟨a, n, cap, K, rfl, hl, hm, hb, hK⟩ := open_elsL ByteArray.empty Try.underlying40 Try.cells9 (by decide) (fun s : ByteArray => [.string s]) (fun s => Small s) (fun h _ => open_key h) h hL
  rw [Try.bytesStr] at hb
  refine ⟨a, n, cap, K, rfl, hl, ⟨hm, fun i hi => ?_⟩, hb⟩
  obtain ⟨b, o, ha, hc, hg⟩ := hK i hi
  exact ⟨b, o, ha, by simpa using hc 0 (by decide), hg⟩

theorem open_valL {fuel : Nat} {cs : List Value} {x : DataW H × List MemPlace} (h : DataW.trod enc Try.prog w base spare held fuel 56 cs = some x) (hL : Lgt 56 x.1) :
    ∃ v : LVal, cs = [.string v.field, .string v.text, .slice v.ka v.nk v.kcap] ∧ (v.nk ≤ v.kcap ∧ Small v.field ∧ Small v.text ∧ KeysAt w v.ka v.nk v.K) ∧ v.nk * 16 ≤ reachBytes := by
  obtain ⟨y0, y1, y2, m, he, hl, h0, h1, h2⟩ := trod_struct3 Try.underlying56 h
  rw [Try.cells56] at hl
  obtain ⟨c0, c1, c2, rfl⟩ := list3 hl
  rw [he] at hL
  have hL2 := Lgt.part Try.underlying56 hL (j := 2) rfl rfl
  simp [Try.cells9, Try.cells40] at h0 h1 h2
  obtain ⟨s0, e0, -, q0⟩ := DataW.trod_string Try.underlying9 h0
  obtain ⟨s1, e1, -, q1⟩ := DataW.trod_string Try.underlying9 h1
  obtain ⟨a, n, cap, K, e2, q2, q3, q4⟩ := open_keysL h2 hL2
  simp at e0 e1 e2
  exact ⟨⟨s0, s1, a, n, cap, K⟩, by simp [e0, e1, e2], ⟨q2, q0, q1, q3⟩, q4⟩

theorem open_valsL {fuel : Nat} {cs : List Value} {x : DataW H × List MemPlace} (h : DataW.trod enc Try.prog w base spare held fuel 54 cs = some x) (hL : Lgt 54 x.1) :
    ∃ (a : Option Addr) (n cap : Nat) (V : Nat → LVal), cs = [.slice a n cap] ∧ n ≤ cap ∧ ValsAt w a n V ∧ n * 56 ≤ reachBytes ∧ ∀ k, k < n → (V k).nk * 16 ≤ reachBytes := by
  obtain ⟨a, n, cap, V, rfl, hl, hm, hb, hV⟩ := open_elsL ⟨ByteArray.empty, ByteArray.empty, none, 0, 0, fun _ => ByteArray.empty⟩ Try.underlying54 Try.cells56 (by decide) (fun v : LVal => [.string v.field, .string v.text, .slice v.ka v.nk v.kcap]) (fun v => (v.nk ≤ v.kcap ∧ Small v.field ∧ Small v.text ∧ KeysAt w v.ka v.nk v.K) ∧ v.nk * 16 ≤ reachBytes) (fun h hL => open_valL h hL) h hL
  rw [Try.bytesVal] at hb
  refine ⟨a, n, cap, V, rfl, hl, ⟨hm, fun i hi => ?_⟩, hb, fun k hk => ?_⟩
  · obtain ⟨b, o, ha, hc, hg, -⟩ := hV i hi
    exact ⟨b, o, ha, by simpa using hc 0 (by decide), by simpa using hc 1 (by decide), by simpa using hc 2 (by decide), hg⟩
  · obtain ⟨b, o, ha, hc, -, hg⟩ := hV k hk
    exact hg

theorem open_thingL {fuel : Nat} {cs : List Value} {x : DataW H × List MemPlace} (h : DataW.trod enc Try.prog w base spare held fuel 90 cs = some x) (hL : Lgt 90 x.1) :
    ∃ x : LThing, cs = [.string x.type, .string x.key, .slice x.va x.nv x.vcap] ∧ (x.nv ≤ x.vcap ∧ Small x.type ∧ Small x.key ∧ ValsAt w x.va x.nv x.V) ∧ LightX x := by
  obtain ⟨y0, y1, y2, m, he, hl, h0, h1, h2⟩ := trod_struct3 Try.underlying90 h
  rw [Try.cells90] at hl
  obtain ⟨c0, c1, c2, rfl⟩ := list3 hl
  rw [he] at hL
  have hL2 := Lgt.part Try.underlying90 hL (j := 2) rfl rfl
  simp [Try.cells9, Try.cells54] at h0 h1 h2
  obtain ⟨s0, e0, -, q0⟩ := DataW.trod_string Try.underlying9 h0
  obtain ⟨s1, e1, -, q1⟩ := DataW.trod_string Try.underlying9 h1
  obtain ⟨a, n, cap, V, e2, q2, q3, q4, q5⟩ := open_valsL h2 hL2
  simp at e0 e1 e2
  refine ⟨⟨s0, s1, a, n, cap, V⟩, by simp [e0, e1, e2], ⟨q2, q0, q1, q3⟩, ?_, fun k hk => ?_⟩
  · unfold reachBytes at q4; show n * 56 ≤ _; omega
  · have := q5 k hk; unfold reachBytes at this; show (V k).nk * 16 ≤ _; omega

theorem open_thingsL {fuel : Nat} {cs : List Value} {x : DataW H × List MemPlace} (h : DataW.trod enc Try.prog w base spare held fuel 72 cs = some x) (hL : Lgt 72 x.1) :
    ∃ (a : Option Addr) (n cap : Nat) (X : Nat → LThing), cs = [.slice a n cap] ∧ n ≤ cap ∧ ThingsAt w a n X ∧ ∀ i, i < n → LightX (X i) := by
  obtain ⟨a, n, cap, X, rfl, hl, hm, -, hX⟩ := open_elsL noThing Try.underlying72 Try.cells90 (by decide) (fun x : LThing => [.string x.type, .string x.key, .slice x.va x.nv x.vcap]) (fun x => (x.nv ≤ x.vcap ∧ Small x.type ∧ Small x.key ∧ ValsAt w x.va x.nv x.V) ∧ LightX x) (fun h hL => open_thingL h hL) h hL
  refine ⟨a, n, cap, X, rfl, hl, ⟨hm, fun i hi => ?_⟩, fun i hi => ?_⟩
  · obtain ⟨b, o, ha, hc, hg, -⟩ := hX i hi
    exact ⟨b, o, ha, by simpa using hc 0 (by decide), by simpa using hc 1 (by decide), by simpa using hc 2 (by decide), hg⟩
  · obtain ⟨b, o, ha, hc, -, hg⟩ := hX i hi
    exact hg

theorem open_changesS {fuel : Nat} {cs : List Value} {x : DataW H × List MemPlace} (h : DataW.trod enc Try.prog w base spare held fuel 71 cs = some x) : ∃ a n k, cs = [.slice a n k] := by
  rcases open_slice Try.underlying71 h with ⟨rfl, -⟩ | ⟨a, len, cap, m, n, D, Pl, rfl, -⟩
  · exact ⟨_, _, _, rfl⟩
  · exact ⟨_, _, _, rfl⟩

theorem open_serviceL {fuel : Nat} {cs : List Value} {x : DataW H × List MemPlace} (h : DataW.trod enc Try.prog w base spare held fuel 74 cs = some x) (hL : Lgt 74 x.1) :
    ∃ s : SServ, cs = [.slice s.ta s.nt s.tcap, .slice s.ca s.nc s.ccap, .slice s.xa s.nx s.xcap] ∧ (TypesAt w s.ta s.nt s.T ∧ ThingsAt w s.xa s.nx s.X ∧ s.nt ≤ s.tcap ∧ s.nx ≤ s.xcap) ∧ LightS s := by
  obtain ⟨y0, y1, y2, m, he, hl, h0, h1, h2⟩ := trod_struct3 Try.underlying74 h
  rw [Try.cellsSvc] at hl
  obtain ⟨c0, c1, c2, rfl⟩ := list3 hl
  rw [he] at hL
  have hL2 := Lgt.part Try.underlying74 hL (j := 2) rfl rfl
  simp [Try.cellsTys, Try.cellsChs, Try.cellsThs] at h0 h1 h2
  obtain ⟨a0, n0, d0, T, e0, q0, r0⟩ := open_types h0
  have f1 := open_changesS h1
  obtain ⟨a1, n1, d1, e1⟩ := f1
  obtain ⟨a2, n2, d2, X, e2, q2, r2, r3⟩ := open_thingsL h2 hL2
  simp at e0 e1 e2
  exact ⟨⟨a0, n0, d0, T, a1, n1, d1, a2, n2, d2, X⟩, by simp [e0, e1, e2], ⟨r0, r2, q0, q2⟩, r3⟩

theorem open_servicesL {fuel : Nat} {cs : List Value} {x : DataW H × List MemPlace} (h : DataW.trod enc Try.prog w base spare held fuel 39 cs = some x) (hL : Lgt 39 x.1) :
    ∃ (a : Option Addr) (n cap : Nat) (V : Nat → SServ), cs = [.slice a n cap] ∧ n ≤ cap ∧ SServsAt w a n V ∧ ∀ i, i < n → LightS (V i) := by
  obtain ⟨a, n, cap, V, rfl, hl, hm, -, hV⟩ := open_elsL (⟨none, 0, 0, fun _ => ⟨ByteArray.empty, none, 0, 0, fun _ => ⟨ByteArray.empty, 0, ByteArray.empty⟩⟩, none, 0, 0, none, 0, 0, fun _ => noThing⟩ : SServ) Try.underlying39 Try.cellsSvc (by decide) (fun s : SServ => [.slice s.ta s.nt s.tcap, .slice s.ca s.nc s.ccap, .slice s.xa s.nx s.xcap]) (fun s => (TypesAt w s.ta s.nt s.T ∧ ThingsAt w s.xa s.nx s.X ∧ s.nt ≤ s.tcap ∧ s.nx ≤ s.xcap) ∧ LightS s) (fun h hL => open_serviceL h hL) h hL
  refine ⟨a, n, cap, V, rfl, hl, ⟨hm, fun i hi => ?_⟩, fun i hi => ?_⟩
  · obtain ⟨b, o, ha, hc, ⟨g0, g1, g2, g3⟩, -⟩ := hV i hi
    exact ⟨b, o, ha, by simpa using hc 0 (by decide), by simpa using hc 1 (by decide), by simpa using hc 2 (by decide), g0, g1, g2, g3⟩
  · obtain ⟨b, o, ha, hc, -, hg⟩ := hV i hi
    exact hg

theorem open_req {fuel : Nat} {cs : List Value} {x : DataW H × List MemPlace} (h : DataW.trod enc Try.prog w base spare held fuel 42 cs = some x) (hL : Lgt 42 x.1) :
    ∃ q : LReq, cs = [.int .i64 q.svc, .string q.type, .slice q.ka q.nk q.kcap, .slice q.fa q.nf q.fcap] ∧ ReqOk w q ∧ q.nk * 16 ≤ reachBytes := by
  obtain ⟨y0, y1, y2, y3, m, he, hl, h0, h1, h2, h3⟩ := Go.Joins.trod_struct4 Try.underlying42 h
  rw [Try.cellsReq] at hl
  obtain ⟨c0, c1, c2, c3, rfl⟩ := list4s hl
  rw [he] at hL
  have hL2 := Lgt.part Try.underlying42 hL (j := 2) rfl rfl
  have hL3 := Lgt.part Try.underlying42 hL (j := 3) rfl rfl
  simp [Try.cells3, Try.cells9, Try.cells40] at h0 h1 h2 h3
  obtain ⟨k, e0, -, q0⟩ := DataW.trod_int Try.underlying3 h0
  obtain ⟨s1, e1, -, q1⟩ := DataW.trod_string Try.underlying9 h1
  obtain ⟨a2, n2, d2, K, e2, q2, r2, b2⟩ := open_keysL h2 hL2
  obtain ⟨a3, n3, d3, F, e3, q3, r3, -⟩ := open_keysL h3 hL3
  simp at e0 e1 e2 e3
  exact ⟨⟨k, s1, a2, n2, d2, K, a3, n3, d3, F⟩, by simp [e0, e1, e2, e3], ⟨r2, r3, q0, q2, q3, q1⟩, b2⟩
end
end Go.Proofs.Ytjjggefmmeminab
