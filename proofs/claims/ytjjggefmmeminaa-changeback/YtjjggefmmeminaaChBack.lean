/-
  The walk of stitchlaw2.ChangeBack: it answers true, and keeps what is there.
-/
import Derived.Test.YtjjggefmmeminaaChBackMem
namespace Go.Proofs.Ytjjggefmmeminaa
open Go.RowKit Go.Sort

theorem opStep_append {P : Program} {o : Oper} {s : Nat → Value} {w : World} {K : (Nat → Value) → World → Prop} (x y : Operand) (t : TypeId) (ho : o.op = Op.call { callee := Callee.builtin Builtin.append, args := #[x, y], argTypes := #[t, t] })
    (base : Nat) (e : TypeId) (i : TypeInfo) (z : Value) (size bytes : Nat) (ht : P.underlying t = some (.slice e)) (hi : P.info? e = some i) (hz : i.zero = some z)
    (hsize : i.size = size) (hby : i.bytes = bytes) (hzs : z.cells.size = size) (hsz : 0 < size)
    (v : Value) (n : Nat) (xs : List Value) (hx : evalS s x = v) (hown : w.ownsRow base e size v n xs)
    (src : Option Addr) (m c : Nat) (news : List Value) (hy : evalS s y = .slice src m c) (hl : news.length = m * size) (hnews : ∀ ad, src = some ad → ∀ j u, news[j]? = some u → w.cell? (ad.add j) = some u) (hnil : src = none → m = 0) (h1 : ∀ u ∈ news, u.oneCell' = true)
    (h63 : n + m ≤ maxLen) (hbytes : (n + m) * bytes ≤ 140737488355328) (hbase : base ≤ w.heap.size)
    (hK : ∀ v' w', w'.ownsRow base e size v' (n + m) (xs ++ news) → w.grownBy w' v.ownBlock → K (updS s o.dst v') w') : OpStep P o s w K := by
  obtain ⟨v', w', hr, h2, h3, h5⟩ := run_append_any (P := P) w base t o.type e i z size bytes ht hi hz hsize hby hzs hsz v n xs hown src m c news hl hnews hnil h1 h63 hbytes hbase
  refine opStep_value (v := v') (w' := w') ?_ (hK v' w' h2 h3)
  simp [execOp, ho, resolve, invoke, builtin, hx, hy, hr, Result.andThen]
theorem run_call {P : Program} {o : Oper} {s : Nat → Value} {w : World} (f : FuncId) (args : Array Operand) (tys : Array TypeId) (ho : o.op = .call { callee := .value (.func f), args := args, argTypes := tys }) (he : ∀ xs w, (callFunc f xs).run P w = .ok (.enter f xs) w) :
    (execOp (evalS s) o).run P w = .ok (.enter f (args.map (evalS s))) w := by
  have e0 : evalS s (.func f) = .func (.func f) #[] #[] := rfl
  simp [execOp, ho, resolve, invoke, Deferred.ofValue, e0, he]
theorem opStep_call {P : Program} {o : Oper} {s : Nat → Value} {w : World} {K : (Nat → Value) → World → Prop} (f : FuncId) (args : Array Operand) (tys : Array TypeId) (ho : o.op = .call { callee := .value (.func f), args := args, argTypes := tys }) (he : ∀ xs w, (callFunc f xs).run P w = .ok (.enter f xs) w) (vs : Array Value) (hv : args.map (evalS s) = vs)
    (hk : Calls P f vs w fun e w'' => ∃ v, e = .returned v ∧ K (updS s o.dst v) w'') : OpStep P o s w K :=
  opStep_enter (by rw [run_call f args tys ho he, hv]) hk
theorem ChangesAt.zero {w : World} {n : Nat} {C : Nat → PChange} (h : ChangesAt w none n C) : n = 0 := by
  rcases Nat.eq_zero_or_pos n with h0 | h0
  · exact h0
  · obtain ⟨b, o, e, _⟩ := h.2 0 h0
    cases e
def con9 (k : Nat) : Nat := if k = 1 then 3 else if k = 3 then 7 else if k = 6 then 7 else if k = 7 then 8 else 99
def bA9 (B n m bt : Nat) (a ca : Option Addr) (cap ccap : Nat) (C E : Nat → PChange) (d : PChange) (h : Int × Int) (S : Nat → PSeen) (L : Nat → Bool) (k : Nat) (x : Value) (w : World) : Prop := match k with
  | 0 => x = .slice a n cap
  | 1 => pRow0 B x w
  | 2 => x = .slice ca m ccap
  | 3 => pRow B m C x w
  | 4 => x = .pointer (some ⟨bt, 0, none⟩)
  | 5 => x = changeV d
  | 6 => pEl 1 (changeCells d).toArray x w
  | 7 => pChs (m + 1) E x w
  | 8 => pTup n h S x w
  | 9 => pTup n h S x w
  | 10 => OkV n h S x w
  | 11 => x = faultA h
  | 12 => pBox B (L 14) h x w
  | 13 => OkV n h S x w
  | _ => True
theorem bA9_kept {B n m bt : Nat} {a ca : Option Addr} {cap ccap : Nat} {C E : Nat → PChange} {d : PChange} {h : Int × Int} {S : Nat → PSeen} {L L' : Nat → Bool} (k : Nat) {x : Value} {w w' : World} (hA : bA9 B n m bt a ca cap ccap C E d h S L k x w) (hb : Below w.heap.size w w') (hL : L' 14 = L 14) : bA9 B n m bt a ca cap ccap C E d h S L' k x w' := by
  unfold bA9 at *
  split
  · exact hA
  · exact hA.kept hb
  · exact hA
  · exact Row.kept hA hb
  · exact hA
  · exact hA
  · exact hA.kept hb
  · exact hA.kept hb
  · exact hA.kept hb
  · exact hA.kept hb
  · exact hA.kept hb
  · exact hA
  · rw [hL]; exact hA.kept hb
  · exact hA.kept hb
  · trivial

theorem bA9_app {B n m bt : Nat} {a ca : Option Addr} {cap ccap : Nat} {C E : Nat → PChange} {d : PChange} {h : Int × Int} {S : Nat → PSeen} {L L' : Nat → Bool} (k : Nat) {x : Value} {w w' : World} (hA : bA9 B n m bt a ca cap ccap C E d h S L k x w) (hEl : k = 6 → pEl 1 (changeCells d).toArray x w → pEl 1 (changeCells d).toArray x w') (hBox : pBox B (L 14) h x w → pBox B (L 14) h x w') (hL : L' 14 = L 14)
    (hk : k ≠ 1 ∧ k ≠ 3 ∧ k ≠ 7 ∧ k ≠ 8 ∧ k ≠ 9 ∧ k ≠ 10 ∧ k ≠ 13) : bA9 B n m bt a ca cap ccap C E d h S L' k x w' := by
  unfold bA9 at *
  split
  · exact hA
  · exact absurd rfl hk.1
  · exact hA
  · exact absurd rfl hk.2.1
  · exact hA
  · exact hA
  · exact hEl rfl hA
  · exact absurd rfl hk.2.2.1
  · exact absurd rfl hk.2.2.2.1
  · exact absurd rfl hk.2.2.2.2.1
  · exact absurd rfl hk.2.2.2.2.2.1
  · exact hA
  · rw [hL]; exact hBox hA
  · exact absurd rfl hk.2.2.2.2.2.2
  · trivial
theorem bA9_store {B n m bt : Nat} {a ca : Option Addr} {cap ccap : Nat} {C E : Nat → PChange} {d : PChange} {h : Int × Int} {S : Nat → PSeen} {L L' : Nat → Bool} (k : Nat) {x : Value} {w w' : World} (hA : bA9 B n m bt a ca cap ccap C E d h S L k x w) (hOk : ∀ v, OkV n h S v w → OkV n h S v w') (hBox : k = 12 → pBox B (L' 14) h x w')
    (hk : k ≠ 1 ∧ k ≠ 3 ∧ k ≠ 6 ∧ k ≠ 7) : bA9 B n m bt a ca cap ccap C E d h S L' k x w' := by
  unfold bA9 at *
  split
  · exact hA
  · exact absurd rfl hk.1
  · exact hA
  · exact absurd rfl hk.2.1
  · exact hA
  · exact hA
  · exact absurd rfl hk.2.2.1
  · exact absurd rfl hk.2.2.2
  · obtain ⟨v, e, hv⟩ := hA; exact ⟨v, e, hOk v hv⟩
  · obtain ⟨v, e, hv⟩ := hA; exact ⟨v, e, hOk v hv⟩
  · exact hOk _ hA
  · exact hA
  · exact hBox rfl
  · exact hOk _ hA
  · trivial
def con11 (k : Nat) : Nat := if k = 1 then 3 else if k = 3 then 9 else if k = 8 then 9 else if k = 9 then 10 else 99
def bA11 (B n m bt : Nat) (a ca : Option Addr) (cap ccap : Nat) (C E : Nat → PChange) (d e : PChange) (h : Int × Int) (S : Nat → PSeen) (L : Nat → Bool) (k : Nat) (x : Value) (w : World) : Prop := match k with
  | 0 => x = .slice a n cap
  | 1 => pRow0 B x w
  | 2 => x = .slice ca m ccap
  | 3 => pRow B m C x w
  | 4 => x = .pointer (some ⟨bt, 0, none⟩)
  | 5 => x = changeV d
  | 6 => x = .pointer (some ⟨bt, 4, none⟩)
  | 7 => x = changeV e
  | 8 => pEl 2 (changeCells d ++ changeCells e).toArray x w
  | 9 => pChs (m + 2) E x w
  | 10 => pTup n h S x w
  | 11 => pTup n h S x w
  | 12 => OkV n h S x w
  | 13 => x = faultA h
  | 14 => pBox B (L 16) h x w
  | 15 => OkV n h S x w
  | _ => True
theorem bA11_kept {B n m bt : Nat} {a ca : Option Addr} {cap ccap : Nat} {C E : Nat → PChange} {d e : PChange} {h : Int × Int} {S : Nat → PSeen} {L L' : Nat → Bool} (k : Nat) {x : Value} {w w' : World} (hA : bA11 B n m bt a ca cap ccap C E d e h S L k x w) (hb : Below w.heap.size w w') (hL : L' 16 = L 16) : bA11 B n m bt a ca cap ccap C E d e h S L' k x w' := by
  unfold bA11 at *
  split
  · exact hA
  · exact hA.kept hb
  · exact hA
  · exact Row.kept hA hb
  · exact hA
  · exact hA
  · exact hA
  · exact hA
  · exact hA.kept hb
  · exact hA.kept hb
  · exact hA.kept hb
  · exact hA.kept hb
  · exact hA.kept hb
  · exact hA
  · rw [hL]; exact hA.kept hb
  · exact hA.kept hb
  · trivial

theorem bA11_app {B n m bt : Nat} {a ca : Option Addr} {cap ccap : Nat} {C E : Nat → PChange} {d e : PChange} {h : Int × Int} {S : Nat → PSeen} {L L' : Nat → Bool} (k : Nat) {x : Value} {w w' : World} (hA : bA11 B n m bt a ca cap ccap C E d e h S L k x w) (hEl : k = 8 → pEl 2 (changeCells d ++ changeCells e).toArray x w → pEl 2 (changeCells d ++ changeCells e).toArray x w') (hBox : pBox B (L 16) h x w → pBox B (L 16) h x w') (hL : L' 16 = L 16)
    (hk : k ≠ 1 ∧ k ≠ 3 ∧ k ≠ 9 ∧ k ≠ 10 ∧ k ≠ 11 ∧ k ≠ 12 ∧ k ≠ 15) : bA11 B n m bt a ca cap ccap C E d e h S L' k x w' := by
  unfold bA11 at *
  split
  · exact hA
  · exact absurd rfl hk.1
  · exact hA
  · exact absurd rfl hk.2.1
  · exact hA
  · exact hA
  · exact hA
  · exact hA
  · exact hEl rfl hA
  · exact absurd rfl hk.2.2.1
  · exact absurd rfl hk.2.2.2.1
  · exact absurd rfl hk.2.2.2.2.1
  · exact absurd rfl hk.2.2.2.2.2.1
  · exact hA
  · rw [hL]; exact hBox hA
  · exact absurd rfl hk.2.2.2.2.2.2
  · trivial
theorem bA11_store {B n m bt : Nat} {a ca : Option Addr} {cap ccap : Nat} {C E : Nat → PChange} {d e : PChange} {h : Int × Int} {S : Nat → PSeen} {L L' : Nat → Bool} (k : Nat) {x : Value} {w w' : World} (hA : bA11 B n m bt a ca cap ccap C E d e h S L k x w) (hOk : ∀ v, OkV n h S v w → OkV n h S v w') (hBox : k = 14 → pBox B (L' 16) h x w')
    (hk : k ≠ 1 ∧ k ≠ 3 ∧ k ≠ 8 ∧ k ≠ 9) : bA11 B n m bt a ca cap ccap C E d e h S L' k x w' := by
  unfold bA11 at *
  split
  · exact hA
  · exact absurd rfl hk.1
  · exact hA
  · exact absurd rfl hk.2.1
  · exact hA
  · exact hA
  · exact hA
  · exact hA
  · exact absurd rfl hk.2.2.1
  · exact absurd rfl hk.2.2.2
  · obtain ⟨v, e', hv⟩ := hA; exact ⟨v, e', hOk v hv⟩
  · obtain ⟨v, e', hv⟩ := hA; exact ⟨v, e', hOk v hv⟩
  · exact hOk _ hA
  · exact hA
  · exact hBox rfl
  · exact hOk _ hA
  · trivial
theorem changeCells_two (c d : PChange) : ∀ u ∈ changeCells c ++ changeCells d, u.oneCell' = true := fun u hu => (List.mem_append.1 hu).elim (changeCells_one c u) (changeCells_one d u)
theorem seeF_few {n m : Nat} {T : Nat → LType} {C : Nat → PChange} (h : (seeF n T m C).1 = 0) : m ≤ 12 := by
  have hw : (wrongS n T).1 = 0 := right_iff.2 (seeF_right h)
  by_cases h1 : 12 < m
  · rw [seeF_many hw h1] at h; simp at h
  · omega
def pair0 (name field to : ByteArray) (k : Nat) : PChange := if k = 0 then ⟨1, name, ⟨#[]⟩, to⟩ else ⟨2, name, field, to⟩
def pair1 (name field to : ByteArray) (k : Nat) : PChange := if k = 0 then ⟨1, to, ⟨#[]⟩, name⟩ else ⟨2, name, to, field⟩
theorem pair_good {name field to : ByteArray} (s1 : Small name) (s2 : Small field) (s3 : Small to) (k : Nat) : SmallC (pair0 name field to k) ∧ SmallC (pair1 name field to k) ∧ BackPair (pair0 name field to k) (pair1 name field to k) := by
  have s0 : Small ⟨#[]⟩ := Nat.zero_le _
  unfold pair0 pair1
  by_cases h : k = 0
  · rw [if_pos h, if_pos h]; exact ⟨⟨s1, s0, s3⟩, ⟨s3, s0, s1⟩, .inl ⟨rfl, rfl, rfl, rfl⟩⟩
  · rw [if_neg h, if_neg h]; exact ⟨⟨s1, s2, s3⟩, ⟨s1, s3, s2⟩, .inr ⟨rfl, rfl, rfl, rfl, rfl⟩⟩
theorem pair_cells (W : World) (name field to : ByteArray) : ∀ k, k < 2 →
    (W.alloc (Obj.cells #[.int .i64 1, .string name, .string ⟨#[]⟩, .string to, .int .i64 1, .string to, .string ⟨#[]⟩, .string name, .int .i64 2, .string name, .string field, .string to, .int .i64 2, .string name, .string to, .string field] 62)).cell? ⟨W.heap.size, k * 8, none⟩ = some (.int .i64 (pair0 name field to k).kind) ∧
    (W.alloc (Obj.cells #[.int .i64 1, .string name, .string ⟨#[]⟩, .string to, .int .i64 1, .string to, .string ⟨#[]⟩, .string name, .int .i64 2, .string name, .string field, .string to, .int .i64 2, .string name, .string to, .string field] 62)).cell? ⟨W.heap.size, k * 8 + 1, none⟩ = some (.string (pair0 name field to k).type) ∧
    (W.alloc (Obj.cells #[.int .i64 1, .string name, .string ⟨#[]⟩, .string to, .int .i64 1, .string to, .string ⟨#[]⟩, .string name, .int .i64 2, .string name, .string field, .string to, .int .i64 2, .string name, .string to, .string field] 62)).cell? ⟨W.heap.size, k * 8 + 2, none⟩ = some (.string (pair0 name field to k).field) ∧
    (W.alloc (Obj.cells #[.int .i64 1, .string name, .string ⟨#[]⟩, .string to, .int .i64 1, .string to, .string ⟨#[]⟩, .string name, .int .i64 2, .string name, .string field, .string to, .int .i64 2, .string name, .string to, .string field] 62)).cell? ⟨W.heap.size, k * 8 + 3, none⟩ = some (.string (pair0 name field to k).to) ∧
    (W.alloc (Obj.cells #[.int .i64 1, .string name, .string ⟨#[]⟩, .string to, .int .i64 1, .string to, .string ⟨#[]⟩, .string name, .int .i64 2, .string name, .string field, .string to, .int .i64 2, .string name, .string to, .string field] 62)).cell? ⟨W.heap.size, k * 8 + 4, none⟩ = some (.int .i64 (pair1 name field to k).kind) ∧
    (W.alloc (Obj.cells #[.int .i64 1, .string name, .string ⟨#[]⟩, .string to, .int .i64 1, .string to, .string ⟨#[]⟩, .string name, .int .i64 2, .string name, .string field, .string to, .int .i64 2, .string name, .string to, .string field] 62)).cell? ⟨W.heap.size, k * 8 + 5, none⟩ = some (.string (pair1 name field to k).type) ∧
    (W.alloc (Obj.cells #[.int .i64 1, .string name, .string ⟨#[]⟩, .string to, .int .i64 1, .string to, .string ⟨#[]⟩, .string name, .int .i64 2, .string name, .string field, .string to, .int .i64 2, .string name, .string to, .string field] 62)).cell? ⟨W.heap.size, k * 8 + 6, none⟩ = some (.string (pair1 name field to k).field) ∧
    (W.alloc (Obj.cells #[.int .i64 1, .string name, .string ⟨#[]⟩, .string to, .int .i64 1, .string to, .string ⟨#[]⟩, .string name, .int .i64 2, .string name, .string field, .string to, .int .i64 2, .string name, .string to, .string field] 62)).cell? ⟨W.heap.size, k * 8 + 7, none⟩ = some (.string (pair1 name field to k).to) := by
  intro k hk
  have h : k = 0 ∨ k = 1 := by omega
  rcases h with rfl | rfl
  all_goals (refine ⟨?_, ?_, ?_, ?_, ?_, ?_, ?_, ?_⟩ <;> (rw [World.cell?_alloc_at _ _ _ _ rfl]; rfl))

theorem Try.e26 : ∀ args w, (callFunc 26 args).run Try.prog w = .ok (.enter 26 args) w := enters_of Try.func26 (by kernel_rfl) rfl

set_option maxRecDepth 100000 in
set_option maxHeartbeats 4000000 in
theorem back_any (a ca : Option Addr) (n cap m ccap : Nat) (T : Nat → LType) (C : Nat → PChange) (name field to : ByteArray) (w : World) (hT : TypesAt w a n T) (hC : ChangesAt w ca m C) (hcap : n ≤ cap) (s1 : Small name) (s2 : Small field) (s3 : Small to) :
    Calls Try.prog 9 #[.slice a n cap, .slice ca m ccap, .string name, .string field, .string to] w fun e w' => e = .returned (.bool true) ∧ Below w.heap.size w w' := by
  have hfd := field0_run
  have hm' : m ≤ 9223372036854775807 := hC.1
  have HT : Hid (TypesAt w a n T) := hT
  have HC : Hid (ChangesAt w ca m C) := hC
  clear hT hC
  go_enter Try.func9, Try.ntmps9
  go_wp2_with fail
  refine (alive2_any w).mono ?_
  rintro e w1 ⟨rfl, hB1⟩
  go_wp2_with fail
  refine (see_any a ca n cap m ccap T C w1 (HT.out.kept hB1) (HC.out.kept hB1) hcap).mono ?_
  rintro e w2 ⟨⟨v, rfl, -, hyes⟩, hw2⟩
  have HB2 : Hid (Below w.heap.size w w2) := hB1.trans (hw2.mono hB1.size)
  have HYES : Hid ((seeF n T m C).1 = 0 → ∃ fv ov, Seens w2 w1.heap.size v n fv ov (runS n (initS T) C m)) := hyes
  clear hw2 hB1 hyes
  unfold faultV
  generalize hr : seeF n T m C = r at *
  have HR : Hid (seeF n T m C = r) := hr
  clear hr
  generalize hW : w2.alloc (Obj.cells #[.int .i64 r.1, .int .i64 r.2] 30) = W
  have hBW : Below w2.heap.size w2 W := by rw [← hW]; exact below1 _ _
  have k0 : W.cell? ⟨w2.heap.size, 0, none⟩ = some (.int .i64 r.1) := by rw [← hW, World.cell?_alloc_at _ _ _ _ rfl]; rfl
  have HBW : Hid (Below w.heap.size w W) := HB2.out.trans (hBW.mono HB2.out.size)
  have HW2 : Hid (Below w2.heap.size w2 W) := hBW
  clear hBW
  by_cases h1 : r.1 = 0
  case neg =>
    have h1b : (r.1 != 0) = true := by simpa using h1
    clear h1
    go_wp2_with fail
    go_ret
    exact ⟨rfl, HBW.out⟩
  have h1b : (r.1 != 0) = false := by simpa using h1
  have H1 : Hid (r.1 = 0) := h1
  clear h1
  have hm12 : m ≤ 12 := seeF_few (by rw [HR.out]; exact H1.out)
  by_cases hm : 10 < (m : Int)
  · go_wp2_with fail
    go_ret
    exact ⟨rfl, HBW.out⟩
  have hm10 : m ≤ 10 := by omega
  obtain ⟨fv, ov, hS⟩ := HYES.out H1.out
  obtain ⟨va, vc, rfl, -⟩ := hS.slice
  have HS : Hid (Seens W w1.heap.size (.slice va n vc) n fv ov (runS n (initS T) C m)) := hS.kept HW2.out
  have hRS : RightS n (runS n (initS T) C m) := right_run (seeF_right (by rw [HR.out]; exact H1.out)) m
  have HRS := Hid.intro hRS
  have hn8 : n ≤ 8 := hRS.few
  clear hS hRS HYES HW2 HB2
  go_wp2_with fail
  clear hW k0
  have HX0 : Hid (Below W.heap.size W (W.alloc (Obj.cells #[.int .i64 1, .string name, .string ⟨#[]⟩, .string to, .int .i64 1, .string to, .string ⟨#[]⟩, .string name, .int .i64 2, .string name, .string field, .string to, .int .i64 2, .string name, .string to, .string field] 62))) := below1 _ _
  have HX1 := Hid.intro (pair_cells W name field to)
  generalize W.alloc (Obj.cells #[.int .i64 1, .string name, .string ⟨#[]⟩, .string to, .int .i64 1, .string to, .string ⟨#[]⟩, .string name, .int .i64 2, .string name, .string field, .string to, .int .i64 2, .string name, .string to, .string field] 62) = X at *
  generalize W.heap.size = bs at HX1 ⊢
  have HBX : Hid (Below w.heap.size w X) := HBW.out.trans (HX0.out.mono HBW.out.size)
  have HSX : Hid (Seens X w1.heap.size (.slice va n vc) n fv ov (runS n (initS T) C m)) := HS.out.kept HX0.out
  clear HS HX0 HBW
  go_loopw [54] (fun i wr => ∃ k : Nat, k ≤ 2 ∧ i = .int .i64 k ∧ Below X.heap.size X wr) (fun i _ => 2 - (intOf i).toNat)
  case atStart => exact ⟨0, Nat.zero_le _, rfl, Below.refl _ _⟩
  case round =>
    obtain ⟨k, hk, rfl, hw⟩ := hrel
    by_cases hlt : k < 2
    · have hlt' : (k : Int) < 2 := by omega
      have hk0 : (0 : Int) ≤ (k : Int) := by omega
      obtain ⟨q0, q1, q2, q3, q4, q5, q6, q7⟩ := HX1.out k hlt
      have q0 := keptCell hw q0
      have q1 := keptCell hw q1
      have q2 := keptCell hw q2
      have q3 := keptCell hw q3
      have q4 := keptCell hw q4
      have q5 := keptCell hw q5
      have q6 := keptCell hw q6
      have q7 := keptCell hw q7
      have HSD : Hid (SmallC (pair0 name field to k) ∧ SmallC (pair1 name field to k) ∧ BackPair (pair0 name field to k) (pair1 name field to k)) := pair_good s1 s2 s3 k
      generalize pair0 name field to k = d0 at *
      generalize pair1 name field to k = d1 at *
      generalize hY : wr.alloc (Obj.cells #[.int .i64 d0.kind, .string d0.type, .string d0.field, .string d0.to, .int .i64 d1.kind, .string d1.type, .string d1.field, .string d1.to] 62) = Y
      have hBY : Below wr.heap.size wr Y := by rw [← hY]; exact below1 _ _
      have hby : Y.heap[wr.heap.size]? = some (.cells #[.int .i64 d0.kind, .string d0.type, .string d0.field, .string d0.to, .int .i64 d1.kind, .string d1.type, .string d1.field, .string d1.to] 62 (0, 0)) := by rw [← hY]; exact heap_alloc_new _ _
      have HBY : Hid (Below X.heap.size X Y) := hw.trans (hBY.mono hw.size)
      have HY := Hid.intro hby
      clear hw hBY hby
      go_wp2_with fail
      clear hY q0 q1 q2 q3 q4 q5 q6 q7
      generalize wr.heap.size = bt at *
      have HTY : Hid (TypesAt Y a n T) := (HT.out.kept HBX.out).kept HBY.out
      have HCY : Hid (ChangesAt Y ca m C) := (HC.out.kept HBX.out).kept HBY.out
      obtain ⟨i0, hi, hz0, hz1, hz2⟩ := info_parts' Try.info61
      refine wp_region_as (by kernel_rfl) (by kernel_rfl) [59, 60, 61, 62, 63, 64, 65, 66, 67, 58, 68, 69, 16, 15] (by kernel_rfl) (by kernel_rfl) (by kernel_rfl) con9 (bA9 Y.heap.size n m bt a ca cap ccap C (two C m d0 d1) d0 (seeF n T (m + 1) (two C m d0 d1)) (runS n (initS T) (two C m d0 d1) (m + 1))) (fun _ _ wz => Below Y.heap.size Y wz) (Below.refl _ _).drew ?_ ?_
      · intro L s wz i o hG hL hcl hA hF hi' hl ha
        have keep : ∀ (i : Nat) (wz' : World), i ≠ 14 → Below wz.heap.size wz wz' → ∀ k x, bA9 Y.heap.size n m bt a ca cap ccap C (two C m d0 d1) d0 (seeF n T (m + 1) (two C m d0 d1)) (runS n (initS T) (two C m d0 d1) (m + 1)) L k x wz → bA9 Y.heap.size n m bt a ca cap ccap C (two C m d0 d1) d0 (seeF n T (m + 1) (two C m d0 d1)) (runS n (initS T) (two C m d0 d1) (m + 1)) (also L i) k x wz' := fun i wz' hne hb k x h => bA9_kept k h hb (by unfold also; simp [Ne.symm hne])
        have h99 : L 99 = false := by
          cases h : L 99 with
          | false => rfl
          | true => exact absurd (hL 99 h) (by decide)
        have up7 : L 7 = true → L 3 = true := fun h => hcl 7 _ h rfl { on := 3, ground := .data } (by simp) rfl
        have up8 : L 8 = true → L 7 = true := fun h => hcl 8 _ h rfl { on := 7, ground := .data } (by simp) rfl
        have up9 : L 9 = true → L 8 = true := fun h => hcl 9 _ h rfl { on := 8, ground := .data } (by simp) rfl
        have up10 : L 10 = true → L 9 = true := fun h => hcl 10 _ h rfl { on := 9, ground := .data } (by simp) rfl
        have up11 : L 11 = true → L 9 = true := fun h => hcl 11 _ h rfl { on := 9, ground := .data } (by simp) rfl
        have up13 : L 13 = true → L 10 = true := fun h => hcl 13 _ h rfl { on := 10, ground := .data } (by simp) rfl
        obtain _ | i := i
        · obtain rfl := Option.some.inj hi'
          exact opStep_value (v := s 0) (w' := wz) rfl ⟨hG, hF 0 (by decide), fun k _ _ _ h => keep 0 wz (by decide) (Below.refl _ _) k _ h⟩
        obtain _ | i := i
        · obtain rfl := Option.some.inj hi'
          have hb := below1 wz (Obj.cells #[] 61)
          refine opStep_value (v := .slice (some ⟨wz.heap.size, 0, none⟩) 0 0) (w' := wz.alloc (.cells #[] 61)) ?_ ⟨hG.trans (hb.mono hG.size), ⟨wz.heap.size, rfl, hG.size, heap_alloc_new _ _⟩, fun k _ _ _ h => keep 1 _ (by decide) hb k _ h⟩
          go_simp
        obtain _ | i := i
        · obtain rfl := Option.some.inj hi'
          exact opStep_value (v := s 1) (w' := wz) rfl ⟨hG, hF 1 (by decide), fun k _ _ _ h => keep 2 wz (by decide) (Below.refl _ _) k _ h⟩
        obtain _ | i := i
        · obtain rfl := Option.some.inj hi'
          have p1 : L 1 = true := ha { on := 1, ground := .data } (by simp) rfl
          have p2 : L 2 = true := ha { on := 2, ground := .data } (by simp) rfl
          have hl3 : L 3 = false := hl
          obtain ⟨g, e1, hg, ho⟩ : pRow0 Y.heap.size (s 60) wz := hA 1 p1 hl
          have e2 : s 61 = .slice ca m ccap := hA 2 p2 h99
          refine opStep_append (.tmp 60) (.tmp 61) 40 rfl Y.heap.size 61 i0 _ 4 56 Try.underlying40 hi hz0 hz1 hz2 rfl (by decide) (.slice (some ⟨g, 0, none⟩) 0 0) 0 [] e1 (own_empty hg ho) ca m ccap ((List.range (m * 4)).map (changeCell C)) e2 (by simp) (HCY.out.kept hG).news (fun h => by have h2 := HCY.out; rw [h] at h2; exact h2.zero) (changeCell_one _ _) (by unfold maxLen; omega) (by omega) hG.size ?_
          intro v' w' hown hgr
          rw [Nat.zero_add, List.nil_append] at hown
          refine ⟨hG.grown hgr hG.size (fun k hk => by cases hk; exact hg), hown, fun k hk hLk hlv hAk => bA9_app k hAk (fun _ hE => hE.grown hgr ho (by simp [changeCells])) (fun hB => hB.grown (own_empty hg ho) hgr) rfl ⟨?_, hk, ?_, ?_, ?_, ?_, ?_⟩⟩
          · rintro rfl; exact absurd hlv (by unfold live also con9; simp)
          · rintro rfl; rw [up7 hLk] at hl3; cases hl3
          · rintro rfl; rw [up7 (up8 hLk)] at hl3; cases hl3
          · rintro rfl; rw [up7 (up8 (up9 hLk))] at hl3; cases hl3
          · rintro rfl; rw [up7 (up8 (up9 (up10 hLk)))] at hl3; cases hl3
          · rintro rfl; rw [up7 (up8 (up9 (up10 (up13 hLk))))] at hl3; cases hl3
        obtain _ | i := i
        · obtain rfl := Option.some.inj hi'
          have e1 : s 14 = .pointer (some ⟨bt, 0, none⟩) := hF 14 (by decide)
          refine opStep_value (v := .pointer (some ⟨bt, 0, none⟩)) (w' := wz) ?_ ⟨hG, rfl, fun k _ _ _ h => keep 4 wz (by decide) (Below.refl _ _) k _ h⟩
          simp only [execOp, evalS, e1]
          go_simp
        obtain _ | i := i
        · obtain rfl := Option.some.inj hi'
          have p4 : L 4 = true := ha { on := 4, ground := .data } (by simp) rfl
          have e1 : s 63 = .pointer (some ⟨bt, 0, none⟩) := hA 4 p4 h99
          have hbz := blk_kept hG HY.out
          have k0 : wz.cell? ⟨bt, 0, none⟩ = some (.int .i64 d0.kind) := by simp [World.cell?, hbz]
          have k1 : wz.cell? ⟨bt, 1, none⟩ = some (.string d0.type) := by simp [World.cell?, hbz]
          have k2 : wz.cell? ⟨bt, 2, none⟩ = some (.string d0.field) := by simp [World.cell?, hbz]
          have k3 : wz.cell? ⟨bt, 3, none⟩ = some (.string d0.to) := by simp [World.cell?, hbz]
          refine opStep_value (v := changeV d0) (w' := wz) ?_ ⟨hG, rfl, fun k _ _ _ h => keep 5 wz (by decide) (Below.refl _ _) k _ h⟩
          simp only [execOp, evalS, e1]
          unfold changeV
          go_simp
        obtain _ | i := i
        · obtain rfl := Option.some.inj hi'
          have p5 : L 5 = true := ha { on := 5, ground := .data } (by simp) rfl
          have e1 : s 64 = changeV d0 := hA 5 p5 h99
          have hb := below1 wz (Obj.cells #[.int .i64 d0.kind, .string d0.type, .string d0.field, .string d0.to] 61)
          refine opStep_value (v := .slice (some ⟨wz.heap.size, 0, none⟩) 1 1) (w' := wz.alloc (.cells #[.int .i64 d0.kind, .string d0.type, .string d0.field, .string d0.to] 61)) ?_ ⟨hG.trans (hb.mono hG.size), ⟨wz.heap.size, rfl, heap_alloc_new _ _⟩, fun k _ _ _ h => keep 6 _ (by decide) hb k _ h⟩
          unfold changeV at e1
          simp only [execOp, List.map_toArray, List.map_cons, List.map_nil, evalS, e1]
          go_simp
        obtain _ | i := i
        · obtain rfl := Option.some.inj hi'
          have p3 : L 3 = true := ha { on := 3, ground := .data } (by simp) rfl
          have p6 : L 6 = true := ha { on := 6, ground := .data } (by simp) rfl
          have hl7 : L 7 = false := hl
          have e1 : Row wz Y.heap.size 61 4 (s 62) m (changeCell C) := hA 3 p3 hl
          obtain ⟨b, e2, ho⟩ : pEl 1 (changeCells d0).toArray (s 65) wz := hA 6 p6 hl
          refine opStep_append (.tmp 62) (.tmp 65) 40 rfl Y.heap.size 61 i0 _ 4 56 Try.underlying40 hi hz0 hz1 hz2 rfl (by decide) (s 62) m _ rfl e1 (some ⟨b, 0, none⟩) 1 1 (changeCells d0) e2 rfl (blk_news ho) (fun h => by cases h) (changeCells_one _) (by unfold maxLen; omega) (by omega) hG.size ?_
          intro v' w' hown hgr
          have hrow : Row w' Y.heap.size 61 4 v' (m + 1) (changeCell (two C m d0 d1)) := by
            unfold Row; rw [changeCell_succ, two_cells, two_0]; exact hown
          obtain ⟨a2, c2, hv2, hch⟩ := hrow.changesAt (by unfold maxLen; omega) (fun j hj => by
            by_cases hjm : j < m
            · rw [two_lt hjm]; obtain ⟨_, _, _, _, _, _, _, q⟩ := HCY.out.2 j hjm; exact q
            · rw [show j = m by omega, two_0]; exact HSD.out.1)
          refine ⟨hG.grown hgr hG.size (fun k hk => (e1.lt hk).1), ⟨a2, c2, hv2, hch⟩, fun k hk hLk hlv hAk => bA9_app k hAk (fun h6 => by subst h6; exact absurd hlv (by unfold live also con9; simp)) (fun hB => hB.grown e1 hgr) rfl ⟨?_, ?_, hk, ?_, ?_, ?_, ?_⟩⟩
          · rintro rfl
            have hlv' : (decide (3 = 7) || L 3) = false := hlv
            rw [p3] at hlv'; cases hlv'
          · rintro rfl; exact absurd hlv (by unfold live also con9; simp)
          · rintro rfl; rw [up8 hLk] at hl7; cases hl7
          · rintro rfl; rw [up8 (up9 hLk)] at hl7; cases hl7
          · rintro rfl; rw [up8 (up9 (up10 hLk))] at hl7; cases hl7
          · rintro rfl; rw [up8 (up9 (up10 (up13 hLk)))] at hl7; cases hl7
        obtain _ | i := i
        · obtain rfl := Option.some.inj hi'
          have p0 : L 0 = true := ha { on := 0, ground := .data } (by simp) rfl
          have p7 : L 7 = true := ha { on := 7, ground := .data } (by simp) rfl
          have e1 : s 59 = .slice a n cap := hA 0 p0 h99
          obtain ⟨a2, c2, e2, hch⟩ : pChs (m + 1) (two C m d0 d1) (s 66) wz := hA 7 p7 hl
          refine opStep_call 26 #[.tmp 59, .tmp 66] #[22, 40] rfl Try.e26 #[.slice a n cap, .slice a2 (m + 1) c2] (by simp [evalS, e1, e2]) ?_
          refine (see_any a a2 n cap (m + 1) c2 T (two C m d0 d1) wz (HTY.out.kept hG) hch hcap).mono ?_
          rintro e w' ⟨⟨v, rfl, -, hyes⟩, hb⟩
          exact ⟨_, rfl, hG.trans (hb.mono hG.size), ⟨v, rfl, fun h0 => ⟨_, hyes h0⟩⟩, fun k _ _ _ h => keep 8 _ (by decide) hb k _ h⟩
        obtain _ | i := i
        · obtain rfl := Option.some.inj hi'
          have p8 : L 8 = true := ha { on := 8, ground := .data } (by simp) rfl
          exact opStep_value (v := s 67) (w' := wz) rfl ⟨hG, hA 8 p8 h99, fun k _ _ _ h => keep 9 wz (by decide) (Below.refl _ _) k _ h⟩
        obtain _ | i := i
        · obtain rfl := Option.some.inj hi'
          have p9 : L 9 = true := ha { on := 9, ground := .data } (by simp) rfl
          obtain ⟨v, e1, hv⟩ : pTup n (seeF n T (m + 1) (two C m d0 d1)) (runS n (initS T) (two C m d0 d1) (m + 1)) (s 58) wz := hA 9 p9 h99
          refine opStep_value (v := v) (w' := wz) ?_ ⟨hG, hv, fun k _ _ _ h => keep 10 wz (by decide) (Below.refl _ _) k _ h⟩
          simp only [execOp, evalS, e1]
          go_simp
        obtain _ | i := i
        · obtain rfl := Option.some.inj hi'
          have p9 : L 9 = true := ha { on := 9, ground := .data } (by simp) rfl
          obtain ⟨v, e1, hv⟩ : pTup n (seeF n T (m + 1) (two C m d0 d1)) (runS n (initS T) (two C m d0 d1) (m + 1)) (s 58) wz := hA 9 p9 h99
          refine opStep_value (v := faultA (seeF n T (m + 1) (two C m d0 d1))) (w' := wz) ?_ ⟨hG, rfl, fun k _ _ _ h => keep 11 wz (by decide) (Below.refl _ _) k _ h⟩
          simp only [execOp, evalS, e1]
          go_simp
        obtain _ | i := i
        · obtain rfl := Option.some.inj hi'
          have hb := below1 wz (Obj.cells #[.int .i64 0, .int .i64 0] 30)
          have h14 : L 14 = false := by
            cases h : L 14 with
            | false => rfl
            | true =>
              have := hcl 14 _ h rfl { on := 12, ground := .data } (by simp) rfl
              have hl12 : L 12 = false := hl
              rw [this] at hl12; cases hl12
          refine opStep_value (v := .pointer (some ⟨wz.heap.size, 0, none⟩)) (w' := wz.alloc (.cells #[.int .i64 0, .int .i64 0] 30)) ?_ ⟨hG.trans (hb.mono hG.size), ⟨wz.heap.size, rfl, hG.size, ?_⟩, fun k _ _ _ h => keep 12 _ (by decide) hb k _ h⟩
          · go_simp
          · have : also L 12 14 = false := h14
            rw [this]; exact heap_alloc_new _ _
        obtain _ | i := i
        · obtain rfl := Option.some.inj hi'
          have p10 : L 10 = true := ha { on := 10, ground := .data } (by simp) rfl
          exact opStep_value (v := s 68) (w' := wz) rfl ⟨hG, hA 10 p10 h99, fun k _ _ _ h => keep 13 wz (by decide) (Below.refl _ _) k _ h⟩
        obtain _ | i := i
        · obtain rfl := Option.some.inj hi'
          have p12 : L 12 = true := ha { on := 12, ground := .data } (by simp) rfl
          have p11 : L 11 = true := ha { on := 11, ground := .data } (by simp) rfl
          have hl14 : L 14 = false := hl
          have e1 : s 69 = faultA (seeF n T (m + 1) (two C m d0 d1)) := hA 11 p11 h99
          obtain ⟨y, e2, hy, hbz⟩ : pBox Y.heap.size (L 14) (seeF n T (m + 1) (two C m d0 d1)) (s 16) wz := hA 12 p12 h99
          rw [hl14] at hbz
          obtain ⟨y0, y1, z0, z1⟩ := box_cells hbz
          have p8 := up9 (up11 p11)
          have p7 := up8 p8
          have p3 := up7 p7
          refine opStep_skip (w' := (wz.setCell ⟨y, 0, none⟩ (.int .i64 (seeF n T (m + 1) (two C m d0 d1)).1)).setCell ⟨y, 1, none⟩ (.int .i64 (seeF n T (m + 1) (two C m d0 d1)).2)) ?_ ⟨(hG.setCell hy _).setCell hy _, trivial, fun k hk hLk hlv hAk => bA9_store k hAk (fun v hv => hv.store hbz) ?_ ⟨?_, ?_, ?_, ?_⟩⟩
          · unfold faultA at e1
            simp only [execOp, evalS, e1, e2]
            go_simp
          · rintro rfl
            show pBox Y.heap.size (also L 14 14) _ (s 16) _
            rw [e2]; exact pBox.store hy hbz
          · rintro rfl
            have hlv' : (decide (3 = 14) || L 3) = false := hlv
            rw [p3] at hlv'; cases hlv'
          · rintro rfl
            have hlv' : (decide (7 = 14) || L 7) = false := hlv
            rw [p7] at hlv'; cases hlv'
          · rintro rfl
            have hlv' : (decide (7 = 14) || L 7) = false := hlv
            rw [p7] at hlv'; cases hlv'
          · rintro rfl
            have hlv' : (decide (8 = 14) || L 8) = false := hlv
            rw [p8] at hlv'; cases hlv'
        · exfalso
          have hlen : i + 1 + 1 + 1 + 1 + 1 + 1 + 1 + 1 + 1 + 1 + 1 + 1 + 1 + 1 + 1 < 15 := (List.getElem?_eq_some_iff.1 hi').1
          omega
      · intro L s wz hG hL hall hA
        have h99 : L 99 = false := by
          cases h : L 99 with
          | false => rfl
          | true => exact absurd (hL 99 h) (by decide)
        obtain ⟨y, e16, hy, hbz⟩ : pBox Y.heap.size (L 14) (seeF n T (m + 1) (two C m d0 d1)) (s 16) wz := hA 12 (hall 12 (by decide)) h99
        rw [show L 14 = true from hall 14 (by decide)] at hbz
        have hc := (box_cells hbz).1
        have HGz := Hid.intro hG
        simp only [putAll, Act.put, List.setIfInBounds_toArray, List.set_cons_succ, List.set_cons_zero]
        rw [e16]
        clear hA hall hL h99 e16 hbz hG
        generalize s 59 = x59
        generalize s 60 = x60
        generalize s 61 = x61
        generalize s 62 = x62
        generalize s 63 = x63
        generalize s 64 = x64
        generalize s 65 = x65
        generalize s 66 = x66
        generalize s 67 = x67
        generalize s 58 = x58
        generalize s 68 = x68
        generalize s 69 = x69
        generalize s 15 = x15
        have HP := Hid.intro (back_ok (n := n) (T := T) (C := C) (d0 := d0) (d1 := d1) (show m + 2 ≤ 12 by omega) (by rw [HR.out]; exact H1.out))
        generalize hh : seeF n T (m + 1) (two C m d0 d1) = h at *
        by_cases h9 : h.1 = 0
        case neg =>
          have h9b : (h.1 != 0) = true := by simpa using h9
          clear h9
          go_wp2_with fail
          go_roundw
          case rel => exact ⟨k + 1, by omega, by go_num, HBY.out.trans (HGz.out.mono HBY.out.size)⟩
          case measure => simp [intOf]; omega
        have h9b : (h.1 != 0) = false := by simpa using h9
        obtain ⟨hok, hsame⟩ := HP.out h9 HSD.out.2.2
        have HOK := Hid.intro hok
        have HSAME := Hid.intro hsame
        have HRb : Hid (RightS n (runS n (initS T) (two C m d0 d1) (m + 2))) := right_run (seeF_right hok) (m + 2)
        clear h9 hok hsame HP hh
        go_wp2_with fail
        clear hc
        have HTZ : Hid (TypesAt wz a n T) := HTY.out.kept HGz.out
        have HCZ : Hid (ChangesAt wz ca m C) := HCY.out.kept HGz.out
        have HYZ := Hid.intro (blk_kept HGz.out HY.out)
        have HBZ : Hid (Below X.heap.size X wz) := HBY.out.trans (HGz.out.mono HBY.out.size)
        clear HTY HCY HY HBY HGz
        generalize wz = Z at *
        refine wp_region_as (by kernel_rfl) (by kernel_rfl) [74, 75, 76, 77, 78, 79, 80, 81, 82, 83, 84, 73, 85, 86, 18, 17] (by kernel_rfl) (by kernel_rfl) (by kernel_rfl) con11 (bA11 Z.heap.size n m bt a ca cap ccap C (two C m d0 d1) d0 d1 (seeF n T (m + 2) (two C m d0 d1)) (runS n (initS T) (two C m d0 d1) (m + 2))) (fun _ _ wz => Below Z.heap.size Z wz) (Below.refl _ _).drew ?_ ?_
        · intro L s wz i o hG hL hcl hA hF hi' hl ha
          have keep : ∀ (i : Nat) (wz' : World), i ≠ 16 → Below wz.heap.size wz wz' → ∀ k x, bA11 Z.heap.size n m bt a ca cap ccap C (two C m d0 d1) d0 d1 (seeF n T (m + 2) (two C m d0 d1)) (runS n (initS T) (two C m d0 d1) (m + 2)) L k x wz → bA11 Z.heap.size n m bt a ca cap ccap C (two C m d0 d1) d0 d1 (seeF n T (m + 2) (two C m d0 d1)) (runS n (initS T) (two C m d0 d1) (m + 2)) (also L i) k x wz' := fun i wz' hne hb k x h => bA11_kept k h hb (by unfold also; simp [Ne.symm hne])
          have h99 : L 99 = false := by
            cases h : L 99 with
            | false => rfl
            | true => exact absurd (hL 99 h) (by decide)
          have up9 : L 9 = true → L 3 = true := fun h => hcl 9 _ h rfl { on := 3, ground := .data } (by simp) rfl
          have up10 : L 10 = true → L 9 = true := fun h => hcl 10 _ h rfl { on := 9, ground := .data } (by simp) rfl
          have up11 : L 11 = true → L 10 = true := fun h => hcl 11 _ h rfl { on := 10, ground := .data } (by simp) rfl
          have up12 : L 12 = true → L 11 = true := fun h => hcl 12 _ h rfl { on := 11, ground := .data } (by simp) rfl
          have up13 : L 13 = true → L 11 = true := fun h => hcl 13 _ h rfl { on := 11, ground := .data } (by simp) rfl
          have up15 : L 15 = true → L 12 = true := fun h => hcl 15 _ h rfl { on := 12, ground := .data } (by simp) rfl
          obtain _ | i := i
          · obtain rfl := Option.some.inj hi'
            exact opStep_value (v := s 0) (w' := wz) rfl ⟨hG, hF 0 (by decide), fun k _ _ _ h => keep 0 wz (by decide) (Below.refl _ _) k _ h⟩
          obtain _ | i := i
          · obtain rfl := Option.some.inj hi'
            have hb := below1 wz (Obj.cells #[] 61)
            refine opStep_value (v := .slice (some ⟨wz.heap.size, 0, none⟩) 0 0) (w' := wz.alloc (.cells #[] 61)) ?_ ⟨hG.trans (hb.mono hG.size), ⟨wz.heap.size, rfl, hG.size, heap_alloc_new _ _⟩, fun k _ _ _ h => keep 1 _ (by decide) hb k _ h⟩
            go_simp
          obtain _ | i := i
          · obtain rfl := Option.some.inj hi'
            exact opStep_value (v := s 1) (w' := wz) rfl ⟨hG, hF 1 (by decide), fun k _ _ _ h => keep 2 wz (by decide) (Below.refl _ _) k _ h⟩
          obtain _ | i := i
          · obtain rfl := Option.some.inj hi'
            have p1 : L 1 = true := ha { on := 1, ground := .data } (by simp) rfl
            have p2 : L 2 = true := ha { on := 2, ground := .data } (by simp) rfl
            have hl3 : L 3 = false := hl
            obtain ⟨g, e1, hg, ho⟩ : pRow0 Z.heap.size (s 75) wz := hA 1 p1 hl
            have e2 : s 76 = .slice ca m ccap := hA 2 p2 h99
            refine opStep_append (.tmp 75) (.tmp 76) 40 rfl Z.heap.size 61 i0 _ 4 56 Try.underlying40 hi hz0 hz1 hz2 rfl (by decide) (.slice (some ⟨g, 0, none⟩) 0 0) 0 [] e1 (own_empty hg ho) ca m ccap ((List.range (m * 4)).map (changeCell C)) e2 (by simp) (HCZ.out.kept hG).news (fun h => by have h2 := HCZ.out; rw [h] at h2; exact h2.zero) (changeCell_one _ _) (by unfold maxLen; omega) (by omega) hG.size ?_
            intro v' w' hown hgr
            rw [Nat.zero_add, List.nil_append] at hown
            refine ⟨hG.grown hgr hG.size (fun k hk => by cases hk; exact hg), hown, fun k hk hLk hlv hAk => bA11_app k hAk (fun _ hE => hE.grown hgr ho (by simp [changeCells])) (fun hB => hB.grown (own_empty hg ho) hgr) rfl ⟨?_, hk, ?_, ?_, ?_, ?_, ?_⟩⟩
            · rintro rfl; exact absurd hlv (by unfold live also con11; simp)
            · rintro rfl; rw [up9 hLk] at hl3; cases hl3
            · rintro rfl; rw [up9 (up10 hLk)] at hl3; cases hl3
            · rintro rfl; rw [up9 (up10 (up11 hLk))] at hl3; cases hl3
            · rintro rfl; rw [up9 (up10 (up11 (up12 hLk)))] at hl3; cases hl3
            · rintro rfl; rw [up9 (up10 (up11 (up12 (up15 hLk))))] at hl3; cases hl3
          obtain _ | i := i
          · obtain rfl := Option.some.inj hi'
            have e1 : s 14 = .pointer (some ⟨bt, 0, none⟩) := hF 14 (by decide)
            refine opStep_value (v := .pointer (some ⟨bt, 0, none⟩)) (w' := wz) ?_ ⟨hG, rfl, fun k _ _ _ h => keep 4 wz (by decide) (Below.refl _ _) k _ h⟩
            simp only [execOp, evalS, e1]
            go_simp
          obtain _ | i := i
          · obtain rfl := Option.some.inj hi'
            have p4 : L 4 = true := ha { on := 4, ground := .data } (by simp) rfl
            have e1 : s 78 = .pointer (some ⟨bt, 0, none⟩) := hA 4 p4 h99
            have hbz := blk_kept hG HYZ.out
            have k0 : wz.cell? ⟨bt, 0, none⟩ = some (.int .i64 d0.kind) := by simp [World.cell?, hbz]
            have k1 : wz.cell? ⟨bt, 1, none⟩ = some (.string d0.type) := by simp [World.cell?, hbz]
            have k2 : wz.cell? ⟨bt, 2, none⟩ = some (.string d0.field) := by simp [World.cell?, hbz]
            have k3 : wz.cell? ⟨bt, 3, none⟩ = some (.string d0.to) := by simp [World.cell?, hbz]
            refine opStep_value (v := changeV d0) (w' := wz) ?_ ⟨hG, rfl, fun k _ _ _ h => keep 5 wz (by decide) (Below.refl _ _) k _ h⟩
            simp only [execOp, evalS, e1]
            unfold changeV
            go_simp
          obtain _ | i := i
          · obtain rfl := Option.some.inj hi'
            have e1 : s 14 = .pointer (some ⟨bt, 0, none⟩) := hF 14 (by decide)
            refine opStep_value (v := .pointer (some ⟨bt, 4, none⟩)) (w' := wz) ?_ ⟨hG, rfl, fun k _ _ _ h => keep 6 wz (by decide) (Below.refl _ _) k _ h⟩
            simp only [execOp, evalS, e1]
            go_simp
          obtain _ | i := i
          · obtain rfl := Option.some.inj hi'
            have p6 : L 6 = true := ha { on := 6, ground := .data } (by simp) rfl
            have e1 : s 80 = .pointer (some ⟨bt, 4, none⟩) := hA 6 p6 h99
            have hbz := blk_kept hG HYZ.out
            have k0 : wz.cell? ⟨bt, 4, none⟩ = some (.int .i64 d1.kind) := by simp [World.cell?, hbz]
            have k1 : wz.cell? ⟨bt, 5, none⟩ = some (.string d1.type) := by simp [World.cell?, hbz]
            have k2 : wz.cell? ⟨bt, 6, none⟩ = some (.string d1.field) := by simp [World.cell?, hbz]
            have k3 : wz.cell? ⟨bt, 7, none⟩ = some (.string d1.to) := by simp [World.cell?, hbz]
            refine opStep_value (v := changeV d1) (w' := wz) ?_ ⟨hG, rfl, fun k _ _ _ h => keep 7 wz (by decide) (Below.refl _ _) k _ h⟩
            simp only [execOp, evalS, e1]
            unfold changeV
            go_simp
          obtain _ | i := i
          · obtain rfl := Option.some.inj hi'
            have p5 : L 5 = true := ha { on := 5, ground := .data } (by simp) rfl
            have p7 : L 7 = true := ha { on := 7, ground := .data } (by simp) rfl
            have e1 : s 79 = changeV d0 := hA 5 p5 h99
            have e2 : s 81 = changeV d1 := hA 7 p7 h99
            have hb := below1 wz (Obj.cells #[.int .i64 d0.kind, .string d0.type, .string d0.field, .string d0.to, .int .i64 d1.kind, .string d1.type, .string d1.field, .string d1.to] 61)
            refine opStep_value (v := .slice (some ⟨wz.heap.size, 0, none⟩) 2 2) (w' := wz.alloc (.cells #[.int .i64 d0.kind, .string d0.type, .string d0.field, .string d0.to, .int .i64 d1.kind, .string d1.type, .string d1.field, .string d1.to] 61)) ?_ ⟨hG.trans (hb.mono hG.size), ⟨wz.heap.size, rfl, heap_alloc_new _ _⟩, fun k _ _ _ h => keep 8 _ (by decide) hb k _ h⟩
            unfold changeV at e1 e2
            simp only [execOp, List.map_toArray, List.map_cons, List.map_nil, evalS, e1, e2]
            go_simp
          obtain _ | i := i
          · obtain rfl := Option.some.inj hi'
            have p3 : L 3 = true := ha { on := 3, ground := .data } (by simp) rfl
            have p8 : L 8 = true := ha { on := 8, ground := .data } (by simp) rfl
            have hl9 : L 9 = false := hl
            have e1 : Row wz Z.heap.size 61 4 (s 77) m (changeCell C) := hA 3 p3 hl
            obtain ⟨b, e2, ho⟩ : pEl 2 (changeCells d0 ++ changeCells d1).toArray (s 82) wz := hA 8 p8 hl
            refine opStep_append (.tmp 77) (.tmp 82) 40 rfl Z.heap.size 61 i0 _ 4 56 Try.underlying40 hi hz0 hz1 hz2 rfl (by decide) (s 77) m _ rfl e1 (some ⟨b, 0, none⟩) 2 2 (changeCells d0 ++ changeCells d1) e2 rfl (blk_news ho) (fun h => by cases h) (changeCells_two _ _) (by unfold maxLen; omega) (by omega) hG.size ?_
            intro v' w' hown hgr
            have hrow : Row w' Z.heap.size 61 4 v' (m + 2) (changeCell (two C m d0 d1)) := by
              unfold Row; rw [show m + 2 = m + 1 + 1 from rfl, changeCell_succ, changeCell_succ, two_cells, two_0, two_1, List.append_assoc]; exact hown
            obtain ⟨a2, c2, hv2, hch⟩ := hrow.changesAt (by unfold maxLen; omega) (fun j hj => by
              by_cases hjm : j < m
              · rw [two_lt hjm]; obtain ⟨_, _, _, _, _, _, _, q⟩ := HCZ.out.2 j hjm; exact q
              · by_cases hj2 : j = m
                · rw [hj2, two_0]; exact HSD.out.1
                · rw [show j = m + 1 by omega, two_1]; exact HSD.out.2.1)
            refine ⟨hG.grown hgr hG.size (fun k hk => (e1.lt hk).1), ⟨a2, c2, hv2, hch⟩, fun k hk hLk hlv hAk => bA11_app k hAk (fun h6 => by subst h6; exact absurd hlv (by unfold live also con11; simp)) (fun hB => hB.grown e1 hgr) rfl ⟨?_, ?_, hk, ?_, ?_, ?_, ?_⟩⟩
            · rintro rfl
              have hlv' : (decide (3 = 9) || L 3) = false := hlv
              rw [p3] at hlv'; cases hlv'
            · rintro rfl; exact absurd hlv (by unfold live also con11; simp)
            · rintro rfl; rw [up10 hLk] at hl9; cases hl9
            · rintro rfl; rw [up10 (up11 hLk)] at hl9; cases hl9
            · rintro rfl; rw [up10 (up11 (up12 hLk))] at hl9; cases hl9
            · rintro rfl; rw [up10 (up11 (up12 (up15 hLk)))] at hl9; cases hl9
          obtain _ | i := i
          · obtain rfl := Option.some.inj hi'
            have p0 : L 0 = true := ha { on := 0, ground := .data } (by simp) rfl
            have p9 : L 9 = true := ha { on := 9, ground := .data } (by simp) rfl
            have e1 : s 74 = .slice a n cap := hA 0 p0 h99
            obtain ⟨a2, c2, e2, hch⟩ : pChs (m + 2) (two C m d0 d1) (s 83) wz := hA 9 p9 hl
            refine opStep_call 26 #[.tmp 74, .tmp 83] #[22, 40] rfl Try.e26 #[.slice a n cap, .slice a2 (m + 2) c2] (by simp [evalS, e1, e2]) ?_
            refine (see_any a a2 n cap (m + 2) c2 T (two C m d0 d1) wz (HTZ.out.kept hG) hch hcap).mono ?_
            rintro e w' ⟨⟨v, rfl, -, hyes⟩, hb⟩
            exact ⟨_, rfl, hG.trans (hb.mono hG.size), ⟨v, rfl, fun h0 => ⟨_, hyes h0⟩⟩, fun k _ _ _ h => keep 10 _ (by decide) hb k _ h⟩
          obtain _ | i := i
          · obtain rfl := Option.some.inj hi'
            have p10 : L 10 = true := ha { on := 10, ground := .data } (by simp) rfl
            exact opStep_value (v := s 84) (w' := wz) rfl ⟨hG, hA 10 p10 h99, fun k _ _ _ h => keep 11 wz (by decide) (Below.refl _ _) k _ h⟩
          obtain _ | i := i
          · obtain rfl := Option.some.inj hi'
            have p11 : L 11 = true := ha { on := 11, ground := .data } (by simp) rfl
            obtain ⟨v, e1, hv⟩ : pTup n (seeF n T (m + 2) (two C m d0 d1)) (runS n (initS T) (two C m d0 d1) (m + 2)) (s 73) wz := hA 11 p11 h99
            refine opStep_value (v := v) (w' := wz) ?_ ⟨hG, hv, fun k _ _ _ h => keep 12 wz (by decide) (Below.refl _ _) k _ h⟩
            simp only [execOp, evalS, e1]
            go_simp
          obtain _ | i := i
          · obtain rfl := Option.some.inj hi'
            have p11 : L 11 = true := ha { on := 11, ground := .data } (by simp) rfl
            obtain ⟨v, e1, hv⟩ : pTup n (seeF n T (m + 2) (two C m d0 d1)) (runS n (initS T) (two C m d0 d1) (m + 2)) (s 73) wz := hA 11 p11 h99
            refine opStep_value (v := faultA (seeF n T (m + 2) (two C m d0 d1))) (w' := wz) ?_ ⟨hG, rfl, fun k _ _ _ h => keep 13 wz (by decide) (Below.refl _ _) k _ h⟩
            simp only [execOp, evalS, e1]
            go_simp
          obtain _ | i := i
          · obtain rfl := Option.some.inj hi'
            have hb := below1 wz (Obj.cells #[.int .i64 0, .int .i64 0] 30)
            have h16 : L 16 = false := by
              cases h : L 16 with
              | false => rfl
              | true =>
                have := hcl 16 _ h rfl { on := 14, ground := .data } (by simp) rfl
                have hl14 : L 14 = false := hl
                rw [this] at hl14; cases hl14
            refine opStep_value (v := .pointer (some ⟨wz.heap.size, 0, none⟩)) (w' := wz.alloc (.cells #[.int .i64 0, .int .i64 0] 30)) ?_ ⟨hG.trans (hb.mono hG.size), ⟨wz.heap.size, rfl, hG.size, ?_⟩, fun k _ _ _ h => keep 14 _ (by decide) hb k _ h⟩
            · go_simp
            · have : also L 14 16 = false := h16
              rw [this]; exact heap_alloc_new _ _
          obtain _ | i := i
          · obtain rfl := Option.some.inj hi'
            have p12 : L 12 = true := ha { on := 12, ground := .data } (by simp) rfl
            exact opStep_value (v := s 85) (w' := wz) rfl ⟨hG, hA 12 p12 h99, fun k _ _ _ h => keep 15 wz (by decide) (Below.refl _ _) k _ h⟩
          obtain _ | i := i
          · obtain rfl := Option.some.inj hi'
            have p14 : L 14 = true := ha { on := 14, ground := .data } (by simp) rfl
            have p13 : L 13 = true := ha { on := 13, ground := .data } (by simp) rfl
            have hl16 : L 16 = false := hl
            have e1 : s 86 = faultA (seeF n T (m + 2) (two C m d0 d1)) := hA 13 p13 h99
            obtain ⟨y, e2, hy, hbz⟩ : pBox Z.heap.size (L 16) (seeF n T (m + 2) (two C m d0 d1)) (s 18) wz := hA 14 p14 h99
            rw [hl16] at hbz
            obtain ⟨y0, y1, z0, z1⟩ := box_cells hbz
            have p10 := up11 (up13 p13)
            have p9 := up10 p10
            have p3 := up9 p9
            refine opStep_skip (w' := (wz.setCell ⟨y, 0, none⟩ (.int .i64 (seeF n T (m + 2) (two C m d0 d1)).1)).setCell ⟨y, 1, none⟩ (.int .i64 (seeF n T (m + 2) (two C m d0 d1)).2)) ?_ ⟨(hG.setCell hy _).setCell hy _, trivial, fun k hk hLk hlv hAk => bA11_store k hAk (fun v hv => hv.store hbz) ?_ ⟨?_, ?_, ?_, ?_⟩⟩
            · unfold faultA at e1
              simp only [execOp, evalS, e1, e2]
              go_simp
            · rintro rfl
              show pBox Z.heap.size (also L 16 16) _ (s 18) _
              rw [e2]; exact pBox.store hy hbz
            · rintro rfl
              have hlv' : (decide (3 = 16) || L 3) = false := hlv
              rw [p3] at hlv'; cases hlv'
            · rintro rfl
              have hlv' : (decide (9 = 16) || L 9) = false := hlv
              rw [p9] at hlv'; cases hlv'
            · rintro rfl
              have hlv' : (decide (9 = 16) || L 9) = false := hlv
              rw [p9] at hlv'; cases hlv'
            · rintro rfl
              have hlv' : (decide (10 = 16) || L 10) = false := hlv
              rw [p10] at hlv'; cases hlv'
          · exfalso
            have hlen : i + 1 + 1 + 1 + 1 + 1 + 1 + 1 + 1 + 1 + 1 + 1 + 1 + 1 + 1 + 1 + 1 + 1 < 17 := (List.getElem?_eq_some_iff.1 hi').1
            omega
        · intro L s wz hG hL hall hA
          have h99 : L 99 = false := by
            cases h : L 99 with
            | false => rfl
            | true => exact absurd (hL 99 h) (by decide)
          obtain ⟨y, e18, hy, hbz⟩ : pBox Z.heap.size (L 16) (seeF n T (m + 2) (two C m d0 d1)) (s 18) wz := hA 14 (hall 14 (by decide)) h99
          rw [show L 16 = true from hall 16 (by decide)] at hbz
          have hc := (box_cells hbz).1
          have hokv : OkV n (seeF n T (m + 2) (two C m d0 d1)) (runS n (initS T) (two C m d0 d1) (m + 2)) (s 17) wz := hA 15 (hall 15 (by decide)) h99
          obtain ⟨bb, fv6, ov6, hSb⟩ := hokv HOK.out
          obtain ⟨va6, vc6, e17, -⟩ := hSb.slice
          rw [e17] at hSb
          have HGz := Hid.intro hG
          have HSb := Hid.intro hSb
          simp only [putAll, Act.put, List.setIfInBounds_toArray, List.set_cons_succ, List.set_cons_zero]
          rw [e18, e17]
          clear hA hall hL h99 e18 e17 hbz hG hokv hSb
          generalize s 74 = x74
          generalize s 75 = x75
          generalize s 76 = x76
          generalize s 77 = x77
          generalize s 78 = x78
          generalize s 79 = x79
          generalize s 80 = x80
          generalize s 81 = x81
          generalize s 82 = x82
          generalize s 83 = x83
          generalize s 84 = x84
          generalize s 73 = x73
          generalize s 85 = x85
          generalize s 86 = x86
          have h11 := HOK.out
          generalize seeF n T (m + 2) (two C m d0 d1) = h11v at *
          have h11b : (h11v.1 != 0) = false := by simpa using h11
          generalize runS n (initS T) (two C m d0 d1) (m + 2) = Sb at *
          have HB6 : Hid (Below X.heap.size X wz) := HBZ.out.trans (HGz.out.mono HBZ.out.size)
          have hcl := types_any _ n _ fv ov _ wz (HSX.out.kept HB6.out) (by omega) (fun i hi => by have := (HRS.out.fld i hi).few; omega)
          clear h11
          go_wp2_with fail
          refine hcl.mono ?_
          clear hcl
          rintro e w7 ⟨⟨ta7, tc7, T7, rfl, htc7, hT7, hTA7⟩, hb7⟩
          have HB7 : Hid (Below X.heap.size X w7) := HB6.out.trans (hb7.mono HB6.out.size)
          have hcl := types_any _ n _ fv6 ov6 _ w7 (HSb.out.kept hb7) (by omega) (fun i hi => by have := (HRb.out.fld i hi).few; omega)
          have HT7 := Hid.intro hT7
          have HTA7 := Hid.intro hTA7
          clear hb7 hT7 hTA7 hc
          go_wp2_with fail
          refine hcl.mono ?_
          clear hcl
          rintro e w8 ⟨⟨ta8, tc8, T8, rfl, htc8, hT8, hTA8⟩, hb8⟩
          have HB8 : Hid (Below X.heap.size X w8) := HB7.out.trans (hb8.mono HB7.out.size)
          have hcl := sameTypes_any ta7 ta8 n tc7 tc8 T7 T8 w8 (HT7.out.kept hb8) hT8 (fun i hi => by
            obtain ⟨a1, a2, a3⟩ := HTA7.out i hi
            obtain ⟨b1, b2, b3⟩ := hTA8 i hi
            obtain ⟨c1, c2, c3⟩ := HSAME.out i hi
            rw [a1, a2, a3, b1, b2, b3]
            exact ⟨c1, c2, c3⟩)
          clear hb8 hT8 hTA8
          go_wp2_with fail
          refine hcl.mono ?_
          clear hcl
          rintro e w9 ⟨rfl, hb9⟩
          have HB9 : Hid (Below X.heap.size X w9) := HB8.out.trans (hb9.mono HB8.out.size)
          clear hb9
          go_wp2_with fail
          go_roundw
          case rel => exact ⟨k + 1, by omega, by go_num, HB9.out⟩
          case measure => simp [intOf]; omega
    · have HW := Hid.intro hw
      clear hw
      go_wp2_with fail
      go_ret
      exact ⟨rfl, HBX.out.trans (HW.out.mono HBX.out.size)⟩
end Go.Proofs.Ytjjggefmmeminaa
