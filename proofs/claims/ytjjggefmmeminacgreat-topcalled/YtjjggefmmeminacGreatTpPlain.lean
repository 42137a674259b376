import Derived.Test.YtjjggefmmeminacGreatJGp
import Derived.Test.YtjjggefmmeminacGreatQpPlain
import Derived.KernelRfl
/-
  People: names in one service, who is under whom in another one: plain.
-/
namespace Go.Proofs.YtjjggefmmeminacGreat
open Go.RowKit Go.Sort Go.PlainAid

/-- The key of a number. -/
def keyP (i : Nat) : ByteArray := ⟨#[117, UInt8.ofNat (97 + i / 20), UInt8.ofNat (97 + i % 20)]⟩
def bUser : ByteArray := ⟨#[117, 115, 101, 114]⟩
def bMan : ByteArray := ⟨#[109, 97, 110]⟩
def bName : ByteArray := ⟨#[110, 97, 109, 101]⟩
def bUnder : ByteArray := ⟨#[117, 110, 100, 101, 114]⟩
/-- A person's name. -/
def nameP (i : Nat) : ByteArray := ⟨#[78, 117, UInt8.ofNat (97 + i / 20), UInt8.ofNat (97 + i % 20)]⟩
/-- Where things lie: no matter. -/
structure Lie where
  a : Nat → Option Addr
  c : Nat → Nat
def pvA (z : Lie) (i : Nat) : LVal := ⟨bName, nameP i, z.a (6 * i), 0, z.c (6 * i), fun _ => ⟨#[]⟩⟩
def pvB (z : Lie) (nk : Nat) (K : Nat → ByteArray) (i : Nat) : LVal := ⟨bUnder, ⟨#[]⟩, z.a (6 * i + 1), nk, z.c (6 * i + 1), K⟩
def ptA (z : Lie) (i : Nat) : LThing := ⟨bUser, keyP i, z.a (6 * i + 2), 1, z.c (6 * i + 2), fun _ => pvA z i⟩
def ptB (z : Lie) (nk : Nat → Nat) (K : Nat → Nat → ByteArray) (i : Nat) : LThing := ⟨bMan, keyP i, z.a (6 * i + 3), 1, z.c (6 * i + 3), fun _ => pvB z (nk i) (K i) i⟩
def pyA (z : Lie) : LType := ⟨bUser, z.a 4, 1, z.c 4, fun _ => ⟨bName, 1, ⟨#[]⟩⟩⟩
def pyB (z : Lie) : LType := ⟨bMan, z.a 5, 1, z.c 5, fun _ => ⟨bUnder, 3, bMan⟩⟩
/-- People of whom number i has nk i under them. -/
def pplV (z y : Lie) (nA : Nat) (X : Nat → Nat) (nB : Nat) (nk : Nat → Nat) (K : Nat → Nat → ByteArray) (s : Nat) : LServ :=
  if s = 0 then ⟨y.a 0, 1, y.c 0, fun _ => pyA z, y.a 1, 0, y.c 1, fun _ => ⟨0, ⟨#[]⟩, ⟨#[]⟩, ⟨#[]⟩⟩, y.a 2, nA, y.c 2, fun i => ptA z (X i)⟩
  else ⟨y.a 3, 1, y.c 3, fun _ => pyB z, y.a 4, 1, y.c 4, fun _ => ⟨1, bMan, ⟨#[]⟩, bUser⟩, y.a 5, nB, y.c 5, fun i => ptB z nk K i⟩
def chainV (z y : Lie) (n : Nat) : Nat → LServ := pplV z y n id n (fun i => if i + 1 < n then 1 else 0) (fun i _ => keyP (i + 1))
/-- What is asked: names, so many levels down. -/
def chainK : (d : Nat) → Nat → List (Pick d)
  | 0, _ => []
  | _ + 1, 0 => [mkPick ⟨#[]⟩ bName []]
  | d + 1, deep + 1 => [mkPick ⟨#[]⟩ bName [], mkPick ⟨#[]⟩ bUnder (chainK d deep)]
/-- .. as a text. -/
def chainH : Nat → ByteArray
  | 0 => ⟨#[117, 115, 101, 114, 40, 117, 97, 97, 41, 123, 110, 97, 109, 101]⟩
  | deep + 1 => chainH deep ++ ⟨#[32, 117, 110, 100, 101, 114, 123, 110, 97, 109, 101]⟩
def chainE : Nat → ByteArray
  | 0 => ⟨#[125]⟩
  | deep + 1 => chainE deep ++ ⟨#[125]⟩
def thenAll (n : Nat) (p : Nat → Bool) : Bool := (List.range n).all p
theorem then_all {n : Nat} {p : Nat → Bool} (h : thenAll n p = true) {i : Nat} (hi : i < n) : p i = true := List.all_eq_true.1 h i (List.mem_range.2 hi)
def nthG {d : Nat} (S : List (List (Got d))) (j : Nat) : List (Got d) := S.getD j []
/-- What TopChain looks at: what is got, and how many requests there were. -/
def chainG (n : Nat) : (d : Nat) → Nat → Nat → List (Got d) → Nat → Bool
  | 0, _, _, _, _ => false
  | _ + 1, 0, i, g, q => decide (g.length = 1) && eqs (gText (gotN g 0)) (nameP i) && decide (q = 2 * (i + 1))
  | d + 1, deep + 1, i, g, q => decide (g.length = 2) && eqs (gText (gotN g 0)) (nameP i) && (if n ≤ i + 1 then decide ((gSubs (gotN g 1)).length = 0) && decide (q = 2 * (i + 1)) else decide ((gSubs (gotN g 1)).length = 1) && chainG n d deep (i + 1) (nthG (gSubs (gotN g 1)) 0) q)
def chainQ (z y : Lie) (n deep : Nat) : Bool := decide (meanE 2 (chainV z y n) 8 bUser (keyP 0) (chainK 8 deep) = 0) && chainG n 8 deep 0 (meanG 2 (chainV z y n) 8 bUser (keyP 0) (chainK 8 deep)) (reqs 2 (chainV z y n) 8 bUser (keyP 0) (chainK 8 deep)).length
set_option maxRecDepth 100000 in
theorem chain_all (z y : Lie) : thenAll 8 (fun deep => thenAll 30 (fun n => chainQ z y (n + 1) deep)) = true := by kernel_rfl
set_option maxRecDepth 100000 in
theorem chain_parse : ∀ deep, deep < 8 → parse (chainH deep ++ chainE deep) = .ok (bUser, keyP 0, chainK 8 deep)
  | 0, _ => by kernel_rfl
  | 1, _ => by kernel_rfl
  | 2, _ => by kernel_rfl
  | 3, _ => by kernel_rfl
  | 4, _ => by kernel_rfl
  | 5, _ => by kernel_rfl
  | 6, _ => by kernel_rfl
  | 7, _ => by kernel_rfl
  | n + 8, h => absurd h (by omega)
/-- Of people of whom each has the next one under them, so many levels down. -/
theorem chain_plain (z y : Lie) {n deep : Nat} (h1 : 1 ≤ n) (h2 : n ≤ 30) (h3 : deep < 8) : parse (chainH deep ++ chainE deep) = .ok (bUser, keyP 0, chainK 8 deep) ∧ chainQ z y n deep = true := by
  refine ⟨chain_parse deep h3, ?_⟩
  have := then_all (then_all (chain_all z y) h3) (i := n - 1) (by omega)
  rwa [show n - 1 + 1 = n by omega] at this

/-- Who has many under them. -/
def manyV (z y : Lie) (n : Nat) : Nat → LServ := pplV z y (n + 1) id (n + 1) (fun i => if i = 0 then n else if i < n then 1 else 0) (fun i j => if i = 0 then keyP (j + 1) else keyP (i + 1))
def manyK : List (Pick 8) := [mkPick ⟨#[]⟩ bUnder [mkPick ⟨#[]⟩ bName []]]
def manyT : ByteArray := ⟨#[117, 115, 101, 114, 40, 117, 97, 97, 41, 123, 117, 110, 100, 101, 114, 123, 110, 97, 109, 101, 125, 125]⟩
def manyG (n : Nat) (g : List (Got 8)) : Bool := decide (g.length = 1) && decide ((gSubs (gotN g 0)).length = n) && thenAll n (fun i => decide ((nthG (gSubs (gotN g 0)) i).length = 1) && eqs (gText (gotN (nthG (gSubs (gotN g 0)) i) 0)) (nameP (i + 1)))
def manyQ (z y : Lie) (n : Nat) : Bool := decide (meanE 2 (manyV z y n) 8 bUser (keyP 0) manyK = 0) && manyG n (meanG 2 (manyV z y n) 8 bUser (keyP 0) manyK) && decide ((reqs 2 (manyV z y n) 8 bUser (keyP 0) manyK).length = 4)
set_option maxRecDepth 100000 in
theorem many_all (z y : Lie) : thenAll 20 (fun n => manyQ z y (n + 1)) = true := by kernel_rfl
set_option maxRecDepth 100000 in
theorem many_parse : parse manyT = .ok (bUser, keyP 0, manyK) := by kernel_rfl
theorem many_plain (z y : Lie) {n : Nat} (h1 : 1 ≤ n) (h2 : n ≤ 20) : manyQ z y n = true := by
  have := then_all (many_all z y) (i := n - 1) (by omega)
  rwa [show n - 1 + 1 = n by omega] at this

/-- One of them has no name. -/
def halfV (z y : Lie) (n gone : Nat) : Nat → LServ := pplV z y (n - 1) (fun i => if i < gone then i else i + 1) n (fun i => if i + 1 < n then 1 else 0) (fun i _ => keyP (i + 1))
def halfK : List (Pick 8) := [mkPick ⟨#[]⟩ bName [], mkPick ⟨#[]⟩ bUnder [mkPick ⟨#[]⟩ bName []]]
def halfT (gone : Nat) : ByteArray := ⟨#[117, 115, 101, 114, 40]⟩ ++ keyP gone ++ ⟨#[41, 123, 110, 97, 109, 101, 32, 117, 110, 100, 101, 114, 123, 110, 97, 109, 101, 125, 125]⟩
def halfG (n gone : Nat) (g : List (Got 8)) : Bool := decide (g.length = 2) && gNull (gotN g 0) && emp (gText (gotN g 0)) && !gNull (gotN g 1) && decide ((gSubs (gotN g 1)).length = min 1 (n - 1 - gone))
def halfQ (z y : Lie) (n gone : Nat) : Bool := decide (meanE 2 (halfV z y n gone) 8 bUser (keyP gone) halfK = 0) && halfG n gone (meanG 2 (halfV z y n gone) 8 bUser (keyP gone) halfK)
set_option maxRecDepth 100000 in
theorem half_all (z y : Lie) : thenAll 20 (fun n => thenAll (n + 1) (fun gone => halfQ z y (n + 1) gone)) = true := by kernel_rfl
set_option maxRecDepth 100000 in
theorem half_parse : ∀ gone, gone < 20 → parse (halfT gone) = .ok (bUser, keyP gone, halfK)
  | 0, _ => by kernel_rfl
  | 1, _ => by kernel_rfl
  | 2, _ => by kernel_rfl
  | 3, _ => by kernel_rfl
  | 4, _ => by kernel_rfl
  | 5, _ => by kernel_rfl
  | 6, _ => by kernel_rfl
  | 7, _ => by kernel_rfl
  | 8, _ => by kernel_rfl
  | 9, _ => by kernel_rfl
  | 10, _ => by kernel_rfl
  | 11, _ => by kernel_rfl
  | 12, _ => by kernel_rfl
  | 13, _ => by kernel_rfl
  | 14, _ => by kernel_rfl
  | 15, _ => by kernel_rfl
  | 16, _ => by kernel_rfl
  | 17, _ => by kernel_rfl
  | 18, _ => by kernel_rfl
  | 19, _ => by kernel_rfl
  | n + 20, h => absurd h (by omega)
theorem half_plain (z y : Lie) {n gone : Nat} (h1 : 1 ≤ n) (h2 : n ≤ 20) (h3 : gone < n) : halfQ z y n gone = true := by
  have h4 := then_all (half_all z y) (i := n - 1) (by omega)
  rw [show n - 1 + 1 = n by omega] at h4
  exact then_all h4 h3
end Go.Proofs.YtjjggefmmeminacGreat
