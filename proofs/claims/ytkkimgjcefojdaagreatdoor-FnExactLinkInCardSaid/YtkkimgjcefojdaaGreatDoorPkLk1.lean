/- Texts of a proof that belong together, joined. Nothing here is a claim. -/
import Derived.WalkKit
import Derived.OwnWalk
import Derived.Laws.IdiomStrings
import Derived.Lib.BufferRead
import Derived.Deep.AppendLies
import Derived.KernelRfl
import Derived.Lib.Hide
import Derived.Shelf.Small.Strs
import Derived.Laws.OwnMore
import Derived.Lib.Join
import Derived.Lib.AppendStr
import Derived.Laws.Rows
import Derived.Below
import Derived.ScopeJumps
import Derived.WalkMore
import Derived.Laws.MakeOwn
import Derived.Test.YtkkimgjcefojdaaGreatDoorProg
import Derived.WalkSpells
import Derived.Deep.QuietTactic
import Derived.BigQuiet
import Derived.Deep.RegionLaw
import Derived.Outline
import Derived.WalkLawsBesides
namespace Go.Proofs.YtkkimgjcefojdaaGreatDoor
open Go.RowKit Go.Lib

/-- A row of bytes that the call owns, converted to a string. -/
theorem run_string_own {P : Program} {w : World} {base : Nat} {e src dst : TypeId} {v : Value} {n : Nat} {l : List UInt8} (hs : P.underlying src = some (.slice e)) (he : P.underlying e = some (.int .u8)) (hd : P.underlying dst = some .string)
  (h : w.ownsRow base e 1 v n (byteCells l)) : (convert src dst v).run P w = .ok (.string ⟨l.toArray⟩) w := by
 obtain ⟨hl, h⟩ := h
 rw [byteCells_length] at hl
 rcases h with ⟨rfl, rfl⟩ | ⟨g, cap, cur, rfl, _, hg, _, _, _, htk⟩
 ·have : l = [] := by cases l <;> simp_all
  subst this
  exact run_convert_nil_bytes w src dst e 0 hs he hd
 ·have : n = l.length := by omega
  subst this
  exact run_convert_bytes_back w src dst e ⟨g, 0, none⟩ cap l hs he hd (bytes_of_row hg (by simpa using htk))

end Go.Proofs.YtkkimgjcefojdaaGreatDoor
namespace Go.Proofs.YtkkimgjcefojdaaGreatDoor
open Go.RowKit Go.Lib

theorem ret_bool {a b : Bool} (h : a = b) : Ending.returned (.bool a) = .returned (.bool b) := by rw [h]

/-- Whether n is a word of so many bits. -/
def wordOk (n b : Int) : Bool := decide ((1 ≤ b ∧ b ≤ 62) ∧ 0 ≤ n ∧ n < 2 ^ b.toNat)

theorem pow_le62 (k : Nat) (h : k ≤ 62) : (2 : Int) ^ k ≤ 4611686018427387904 := by
 have h1 : 2 ^ k ≤ 2 ^ 62 := Nat.pow_le_pow_right (by decide) h
 have h2 : ((2 ^ k : Nat) : Int) ≤ ((2 ^ 62 : Nat) : Int) := by exact_mod_cast h1
 simpa using h2
theorem pow_pos2 (k : Nat) : (1 : Int) ≤ 2 ^ k := by
 have h : (0 : Int) < 2 ^ k := Int.pow_pos (by decide)
 omega
theorem div_zero_iff (n : Int) (k : Nat) (h : 0 ≤ n) : n / 2 ^ k = 0 ↔ n < 2 ^ k := by
 have hp := pow_pos2 k
 constructor
 ·intro h1
  have h2 := Int.emod_lt_of_pos n (show (0 : Int) < 2 ^ k by omega)
  have h3 := Int.mul_ediv_add_emod n (2 ^ k)
  rw [h1] at h3; omega
 ·intro h1; exact Int.ediv_eq_zero_of_lt h h1
theorem wordOk_bd {n b : Int} (h : wordOk n b = true) : 0 ≤ n ∧ n ≤ 4611686018427387903 := by
 have h := of_decide_eq_true h
 have := pow_le62 b.toNat (by omega)
 omega
end Go.Proofs.YtkkimgjcefojdaaGreatDoor
namespace Go.Proofs.YtkkimgjcefojdaaGreatDoor
open Go.RowKit Go.Lib

/-- The value of a hexadecimal digit, or -1. -/
def half (c : UInt8) : Int := if 48 ≤ c.toNat ∧ c.toNat ≤ 57 then (c.toNat : Int) - 48 else if 97 ≤ c.toNat ∧ c.toNat ≤ 102 then (c.toNat : Int) - 97 + 10 else -1
/-- Byte number k of s. -/
def at8 (s : ByteArray) (k : Nat) : UInt8 := s.data.toList.getD k 0
theorem at8_eq (s : ByteArray) (k : Nat) (h : k < s.size) : s[k] = at8 s k := by
 have h2 : k < s.data.toList.length := by simpa using h
 unfold at8; rw [List.getD_eq_getElem?_getD, List.getElem?_eq_getElem h2]; rfl

def pairOk (s : ByteArray) (j : Nat) : Prop := 0 ≤ half (at8 s (2 * j)) ∧ 0 ≤ half (at8 s (2 * j + 1))
open Classical in
/-- What is known at the head of a round. -/
def Read (s : ByteArray) (j k : Nat) : Prop := k = 2 * j ∧ ∀ i, i < j → pairOk s i
theorem Read.next {s : ByteArray} {j k : Nat} (h : Read s j k) (h1 : 0 ≤ half (at8 s k)) (h2 : 0 ≤ half (at8 s (k + 1))) : Read s (j + 1) (k + 2) := by
 obtain ⟨rfl, hp⟩ := h
 refine ⟨by omega, fun i hi => ?_⟩
 by_cases e : i = j
 ·subst e; exact ⟨h1, h2⟩
 ·exact hp i (by omega)
end Go.Proofs.YtkkimgjcefojdaaGreatDoor
namespace Go.Proofs.YtkkimgjcefojdaaGreatDoor
open Go.RowKit Go.Lib

/-- Byte number i of the k bytes of the word m. -/
def wbAt (m k i : Nat) : UInt8 := UInt8.ofNat (m / 256 ^ (k - 1 - i))
/-- The k bytes of the word m. -/
def wb (m k : Nat) : List UInt8 := (List.range k).map (wbAt m k)
theorem wb_length (m k : Nat) : (wb m k).length = k := by simp [wb]
theorem wb_get (m k i : Nat) (h : i < k) : (wb m k)[i]? = some (wbAt m k i) := by simp [wb, h]

/-- What PutWord answers. -/
def putW (n s : Int) : ByteArray := if (1 ≤ s ∧ s ≤ 6) ∧ 0 ≤ n ∧ n < 2 ^ (8 * s).toNat then ⟨(wb n.toNat s.toNat).toArray⟩ else ⟨#[]⟩
theorem putW_no (n s : Int) (h : ¬ (1 ≤ s ∧ s ≤ 6)) : putW n s = ⟨#[]⟩ := by unfold putW; rw [if_neg (fun hh => h hh.1)]
theorem putW_ok (n s : Int) (h : 1 ≤ s ∧ s ≤ 6) (hw : wordOk n (8 * s) = false) : putW n s = ⟨#[]⟩ := by
 unfold putW; rw [if_neg]
 intro hh
 unfold wordOk at hw
 exact of_decide_eq_false hw ⟨⟨by omega, by omega⟩, hh.2⟩
theorem putW_yes (n s : Int) (h : 1 ≤ s ∧ s ≤ 6) (hw : wordOk n (8 * s) = true) : putW n s = ⟨(wb n.toNat s.toNat).toArray⟩ := by
 unfold putW
 unfold wordOk at hw
 rw [if_pos ⟨h, (of_decide_eq_true hw).2⟩]

theorem pow8 (d : Nat) : 2 ^ (8 * d) = 256 ^ d := by rw [Nat.pow_mul]
theorem put_shift' (m k i : Nat) : (m : Int) / 2 ^ (8 * (k - 1 - i)) % 256 = ((wbAt m k i).toNat : Int) := by
 have e : (m : Int) / 2 ^ (8 * (k - 1 - i)) = ((m / 256 ^ (k - 1 - i) : Nat) : Int) := by rw [← pow8]; simp
 rw [e]; unfold wbAt; rw [UInt8.toNat_ofNat']; simp
theorem put_rem (m k i : Nat) : ((m / 256 ^ (k - 1 - i) : Nat) : Int) % 256 = ((wbAt m k i).toNat : Int) := by
 unfold wbAt; rw [UInt8.toNat_ofNat']; simp
theorem put_next (m k i : Nat) (h : i + 1 < k) : m / 256 ^ (k - 1 - (i + 1)) / 256 = m / 256 ^ (k - 1 - i) := by
 rw [Nat.div_div_eq_div_mul, ← Nat.pow_succ, show (k - 1 - (i + 1)).succ = k - 1 - i by omega]
/-- The cells of a row: those of which p speaks are filled. -/
def Fill (xs : List Value) (m k : Nat) (p : Nat → Prop) : Prop := xs.length = k ∧ ∀ j, j < k → p j → xs[j]? = some (.int .u8 (wbAt m k j).toNat)
theorem Fill.set {xs : List Value} {m k : Nat} {p q : Nat → Prop} (h : Fill xs m k p) {i : Nat} {x : Int} (hx : x = ((wbAt m k i).toNat : Int)) (hi : i < k) (hq : ∀ j, q j → j = i ∨ p j) : Fill (xs.set i (.int .u8 x)) m k q := by
 refine ⟨by simpa using h.1, fun j hj hqj => ?_⟩
 by_cases e : i = j
 ·subst e; rw [List.getElem?_set_self (by rw [h.1]; exact hi), hx]
 ·rw [List.getElem?_set_ne e]
  exact h.2 j hj ((hq j hqj).resolve_left (fun x => e x.symm))
theorem Fill.all {xs : List Value} {m k : Nat} {p : Nat → Prop} (h : Fill xs m k p) (hp : ∀ j, j < k → p j) : xs = byteCells (wb m k) := by
 apply List.ext_getElem?
 intro j
 by_cases hj : j < k
 ·rw [h.2 j hj (hp j hj)]; simp [byteCells, wb_get m k j hj]
 ·rw [List.getElem?_eq_none (by rw [h.1]; omega), List.getElem?_eq_none (by simp [byteCells, wb_length]; omega)]
theorem Fill.made (m k : Nat) (z : Value) (p : Nat → Prop) (hp : ∀ j, j < k → ¬ p j) : Fill (madeCells z.cells (k * 1)).toList m k p := by
 refine ⟨?_, fun j hj h => absurd h (hp j hj)⟩
 simp [madeCells]
theorem Fill.at {xs : List Value} {m k : Nat} {p : Nat → Prop} (h : Fill xs m k p) (j : Nat) (hj : j < k) : ∃ v, xs[j]? = some v := ⟨xs[j]'(by rw [h.1]; exact hj), List.getElem?_eq_getElem _⟩
theorem below_made {w w1 : World} (h : w.grownBy w1 none) : Below w.heap.size w w1 := (Below.refl _ _).grown h (Nat.le_refl _) (fun j hj => by cases hj)
theorem putW_le (n s : Int) : (putW n s).size ≤ 6 := by
 unfold putW
 split
 ·rename_i h
  show (wb n.toNat s.toNat).toArray.size ≤ 6
  rw [List.size_toArray, wb_length]; omega
 ·decide
end Go.Proofs.YtkkimgjcefojdaaGreatDoor
namespace Go.Proofs.YtkkimgjcefojdaaGreatDoor
open Go.RowKit Go.Lib

/-- The first j bytes of s from a on, read as a word. -/
def gw (s : ByteArray) (a : Nat) : Nat → Nat
 | 0 => 0
 | j + 1 => 256 * gw s a j + (at8 s (a + j)).toNat
theorem gw_lt (s : ByteArray) (a j : Nat) : gw s a j < 256 ^ j := by
 induction j with
 | zero => simp [gw]
 | succ j ih =>
  have h := (at8 s (a + j)).toNat_lt
  simp only [gw, Nat.pow_succ]; omega
theorem gw_bd5 (s : ByteArray) (a j : Nat) (h : j < 6) : gw s a j ≤ 1099511627775 := by
 have h1 := gw_lt s a j
 have h2 : 256 ^ j ≤ 1099511627776 := Nat.le_trans (Nat.pow_le_pow_right (by decide) (show j ≤ 5 by omega)) (by decide)
 omega

/-- What GetWord answers. -/
def getW (s : ByteArray) (a n : Int) : Int × Bool := if (1 ≤ n ∧ n ≤ 6) ∧ 0 ≤ a ∧ a ≤ s.size - n then (gw s a.toNat n.toNat, true) else (0, false)
theorem getW_no (s : ByteArray) (a n : Int) (h : ¬ (1 ≤ n ∧ n ≤ 6)) : getW s a n = (0, false) := by unfold getW; rw [if_neg (fun hh => h hh.1)]
theorem getW_no2 (s : ByteArray) (a n : Int) (h : ¬ (0 ≤ a ∧ a ≤ s.size - n)) : getW s a n = (0, false) := by unfold getW; rw [if_neg (fun hh => h hh.2)]
theorem getW_yes (s : ByteArray) (a n : Nat) (h : 1 ≤ n ∧ n ≤ 6) (h2 : a + n ≤ s.size) : getW s a n = ((gw s a n : Int), true) := by
 unfold getW; rw [if_pos ⟨by omega, by omega, by omega⟩]; simp

/-- A byte put behind a word. -/
theorem or_byte (x b : Nat) (hx : x ≤ 1099511627775) (hb : b < 256) : bits .or .i64 ((x : Int) * 256) (b : Int) = ((256 * x + b : Nat) : Int) := by
 have h1 : (BitVec.ofInt 64 ((x : Int) * 256)).toNat = x * 256 := by
  rw [show (x : Int) * 256 = ((x * 256 : Nat) : Int) by simp, BitVec.ofInt_natCast, BitVec.toNat_ofNat]; exact Nat.mod_eq_of_lt (by omega)
 have h2 : (BitVec.ofInt 64 (b : Int)).toNat = b := by
  rw [BitVec.ofInt_natCast, BitVec.toNat_ofNat]; exact Nat.mod_eq_of_lt (by omega)
 have h4 : (BitVec.ofInt 64 ((x : Int) * 256) ||| BitVec.ofInt 64 (b : Int)).toNat = 256 * x + b := by
  rw [BitVec.toNat_or, h1, h2]
  have h := Nat.shiftLeft_add_eq_or_of_lt (show b < 2 ^ 8 by omega) x
  rw [Nat.shiftLeft_eq] at h
  rw [show x * 256 = x * 2 ^ 8 by rfl, ← h]; omega
 have h3 : bits .or .i64 ((x : Int) * 256) (b : Int) = IntKind.i64.wrap ((BitVec.ofInt 64 ((x : Int) * 256) ||| BitVec.ofInt 64 (b : Int)).toNat : Int) := rfl
 rw [h3, h4, IntKind.wrap_i64]
 omega
end Go.Proofs.YtkkimgjcefojdaaGreatDoor
namespace Go.Proofs.YtkkimgjcefojdaaGreatDoor
open Go.RowKit Go.Lib

theorem wbAt_nat (m k i : Nat) : (wbAt m k i).toNat = m / 256 ^ (k - 1 - i) % 256 := by unfold wbAt; rw [UInt8.toNat_ofNat']
end Go.Proofs.YtkkimgjcefojdaaGreatDoor
namespace Go.Proofs.YtkkimgjcefojdaaGreatDoor
open Go.RowKit Go.Lib

end Go.Proofs.YtkkimgjcefojdaaGreatDoor
namespace Go.Proofs.YtkkimgjcefojdaaGreatDoor
open Go.RowKit Go.Lib

/-- The slice at a (nil or not) reads as xs, one cell an element, all of it below block B. -/
def Row (w : World) (B : Nat) (a : Option Addr) (xs : List Value) : Prop :=
 xs ≠ [] → ∃ b off, a = some ⟨b, off, none⟩ ∧ b < B ∧ ∀ j u, xs[j]? = some u → w.cell? ⟨b, off + j, none⟩ = some u
theorem Row.nil {w : World} {B : Nat} {a : Option Addr} : Row w B a [] := fun h => absurd rfl h
theorem Row.below {w w' : World} {B : Nat} {a : Option Addr} {xs : List Value} (h : Row w B a xs) (hb : Below B w w') : Row w' B a xs := fun hx => by
 obtain ⟨b, off, ha, hB, hc⟩ := h hx
 exact ⟨b, off, ha, hB, fun j u hu => (hb.cell (p := ⟨b, off + j, none⟩) hB).trans (hc j u hu)⟩
theorem Row.mono {w : World} {B B' : Nat} {a : Option Addr} {xs : List Value} (h : Row w B a xs) (hB : B ≤ B') : Row w B' a xs := fun hx => by
 obtain ⟨b, off, ha, hb, hc⟩ := h hx
 exact ⟨b, off, ha, Nat.lt_of_lt_of_le hb hB, hc⟩
theorem Row.own {w : World} {base : Nat} {e : TypeId} {n cap g : Nat} {xs : List Value} (h : w.ownsRow base e 1 (.slice (some ⟨g, 0, none⟩) n cap) n xs) : Row w w.heap.size (some ⟨g, 0, none⟩) xs := fun hx => by
 have hn : 0 < n := by have := h.1; have := List.length_pos_iff.2 hx; omega
 obtain ⟨g', cap', hv, _, hlt⟩ := h.form hn
 have e : g = g' := by injection hv with h1; injection h1 with h1; injection h1
 subst e
 refine ⟨g, 0, rfl, hlt, fun j u hu => ?_⟩
 have := h.cells (g := g) rfl j u hu
 rw [Nat.zero_add]
 rwa [show (⟨g, 0, none⟩ : Addr).add j = ⟨g, j, none⟩ by unfold Addr.add; split <;> simp_all] at this

end Go.Proofs.YtkkimgjcefojdaaGreatDoor
namespace Go.Proofs.YtkkimgjcefojdaaGreatDoor
open Go.RowKit Go.Lib

theorem row_at {w : World} {r k : Nat} {cs : Array Value} {t : TypeId} (h : w.heap[r]? = some (.cells cs t (0, 0))) (hk : k < cs.size) : w.cell? ⟨r, k, none⟩ = some cs[k] := by
 rw [cell_of_row w r k cs t (0, 0) h]; simp [hk]
end Go.Proofs.YtkkimgjcefojdaaGreatDoor
namespace Go.Proofs.YtkkimgjcefojdaaGreatDoor
open Go.RowKit Go.Lib

/-- What Folded answers. -/
def foldI (n : Int) : Int := if n ≤ 0 then 0 else (n - 1) % 65535 + 1
theorem foldI_neg (n : Int) (h : n < 0) : foldI n = 0 := by unfold foldI; rw [if_pos (by omega)]
theorem foldI_small (n : Int) (h0 : 0 ≤ n) (h : n ≤ 65535) : foldI n = n := by unfold foldI; split <;> omega
theorem foldI_step (n : Int) (h : 65535 < n) : foldI (n / 65536 + n % 65536) = foldI n := by
 unfold foldI; rw [if_neg (by omega), if_neg (by omega)]; omega
theorem foldI_bd (n : Int) : 0 ≤ foldI n ∧ foldI n ≤ 65535 := by unfold foldI; split <;> omega
theorem and_mask (n : Int) (h0 : 0 ≤ n) (h : n ≤ 9223372036854775807) : bits .and .i64 n 65535 = n % 65536 := by
 obtain ⟨m, rfl⟩ : ∃ m : Nat, n = (m : Int) := ⟨n.toNat, by omega⟩
 have h1 : (BitVec.ofInt 64 (m : Int)).toNat = m := by
  rw [BitVec.ofInt_natCast, BitVec.toNat_ofNat]; exact Nat.mod_eq_of_lt (by omega)
 have h2 : (BitVec.ofInt 64 (65535 : Int)).toNat = 65535 := by decide
 have h4 : (BitVec.ofInt 64 (m : Int) &&& BitVec.ofInt 64 (65535 : Int)).toNat = m % 65536 := by
  rw [BitVec.toNat_and, h1, h2]; exact Nat.and_two_pow_sub_one_eq_mod m 16
 have h3 : bits .and .i64 (m : Int) 65535 = IntKind.i64.wrap ((BitVec.ofInt 64 (m : Int) &&& BitVec.ofInt 64 (65535 : Int)).toNat : Int) := rfl
 rw [h3, h4, IntKind.wrap_i64]
 omega

/-- The sum of bytes as words, the first of which counts 256 fold (if b). -/
def sm : Bool → List UInt8 → Nat
 | _, [] => 0
 | b, x :: xs => (if b then 256 else 1) * x.toNat + sm (!b) xs
/-- Which of the two places the byte behind n bytes has. -/
def flip (b : Bool) (n : Nat) : Bool := if n % 2 = 0 then b else !b
theorem flip_succ (b : Bool) (n : Nat) : flip (!b) n = flip b (n + 1) := by
 unfold flip
 rcases Nat.mod_two_eq_zero_or_one n with h | h
 ·rw [if_pos h, if_neg (by omega)]
 ·rw [if_neg (by omega), if_pos (by omega)]; simp
theorem sm_append (b : Bool) (l m : List UInt8) : sm b (l ++ m) = sm b l + sm (flip b l.length) m := by
 induction l generalizing b with
 | nil => simp [sm, flip]
 | cons x xs ih => simp only [List.cons_append, sm, ih, List.length_cons, flip_succ]; omega
theorem sm_bd (b : Bool) (l : List UInt8) : sm b l ≤ 65280 * l.length := by
 induction l generalizing b with
 | nil => simp [sm]
 | cons x xs ih =>
  have h := ih (!b)
  have hx := x.toNat_lt
  simp only [sm, List.length_cons]
  cases b <;> simp at h ⊢ <;> omega
/-- What WordSum answers. -/
def wsum (s : ByteArray) : Nat := sm true s.data.toList
/-- The sum of the first k bytes. -/
def psum (s : ByteArray) (k : Nat) : Nat := sm true (s.data.toList.take k)
theorem psum_zero (s : ByteArray) : psum s 0 = 0 := by simp [psum, sm]
theorem psum_all (s : ByteArray) : psum s s.size = wsum s := by
 unfold psum wsum; rw [List.take_of_length_le (by simp)]
theorem psum_next (s : ByteArray) (k : Nat) (h : k < s.size) : psum s (k + 1) = psum s k + (if k % 2 = 0 then 256 else 1) * s[k].toNat := by
 have hl : k < s.data.toList.length := by simpa using h
 have e : s.data.toList[k] = s[k] := by simp [ByteArray.getElem_eq_getElem_data]
 unfold psum
 rw [List.take_succ_eq_append_getElem hl, sm_append, e, List.length_take, Nat.min_eq_left (by omega)]
 unfold flip
 rcases Nat.mod_two_eq_zero_or_one k with h | h
 ·rw [if_pos h, if_pos h]; simp [sm]
 ·rw [if_neg (by omega), if_neg (by omega)]; simp [sm]
theorem psum_bd (s : ByteArray) (k : Nat) : psum s k ≤ 65280 * k := by
 refine Nat.le_trans (sm_bd _ _) (Nat.mul_le_mul_left _ ?_)
 rw [List.length_take]; omega
theorem psum_even (s : ByteArray) (k : Nat) (h : k < s.size) (he : k % 2 = 0) : psum s (k + 1) = psum s k + 256 * s[k].toNat := by
 rw [psum_next s k h, if_pos he]
theorem psum_odd (s : ByteArray) (k : Nat) (h : k < s.size) (he : k % 2 = 1) : psum s (k + 1) = psum s k + s[k].toNat := by
 rw [psum_next s k h, if_neg (by omega), Nat.one_mul]
theorem wsum_bd (s : ByteArray) : wsum s ≤ 65280 * s.size := by rw [← psum_all]; exact psum_bd s _
/-- What SumOf answers. -/
def sumOf (s : ByteArray) : Int := 65535 - foldI (wsum s)
/-- What SumRight answers. -/
def sumRight (s : ByteArray) : Bool := decide (sumOf s = 0)
end Go.Proofs.YtkkimgjcefojdaaGreatDoor
namespace Go.Proofs.YtkkimgjcefojdaaGreatDoor
open Go.RowKit Go.Lib

end Go.Proofs.YtkkimgjcefojdaaGreatDoor
namespace Go.Proofs.YtkkimgjcefojdaaGreatDoor
open Go.RowKit Go.Lib

/-- The block g holds these cells. -/
def HasC (w : World) (g : Nat) (vs : List Value) : Prop := g < w.heap.size ∧ ∀ (j : Nat) (v : Value), vs[j]? = some v → w.cell? ⟨g, j, none⟩ = some v
theorem HasC.new (w : World) (cs : Array Value) (t : TypeId) : HasC (w.alloc (.cells cs t)) w.heap.size cs.toList := by
 refine ⟨by simp, fun j v h => ?_⟩
 obtain ⟨hj, rfl⟩ := List.getElem?_eq_some_iff.1 h
 simp
theorem HasC.keep {w w' : World} {g : Nat} {vs : List Value} (h : HasC w g vs) (hb : Below w.heap.size w w') : HasC w' g vs :=
 ⟨Nat.lt_of_lt_of_le h.1 hb.size, fun j v hj => (hb.cell (p := ⟨g, j, none⟩) h.1).trans (h.2 j v hj)⟩
theorem HasC.alloc {w : World} {g : Nat} {vs : List Value} (h : HasC w g vs) (o : Obj) : HasC (w.alloc o) g vs := h.keep ((Below.refl _ _).alloc (Nat.le_refl _) o)
theorem HasC.drew {w : World} {g : Nat} {vs : List Value} (h : HasC w g vs) : HasC w.drew g vs := h
theorem HasC.four {w : World} {g : Nat} {v0 v1 v2 v3 : Value} (h : HasC w g [v0, v1, v2, v3]) : w.cell? ⟨g, 0, none⟩ = some v0 ∧ w.cell? ⟨g, 1, none⟩ = some v1 ∧ w.cell? ⟨g, 2, none⟩ = some v2 ∧ w.cell? ⟨g, 3, none⟩ = some v3 :=
 ⟨h.2 0 _ rfl, h.2 1 _ rfl, h.2 2 _ rfl, h.2 3 _ rfl⟩
/-- Four cells of a block, kept over a call that makes memory of its own. -/
theorem keep4 {w w' : World} {g : Nat} {v0 v1 v2 v3 : Value} (h : g < w.heap.size ∧ w.cell? ⟨g, 0, none⟩ = some v0 ∧ w.cell? ⟨g, 1, none⟩ = some v1 ∧ w.cell? ⟨g, 2, none⟩ = some v2 ∧ w.cell? ⟨g, 3, none⟩ = some v3) (hb : Below w.heap.size w w') :
  g < w'.heap.size ∧ w'.cell? ⟨g, 0, none⟩ = some v0 ∧ w'.cell? ⟨g, 1, none⟩ = some v1 ∧ w'.cell? ⟨g, 2, none⟩ = some v2 ∧ w'.cell? ⟨g, 3, none⟩ = some v3 :=
 ⟨Nat.lt_of_lt_of_le h.1 hb.size, (hb.cell (p := ⟨g, 0, none⟩) h.1).trans h.2.1, (hb.cell (p := ⟨g, 1, none⟩) h.1).trans h.2.2.1, (hb.cell (p := ⟨g, 2, none⟩) h.1).trans h.2.2.2.1, (hb.cell (p := ⟨g, 3, none⟩) h.1).trans h.2.2.2.2⟩
end Go.Proofs.YtkkimgjcefojdaaGreatDoor
namespace Go.Proofs.YtkkimgjcefojdaaGreatDoor
open Go.RowKit Go.Lib

theorem HasC.of5 {w : World} {g : Nat} {v0 v1 v2 v3 v4 : Value} (h : HasC w g [v0, v1, v2, v3, v4]) : w.cell? ⟨g, 0, none⟩ = some v0 ∧ w.cell? ⟨g, 1, none⟩ = some v1 ∧ w.cell? ⟨g, 2, none⟩ = some v2 ∧ w.cell? ⟨g, 3, none⟩ = some v3 ∧ w.cell? ⟨g, 4, none⟩ = some v4 :=
 ⟨h.2 0 _ rfl, h.2 1 _ rfl, h.2 2 _ rfl, h.2 3 _ rfl, h.2 4 _ rfl⟩
/-- 5 cells of a block, kept over a call that makes memory of its own. -/
theorem keep5 {w w' : World} {g : Nat} {v0 v1 v2 v3 v4 : Value} (h : g < w.heap.size ∧ w.cell? ⟨g, 0, none⟩ = some v0 ∧ w.cell? ⟨g, 1, none⟩ = some v1 ∧ w.cell? ⟨g, 2, none⟩ = some v2 ∧ w.cell? ⟨g, 3, none⟩ = some v3 ∧ w.cell? ⟨g, 4, none⟩ = some v4) (hb : Below w.heap.size w w') :
  g < w'.heap.size ∧ w'.cell? ⟨g, 0, none⟩ = some v0 ∧ w'.cell? ⟨g, 1, none⟩ = some v1 ∧ w'.cell? ⟨g, 2, none⟩ = some v2 ∧ w'.cell? ⟨g, 3, none⟩ = some v3 ∧ w'.cell? ⟨g, 4, none⟩ = some v4 :=
 ⟨Nat.lt_of_lt_of_le h.1 hb.size, (hb.cell (p := ⟨g, 0, none⟩) h.1).trans h.2.1, (hb.cell (p := ⟨g, 1, none⟩) h.1).trans h.2.2.1, (hb.cell (p := ⟨g, 2, none⟩) h.1).trans h.2.2.2.1, (hb.cell (p := ⟨g, 3, none⟩) h.1).trans h.2.2.2.2.1, (hb.cell (p := ⟨g, 4, none⟩) h.1).trans h.2.2.2.2.2⟩
end Go.Proofs.YtkkimgjcefojdaaGreatDoor
namespace Go.Proofs.YtkkimgjcefojdaaGreatDoor
open Go.RowKit Go.Lib

theorem HasC.of6 {w : World} {g : Nat} {v0 v1 v2 v3 v4 v5 : Value} (h : HasC w g [v0, v1, v2, v3, v4, v5]) : w.cell? ⟨g, 0, none⟩ = some v0 ∧ w.cell? ⟨g, 1, none⟩ = some v1 ∧ w.cell? ⟨g, 2, none⟩ = some v2 ∧ w.cell? ⟨g, 3, none⟩ = some v3 ∧ w.cell? ⟨g, 4, none⟩ = some v4 ∧ w.cell? ⟨g, 5, none⟩ = some v5 :=
 ⟨h.2 0 _ rfl, h.2 1 _ rfl, h.2 2 _ rfl, h.2 3 _ rfl, h.2 4 _ rfl, h.2 5 _ rfl⟩
end Go.Proofs.YtkkimgjcefojdaaGreatDoor
namespace Go.Proofs.YtkkimgjcefojdaaGreatDoor
open Go.RowKit Go.Lib

end Go.Proofs.YtkkimgjcefojdaaGreatDoor
namespace Go.Proofs.YtkkimgjcefojdaaGreatDoor
open Go.RowKit Go.Lib

/-- The six fields of an Options value. -/
structure Opt where
 m : Int
 c : Int
 k : Bool
 t : Bool
 v : Int
 e : Int
/-- The cells of an Options value. -/
def Opt.cs (o : Opt) : Array Value := #[.int .i64 o.m, .int .i64 o.c, .bool o.k, .bool o.t, .int .i64 o.v, .int .i64 o.e]
/-- Whether no option stands at a: its length is missing, too small or too large. -/
def optBad (s : ByteArray) (a : Nat) : Prop := s.size ≤ a + 1 ∨ (at8 s (a + 1)).toNat < 2 ∨ s.size < a + (at8 s (a + 1)).toNat
instance (s : ByteArray) (a : Nat) : Decidable (optBad s a) := by unfold optBad; infer_instance
end Go.Proofs.YtkkimgjcefojdaaGreatDoor
namespace Go.Proofs.YtkkimgjcefojdaaGreatDoor
open Go.RowKit Go.Lib

theorem HasC.at {w : World} {g : Nat} {vs : List Value} (h : HasC w g vs) (j : Nat) {v : Value} (hv : vs[j]? = some v) : w.cell? ⟨g, j, none⟩ = some v := h.2 j v hv
end Go.Proofs.YtkkimgjcefojdaaGreatDoor
namespace Go.Proofs.YtkkimgjcefojdaaGreatDoor
open Go.RowKit Go.Lib

end Go.Proofs.YtkkimgjcefojdaaGreatDoor
namespace Go.Proofs.YtkkimgjcefojdaaGreatDoor
open Go.RowKit Go.Lib

end Go.Proofs.YtkkimgjcefojdaaGreatDoor
namespace Go.Proofs.YtkkimgjcefojdaaGreatDoor
open Go

end Go.Proofs.YtkkimgjcefojdaaGreatDoor
namespace Go.Proofs.YtkkimgjcefojdaaGreatDoor
open Go.RowKit Go.Lib

section
variable {α : Type} {f : α → List Value} {k : Nat}
/-- The cells of a row of structs. -/
def flat (f : α → List Value) (xs : List α) : List Value := xs.flatMap f
theorem flat_cons (x : α) (xs : List α) : flat f (x :: xs) = f x ++ flat f xs := rfl
theorem flat_append (xs ys : List α) : flat f (xs ++ ys) = flat f xs ++ flat f ys := by simp [flat]
theorem flat_length (hk : ∀ x, (f x).length = k) (xs : List α) : (flat f xs).length = xs.length * k := by
 induction xs with
 | nil => simp [flat]
 | cons x xs ih => rw [flat_cons, List.length_append, hk, ih, List.length_cons, Nat.add_mul]; omega
theorem flat_at (hk : ∀ x, (f x).length = k) : ∀ (xs : List α) (i j : Nat) (hi : i < xs.length), j < k → (flat f xs)[i * k + j]? = (f xs[i])[j]?
 | x :: xs, 0, j, _, hj => by rw [flat_cons, Nat.zero_mul, Nat.zero_add, List.getElem?_append_left (by rw [hk]; exact hj)]; rfl
 | x :: xs, i + 1, j, hi, hj => by
  rw [flat_cons, List.getElem?_append_right (by rw [hk, Nat.add_mul]; omega), hk, show (i + 1) * k + j - k = i * k + j by rw [Nat.add_mul]; omega]
  exact flat_at hk xs i j (by simpa using hi) hj
theorem flat_set (hk : ∀ x, (f x).length = k) (y : α) : ∀ (xs : List α) (i j : Nat) (v : Value) (hi : i < xs.length), j < k → f y = (f xs[i]).set j v → (flat f xs).set (i * k + j) v = flat f (xs.set i y)
 | x :: xs, 0, j, v, _, hj, he => by
  rw [flat_cons, Nat.zero_mul, Nat.zero_add, List.set_append_left _ _ (by rw [hk]; exact hj), List.set_cons_zero, flat_cons]
  rw [show f y = (f x).set j v from he]
 | x :: xs, i + 1, j, v, hi, hj, he => by
  rw [flat_cons, List.set_append_right _ _ (by rw [hk, Nat.add_mul]; omega), hk, show (i + 1) * k + j - k = i * k + j by rw [Nat.add_mul]; omega, List.set_cons_succ, flat_cons]
  rw [flat_set hk y xs i j v (by simpa using hi) hj he]
/-- An element of a row of structs. -/
theorem Row.flat {w : World} {B : Nat} {a : Option Addr} {xs : List α} (hk : ∀ x, (f x).length = k) (h0 : 0 < k) (h : Row w B a (flat f xs)) {i : Nat} (hi : i < xs.length) :
  ∃ b off, a = some ⟨b, off, none⟩ ∧ b < B ∧ ∀ j (hj : j < xs.length) (c : Nat), c < k → ∀ v, (f xs[j])[c]? = some v → w.cell? ⟨b, off + (j * k + c), none⟩ = some v := by
 obtain ⟨b, off, ha, hb, hc⟩ := h (fun e => by have := flat_length hk xs; rw [e] at this; have h1 : 1 ≤ xs.length * k := Nat.mul_pos (by omega) h0; simp at this; omega)
 exact ⟨b, off, ha, hb, fun j hj c hck v hv => hc _ _ (by rw [flat_at hk xs j c hj hck]; exact hv)⟩
end
theorem Row.ownK {w : World} {base : Nat} {e : TypeId} {n cap g k : Nat} {xs : List Value} (h : w.ownsRow base e k (.slice (some ⟨g, 0, none⟩) n cap) n xs) : Row w w.heap.size (some ⟨g, 0, none⟩) xs := fun hx => by
 have hn : 0 < n := by
  rcases Nat.eq_zero_or_pos n with h0 | h0
  ·have := h.1; rw [h0, Nat.zero_mul] at this; exact absurd (List.eq_nil_of_length_eq_zero this) hx
  ·exact h0
 obtain ⟨g', cap', hv, _, hlt⟩ := h.form hn
 have e : g = g' := by injection hv with h1; injection h1 with h1; injection h1
 subst e
 refine ⟨g, 0, rfl, hlt, fun j u hu => ?_⟩
 have := h.cells (g := g) rfl j u hu
 rw [Nat.zero_add]
 rwa [show (⟨g, 0, none⟩ : Addr).add j = ⟨g, j, none⟩ by unfold Addr.add; split <;> simp_all] at this
theorem own_down {w : World} {base base' size n : Nat} {e : TypeId} {v : Value} {xs : List Value} (h : w.ownsRow base e size v n xs) (hb : base' ≤ base) : w.ownsRow base' e size v n xs :=
 ⟨h.1, h.2.imp id fun ⟨g, cap, cur, h1, h2, h3⟩ => ⟨g, cap, cur, h1, Nat.le_trans hb h2, h3⟩⟩
theorem own_set {w : World} {base size n : Nat} {e : TypeId} {v : Value} {xs : List Value} (h : w.ownsRow base e size v n xs) (g k : Nat) (hg : g < base) (u : Value) : (w.setCell ⟨g, k, none⟩ u).ownsRow base e size v n xs :=
 h.kept (row := some g) ⟨rfl, rfl, rfl, by simp, fun j hj hne => Below.heap_setCell w ⟨g, k, none⟩ u j (fun e => hne (by rw [e]))⟩ (.inr (fun e => by have := (h.lt _ e).1; omega))

/-- A row of a table: its text, its value. -/
structure MR where
 s : ByteArray
 v : Int
noncomputable instance : DecidableEq MR := fun _ _ => Classical.propDecidable _
theorem below_drawn {B : Nat} {w w' : World} (h : Below B w w') (n : Nat) : Below B w (w'.drewN n) := h.trans ⟨rfl, rfl, rfl, Nat.le_refl _, fun _ _ => rfl⟩
def MR.cs (r : MR) : List Value := [.string r.s, .int .i64 r.v]
end Go.Proofs.YtkkimgjcefojdaaGreatDoor
namespace Go.Proofs.YtkkimgjcefojdaaGreatDoor
open Go.RowKit Go.Lib

/-- An entry. -/
structure ER where
 ip : Int
 hw : Int
 age : Int
noncomputable instance : DecidableEq ER := fun _ _ => Classical.propDecidable _
def ER.cs (r : ER) : List Value := [.int .i64 r.ip, .int .i64 r.hw, .int .i64 r.age]
theorem ER.three (r : ER) : r.cs.length = 3 := rfl
def ers (rs : List ER) : List Value := flat ER.cs rs
theorem ers_length (rs : List ER) : (ers rs).length = rs.length * 3 := flat_length ER.three rs
theorem ers_ip (rs : List ER) (i : Nat) (hi : i < rs.length) : (ers rs)[i * 3]? = some (.int .i64 rs[i].ip) := flat_at ER.three rs i 0 hi (by decide)
theorem ers_hw (rs : List ER) (i : Nat) (hi : i < rs.length) : (ers rs)[i * 3 + 1]? = some (.int .i64 rs[i].hw) := flat_at ER.three rs i 1 hi (by decide)
theorem ers_age (rs : List ER) (i : Nat) (hi : i < rs.length) : (ers rs)[i * 3 + 2]? = some (.int .i64 rs[i].age) := flat_at ER.three rs i 2 hi (by decide)
theorem ers_one (rs : List ER) : ∀ u ∈ ers rs, u.oneCell' = true := by
 intro u hu
 obtain ⟨r, _, hr⟩ := List.mem_flatMap.1 hu
 simp only [ER.cs, List.mem_cons, List.not_mem_nil, or_false] at hr
 rcases hr with rfl | rfl | rfl <;> rfl
theorem ers_append (rs ss : List ER) : ers (rs ++ ss) = ers rs ++ ers ss := flat_append rs ss
theorem Row.er {w : World} {B : Nat} {a : Option Addr} {rs : List ER} (h : Row w B a (ers rs)) {i : Nat} (hi : i < rs.length) :
  ∃ b off, a = some ⟨b, off, none⟩ ∧ b < B ∧ ∀ j (hj : j < rs.length), w.cell? ⟨b, off + j * 3, none⟩ = some (.int .i64 rs[j].ip) ∧ w.cell? ⟨b, off + j * 3 + 1, none⟩ = some (.int .i64 rs[j].hw) ∧ w.cell? ⟨b, off + j * 3 + 2, none⟩ = some (.int .i64 rs[j].age) := by
 obtain ⟨b, off, ha, hb, hc⟩ := Row.flat ER.three (by decide) h hi
 refine ⟨b, off, ha, hb, fun j hj => ⟨hc j hj 0 (by decide) _ rfl, ?_, ?_⟩⟩
 ·have := hc j hj 1 (by decide) _ rfl
  rwa [← Nat.add_assoc] at this
 ·have := hc j hj 2 (by decide) _ rfl
  rwa [← Nat.add_assoc] at this
theorem ers_set (rs : List ER) (i : Nat) (hi : i < rs.length) (r : ER) : (((ers rs).set (i * 3) (.int .i64 r.ip)).set (i * 3 + 1) (.int .i64 r.hw)).set (i * 3 + 2) (.int .i64 r.age) = ers (rs.set i r) := by
 unfold ers
 have e0 := flat_set ER.three ⟨r.ip, rs[i].hw, rs[i].age⟩ rs i 0 (.int .i64 r.ip) hi (by decide) rfl
 have e1 := flat_set ER.three ⟨r.ip, r.hw, rs[i].age⟩ (rs.set i ⟨r.ip, rs[i].hw, rs[i].age⟩) i 1 (.int .i64 r.hw) (by simpa using hi) (by decide) (by simp [ER.cs])
 have e2 := flat_set ER.three r ((rs.set i ⟨r.ip, rs[i].hw, rs[i].age⟩).set i ⟨r.ip, r.hw, rs[i].age⟩) i 2 (.int .i64 r.age) (by simpa using hi) (by decide) (by simp [ER.cs])
 rw [Nat.add_zero] at e0
 rw [e0, e1, e2, List.set_set, List.set_set]
/-- The first k cells of a row are the row of the first k entries. -/
theorem ers_take (rs : List ER) (k : Nat) : ers (rs.take k) = (ers rs).take (k * 3) := by
 induction rs generalizing k with
 | nil => simp [ers, flat]
 | cons x xs ih =>
  cases k with
  | zero => simp [ers, flat]
  | succ k =>
   have e : (k + 1) * 3 = x.cs.length + k * 3 := by rw [ER.three]; omega
   show flat ER.cs (x :: xs.take k) = (flat ER.cs (x :: xs)).take ((k + 1) * 3)
   rw [flat_cons, flat_cons, e, List.take_length_add_append]
   congr 1
   exact ih k
theorem Row.take_er {w : World} {B : Nat} {a : Option Addr} {rs : List ER} (h : Row w B a (ers rs)) (k : Nat) : Row w B a (ers (rs.take k)) := by
 rw [ers_take]
 intro hne
 obtain ⟨b, off, ha, hb, hc⟩ := h (fun e => hne (by rw [e]; simp))
 refine ⟨b, off, ha, hb, fun j u hu => hc j u ?_⟩
 rw [List.getElem?_take] at hu
 split at hu
 ·exact hu
 ·cases hu

/-- The place of the first entry with this address; the length where there is none. -/
def atE (rs : List ER) (ip : Int) : Nat := rs.findIdx (fun r => decide (r.ip = ip))
theorem atE_le (rs : List ER) (ip : Int) : atE rs ip ≤ rs.length := List.findIdx_le_length
theorem atE_eq {rs : List ER} {ip : Int} {k : Nat} (h : k < rs.length) (hk : rs[k].ip = ip) (hj : ∀ j (h' : j < rs.length), j < k → rs[j].ip ≠ ip) : atE rs ip = k := by
 refine (List.findIdx_eq h).2 ⟨by simp [hk], fun j hji => ?_⟩
 simp [hj j (by omega) hji]
theorem atE_none {rs : List ER} {ip : Int} (hj : ∀ j (h' : j < rs.length), j < rs.length → rs[j].ip ≠ ip) : atE rs ip = rs.length := by
 refine List.findIdx_eq_length.2 fun x hx => ?_
 obtain ⟨j, hj', rfl⟩ := List.getElem_of_mem hx
 simp [hj j hj' hj']
theorem atE_hit {rs : List ER} {ip : Int} (h : atE rs ip < rs.length) : rs[atE rs ip].ip = ip := by
 exact of_decide_eq_true (List.findIdx_getElem (p := fun r : ER => decide (r.ip = ip)) (w := h))
theorem atE_before {rs : List ER} {ip : Int} {j : Nat} (h : j < atE rs ip) : (rs[j]'(Nat.lt_of_lt_of_le h (atE_le rs ip))).ip ≠ ip := by
 have := List.not_of_lt_findIdx (p := fun r : ER => decide (r.ip = ip)) h
 simpa using this
/-- As the program says it: the place, or -1. -/
noncomputable def placeE (rs : List ER) (ip : Int) : Int := if atE rs ip < rs.length then (atE rs ip : Int) else -1
theorem placeE_yes {rs : List ER} {ip : Int} (h : atE rs ip < rs.length) : placeE rs ip = atE rs ip := if_pos h
theorem placeE_no {rs : List ER} {ip : Int} (h : ¬ atE rs ip < rs.length) : placeE rs ip = -1 := if_neg h
theorem placeE_take {rs : List ER} {k : Nat} (h : k < rs.length) : placeE (rs.take k) rs[k].ip < 0 ↔ atE rs rs[k].ip = k := by
 constructor
 ·intro h1
  refine atE_eq h rfl fun j hj hjk he => ?_
  have h2 : ¬ atE (rs.take k) rs[k].ip < (rs.take k).length := fun h3 => by rw [placeE_yes h3] at h1; omega
  have h4 : atE (rs.take k) rs[k].ip = (rs.take k).length := by have := atE_le (rs.take k) rs[k].ip; omega
  have h5 : j < atE (rs.take k) rs[k].ip := by rw [h4, List.length_take]; omega
  have h6 := atE_before h5
  rw [List.getElem_take] at h6
  exact h6 he
 ·intro h1
  rw [placeE_no]
  ·decide
  ·intro h2
   have h3 := atE_hit h2
   have h4 : atE (rs.take k) rs[k].ip < k := by rw [List.length_take] at h2; omega
   rw [List.getElem_take] at h3
   have h5 := atE_before (rs := rs) (ip := rs[k].ip) (j := atE (rs.take k) rs[k].ip) (by omega)
   exact h5 h3

/-- Whether the entry at this place may stand there. -/
noncomputable def rowOkE (rs : List ER) (i : Nat) : Bool := match rs[i]? with
 | some r => wordOk r.ip 32 && (wordOk r.hw 48 && (decide (0 ≤ r.age) && (decide (r.age ≤ 9) && decide (atE rs r.ip = i))))
 | none => true
noncomputable def allOkE (rs : List ER) : Nat → Bool
 | 0 => true
 | k + 1 => allOkE rs k && rowOkE rs k
/-- Whether a cache is valid. -/
noncomputable def cacheOk (rs : List ER) : Bool := decide (rs.length ≤ 4) && allOkE rs rs.length
theorem rowOkE_at {rs : List ER} {i : Nat} (h : i < rs.length) : rowOkE rs i = (wordOk rs[i].ip 32 && (wordOk rs[i].hw 48 && (decide (0 ≤ rs[i].age) && (decide (rs[i].age ≤ 9) && decide (atE rs rs[i].ip = i))))) := by
 unfold rowOkE
 rw [List.getElem?_eq_getElem h]
theorem allOkE_iff (rs : List ER) (k : Nat) : allOkE rs k = true ↔ ∀ i, i < k → rowOkE rs i = true := by
 induction k with
 | zero => simp [allOkE]
 | succ k ih =>
  simp only [allOkE, Bool.and_eq_true, ih]
  constructor
  ·rintro ⟨h1, h2⟩ i hi
   rcases Nat.lt_or_ge i k with h3 | h3
   ·exact h1 i h3
   ·obtain rfl : i = k := by omega
    exact h2
  ·exact fun h => ⟨fun i hi => h i (by omega), h k (by omega)⟩
theorem allOkE_next {rs : List ER} {k : Nat} (h : allOkE rs k = true) (h1 : rowOkE rs k = true) : allOkE rs (k + 1) = true := by simp [allOkE, h, h1]
theorem cacheOk_long {rs : List ER} (h : ¬ rs.length ≤ 4) : cacheOk rs = false := by simp only [cacheOk, h, decide_false, Bool.false_and]
theorem cacheOk_row {rs : List ER} {k : Nat} (h : k < rs.length) (h1 : rowOkE rs k = false) : cacheOk rs = false := by
 have : ¬ allOkE rs rs.length = true := fun h2 => by have := (allOkE_iff rs _).1 h2 k h; rw [h1] at this; cases this
 simp only [cacheOk, Bool.not_eq_true] at *
 rw [this, Bool.and_false]
theorem cacheOk_all {rs : List ER} (h : allOkE rs rs.length = true) : cacheOk rs = decide (rs.length ≤ 4) := by simp only [cacheOk, h, Bool.and_true]
/-- The place of the first entry with the greatest age among the first k. -/
def oldE (rs : List ER) : Nat → Nat
 | 0 => 0
 | k + 1 => match rs[oldE rs k]?, rs[k]? with
  | some r, some q => if r.age < q.age then k else oldE rs k
  | _, _ => oldE rs k
theorem oldE_lt {rs : List ER} {k : Nat} (h : k ≤ rs.length) (h0 : 0 < rs.length) : oldE rs k < rs.length := by
 induction k with
 | zero => exact h0
 | succ k ih =>
  have := ih (by omega)
  unfold oldE
  split
  ·split <;> omega
  ·omega
theorem oldE_at {rs : List ER} {k : Nat} (h : k < rs.length) (h1 : oldE rs k < rs.length) : oldE rs (k + 1) = if rs[oldE rs k].age < rs[k].age then k else oldE rs k := by
 rw [oldE, List.getElem?_eq_getElem h1, List.getElem?_eq_getElem h]
theorem oldE_one (rs : List ER) : oldE rs 1 = 0 := by
 rw [oldE]
 show (match rs[0]?, rs[0]? with | some r, some q => if r.age < q.age then 0 else 0 | _, _ => 0) = 0
 split
 ·simp
 ·rfl
/-- The cache behind a mapping that was learned. -/
noncomputable def putE (rs : List ER) (q : ER) : List ER :=
 if atE rs q.ip < rs.length then rs.set (atE rs q.ip) q
 else if rs.length = 4 then rs.eraseIdx (oldE rs rs.length) ++ [q] else rs ++ [q]
noncomputable def learnE (rs : List ER) (ip hw : Int) : List ER := if (cacheOk rs && (wordOk ip 32 && wordOk hw 48)) = true then putE rs ⟨ip, hw, 0⟩ else rs
theorem learnE_no {rs : List ER} {ip hw : Int} (h : (cacheOk rs && (wordOk ip 32 && wordOk hw 48)) = false) : learnE rs ip hw = rs := if_neg (by rw [h]; simp)
theorem learnE_yes {rs : List ER} {ip hw : Int} (h : (cacheOk rs && (wordOk ip 32 && wordOk hw 48)) = true) : learnE rs ip hw = putE rs ⟨ip, hw, 0⟩ := if_pos h
theorem putE_set {rs : List ER} {q : ER} (h : atE rs q.ip < rs.length) : putE rs q = rs.set (atE rs q.ip) q := if_pos h
theorem putE_full {rs : List ER} {q : ER} (h : ¬ atE rs q.ip < rs.length) (h4 : rs.length = 4) : putE rs q = rs.eraseIdx (oldE rs rs.length) ++ [q] := by rw [putE, if_neg h, if_pos h4]
theorem putE_more {rs : List ER} {q : ER} (h : ¬ atE rs q.ip < rs.length) (h4 : ¬ rs.length = 4) : putE rs q = rs ++ [q] := by rw [putE, if_neg h, if_neg h4]
/-- What came in: numbers of the machine. -/
def goodE (r : ER) : Prop := (Lit.int .i64 r.ip).wf = true ∧ (Lit.int .i64 r.hw).wf = true ∧ (Lit.int .i64 r.age).wf = true
theorem putE_length (rs : List ER) (q : ER) : (putE rs q).length ≤ rs.length + 1 := by
 unfold putE
 split
 ·simp
 ·split
  ·have := List.length_eraseIdx_le rs (oldE rs rs.length); simp; omega
  ·simp
theorem learnE_length (rs : List ER) (ip hw : Int) : (learnE rs ip hw).length ≤ rs.length + 1 := by
 unfold learnE
 split
 ·exact putE_length _ _
 ·omega

/-- A truth, a number, and nothing old has turned. -/
def BoolE (b : Bool) (w : World) (e : Ending) (w' : World) : Prop := e = .returned (.bool b) ∧ Below w.heap.size w w'
def IntE (n : Int) (w : World) (e : Ending) (w' : World) : Prop := e = .returned (.int .i64 n) ∧ Below w.heap.size w w'
end Go.Proofs.YtkkimgjcefojdaaGreatDoor
namespace Go.Proofs.YtkkimgjcefojdaaGreatDoor
open Go.RowKit Go.Lib

/-- Whether a frame of these four fields is valid. -/
def frameOk (d s t : Int) (b : ByteArray) : Bool := wordOk d 48 && wordOk s 48 && decide (1536 ≤ t ∧ t ≤ 65535) && decide (b.size ≤ 1586)

theorem type_word (t : Int) (h : 1536 ≤ t) : wordOk t 16 = decide (1536 ≤ t ∧ t ≤ 65535) := by
 unfold wordOk
 rw [decide_eq_decide, show (2 : Int) ^ (16 : Int).toNat = 65536 from rfl]
 omega
/-- What FrameText answers. -/
def frameText (d s t : Int) (b : ByteArray) : ByteArray := if frameOk d s t b then putW d 6 ++ putW s 6 ++ putW t 2 ++ b else ⟨#[]⟩
theorem frameOk_body {d s t : Int} {b : ByteArray} (h : frameOk d s t b = true) : b.size ≤ 1586 := by
 unfold frameOk at h
 simp only [Bool.and_eq_true, decide_eq_true_eq] at h
 exact h.2

/-- Whether the bytes s, at least 14 of them, are a frame's. -/
def readOk (s : ByteArray) : Bool := frameOk (gw s 0 6) (gw s 6 6) (gw s 12 2) (s.extract 14 s.size)
end Go.Proofs.YtkkimgjcefojdaaGreatDoor
namespace Go.Proofs.YtkkimgjcefojdaaGreatDoor
open Go.RowKit Go.Lib

theorem Tryz.info5 : (Tryz.prog.info? 5).map (fun i => (i.zero, i.size, i.bytes)) = some (some (.int .u8 0), 1, 1) := by kernel_rfl

end Go.Proofs.YtkkimgjcefojdaaGreatDoor
namespace Go.Proofs.YtkkimgjcefojdaaGreatDoor
open Go.RowKit Go.Lib

set_option maxHeartbeats 400000 in
theorem l1In_any (x lo hi : Int) (w : World) :
  Calls Tryz.prog 81 #[.int .i64 x, .int .i64 lo, .int .i64 hi] w fun e w' => e = .returned (.bool (decide (lo ≤ x ∧ x ≤ hi))) ∧ w = w' := by
 by_cases h : lo ≤ x
 ·by_cases h2 : x ≤ hi
  ·go_enter Tryz.func81, Tryz.ntmps81
   go_wp2
   go_ret
   exact ⟨ret_bool (by simp [h, h2]), rfl⟩
  ·go_enter Tryz.func81, Tryz.ntmps81
   go_wp2
   go_ret
   exact ⟨ret_bool (by simp [h2]), rfl⟩
 ·go_enter Tryz.func81, Tryz.ntmps81
  go_wp2
  go_ret
  exact ⟨ret_bool (by rw [decide_eq_false (show ¬ lo ≤ x by omega)]; rfl), rfl⟩

theorem l1In_yes (x lo hi : Int) (w : World) (h : lo ≤ x) (h2 : x ≤ hi) :
  Calls Tryz.prog 81 #[.int .i64 x, .int .i64 lo, .int .i64 hi] w fun e w' => e = .returned (.bool true) ∧ w = w' :=
 (l1In_any x lo hi w).mono fun _ _ ⟨a, b⟩ => ⟨a.trans (ret_bool (by simp [h, h2])), b⟩
theorem l1In_no (x lo hi : Int) (w : World) (h : ¬ (lo ≤ x ∧ x ≤ hi)) :
  Calls Tryz.prog 81 #[.int .i64 x, .int .i64 lo, .int .i64 hi] w fun e w' => e = .returned (.bool false) ∧ w = w' :=
 (l1In_any x lo hi w).mono fun _ _ ⟨a, b⟩ => ⟨a.trans (ret_bool (by simp only [h, decide_false])), b⟩

end Go.Proofs.YtkkimgjcefojdaaGreatDoor
namespace Go.Proofs.YtkkimgjcefojdaaGreatDoor
open Go.RowKit Go.Lib

set_option maxHeartbeats 400000 in
theorem wordOkS (n b : Int) (w : World) :
  Calls Tryz.prog 45 #[.int .i64 n, .int .i64 b] w fun e w' => e = .returned (.bool (wordOk n b)) ∧ w = w' := by
 by_cases h : 1 ≤ b ∧ b ≤ 62
 ·obtain ⟨h1, h2⟩ := h
  obtain ⟨k, rfl⟩ : ∃ k : Nat, b = (k : Int) := ⟨b.toNat, by omega⟩
  have hp := pow_pos2 k
  have hq := pow_le62 k (by omega)
  have hm : min k 64 = k := by omega
  have C1 := Lib.hid (fun w => l1In_yes k 1 62 w h1 h2)
  have C2 := Lib.hid (fun w => l1In_any n 0 (2 ^ k - 1) w)
  have D : Hid (wordOk n k = (decide (0 ≤ n) && decide (n ≤ 2 ^ k - 1))) := by
   show _ = _
   rw [← Bool.decide_and]; unfold wordOk; rw [decide_eq_decide, Int.toNat_natCast]; omega
  go_enter Tryz.func45, Tryz.ntmps45
  go_wp2_with fail
  refine (C1.out _).mono ?_
  rintro e w1 ⟨rfl, rfl⟩
  go_wp2_with fail
  refine (C2.out _).mono ?_
  rintro e w1 ⟨rfl, rfl⟩
  go_wp2_with fail
  go_ret
  exact ⟨ret_bool D.out.symm, rfl⟩
 ·have C := Lib.hid (l1In_no b 1 62 w h)
  have D : Hid (wordOk n b = false) := by show _ = _; unfold wordOk; exact decide_eq_false (fun hh => h hh.1)
  clear h
  go_enter Tryz.func45, Tryz.ntmps45
  go_wp2_with fail
  refine C.out.mono ?_
  rintro e w1 ⟨rfl, rfl⟩
  go_wp2_with fail
  go_ret
  exact ⟨ret_bool D.out.symm, rfl⟩

set_option maxHeartbeats 400000 in
theorem wordOkI (n b : Int) (w : World) :
  Calls Tryz.prog 41 #[.int .i64 n, .int .i64 b] w fun e w' => e = .returned (.bool (wordOk n b)) ∧ w = w' := by
 by_cases h1 : 1 ≤ b
 ·by_cases h2 : b ≤ 62
  ·obtain ⟨k, rfl⟩ : ∃ k : Nat, b = (k : Int) := ⟨b.toNat, by omega⟩
   have hm : min k 64 = k := by omega
   by_cases h3 : 0 ≤ n
   ·have D : Hid (wordOk n k = (n / 2 ^ k == 0)) := by
     show _ = _
     have e := div_zero_iff n k h3
     unfold wordOk
     rw [Int.toNat_natCast]
     by_cases hz : n < 2 ^ k
     ·rw [e.2 hz]; simp [h1, h2, h3, hz]
     ·have : ¬ n / 2 ^ k = 0 := fun x => hz (e.1 x)
      simp [hz, this]
    go_enter Tryz.func41, Tryz.ntmps41
    go_wp2_with fail
    go_ret
    exact ⟨ret_bool D.out.symm, rfl⟩
   ·have D : Hid (wordOk n k = false) := by show _ = _; unfold wordOk; exact decide_eq_false (fun hh => h3 hh.2.1)
    go_enter Tryz.func41, Tryz.ntmps41
    go_wp2_with fail
    go_ret
    exact ⟨ret_bool D.out.symm, rfl⟩
  ·have D : Hid (wordOk n b = false) := by show _ = _; unfold wordOk; exact decide_eq_false (fun hh => h2 hh.1.2)
   go_enter Tryz.func41, Tryz.ntmps41
   go_wp2_with fail
   go_ret
   exact ⟨ret_bool D.out.symm, rfl⟩
 ·have D : Hid (wordOk n b = false) := by show _ = _; unfold wordOk; exact decide_eq_false (fun hh => h1 hh.1.1)
  go_enter Tryz.func41, Tryz.ntmps41
  go_wp2_with fail
  go_ret
  exact ⟨ret_bool D.out.symm, rfl⟩

theorem sizeOkI (n : Int) (w : World) :
  Calls Tryz.prog 111 #[.int .i64 n] w fun e w' => e = .returned (.bool (decide (1 ≤ n ∧ n ≤ 6))) ∧ w = w' := by
 by_cases h : 1 ≤ n
 ·go_enter Tryz.func111, Tryz.ntmps111
  go_wp2
  go_ret
  exact ⟨ret_bool (by simp [h]), rfl⟩
 ·go_enter Tryz.func111, Tryz.ntmps111
  go_wp2
  go_ret
  exact ⟨ret_bool (by rw [decide_eq_false (show ¬ 1 ≤ n by omega)]; rfl), rfl⟩
end Go.Proofs.YtkkimgjcefojdaaGreatDoor
