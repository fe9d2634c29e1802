/- Plain lemmas of chapter 1 of the document: hexadecimal digits, bytes and rows of bytes. Nothing here is a claim. -/
import Derived.WalkKit
import Derived.OwnWalk
import Derived.Laws.IdiomStrings
import Derived.Lib.BufferRead
import Derived.Deep.AppendLies
import Derived.KernelRfl
import Derived.Lib.Hide
import Derived.Shelf.Small.Strs
import Derived.Laws.OwnMore
import Derived.Lib.Join
import Derived.Lib.AppendStr
import Derived.Laws.Rows
import Derived.Below
import Derived.ScopeJumps
import Derived.WalkMore
namespace Go.Proofs.Ytajekjjaaohbnaa
open Go.RowKit Go.Lib

theorem ret_int {k : IntKind} {a b : Int} (h : a = b) : Ending.returned (.int k a) = .returned (.int k b) := by rw [h]

/-- A hexadecimal digit's byte. -/
def hexB (n : Nat) : UInt8 := if n < 10 then UInt8.ofNat (n + 48) else UInt8.ofNat (n + 87)
/-- The same as an integer. -/
def hexd (n : Int) : Int := if n < 10 then n + 48 else n + 87
theorem hexd_nat (n : Nat) (h : n ≤ 15) : hexd n = ((hexB n).toNat : Int) := by
  unfold hexd hexB
  by_cases hn : n < 10
  · rw [if_pos (by omega), if_pos hn, UInt8.toNat_ofNat']; omega
  · rw [if_neg (by omega), if_neg hn, UInt8.toNat_ofNat']; omega

def hexL (l : List UInt8) : List UInt8 := l.flatMap fun c => [hexB (c.toNat / 16), hexB (c.toNat % 16)]
theorem hexL_nil : hexL [] = [] := rfl
theorem hexL_snoc (l : List UInt8) (c : UInt8) : hexL (l ++ [c]) = hexL l ++ [hexB (c.toNat / 16), hexB (c.toNat % 16)] := by simp [hexL]
theorem hexL_length (l : List UInt8) : (hexL l).length = 2 * l.length := by
  induction l with
  | nil => rfl
  | cons a l ih => simp only [hexL, List.flatMap_cons, List.length_append, List.length_cons, List.length_nil] at ih ⊢; omega

theorem take_snoc (s : ByteArray) (k : Nat) (h : k < s.size) : s.data.toList.take (k + 1) = s.data.toList.take k ++ [s[k]] := by
  rw [List.take_succ_eq_append_getElem (by simpa using h)]; rfl

theorem byteCells_append (a b : List UInt8) : byteCells (a ++ b) = byteCells a ++ byteCells b := by simp [byteCells]

/-- A row of bytes that the call owns, converted to a string. -/
theorem run_string_own {P : Program} {w : World} {base : Nat} {e src dst : TypeId} {v : Value} {n : Nat} {l : List UInt8} (hs : P.underlying src = some (.slice e)) (he : P.underlying e = some (.int .u8)) (hd : P.underlying dst = some .string)
    (h : w.ownsRow base e 1 v n (byteCells l)) : (convert src dst v).run P w = .ok (.string ⟨l.toArray⟩) w := by
  obtain ⟨hl, h⟩ := h
  rw [byteCells_length] at hl
  rcases h with ⟨rfl, rfl⟩ | ⟨g, cap, cur, rfl, _, hg, _, _, _, htk⟩
  · have : l = [] := by cases l <;> simp_all
    subst this
    exact run_convert_nil_bytes w src dst e 0 hs he hd
  · have : n = l.length := by omega
    subst this
    exact run_convert_bytes_back w src dst e ⟨g, 0, none⟩ cap l hs he hd (bytes_of_row hg (by simpa using htk))

theorem hex_step (s : ByteArray) (k : Nat) (h : k < s.size) :
    byteCells (hexL (s.data.toList.take k)) ++ [Value.int .u8 (hexd (↑s[k].toNat / 16)), Value.int .u8 (hexd (↑s[k].toNat % 16))] = byteCells (hexL (s.data.toList.take (k + 1))) := by
  have h8 : s[k].toNat < 256 := s[k].toNat_lt
  rw [take_snoc s k h, hexL_snoc, byteCells_append]
  have e1 : hexd ((s[k].toNat : Int) / 16) = ((hexB (s[k].toNat / 16)).toNat : Int) := by rw [← hexd_nat _ (by omega)]; congr 1
  have e2 : hexd ((s[k].toNat : Int) % 16) = ((hexB (s[k].toNat % 16)).toNat : Int) := by rw [← hexd_nat _ (by omega)]; congr 1
  rw [e1, e2]; rfl

theorem hex_step' (s : ByteArray) (k : Nat) (h : k < s.size) :
    byteCells (hexL (s.data.toList.take k)) ++ [Value.int .u8 ↑(hexB (s[k].toNat / 16)).toNat, Value.int .u8 ↑(hexB (s[k].toNat % 16)).toNat] = byteCells (hexL (s.data.toList.take (k + 1))) := by
  rw [take_snoc s k h, hexL_snoc, byteCells_append]; rfl

theorem and15_all : ∀ n : Fin 256, bits .and .u8 (n.val : Int) 15 = (n.val : Int) % 16 := by decide +kernel
theorem and15 (n : Nat) (h : n < 256) : bits .and .u8 (n : Int) 15 = (n : Int) % 16 := and15_all ⟨n, h⟩

/-- The sixteen digits, as the program's constant has them. -/
theorem hexLit_all : ∀ n : Fin 16, #[(48 : UInt8), 49, 50, 51, 52, 53, 54, 55, 56, 57, 97, 98, 99, 100, 101, 102][n.val]? = some (hexB n.val) := by decide +kernel
theorem hexLit_nat (n : Nat) (h : n < (ByteArray.mk #[48, 49, 50, 51, 52, 53, 54, 55, 56, 57, 97, 98, 99, 100, 101, 102]).size) : (ByteArray.mk #[48, 49, 50, 51, 52, 53, 54, 55, 56, 57, 97, 98, 99, 100, 101, 102])[n] = hexB n := by
  have h2 : n < #[(48 : UInt8), 49, 50, 51, 52, 53, 54, 55, 56, 57, 97, 98, 99, 100, 101, 102].size := h
  have h1 := hexLit_all ⟨n, h⟩
  rw [Array.getElem?_eq_getElem h2] at h1
  exact Option.some.inj h1
theorem hexLit_div (n : Nat) : ∀ hh : ((n : Int) / 16).toNat < (ByteArray.mk #[48, 49, 50, 51, 52, 53, 54, 55, 56, 57, 97, 98, 99, 100, 101, 102]).size, (ByteArray.mk #[48, 49, 50, 51, 52, 53, 54, 55, 56, 57, 97, 98, 99, 100, 101, 102])[((n : Int) / 16).toNat] = hexB (n / 16) := fun hh => by
  rw [hexLit_nat]; congr 1
theorem hexLit_mod (n : Nat) : ∀ hh : ((n : Int) % 16).toNat < (ByteArray.mk #[48, 49, 50, 51, 52, 53, 54, 55, 56, 57, 97, 98, 99, 100, 101, 102]).size, (ByteArray.mk #[48, 49, 50, 51, 52, 53, 54, 55, 56, 57, 97, 98, 99, 100, 101, 102])[((n : Int) % 16).toNat] = hexB (n % 16) := fun hh => by
  rw [hexLit_nat]; congr 1

/-- What lay below the call's own blocks stands behind an append to a row of its own. -/
theorem below_app {B : Nat} {w wr w1 : World} {e : TypeId} {size : Nat} {v : Value} {n : Nat} {xs : List Value} {o : Obj} (hb : Below w.heap.size w wr) (hown : wr.ownsRow B e size v n xs) (hg : (wr.alloc o).drew.grownBy w1 v.ownBlock) (hB : w.heap.size ≤ B := by omega) : Below w.heap.size w w1 :=
  (((hb.alloc hb.size _).drew).grown hg (by have := hb.size; simp; omega) (fun j hj => Nat.le_trans hB (hown.lt j hj).1))
theorem below_app' {B : Nat} {w wr w1 : World} {e : TypeId} {size : Nat} {v : Value} {n : Nat} {xs : List Value} {o : Obj} (hb : Below w.heap.size w wr) (hown : wr.ownsRow B e size v n xs) (hg : (wr.alloc o).grownBy w1 v.ownBlock) (hB : w.heap.size ≤ B := by omega) : Below w.heap.size w w1 :=
  ((hb.alloc hb.size _).grown hg (by have := hb.size; simp; omega) (fun j hj => Nat.le_trans hB (hown.lt j hj).1))
theorem run_string_lit1 {P : Program} (w : World) (src dst e : TypeId) (c : UInt8) (x : Int) (hx : x = (c.toNat : Int)) (hs : P.underlying src = some (.slice e)) (he : P.underlying e = some (.int .u8)) (hd : P.underlying dst = some .string) :
    (convert src dst (.slice (some ⟨w.heap.size, 0, none⟩) 1 1)).run P (w.alloc (.cells #[.int .u8 x] e)) = .ok (.string ⟨#[c]⟩) (w.alloc (.cells #[.int .u8 x] e)) := by
  subst hx
  exact run_string_own (l := [c]) hs he hd (World.ownsRow_lit w #[.int .u8 c.toNat] 1 (Nat.zero_le _) (by simp [maxLen]) rfl)
theorem ret_str {a b : ByteArray} (h : a = b) : Ending.returned (.string a) = .returned (.string b) := by rw [h]
end Go.Proofs.Ytajekjjaaohbnaa
namespace Go.Proofs.Ytajekjjaaohbnaa
open Go.RowKit Go.Lib

theorem ret_bool {a b : Bool} (h : a = b) : Ending.returned (.bool a) = .returned (.bool b) := by rw [h]

/-- Whether n is a word of so many bits. -/
def wordOk (n b : Int) : Bool := decide ((1 ≤ b ∧ b ≤ 62) ∧ 0 ≤ n ∧ n < 2 ^ b.toNat)

theorem pow_le62 (k : Nat) (h : k ≤ 62) : (2 : Int) ^ k ≤ 4611686018427387904 := by
  have h1 : 2 ^ k ≤ 2 ^ 62 := Nat.pow_le_pow_right (by decide) h
  have h2 : ((2 ^ k : Nat) : Int) ≤ ((2 ^ 62 : Nat) : Int) := by exact_mod_cast h1
  simpa using h2
theorem pow_pos2 (k : Nat) : (1 : Int) ≤ 2 ^ k := by
  have h : (0 : Int) < 2 ^ k := Int.pow_pos (by decide)
  omega
theorem div_zero_iff (n : Int) (k : Nat) (h : 0 ≤ n) : n / 2 ^ k = 0 ↔ n < 2 ^ k := by
  have hp := pow_pos2 k
  constructor
  · intro h1
    have h2 := Int.emod_lt_of_pos n (show (0 : Int) < 2 ^ k by omega)
    have h3 := Int.mul_ediv_add_emod n (2 ^ k)
    rw [h1] at h3; omega
  · intro h1; exact Int.ediv_eq_zero_of_lt h h1
theorem wordOk_bd {n b : Int} (h : wordOk n b = true) : 0 ≤ n ∧ n ≤ 4611686018427387903 := by
  have h := of_decide_eq_true h
  have := pow_le62 b.toNat (by omega)
  omega
end Go.Proofs.Ytajekjjaaohbnaa
namespace Go.Proofs.Ytajekjjaaohbnaa
open Go.RowKit Go.Lib

/-- The value of a hexadecimal digit, or -1. -/
def half (c : UInt8) : Int := if 48 ≤ c.toNat ∧ c.toNat ≤ 57 then (c.toNat : Int) - 48 else if 97 ≤ c.toNat ∧ c.toNat ≤ 102 then (c.toNat : Int) - 97 + 10 else -1
theorem half_bd (c : UInt8) : -1 ≤ half c ∧ half c ≤ 15 := by unfold half; split <;> (try split) <;> omega

theorem half_lit_all : ∀ n : Fin 256, half (UInt8.ofNat n.val) = Lib.indexByte [48, 49, 50, 51, 52, 53, 54, 55, 56, 57, 97, 98, 99, 100, 101, 102] (UInt8.ofNat n.val) := by decide +kernel
/-- What strings.IndexByte answers in the program's constant. -/
theorem half_lit (c : UInt8) : Lib.indexByte [48, 49, 50, 51, 52, 53, 54, 55, 56, 57, 97, 98, 99, 100, 101, 102] c = half c := by
  have h := half_lit_all ⟨c.toNat, c.toNat_lt⟩
  simp only [UInt8.ofNat_toNat] at h
  exact h.symm

/-- Byte number k of s. -/
def at8 (s : ByteArray) (k : Nat) : UInt8 := s.data.toList.getD k 0
theorem at8_eq (s : ByteArray) (k : Nat) (h : k < s.size) : s[k] = at8 s k := by
  have h2 : k < s.data.toList.length := by simpa using h
  unfold at8; rw [List.getD_eq_getElem?_getD, List.getElem?_eq_getElem h2]; rfl

def pairOk (s : ByteArray) (j : Nat) : Prop := 0 ≤ half (at8 s (2 * j)) ∧ 0 ≤ half (at8 s (2 * j + 1))
def pairB (s : ByteArray) (j : Nat) : UInt8 := UInt8.ofNat (16 * half (at8 s (2 * j)) + half (at8 s (2 * j + 1))).toNat
def pairs (s : ByteArray) (j : Nat) : List UInt8 := (List.range j).map (pairB s)
theorem pairs_length (s : ByteArray) (j : Nat) : (pairs s j).length = j := by simp [pairs]
theorem pairs_succ (s : ByteArray) (j : Nat) : pairs s (j + 1) = pairs s j ++ [pairB s j] := by simp [pairs, List.range_succ]

open Classical in
noncomputable def unhexOut (s : ByteArray) : ByteArray × Bool :=
  if s.size % 2 = 0 ∧ ∀ j, j < s.size / 2 → pairOk s j then (⟨(pairs s (s.size / 2)).toArray⟩, true) else (⟨#[]⟩, false)
theorem unhexOut_odd (s : ByteArray) (h : s.size % 2 = 1) : unhexOut s = (⟨#[]⟩, false) := by unfold unhexOut; rw [if_neg (fun hh => by omega)]
theorem unhexOut_bad (s : ByteArray) (j : Nat) (hj : 2 * j < s.size) (he : s.size % 2 = 0) (h : ¬ pairOk s j) : unhexOut s = (⟨#[]⟩, false) := by
  unfold unhexOut; rw [if_neg (fun hh => h (hh.2 j (by omega)))]
theorem unhexOut_good (s : ByteArray) (he : s.size % 2 = 0) (h : ∀ j, j < s.size / 2 → pairOk s j) : unhexOut s = (⟨(pairs s (s.size / 2)).toArray⟩, true) := by unfold unhexOut; rw [if_pos ⟨he, h⟩]

/-- What is known at the head of a round. -/
def Read (s : ByteArray) (j k : Nat) : Prop := k = 2 * j ∧ ∀ i, i < j → pairOk s i
theorem Read.next {s : ByteArray} {j k : Nat} (h : Read s j k) (h1 : 0 ≤ half (at8 s k)) (h2 : 0 ≤ half (at8 s (k + 1))) : Read s (j + 1) (k + 2) := by
  obtain ⟨rfl, hp⟩ := h
  refine ⟨by omega, fun i hi => ?_⟩
  by_cases e : i = j
  · subst e; exact ⟨h1, h2⟩
  · exact hp i (by omega)
theorem Read.bad {s : ByteArray} {j k : Nat} (h : Read s j k) (hk : k < s.size) (he : s.size % 2 = 0) (hn : half (at8 s k) < 0 ∨ half (at8 s (k + 1)) < 0) : unhexOut s = (⟨#[]⟩, false) := by
  obtain ⟨rfl, _⟩ := h
  exact unhexOut_bad s j hk he (fun ⟨a, b⟩ => by omega)
theorem Read.last {s : ByteArray} {j k : Nat} (h : Read s j k) (hk : s.size ≤ k) (hk2 : k ≤ s.size) (he : s.size % 2 = 0) : unhexOut s = (⟨(pairs s j).toArray⟩, true) := by
  obtain ⟨rfl, hp⟩ := h
  have e : s.size / 2 = j := by omega
  rw [unhexOut_good s he (by rw [e]; exact hp), e]
theorem Read.byte {s : ByteArray} {j k : Nat} (h : Read s j k) (a b : Int) (ha : half (at8 s k) = a) (hb : half (at8 s (k + 1)) = b) (a0 : 0 ≤ a) (b0 : 0 ≤ b) :
    byteCells (pairs s j) ++ [Value.int .u8 (16 * a + b)] = byteCells (pairs s (j + 1)) := by
  obtain ⟨rfl, _⟩ := h
  have h1 := half_bd (at8 s (2 * j))
  have h2 := half_bd (at8 s (2 * j + 1))
  rw [pairs_succ, byteCells_append]
  have e : ((pairB s j).toNat : Int) = 16 * a + b := by
    unfold pairB
    rw [UInt8.toNat_ofNat', ha, hb]; omega
  simp only [byteCells, List.map_cons, List.map_nil, e]
theorem Read.even {s : ByteArray} {j k : Nat} (h : Read s j k) (he : s.size % 2 = 0) (hk : k < s.size) : k + 1 < s.size := by
  obtain ⟨rfl, _⟩ := h; omega

theorem shl_or_all : ∀ a b : Fin 16, bits .or .i64 ((a.val : Int) * 16) (b.val : Int) = 16 * (a.val : Int) + (b.val : Int) := by decide +kernel
theorem shl_or (a b : Int) (a0 : 0 ≤ a) (b0 : 0 ≤ b) (a1 : a ≤ 15) (b1 : b ≤ 15) : bits .or .i64 (a * 16) b = 16 * a + b := by
  have h := shl_or_all ⟨a.toNat, by omega⟩ ⟨b.toNat, by omega⟩
  simp only [Int.toNat_of_nonneg a0, Int.toNat_of_nonneg b0] at h
  exact h
end Go.Proofs.Ytajekjjaaohbnaa
namespace Go.Proofs.Ytajekjjaaohbnaa
open Go.RowKit Go.Lib

/-- Byte number i of the k bytes of the word m. -/
def wbAt (m k i : Nat) : UInt8 := UInt8.ofNat (m / 256 ^ (k - 1 - i))
/-- The k bytes of the word m. -/
def wb (m k : Nat) : List UInt8 := (List.range k).map (wbAt m k)
theorem wb_length (m k : Nat) : (wb m k).length = k := by simp [wb]
theorem wb_get (m k i : Nat) (h : i < k) : (wb m k)[i]? = some (wbAt m k i) := by simp [wb, h]

/-- What PutWord answers. -/
def putW (n s : Int) : ByteArray := if (1 ≤ s ∧ s ≤ 6) ∧ 0 ≤ n ∧ n < 2 ^ (8 * s).toNat then ⟨(wb n.toNat s.toNat).toArray⟩ else ⟨#[]⟩
theorem putW_no (n s : Int) (h : ¬ (1 ≤ s ∧ s ≤ 6)) : putW n s = ⟨#[]⟩ := by unfold putW; rw [if_neg (fun hh => h hh.1)]
theorem putW_ok (n s : Int) (h : 1 ≤ s ∧ s ≤ 6) (hw : wordOk n (8 * s) = false) : putW n s = ⟨#[]⟩ := by
  unfold putW; rw [if_neg]
  intro hh
  unfold wordOk at hw
  exact of_decide_eq_false hw ⟨⟨by omega, by omega⟩, hh.2⟩
theorem putW_yes (n s : Int) (h : 1 ≤ s ∧ s ≤ 6) (hw : wordOk n (8 * s) = true) : putW n s = ⟨(wb n.toNat s.toNat).toArray⟩ := by
  unfold putW
  unfold wordOk at hw
  rw [if_pos ⟨h, (of_decide_eq_true hw).2⟩]

theorem wrap_byte (x : Nat) : IntKind.u8.wrap (x : Int) = ((UInt8.ofNat x).toNat : Int) := by
  rw [UInt8.toNat_ofNat']; simp only [IntKind.wrap, IntKind.bits, IntKind.signed]; simp
theorem pow8 (d : Nat) : 2 ^ (8 * d) = 256 ^ d := by rw [Nat.pow_mul]
/-- What the program stores. -/
theorem put_shift (m k i : Nat) : IntKind.u8.wrap ((m : Int) / 2 ^ (8 * (k - 1 - i))) = ((wbAt m k i).toNat : Int) := by
  have e : (m : Int) / 2 ^ (8 * (k - 1 - i)) = ((m / 256 ^ (k - 1 - i) : Nat) : Int) := by rw [← pow8]; simp
  rw [e, wrap_byte]; rfl

theorem put_shift' (m k i : Nat) : (m : Int) / 2 ^ (8 * (k - 1 - i)) % 256 = ((wbAt m k i).toNat : Int) := by
  have e : (m : Int) / 2 ^ (8 * (k - 1 - i)) = ((m / 256 ^ (k - 1 - i) : Nat) : Int) := by rw [← pow8]; simp
  rw [e]; unfold wbAt; rw [UInt8.toNat_ofNat']; simp
theorem put_rem (m k i : Nat) : ((m / 256 ^ (k - 1 - i) : Nat) : Int) % 256 = ((wbAt m k i).toNat : Int) := by
  unfold wbAt; rw [UInt8.toNat_ofNat']; simp
theorem put_next (m k i : Nat) (h : i + 1 < k) : m / 256 ^ (k - 1 - (i + 1)) / 256 = m / 256 ^ (k - 1 - i) := by
  rw [Nat.div_div_eq_div_mul, ← Nat.pow_succ, show (k - 1 - (i + 1)).succ = k - 1 - i by omega]
/-- The cells of a row: those of which p speaks are filled. -/
def Fill (xs : List Value) (m k : Nat) (p : Nat → Prop) : Prop := xs.length = k ∧ ∀ j, j < k → p j → xs[j]? = some (.int .u8 (wbAt m k j).toNat)
theorem Fill.set {xs : List Value} {m k : Nat} {p q : Nat → Prop} (h : Fill xs m k p) {i : Nat} {x : Int} (hx : x = ((wbAt m k i).toNat : Int)) (hi : i < k) (hq : ∀ j, q j → j = i ∨ p j) : Fill (xs.set i (.int .u8 x)) m k q := by
  refine ⟨by simpa using h.1, fun j hj hqj => ?_⟩
  by_cases e : i = j
  · subst e; rw [List.getElem?_set_self (by rw [h.1]; exact hi), hx]
  · rw [List.getElem?_set_ne e]
    exact h.2 j hj ((hq j hqj).resolve_left (fun x => e x.symm))
theorem Fill.all {xs : List Value} {m k : Nat} {p : Nat → Prop} (h : Fill xs m k p) (hp : ∀ j, j < k → p j) : xs = byteCells (wb m k) := by
  apply List.ext_getElem?
  intro j
  by_cases hj : j < k
  · rw [h.2 j hj (hp j hj)]; simp [byteCells, wb_get m k j hj]
  · rw [List.getElem?_eq_none (by rw [h.1]; omega), List.getElem?_eq_none (by simp [byteCells, wb_length]; omega)]
theorem Fill.made (m k : Nat) (z : Value) (p : Nat → Prop) (hp : ∀ j, j < k → ¬ p j) : Fill (madeCells z.cells (k * 1)).toList m k p := by
  refine ⟨?_, fun j hj h => absurd h (hp j hj)⟩
  simp [madeCells]
theorem Fill.at {xs : List Value} {m k : Nat} {p : Nat → Prop} (h : Fill xs m k p) (j : Nat) (hj : j < k) : ∃ v, xs[j]? = some v := ⟨xs[j]'(by rw [h.1]; exact hj), List.getElem?_eq_getElem _⟩
theorem below_made {w w1 : World} (h : w.grownBy w1 none) : Below w.heap.size w w1 := (Below.refl _ _).grown h (Nat.le_refl _) (fun j hj => by cases hj)
theorem putW_le (n s : Int) : (putW n s).size ≤ 6 := by
  unfold putW
  split
  · rename_i h
    show (wb n.toNat s.toNat).toArray.size ≤ 6
    rw [List.size_toArray, wb_length]; omega
  · decide
theorem putW_six (n : Int) : (putW n 4).size ≤ 6 := putW_le n 4
end Go.Proofs.Ytajekjjaaohbnaa
namespace Go.Proofs.Ytajekjjaaohbnaa
open Go.RowKit Go.Lib

/-- The first j bytes of s from a on, read as a word. -/
def gw (s : ByteArray) (a : Nat) : Nat → Nat
  | 0 => 0
  | j + 1 => 256 * gw s a j + (at8 s (a + j)).toNat
theorem gw_lt (s : ByteArray) (a j : Nat) : gw s a j < 256 ^ j := by
  induction j with
  | zero => simp [gw]
  | succ j ih =>
    have h := (at8 s (a + j)).toNat_lt
    simp only [gw, Nat.pow_succ]; omega
theorem pow256_le (j : Nat) (h : j ≤ 6) : 256 ^ j ≤ 281474976710656 := Nat.le_trans (Nat.pow_le_pow_right (by decide) h) (by decide)
theorem gw_bd (s : ByteArray) (a j : Nat) (h : j ≤ 6) : gw s a j ≤ 281474976710655 := by
  have h1 := gw_lt s a j
  have h2 := pow256_le j h
  omega
theorem gw_bd5 (s : ByteArray) (a j : Nat) (h : j < 6) : gw s a j ≤ 1099511627775 := by
  have h1 := gw_lt s a j
  have h2 : 256 ^ j ≤ 1099511627776 := Nat.le_trans (Nat.pow_le_pow_right (by decide) (show j ≤ 5 by omega)) (by decide)
  omega

/-- What GetWord answers. -/
def getW (s : ByteArray) (a n : Int) : Int × Bool := if (1 ≤ n ∧ n ≤ 6) ∧ 0 ≤ a ∧ a ≤ s.size - n then (gw s a.toNat n.toNat, true) else (0, false)
theorem getW_no (s : ByteArray) (a n : Int) (h : ¬ (1 ≤ n ∧ n ≤ 6)) : getW s a n = (0, false) := by unfold getW; rw [if_neg (fun hh => h hh.1)]
theorem getW_no2 (s : ByteArray) (a n : Int) (h : ¬ (0 ≤ a ∧ a ≤ s.size - n)) : getW s a n = (0, false) := by unfold getW; rw [if_neg (fun hh => h hh.2)]
theorem getW_yes (s : ByteArray) (a n : Nat) (h : 1 ≤ n ∧ n ≤ 6) (h2 : a + n ≤ s.size) : getW s a n = ((gw s a n : Int), true) := by
  unfold getW; rw [if_pos ⟨by omega, by omega, by omega⟩]; simp

/-- A byte put behind a word. -/
theorem or_byte (x b : Nat) (hx : x ≤ 1099511627775) (hb : b < 256) : bits .or .i64 ((x : Int) * 256) (b : Int) = ((256 * x + b : Nat) : Int) := by
  have h1 : (BitVec.ofInt 64 ((x : Int) * 256)).toNat = x * 256 := by
    rw [show (x : Int) * 256 = ((x * 256 : Nat) : Int) by simp, BitVec.ofInt_natCast, BitVec.toNat_ofNat]; exact Nat.mod_eq_of_lt (by omega)
  have h2 : (BitVec.ofInt 64 (b : Int)).toNat = b := by
    rw [BitVec.ofInt_natCast, BitVec.toNat_ofNat]; exact Nat.mod_eq_of_lt (by omega)
  have h4 : (BitVec.ofInt 64 ((x : Int) * 256) ||| BitVec.ofInt 64 (b : Int)).toNat = 256 * x + b := by
    rw [BitVec.toNat_or, h1, h2]
    have h := Nat.shiftLeft_add_eq_or_of_lt (show b < 2 ^ 8 by omega) x
    rw [Nat.shiftLeft_eq] at h
    rw [show x * 256 = x * 2 ^ 8 by rfl, ← h]; omega
  have h3 : bits .or .i64 ((x : Int) * 256) (b : Int) = IntKind.i64.wrap ((BitVec.ofInt 64 ((x : Int) * 256) ||| BitVec.ofInt 64 (b : Int)).toNat : Int) := rfl
  rw [h3, h4, IntKind.wrap_i64]
  omega
end Go.Proofs.Ytajekjjaaohbnaa
namespace Go.Proofs.Ytajekjjaaohbnaa
open Go.RowKit Go.Lib

theorem wbAt_nat (m k i : Nat) : (wbAt m k i).toNat = m / 256 ^ (k - 1 - i) % 256 := by unfold wbAt; rw [UInt8.toNat_ofNat']
theorem gw_put (s : ByteArray) (a m k : Nat) (hm : m < 256 ^ k) (h : ∀ i, i < k → at8 s (a + i) = wbAt m k i) (j : Nat) (hj : j ≤ k) : gw s a j = m / 256 ^ (k - j) := by
  induction j with
  | zero => simp only [gw, Nat.sub_zero]; exact (Nat.div_eq_of_lt hm).symm
  | succ j ih =>
    simp only [gw]
    rw [ih (by omega), h j (by omega), wbAt_nat, show k - (j + 1) = k - 1 - j by omega, show k - j = (k - 1 - j) + 1 by omega, Nat.pow_succ, ← Nat.div_div_eq_div_mul]
    omega
theorem gw_div (s : ByteArray) (a j : Nat) : gw s a (j + 1) / 256 = gw s a j := by
  have h := (at8 s (a + j)).toNat_lt
  simp only [gw]; omega
theorem gw_divs (s : ByteArray) (a j d : Nat) : gw s a (j + d) / 256 ^ d = gw s a j := by
  induction d with
  | zero => simp
  | succ d ih => rw [Nat.pow_succ, Nat.mul_comm, ← Nat.div_div_eq_div_mul, ← Nat.add_assoc, gw_div, ih]
theorem wb_gw (s : ByteArray) (a k i : Nat) (h : i < k) : wbAt (gw s a k) k i = at8 s (a + i) := by
  apply UInt8.toNat_inj.1
  have h8 := (at8 s (a + i)).toNat_lt
  rw [wbAt_nat, show gw s a k = gw s a ((i + 1) + (k - 1 - i)) by rw [show (i + 1) + (k - 1 - i) = k by omega], gw_divs]
  simp only [gw]; omega

/-- The bytes of s from a on, k of them. -/
def cutB (s : ByteArray) (a k : Nat) : List UInt8 := (s.data.toList.drop a).take k
theorem wb_cut (s : ByteArray) (a k : Nat) (h : a + k ≤ s.size) : wb (gw s a k) k = cutB s a k := by
  apply List.ext_getElem?
  intro i
  by_cases hi : i < k
  · rw [wb_get _ _ _ hi, wb_gw s a k i hi]
    have h2 : a + i < s.data.toList.length := by rw [Array.length_toList, ByteArray.size_data]; omega
    unfold cutB
    rw [List.getElem?_take, if_pos hi, List.getElem?_drop, List.getElem?_eq_getElem h2]
    unfold at8; rw [List.getD_eq_getElem?_getD, List.getElem?_eq_getElem h2]; rfl
  · unfold cutB
    rw [List.getElem?_eq_none (by rw [wb_length]; omega), List.getElem?_eq_none (by simp; omega)]
theorem put_get (s : ByteArray) (a k : Nat) (hk : 1 ≤ k ∧ k ≤ 6) (h : a + k ≤ s.size) : putW (gw s a k) k = ⟨(cutB s a k).toArray⟩ := by
  unfold putW
  have h1 := gw_lt s a k
  rw [if_pos]
  · rw [← wb_cut s a k h]; simp
  · refine ⟨by omega, by omega, ?_⟩
    rw [show (8 * (k : Int)).toNat = 8 * k by omega]
    have h2 : (2 : Nat) ^ (8 * k) = 256 ^ k := pow8 k
    have h3 : gw s a k < 2 ^ (8 * k) := by rw [h2]; exact h1
    exact_mod_cast h3

theorem cut_extract (s : ByteArray) (a k : Nat) : (⟨(cutB s a k).toArray⟩ : ByteArray) = s.extract a (a + k) := by
  apply ByteArray.ext
  apply Array.toList_inj.1
  unfold cutB
  simp [ByteArray.data_extract, List.extract_eq_take_drop]
/-- What PutWord answers, told apart: nothing, for no word; or k bytes. -/
theorem putW_cases (n s : Int) : (putW n s = ⟨#[]⟩ ∧ (wordOk n (8 * s) = false ∨ s < 1 ∨ 6 < s)) ∨
    (∃ m k : Nat, n = m ∧ s = k ∧ (1 ≤ k ∧ k ≤ 6) ∧ m < 256 ^ k ∧ putW n s = ⟨(wb m k).toArray⟩ ∧ wordOk n (8 * s) = true) := by
  by_cases h : 1 ≤ s ∧ s ≤ 6
  · cases hw : wordOk n (8 * s) with
    | false => exact .inl ⟨putW_ok n s h hw, .inl rfl⟩
    | true =>
      refine .inr ⟨n.toNat, s.toNat, ?_, by omega, by omega, ?_, putW_yes n s h hw, rfl⟩
      · have := wordOk_bd hw; omega
      · have h2 := (of_decide_eq_true hw).2
        rw [show (8 * s).toNat = 8 * s.toNat by omega] at h2
        have h3 : n.toNat < 2 ^ (8 * s.toNat) := by
          have h4 : (n.toNat : Int) < ((2 ^ (8 * s.toNat) : Nat) : Int) := by
            rw [Int.toNat_of_nonneg h2.1]; simpa using h2.2
          exact_mod_cast h4
        rw [pow8] at h3; exact h3
  · exact .inl ⟨putW_no n s h, .inr (by omega)⟩
theorem get_put (m k : Nat) (hk : 1 ≤ k ∧ k ≤ 6) (hm : m < 256 ^ k) (p q : ByteArray) :
    getW (p ++ ⟨(wb m k).toArray⟩ ++ q) p.size k = ((m : Int), true) := by
  have hsz : (p ++ (⟨(wb m k).toArray⟩ : ByteArray) ++ q).size = p.size + k + q.size := by
    rw [ByteArray.size_append, ByteArray.size_append]; show p.size + (wb m k).toArray.size + q.size = _; rw [List.size_toArray, wb_length]
  rw [getW_yes _ _ _ hk (by rw [hsz]; omega)]
  rw [gw_put _ p.size m k hm (fun i hi => ?_) k (Nat.le_refl _)]
  · simp
  · unfold at8
    have e : (p ++ (⟨(wb m k).toArray⟩ : ByteArray) ++ q).data.toList = p.data.toList ++ wb m k ++ q.data.toList := by simp
    rw [e, List.append_assoc, List.getD_eq_getElem?_getD, List.getElem?_append_right (by simp), List.getElem?_append_left (by rw [wb_length]; simp; omega)]
    rw [show p.size + i - p.data.toList.length = i by simp, wb_get m k i hi]; rfl
end Go.Proofs.Ytajekjjaaohbnaa
namespace Go.Proofs.Ytajekjjaaohbnaa
open Go.RowKit Go.Lib

theorem putW_word (n : Int) (k : Nat) (hk : 1 ≤ k ∧ k ≤ 6) (h : wordOk n (8 * k) = true) : ∃ m : Nat, n = m ∧ m < 256 ^ k ∧ putW n k = ⟨(wb m k).toArray⟩ ∧ (putW n k).size = k := by
  rcases putW_cases n k with ⟨_, h1⟩ | ⟨m, k', rfl, e, _, hm, hp, _⟩
  · rcases h1 with h1 | h1 | h1
    · rw [h] at h1; cases h1
    · omega
    · omega
  · have e' : k = k' := by omega
    subst e'
    refine ⟨m, rfl, hm, hp, ?_⟩
    rw [hp]; show (wb m k).toArray.size = k; rw [List.size_toArray, wb_length]
theorem gw_at (n : Int) (k : Nat) (hk : 1 ≤ k ∧ k ≤ 6) (h : wordOk n (8 * k) = true) (p q : ByteArray) : ((gw (p ++ putW n k ++ q) p.size k : Nat) : Int) = n := by
  obtain ⟨m, rfl, hm, hp, _⟩ := putW_word n k hk h
  rw [hp]
  have h1 := get_put m k hk hm p q
  rw [getW_yes _ _ _ hk (by rw [ByteArray.size_append, ByteArray.size_append]; show p.size + k ≤ p.size + (wb m k).toArray.size + q.size; rw [List.size_toArray, wb_length]; omega)] at h1
  exact (Prod.mk.inj h1).1
/-- A word that stands in a text, read back. -/
theorem gw_back (n : Int) (k i : Nat) (hk : 1 ≤ k ∧ k ≤ 6) (h : wordOk n (8 * k) = true) (p q x : ByteArray) (hx : x = p ++ (putW n k ++ q)) (hi : p.size = i) : ((gw x i k : Nat) : Int) = n := by
  have := gw_at n k hk h p q
  rw [← hi, hx, ← ByteArray.append_assoc]; exact this
theorem gw1 (s : ByteArray) (a : Nat) : gw s a 1 = (at8 s a).toNat := by simp [gw]
theorem gw_word (s : ByteArray) (a k : Nat) (hk : 1 ≤ k ∧ k ≤ 6) : wordOk (gw s a k : Nat) (8 * k) = true := by
  have h := gw_lt s a k
  unfold wordOk
  apply decide_eq_true
  refine ⟨by omega, by omega, ?_⟩
  rw [show (8 * (k : Int)).toNat = 8 * k by omega]
  have h2 : (2 : Nat) ^ (8 * k) = 256 ^ k := pow8 k
  have h3 : gw s a k < 2 ^ (8 * k) := by rw [h2]; exact h
  exact_mod_cast h3
end Go.Proofs.Ytajekjjaaohbnaa
namespace Go.Proofs.Ytajekjjaaohbnaa
open Go.RowKit Go.Lib

/-- The slice at a (nil or not) reads as xs, one cell an element, all of it below block B. -/
def Row (w : World) (B : Nat) (a : Option Addr) (xs : List Value) : Prop :=
  xs ≠ [] → ∃ b off, a = some ⟨b, off, none⟩ ∧ b < B ∧ ∀ j u, xs[j]? = some u → w.cell? ⟨b, off + j, none⟩ = some u
theorem Row.nil {w : World} {B : Nat} {a : Option Addr} : Row w B a [] := fun h => absurd rfl h
theorem Row.below {w w' : World} {B : Nat} {a : Option Addr} {xs : List Value} (h : Row w B a xs) (hb : Below B w w') : Row w' B a xs := fun hx => by
  obtain ⟨b, off, ha, hB, hc⟩ := h hx
  exact ⟨b, off, ha, hB, fun j u hu => (hb.cell (p := ⟨b, off + j, none⟩) hB).trans (hc j u hu)⟩
theorem Row.mono {w : World} {B B' : Nat} {a : Option Addr} {xs : List Value} (h : Row w B a xs) (hB : B ≤ B') : Row w B' a xs := fun hx => by
  obtain ⟨b, off, ha, hb, hc⟩ := h hx
  exact ⟨b, off, ha, Nat.lt_of_lt_of_le hb hB, hc⟩
theorem Row.own {w : World} {base : Nat} {e : TypeId} {n cap g : Nat} {xs : List Value} (h : w.ownsRow base e 1 (.slice (some ⟨g, 0, none⟩) n cap) n xs) : Row w w.heap.size (some ⟨g, 0, none⟩) xs := fun hx => by
  have hn : 0 < n := by have := h.1; have := List.length_pos_iff.2 hx; omega
  obtain ⟨g', cap', hv, _, hlt⟩ := h.form hn
  have e : g = g' := by injection hv with h1; injection h1 with h1; injection h1
  subst e
  refine ⟨g, 0, rfl, hlt, fun j u hu => ?_⟩
  have := h.cells (g := g) rfl j u hu
  rw [Nat.zero_add]
  rwa [show (⟨g, 0, none⟩ : Addr).add j = ⟨g, j, none⟩ by unfold Addr.add; split <;> simp_all] at this

def strVals (ss : List ByteArray) : List Value := ss.map Value.string
theorem strVals_at (ss : List ByteArray) (k : Nat) (h : k < ss.length) : (strVals ss)[k]? = some (.string ss[k]) := by simp [strVals, h]
theorem Row.str {w : World} {B : Nat} {a : Option Addr} {ss : List ByteArray} (h : Row w B a (strVals ss)) {k : Nat} (hk : k < ss.length) :
    ∃ b off, a = some ⟨b, off, none⟩ ∧ b < B ∧ ∀ j (hj : j < ss.length), w.cell? ⟨b, off + j, none⟩ = some (.string ss[j]) := by
  obtain ⟨b, off, ha, hb, hc⟩ := h (fun e => by have := congrArg List.length e; simp [strVals] at this; subst this; simp at hk)
  exact ⟨b, off, ha, hb, fun j hj => hc j _ (strVals_at ss j hj)⟩

def bytesOf (ss : List ByteArray) : List (List UInt8) := ss.map (·.data.toList)
theorem lens_take (ss : List ByteArray) (k : Nat) (h : k < ss.length) : lens (bytesOf (ss.take (k + 1))) = lens (bytesOf (ss.take k)) + ss[k].size := by
  have e : (bytesOf ss)[k]? = some ss[k].data.toList := by simp [bytesOf, h]
  have := lens_take_succ (bytesOf ss) k _ e
  simp only [bytesOf, ← List.map_take] at this ⊢
  rw [this]; simp

/-- The first k elements, joined. -/
def jn (ss : List ByteArray) (by_ : ByteArray) (k : Nat) : List UInt8 := Lib.join (bytesOf (ss.take k)) by_.data.toList
theorem jn_zero (ss : List ByteArray) (by_ : ByteArray) : jn ss by_ 0 = [] := rfl
theorem jn_one (ss : List ByteArray) (by_ : ByteArray) (h : 0 < ss.length) : jn ss by_ (0 + 1) = ss[0].data.toList := by
  cases ss with
  | nil => simp at h
  | cons x r => simp [jn, bytesOf, join_one]
theorem jn_succ (ss : List ByteArray) (by_ : ByteArray) (k : Nat) (h : k < ss.length) (h0 : 0 < k) : jn ss by_ (k + 1) = jn ss by_ k ++ by_.data.toList ++ ss[k].data.toList := by
  cases ss with
  | nil => simp at h
  | cons x r =>
    obtain ⟨m, rfl⟩ : ∃ m, k = m + 1 := ⟨k - 1, by omega⟩
    have hm : m < r.length := by simpa using h
    have e : (bytesOf r)[m]? = some r[m].data.toList := by simp [bytesOf, hm]
    have := joinTail_take_succ by_.data.toList (bytesOf r) m _ e
    unfold jn
    simp only [bytesOf, List.take_succ_cons, List.map_cons, join_cons, List.getElem_cons_succ]
    simp only [bytesOf, ← List.map_take] at this
    rw [this]; simp
theorem jn_length (ss : List ByteArray) (by_ : ByteArray) (k : Nat) : (jn ss by_ k).length ≤ by_.size * k + lens (bytesOf ss) := by
  cases ss with
  | nil => simp [jn, bytesOf, join_nil]
  | cons x r =>
    cases k with
    | zero => simp [jn_zero]
    | succ k =>
      have h1 := lens_take_le (bytesOf (x :: r)) (k + 1)
      unfold jn
      simp only [List.take_succ_cons, bytesOf, List.map_cons] at h1 ⊢
      rw [join_length]
      have h2 : ((r.take k).map (·.data.toList)).length ≤ k := by simp; omega
      rw [← List.map_take] at h1
      have h3 : by_.data.toList.length = by_.size := by simp
      rw [h3]
      have := Nat.mul_le_mul_left by_.size (show ((r.take k).map (·.data.toList)).length ≤ k + 1 by omega)
      omega
/-- The first k strings, then empty ones. -/
def fillS (ss : List ByteArray) (k : Nat) : List Value := strVals (ss.take k) ++ List.replicate (ss.length - k) (.string ⟨#[]⟩)
theorem fillS_zero (ss : List ByteArray) : fillS ss 0 = List.replicate ss.length (.string ⟨#[]⟩) := by simp [fillS, strVals]
theorem fillS_all (ss : List ByteArray) (k : Nat) (h : ss.length ≤ k) : fillS ss k = strVals ss := by
  unfold fillS; rw [List.take_of_length_le h, show ss.length - k = 0 by omega]; simp
theorem fillS_at (ss : List ByteArray) (k : Nat) (h : k < ss.length) : (fillS ss k)[k]? = some (.string ⟨#[]⟩) := by
  unfold fillS
  have hl : (strVals (ss.take k)).length = k := by simp [strVals]; omega
  rw [List.getElem?_append_right (by omega), hl, Nat.sub_self, List.getElem?_replicate, if_pos (by omega)]
theorem fillS_set (ss : List ByteArray) (k : Nat) (h : k < ss.length) : (fillS ss k).set k (.string ss[k]) = fillS ss (k + 1) := by
  unfold fillS
  have hl : (strVals (ss.take k)).length = k := by simp [strVals]; omega
  rw [List.set_append_right _ _ (by omega), hl, Nat.sub_self, show ss.length - k = (ss.length - (k + 1)) + 1 by omega, List.replicate_succ, List.set_cons_zero, List.take_succ_eq_append_getElem h]
  unfold strVals; rw [List.map_append, List.append_assoc]; rfl
theorem below_grown {B : Nat} {w wr w1 : World} {e : TypeId} {size : Nat} {v : Value} {n : Nat} {xs : List Value} (hb : Below w.heap.size w wr) (hown : wr.ownsRow B e size v n xs) (hg : wr.grownBy w1 v.ownBlock) (hB : w.heap.size ≤ B := by omega) : Below w.heap.size w w1 :=
  hb.grown hg hb.size (fun j hj => Nat.le_trans hB (hown.lt j hj).1)

theorem strCells_bytes (s : ByteArray) : strCells s = byteCells s.data.toList := rfl
end Go.Proofs.Ytajekjjaaohbnaa
namespace Go.Proofs.Ytajekjjaaohbnaa
open Go.RowKit Go.Lib

theorem row_at {w : World} {r k : Nat} {cs : Array Value} {t : TypeId} (h : w.heap[r]? = some (.cells cs t (0, 0))) (hk : k < cs.size) : w.cell? ⟨r, k, none⟩ = some cs[k] := by
  rw [cell_of_row w r k cs t (0, 0) h]; simp [hk]
end Go.Proofs.Ytajekjjaaohbnaa
namespace Go.Proofs.Ytajekjjaaohbnaa
open Go.RowKit Go.Lib

/-- What Folded answers. -/
def foldI (n : Int) : Int := if n ≤ 0 then 0 else (n - 1) % 65535 + 1
theorem foldI_neg (n : Int) (h : n < 0) : foldI n = 0 := by unfold foldI; rw [if_pos (by omega)]
theorem foldI_small (n : Int) (h0 : 0 ≤ n) (h : n ≤ 65535) : foldI n = n := by unfold foldI; split <;> omega
theorem foldI_step (n : Int) (h : 65535 < n) : foldI (n / 65536 + n % 65536) = foldI n := by
  unfold foldI; rw [if_neg (by omega), if_neg (by omega)]; omega
theorem foldI_bd (n : Int) : 0 ≤ foldI n ∧ foldI n ≤ 65535 := by unfold foldI; split <;> omega
theorem foldI_rest (n : Int) (h : 0 ≤ n) : (n - foldI n) % 65535 = 0 ∧ foldI n ≤ n := by unfold foldI; split <;> omega

theorem and_mask (n : Int) (h0 : 0 ≤ n) (h : n ≤ 9223372036854775807) : bits .and .i64 n 65535 = n % 65536 := by
  obtain ⟨m, rfl⟩ : ∃ m : Nat, n = (m : Int) := ⟨n.toNat, by omega⟩
  have h1 : (BitVec.ofInt 64 (m : Int)).toNat = m := by
    rw [BitVec.ofInt_natCast, BitVec.toNat_ofNat]; exact Nat.mod_eq_of_lt (by omega)
  have h2 : (BitVec.ofInt 64 (65535 : Int)).toNat = 65535 := by decide
  have h4 : (BitVec.ofInt 64 (m : Int) &&& BitVec.ofInt 64 (65535 : Int)).toNat = m % 65536 := by
    rw [BitVec.toNat_and, h1, h2]; exact Nat.and_two_pow_sub_one_eq_mod m 16
  have h3 : bits .and .i64 (m : Int) 65535 = IntKind.i64.wrap ((BitVec.ofInt 64 (m : Int) &&& BitVec.ofInt 64 (65535 : Int)).toNat : Int) := rfl
  rw [h3, h4, IntKind.wrap_i64]
  omega

/-- The sum of bytes as words, the first of which counts 256 fold (if b). -/
def sm : Bool → List UInt8 → Nat
  | _, [] => 0
  | b, x :: xs => (if b then 256 else 1) * x.toNat + sm (!b) xs
/-- Which of the two places the byte behind n bytes has. -/
def flip (b : Bool) (n : Nat) : Bool := if n % 2 = 0 then b else !b
theorem flip_succ (b : Bool) (n : Nat) : flip (!b) n = flip b (n + 1) := by
  unfold flip
  rcases Nat.mod_two_eq_zero_or_one n with h | h
  · rw [if_pos h, if_neg (by omega)]
  · rw [if_neg (by omega), if_pos (by omega)]; simp
theorem sm_append (b : Bool) (l m : List UInt8) : sm b (l ++ m) = sm b l + sm (flip b l.length) m := by
  induction l generalizing b with
  | nil => simp [sm, flip]
  | cons x xs ih => simp only [List.cons_append, sm, ih, List.length_cons, flip_succ]; omega
theorem sm_bd (b : Bool) (l : List UInt8) : sm b l ≤ 65280 * l.length := by
  induction l generalizing b with
  | nil => simp [sm]
  | cons x xs ih =>
    have h := ih (!b)
    have hx := x.toNat_lt
    simp only [sm, List.length_cons]
    cases b <;> simp at h ⊢ <;> omega
theorem sm_set (b : Bool) (l : List UInt8) (i : Nat) (y : UInt8) (h : i < l.length) :
    sm b (l.set i y) + (if flip b i then 256 else 1) * l[i].toNat = sm b l + (if flip b i then 256 else 1) * y.toNat := by
  induction l generalizing b i with
  | nil => simp at h
  | cons x xs ih =>
    cases i with
    | zero => simp only [List.set_cons_zero, sm, List.getElem_cons_zero]; have : flip b 0 = b := by simp [flip]
              rw [this]; omega
    | succ i =>
      have := ih (!b) i (by simpa using h)
      rw [flip_succ] at this
      simp only [List.set_cons_succ, sm, List.getElem_cons_succ]; omega

/-- What WordSum answers. -/
def wsum (s : ByteArray) : Nat := sm true s.data.toList
/-- The sum of the first k bytes. -/
def psum (s : ByteArray) (k : Nat) : Nat := sm true (s.data.toList.take k)
theorem psum_zero (s : ByteArray) : psum s 0 = 0 := by simp [psum, sm]
theorem psum_all (s : ByteArray) : psum s s.size = wsum s := by
  unfold psum wsum; rw [List.take_of_length_le (by simp)]
theorem psum_next (s : ByteArray) (k : Nat) (h : k < s.size) : psum s (k + 1) = psum s k + (if k % 2 = 0 then 256 else 1) * s[k].toNat := by
  have hl : k < s.data.toList.length := by simpa using h
  have e : s.data.toList[k] = s[k] := by simp [ByteArray.getElem_eq_getElem_data]
  unfold psum
  rw [List.take_succ_eq_append_getElem hl, sm_append, e, List.length_take, Nat.min_eq_left (by omega)]
  unfold flip
  rcases Nat.mod_two_eq_zero_or_one k with h | h
  · rw [if_pos h, if_pos h]; simp [sm]
  · rw [if_neg (by omega), if_neg (by omega)]; simp [sm]
theorem psum_bd (s : ByteArray) (k : Nat) : psum s k ≤ 65280 * k := by
  refine Nat.le_trans (sm_bd _ _) (Nat.mul_le_mul_left _ ?_)
  rw [List.length_take]; omega
theorem psum_even (s : ByteArray) (k : Nat) (h : k < s.size) (he : k % 2 = 0) : psum s (k + 1) = psum s k + 256 * s[k].toNat := by
  rw [psum_next s k h, if_pos he]
theorem psum_odd (s : ByteArray) (k : Nat) (h : k < s.size) (he : k % 2 = 1) : psum s (k + 1) = psum s k + s[k].toNat := by
  rw [psum_next s k h, if_neg (by omega), Nat.one_mul]
theorem wsum_bd (s : ByteArray) : wsum s ≤ 65280 * s.size := by rw [← psum_all]; exact psum_bd s _
theorem wsum_append (s t : ByteArray) (h : s.size % 2 = 0) : wsum (s ++ t) = wsum s + wsum t := by
  unfold wsum
  have hl : s.data.toList.length = s.size := by simp
  rw [show (s ++ t).data.toList = s.data.toList ++ t.data.toList by simp, sm_append, hl]
  unfold flip; rw [if_pos h]

/-- What SumOf answers. -/
def sumOf (s : ByteArray) : Int := 65535 - foldI (wsum s)
/-- What SumRight answers. -/
def sumRight (s : ByteArray) : Bool := decide (sumOf s = 0)
theorem sumOf_bd (s : ByteArray) : 0 ≤ sumOf s ∧ sumOf s ≤ 65535 := by
  have := foldI_bd (wsum s); unfold sumOf; omega
theorem sumRight_iff (s : ByteArray) : sumRight s = decide (0 < wsum s ∧ wsum s % 65535 = 0) := by
  unfold sumRight sumOf foldI
  rw [decide_eq_decide]
  split <;> omega
end Go.Proofs.Ytajekjjaaohbnaa
namespace Go.Proofs.Ytajekjjaaohbnaa
open Go.RowKit Go.Lib

theorem putW_sum (s : ByteArray) : ∃ c : Nat, sumOf s = c ∧ c ≤ 65535 ∧ putW (sumOf s) 2 = ⟨#[UInt8.ofNat (c / 256), UInt8.ofNat c]⟩ := by
  have h := sumOf_bd s
  refine ⟨(sumOf s).toNat, by omega, by omega, ?_⟩
  unfold putW
  rw [if_pos ⟨by omega, by omega, Int.lt_of_le_of_lt h.2 (by decide)⟩]
  simp [wb, wbAt, List.range, List.range.loop]
theorem wsum_two (x y : UInt8) : wsum ⟨#[x, y]⟩ = 256 * x.toNat + y.toNat := by simp [wsum, sm]
theorem wsum_seal (s : ByteArray) (h : s.size % 2 = 0) : ∃ c : Nat, sumOf s = c ∧ wsum (s ++ putW (sumOf s) 2) = wsum s + c := by
  obtain ⟨c, h1, h2, h3⟩ := putW_sum s
  refine ⟨c, h1, ?_⟩
  rw [wsum_append s _ h, h3, wsum_two, UInt8.toNat_ofNat', UInt8.toNat_ofNat']
  omega
theorem seal_size (s : ByteArray) : (s ++ putW (sumOf s) 2).size = s.size + 2 := by
  obtain ⟨c, h1, h2, h3⟩ := putW_sum s
  rw [h3, ByteArray.size_append]; rfl
theorem seal_right (s : ByteArray) (h : s.size % 2 = 0) : sumRight (s ++ putW (sumOf s) 2) = true := by
  obtain ⟨c, h1, h2⟩ := wsum_seal s h
  rw [sumRight_iff, h2]
  apply decide_eq_true
  unfold sumOf foldI at h1
  split at h1 <;> omega
/-- A text with one byte set anew. -/
def turn (t : ByteArray) (i : Nat) (y : UInt8) : ByteArray := ⟨(t.data.toList.set i y).toArray⟩
theorem turn_size (t : ByteArray) (i : Nat) (y : UInt8) : (turn t i y).size = t.size := by
  show (t.data.toList.set i y).toArray.size = _
  simp
theorem turn_wrong (t : ByteArray) (i : Nat) (y : UInt8) (hi : i < t.size) (hr : sumRight t = true) (hy : y ≠ t[i]) : sumRight (turn t i y) = false := by
  have hl : i < t.data.toList.length := by simpa using hi
  have h := sm_set true t.data.toList i y hl
  have e : t.data.toList[i] = t[i] := by simp [ByteArray.getElem_eq_getElem_data]
  have e2 : wsum (turn t i y) = sm true (t.data.toList.set i y) := rfl
  have e3 : wsum t = sm true t.data.toList := rfl
  rw [e, ← e2, ← e3] at h
  rw [sumRight_iff] at hr ⊢
  have hr := of_decide_eq_true hr
  apply decide_eq_false
  have h1 := y.toNat_lt
  have h2 := t[i].toNat_lt
  have h3 : y.toNat ≠ t[i].toNat := fun e => hy (UInt8.toNat_inj.1 e)
  rintro ⟨_, h4⟩
  cases hf : flip true i <;> simp only [hf, if_true, Bool.false_eq_true, if_false] at h <;> omega
/-- What is xored with a byte above 0 is another. -/
theorem xor_ne (x y : UInt8) (h : y ≠ 0) : x ^^^ y ≠ x := by
  intro e
  have : x ^^^ (x ^^^ y) = x ^^^ x := by rw [e]
  rw [← UInt8.xor_assoc, UInt8.xor_self, UInt8.zero_xor] at this
  exact h this
theorem xor_bits (x y : UInt8) : bits .xor .u8 (x.toNat : Int) (y.toNat : Int) = ((x ^^^ y).toNat : Int) := by
  have h1 (z : UInt8) : (BitVec.ofInt 8 (z.toNat : Int)).toNat = z.toNat := by
    rw [BitVec.ofInt_natCast, BitVec.toNat_ofNat]; exact Nat.mod_eq_of_lt z.toNat_lt
  have h3 : bits .xor .u8 (x.toNat : Int) (y.toNat : Int) = IntKind.u8.wrap ((BitVec.ofInt 8 (x.toNat : Int) ^^^ BitVec.ofInt 8 (y.toNat : Int)).toNat : Int) := rfl
  have h4 : (BitVec.ofInt 8 (x.toNat : Int) ^^^ BitVec.ofInt 8 (y.toNat : Int)).toNat = (x ^^^ y).toNat := by
    rw [BitVec.toNat_xor, h1, h1, UInt8.toNat_xor]
  rw [h3, h4]
  obtain ⟨z, hz⟩ : ∃ z : UInt8, x ^^^ y = z := ⟨_, rfl⟩
  rw [hz]
  have h5 := z.toNat_lt
  simp only [IntKind.wrap, IntKind.bits, IntKind.signed]
  simp
  omega
end Go.Proofs.Ytajekjjaaohbnaa
namespace Go.Proofs.Ytajekjjaaohbnaa
open Go.RowKit Go.Lib

/-- The block g holds these cells. -/
def HasC (w : World) (g : Nat) (vs : List Value) : Prop := g < w.heap.size ∧ ∀ (j : Nat) (v : Value), vs[j]? = some v → w.cell? ⟨g, j, none⟩ = some v
theorem HasC.new (w : World) (cs : Array Value) (t : TypeId) : HasC (w.alloc (.cells cs t)) w.heap.size cs.toList := by
  refine ⟨by simp, fun j v h => ?_⟩
  obtain ⟨hj, rfl⟩ := List.getElem?_eq_some_iff.1 h
  simp
theorem HasC.keep {w w' : World} {g : Nat} {vs : List Value} (h : HasC w g vs) (hb : Below w.heap.size w w') : HasC w' g vs :=
  ⟨Nat.lt_of_lt_of_le h.1 hb.size, fun j v hj => (hb.cell (p := ⟨g, j, none⟩) h.1).trans (h.2 j v hj)⟩
theorem HasC.alloc {w : World} {g : Nat} {vs : List Value} (h : HasC w g vs) (o : Obj) : HasC (w.alloc o) g vs := h.keep ((Below.refl _ _).alloc (Nat.le_refl _) o)
theorem HasC.drew {w : World} {g : Nat} {vs : List Value} (h : HasC w g vs) : HasC w.drew g vs := h
theorem HasC.four {w : World} {g : Nat} {v0 v1 v2 v3 : Value} (h : HasC w g [v0, v1, v2, v3]) : w.cell? ⟨g, 0, none⟩ = some v0 ∧ w.cell? ⟨g, 1, none⟩ = some v1 ∧ w.cell? ⟨g, 2, none⟩ = some v2 ∧ w.cell? ⟨g, 3, none⟩ = some v3 :=
  ⟨h.2 0 _ rfl, h.2 1 _ rfl, h.2 2 _ rfl, h.2 3 _ rfl⟩
/-- Four cells of a block, kept over a call that makes memory of its own. -/
theorem keep4 {w w' : World} {g : Nat} {v0 v1 v2 v3 : Value} (h : g < w.heap.size ∧ w.cell? ⟨g, 0, none⟩ = some v0 ∧ w.cell? ⟨g, 1, none⟩ = some v1 ∧ w.cell? ⟨g, 2, none⟩ = some v2 ∧ w.cell? ⟨g, 3, none⟩ = some v3) (hb : Below w.heap.size w w') :
    g < w'.heap.size ∧ w'.cell? ⟨g, 0, none⟩ = some v0 ∧ w'.cell? ⟨g, 1, none⟩ = some v1 ∧ w'.cell? ⟨g, 2, none⟩ = some v2 ∧ w'.cell? ⟨g, 3, none⟩ = some v3 :=
  ⟨Nat.lt_of_lt_of_le h.1 hb.size, (hb.cell (p := ⟨g, 0, none⟩) h.1).trans h.2.1, (hb.cell (p := ⟨g, 1, none⟩) h.1).trans h.2.2.1, (hb.cell (p := ⟨g, 2, none⟩) h.1).trans h.2.2.2.1, (hb.cell (p := ⟨g, 3, none⟩) h.1).trans h.2.2.2.2⟩
end Go.Proofs.Ytajekjjaaohbnaa
namespace Go.Proofs.Ytajekjjaaohbnaa
open Go.RowKit Go.Lib

theorem HasC.of5 {w : World} {g : Nat} {v0 v1 v2 v3 v4 : Value} (h : HasC w g [v0, v1, v2, v3, v4]) : w.cell? ⟨g, 0, none⟩ = some v0 ∧ w.cell? ⟨g, 1, none⟩ = some v1 ∧ w.cell? ⟨g, 2, none⟩ = some v2 ∧ w.cell? ⟨g, 3, none⟩ = some v3 ∧ w.cell? ⟨g, 4, none⟩ = some v4 :=
  ⟨h.2 0 _ rfl, h.2 1 _ rfl, h.2 2 _ rfl, h.2 3 _ rfl, h.2 4 _ rfl⟩
/-- 5 cells of a block, kept over a call that makes memory of its own. -/
theorem keep5 {w w' : World} {g : Nat} {v0 v1 v2 v3 v4 : Value} (h : g < w.heap.size ∧ w.cell? ⟨g, 0, none⟩ = some v0 ∧ w.cell? ⟨g, 1, none⟩ = some v1 ∧ w.cell? ⟨g, 2, none⟩ = some v2 ∧ w.cell? ⟨g, 3, none⟩ = some v3 ∧ w.cell? ⟨g, 4, none⟩ = some v4) (hb : Below w.heap.size w w') :
    g < w'.heap.size ∧ w'.cell? ⟨g, 0, none⟩ = some v0 ∧ w'.cell? ⟨g, 1, none⟩ = some v1 ∧ w'.cell? ⟨g, 2, none⟩ = some v2 ∧ w'.cell? ⟨g, 3, none⟩ = some v3 ∧ w'.cell? ⟨g, 4, none⟩ = some v4 :=
  ⟨Nat.lt_of_lt_of_le h.1 hb.size, (hb.cell (p := ⟨g, 0, none⟩) h.1).trans h.2.1, (hb.cell (p := ⟨g, 1, none⟩) h.1).trans h.2.2.1, (hb.cell (p := ⟨g, 2, none⟩) h.1).trans h.2.2.2.1, (hb.cell (p := ⟨g, 3, none⟩) h.1).trans h.2.2.2.2.1, (hb.cell (p := ⟨g, 4, none⟩) h.1).trans h.2.2.2.2.2⟩
end Go.Proofs.Ytajekjjaaohbnaa
namespace Go.Proofs.Ytajekjjaaohbnaa
open Go.RowKit Go.Lib

theorem HasC.of6 {w : World} {g : Nat} {v0 v1 v2 v3 v4 v5 : Value} (h : HasC w g [v0, v1, v2, v3, v4, v5]) : w.cell? ⟨g, 0, none⟩ = some v0 ∧ w.cell? ⟨g, 1, none⟩ = some v1 ∧ w.cell? ⟨g, 2, none⟩ = some v2 ∧ w.cell? ⟨g, 3, none⟩ = some v3 ∧ w.cell? ⟨g, 4, none⟩ = some v4 ∧ w.cell? ⟨g, 5, none⟩ = some v5 :=
  ⟨h.2 0 _ rfl, h.2 1 _ rfl, h.2 2 _ rfl, h.2 3 _ rfl, h.2 4 _ rfl, h.2 5 _ rfl⟩
/-- 6 cells of a block, kept over a call that makes memory of its own. -/
theorem keep6 {w w' : World} {g : Nat} {v0 v1 v2 v3 v4 v5 : Value} (h : g < w.heap.size ∧ w.cell? ⟨g, 0, none⟩ = some v0 ∧ w.cell? ⟨g, 1, none⟩ = some v1 ∧ w.cell? ⟨g, 2, none⟩ = some v2 ∧ w.cell? ⟨g, 3, none⟩ = some v3 ∧ w.cell? ⟨g, 4, none⟩ = some v4 ∧ w.cell? ⟨g, 5, none⟩ = some v5) (hb : Below w.heap.size w w') :
    g < w'.heap.size ∧ w'.cell? ⟨g, 0, none⟩ = some v0 ∧ w'.cell? ⟨g, 1, none⟩ = some v1 ∧ w'.cell? ⟨g, 2, none⟩ = some v2 ∧ w'.cell? ⟨g, 3, none⟩ = some v3 ∧ w'.cell? ⟨g, 4, none⟩ = some v4 ∧ w'.cell? ⟨g, 5, none⟩ = some v5 :=
  ⟨Nat.lt_of_lt_of_le h.1 hb.size, (hb.cell (p := ⟨g, 0, none⟩) h.1).trans h.2.1, (hb.cell (p := ⟨g, 1, none⟩) h.1).trans h.2.2.1, (hb.cell (p := ⟨g, 2, none⟩) h.1).trans h.2.2.2.1, (hb.cell (p := ⟨g, 3, none⟩) h.1).trans h.2.2.2.2.1, (hb.cell (p := ⟨g, 4, none⟩) h.1).trans h.2.2.2.2.2.1, (hb.cell (p := ⟨g, 5, none⟩) h.1).trans h.2.2.2.2.2.2⟩
end Go.Proofs.Ytajekjjaaohbnaa
namespace Go.Proofs.Ytajekjjaaohbnaa
open Go.RowKit Go.Lib

theorem HasC.of13 {w : World} {g : Nat} {v0 v1 v2 v3 v4 v5 v6 v7 v8 v9 v10 v11 v12 : Value} (h : HasC w g [v0, v1, v2, v3, v4, v5, v6, v7, v8, v9, v10, v11, v12]) : w.cell? ⟨g, 0, none⟩ = some v0 ∧ w.cell? ⟨g, 1, none⟩ = some v1 ∧ w.cell? ⟨g, 2, none⟩ = some v2 ∧ w.cell? ⟨g, 3, none⟩ = some v3 ∧ w.cell? ⟨g, 4, none⟩ = some v4 ∧ w.cell? ⟨g, 5, none⟩ = some v5 ∧ w.cell? ⟨g, 6, none⟩ = some v6 ∧ w.cell? ⟨g, 7, none⟩ = some v7 ∧ w.cell? ⟨g, 8, none⟩ = some v8 ∧ w.cell? ⟨g, 9, none⟩ = some v9 ∧ w.cell? ⟨g, 10, none⟩ = some v10 ∧ w.cell? ⟨g, 11, none⟩ = some v11 ∧ w.cell? ⟨g, 12, none⟩ = some v12 :=
  ⟨h.2 0 _ rfl, h.2 1 _ rfl, h.2 2 _ rfl, h.2 3 _ rfl, h.2 4 _ rfl, h.2 5 _ rfl, h.2 6 _ rfl, h.2 7 _ rfl, h.2 8 _ rfl, h.2 9 _ rfl, h.2 10 _ rfl, h.2 11 _ rfl, h.2 12 _ rfl⟩
/-- 13 cells of a block, kept over a call that makes memory of its own. -/
theorem keep13 {w w' : World} {g : Nat} {v0 v1 v2 v3 v4 v5 v6 v7 v8 v9 v10 v11 v12 : Value} (h : g < w.heap.size ∧ w.cell? ⟨g, 0, none⟩ = some v0 ∧ w.cell? ⟨g, 1, none⟩ = some v1 ∧ w.cell? ⟨g, 2, none⟩ = some v2 ∧ w.cell? ⟨g, 3, none⟩ = some v3 ∧ w.cell? ⟨g, 4, none⟩ = some v4 ∧ w.cell? ⟨g, 5, none⟩ = some v5 ∧ w.cell? ⟨g, 6, none⟩ = some v6 ∧ w.cell? ⟨g, 7, none⟩ = some v7 ∧ w.cell? ⟨g, 8, none⟩ = some v8 ∧ w.cell? ⟨g, 9, none⟩ = some v9 ∧ w.cell? ⟨g, 10, none⟩ = some v10 ∧ w.cell? ⟨g, 11, none⟩ = some v11 ∧ w.cell? ⟨g, 12, none⟩ = some v12) (hb : Below w.heap.size w w') :
    g < w'.heap.size ∧ w'.cell? ⟨g, 0, none⟩ = some v0 ∧ w'.cell? ⟨g, 1, none⟩ = some v1 ∧ w'.cell? ⟨g, 2, none⟩ = some v2 ∧ w'.cell? ⟨g, 3, none⟩ = some v3 ∧ w'.cell? ⟨g, 4, none⟩ = some v4 ∧ w'.cell? ⟨g, 5, none⟩ = some v5 ∧ w'.cell? ⟨g, 6, none⟩ = some v6 ∧ w'.cell? ⟨g, 7, none⟩ = some v7 ∧ w'.cell? ⟨g, 8, none⟩ = some v8 ∧ w'.cell? ⟨g, 9, none⟩ = some v9 ∧ w'.cell? ⟨g, 10, none⟩ = some v10 ∧ w'.cell? ⟨g, 11, none⟩ = some v11 ∧ w'.cell? ⟨g, 12, none⟩ = some v12 :=
  ⟨Nat.lt_of_lt_of_le h.1 hb.size, (hb.cell (p := ⟨g, 0, none⟩) h.1).trans h.2.1, (hb.cell (p := ⟨g, 1, none⟩) h.1).trans h.2.2.1, (hb.cell (p := ⟨g, 2, none⟩) h.1).trans h.2.2.2.1, (hb.cell (p := ⟨g, 3, none⟩) h.1).trans h.2.2.2.2.1, (hb.cell (p := ⟨g, 4, none⟩) h.1).trans h.2.2.2.2.2.1, (hb.cell (p := ⟨g, 5, none⟩) h.1).trans h.2.2.2.2.2.2.1, (hb.cell (p := ⟨g, 6, none⟩) h.1).trans h.2.2.2.2.2.2.2.1, (hb.cell (p := ⟨g, 7, none⟩) h.1).trans h.2.2.2.2.2.2.2.2.1, (hb.cell (p := ⟨g, 8, none⟩) h.1).trans h.2.2.2.2.2.2.2.2.2.1, (hb.cell (p := ⟨g, 9, none⟩) h.1).trans h.2.2.2.2.2.2.2.2.2.2.1, (hb.cell (p := ⟨g, 10, none⟩) h.1).trans h.2.2.2.2.2.2.2.2.2.2.2.1, (hb.cell (p := ⟨g, 11, none⟩) h.1).trans h.2.2.2.2.2.2.2.2.2.2.2.2.1, (hb.cell (p := ⟨g, 12, none⟩) h.1).trans h.2.2.2.2.2.2.2.2.2.2.2.2.2⟩
end Go.Proofs.Ytajekjjaaohbnaa
namespace Go.Proofs.Ytajekjjaaohbnaa
open Go.RowKit Go.Lib

/-- The six fields of an Options value. -/
structure Opt where
  m : Int
  c : Int
  k : Bool
  t : Bool
  v : Int
  e : Int
/-- The cells of an Options value. -/
def Opt.cs (o : Opt) : Array Value := #[.int .i64 o.m, .int .i64 o.c, .bool o.k, .bool o.t, .int .i64 o.v, .int .i64 o.e]
def optNo : Opt := ⟨0, -1, false, false, 0, 0⟩
/-- Whether an Options value is valid. -/
def optOk (o : Opt) : Bool := wordOk o.m 16 && decide (-1 ≤ o.c ∧ o.c ≤ 14) && bif o.t then wordOk o.v 32 && wordOk o.e 32 else decide (o.v = 0 ∧ o.e = 0)
theorem optOk_no : optOk optNo = true := by decide +kernel

/-- The parts of an Options value's text. -/
def optM (o : Opt) : ByteArray := if o.m = 0 then ⟨#[]⟩ else ⟨#[2, 4]⟩ ++ putW o.m 2
def optC (o : Opt) : ByteArray := if o.c = -1 then ⟨#[]⟩ else ⟨#[3, 3]⟩ ++ putW o.c 1
def optK (o : Opt) : ByteArray := bif o.k then ⟨#[4, 2]⟩ else ⟨#[]⟩
def optT (o : Opt) : ByteArray := bif o.t then ⟨#[8, 10]⟩ ++ putW o.v 4 ++ putW o.e 4 else ⟨#[]⟩
def optBody (o : Opt) : ByteArray := optM o ++ optC o ++ optK o ++ optT o
def ones (n : Nat) : ByteArray := ⟨(List.replicate n 1).toArray⟩
/-- What OptionsText answers. -/
def optText (o : Opt) : ByteArray := if optOk o then optBody o ++ ones ((4 - (optBody o).size % 4) % 4) else ⟨#[]⟩

/-- The option that stands in x, laid into o. -/
def optLay (o : Opt) (x : ByteArray) : Opt :=
  if (at8 x 0).toNat = 2 ∧ x.size = 4 then { o with m := (gw x 2 2 : Nat) }
  else if (at8 x 0).toNat = 3 ∧ x.size = 3 then { o with c := (min (at8 x 2).toNat 14 : Nat) }
  else if (at8 x 0).toNat = 4 ∧ x.size = 2 then { o with k := true }
  else if (at8 x 0).toNat = 8 ∧ x.size = 10 then { o with t := true, v := (gw x 2 4 : Nat), e := (gw x 6 4 : Nat) }
  else o
/-- Whether no option stands at a: its length is missing, too small or too large. -/
def optBad (s : ByteArray) (a : Nat) : Prop := s.size ≤ a + 1 ∨ (at8 s (a + 1)).toNat < 2 ∨ s.size < a + (at8 s (a + 1)).toNat
instance (s : ByteArray) (a : Nat) : Decidable (optBad s a) := by unfold optBad; infer_instance
/-- What ReadOptions answers from a on, in at most f steps. -/
def optRd (s : ByteArray) : Nat → Nat → Opt → Opt × Bool
  | 0, _, o => (o, true)
  | f + 1, a, o =>
    if s.size ≤ a ∨ (at8 s a).toNat = 0 then (o, true)
    else if (at8 s a).toNat = 1 then optRd s f (a + 1) o
    else if optBad s a then (optNo, false)
    else optRd s f (a + (at8 s (a + 1)).toNat) (optLay o (s.extract a (a + (at8 s (a + 1)).toNat)))
def optRead (s : ByteArray) : Opt × Bool := optRd s s.size 0 optNo
theorem optRd_end (s : ByteArray) (f a : Nat) (o : Opt) (h : s.size ≤ a ∨ (at8 s a).toNat = 0) : optRd s f a o = (o, true) := by
  cases f with
  | zero => rfl
  | succ f => simp only [optRd]; rw [if_pos h]
theorem optRd_pad (s : ByteArray) (f a : Nat) (o : Opt) (h : a < s.size) (h1 : (at8 s a).toNat = 1) : optRd s (f + 1) a o = optRd s f (a + 1) o := by
  simp only [optRd]; rw [if_neg (by omega), if_pos h1]
theorem optRd_bad (s : ByteArray) (f a : Nat) (o : Opt) (h : a < s.size) (h0 : ¬ (at8 s a).toNat = 0) (h1 : ¬ (at8 s a).toNat = 1) (hb : optBad s a) : optRd s (f + 1) a o = (optNo, false) := by
  simp only [optRd]; rw [if_neg (by omega), if_neg h1, if_pos hb]
theorem optRd_next (s : ByteArray) (f a : Nat) (o : Opt) (h : a < s.size) (h0 : ¬ (at8 s a).toNat = 0) (h1 : ¬ (at8 s a).toNat = 1) (hb : ¬ optBad s a) :
    optRd s (f + 1) a o = optRd s f (a + (at8 s (a + 1)).toNat) (optLay o (s.extract a (a + (at8 s (a + 1)).toNat))) := by
  simp only [optRd]; rw [if_neg (by omega), if_neg h1, if_neg hb]
theorem head2 (x : ByteArray) (h : 2 ≤ x.size) : x.extract 0 2 = ⟨#[at8 x 0, at8 x 1]⟩ := by
  apply ByteArray.ext
  apply Array.toList_inj.1
  have hl : x.data.toList.length = x.size := by simp
  unfold at8
  generalize hx : x.data.toList = l at hl
  rw [ByteArray.data_extract, Array.toList_extract, hx, List.extract_eq_take_drop]
  match l, hl with
  | [], hl => simp at hl; omega
  | [_], hl => simp at hl; omega
  | a :: b :: r, _ => rfl
theorem head_is {x : ByteArray} (h : x.extract 0 2 = ⟨#[at8 x 0, at8 x 1]⟩) {a b : Nat} (ha : (at8 x 0).toNat = a) (hb : (at8 x 1).toNat = b) : x.extract 0 2 = ⟨#[UInt8.ofNat a, UInt8.ofNat b]⟩ := by
  rw [h, ← ha, ← hb, UInt8.ofNat_toNat, UInt8.ofNat_toNat]
theorem head_not {x : ByteArray} (h : x.extract 0 2 = ⟨#[at8 x 0, at8 x 1]⟩) {a b : Nat} (hx : (at8 x 1).toNat = x.size) (hn : ¬ ((at8 x 0).toNat = a ∧ x.size = b)) {p q : UInt8} (hp : p.toNat = a := by rfl) (hq : q.toNat = b := by rfl) : ¬ x.extract 0 2 = ⟨#[p, q]⟩ := by
  rw [h]
  intro e
  have e1 : #[at8 x 0, at8 x 1] = #[p, q] := congrArg ByteArray.data e
  have e2 : [at8 x 0, at8 x 1] = [p, q] := congrArg Array.toList e1
  have e3 : at8 x 0 = p := by injection e2
  have e4 : at8 x 1 = q := by injection e2 with _ h4; injection h4
  exact hn ⟨by rw [e3, hp], by rw [← hx, e4, hq]⟩
theorem at8_extract (s : ByteArray) (a b i : Nat) (h : a + i < b) : at8 (s.extract a b) i = at8 s (a + i) := by
  unfold at8
  rw [ByteArray.data_extract, Array.toList_extract, List.extract_eq_take_drop, List.getD_eq_getElem?_getD, List.getD_eq_getElem?_getD, List.getElem?_take, if_pos (by omega), List.getElem?_drop]
/-- The option that stands at a. -/
theorem opt_cut (s : ByteArray) (a : Nat) (hb : ¬ optBad s a) : 2 ≤ (s.extract a (a + (at8 s (a + 1)).toNat)).size ∧ (at8 (s.extract a (a + (at8 s (a + 1)).toNat)) 1).toNat = (s.extract a (a + (at8 s (a + 1)).toNat)).size ∧ (s.extract a (a + (at8 s (a + 1)).toNat)).size = (at8 s (a + 1)).toNat := by
  unfold optBad at hb
  have e : (s.extract a (a + (at8 s (a + 1)).toNat)).size = (at8 s (a + 1)).toNat := by rw [ByteArray.size_extract]; omega
  refine ⟨by omega, ?_, e⟩
  rw [e, at8_extract _ _ _ _ (by omega)]
end Go.Proofs.Ytajekjjaaohbnaa
namespace Go.Proofs.Ytajekjjaaohbnaa
open Go.RowKit Go.Lib

/-- The eight fields of a Segment. -/
structure Seg where
  p : Int
  d : Int
  q : Int
  a : Int
  g : Int
  n : Int
  o : Opt
  b : ByteArray
/-- Whether a Segment is valid. -/
def segOk (x : Seg) : Bool :=
  wordOk x.p 16 && (wordOk x.d 16 && (wordOk x.n 16 && (wordOk x.q 32 && (wordOk x.a 32 && (wordOk x.g 6 && (optOk x.o && decide (x.b.size ≤ 1420)))))))
theorem segOk_all {x : Seg} (h : segOk x = true) : wordOk x.p 16 = true ∧ wordOk x.d 16 = true ∧ wordOk x.n 16 = true ∧ wordOk x.q 32 = true ∧ wordOk x.a 32 = true ∧ wordOk x.g 6 = true ∧ optOk x.o = true ∧ x.b.size ≤ 1420 := by
  unfold segOk at h
  simp only [Bool.and_eq_true, decide_eq_true_eq] at h
  exact h
theorem segOk_of {x : Seg} (h1 : wordOk x.p 16 = true) (h2 : wordOk x.d 16 = true) (h3 : wordOk x.n 16 = true) (h4 : wordOk x.q 32 = true) (h5 : wordOk x.a 32 = true) (h6 : wordOk x.g 6 = true) : segOk x = (optOk x.o && decide (x.b.size ≤ 1420)) := by
  unfold segOk
  rw [h1, h2, h3, h4, h5, h6]
  simp
theorem HasC.at {w : World} {g : Nat} {vs : List Value} (h : HasC w g vs) (j : Nat) {v : Value} (hv : vs[j]? = some v) : w.cell? ⟨g, j, none⟩ = some v := h.2 j v hv
end Go.Proofs.Ytajekjjaaohbnaa
namespace Go.Proofs.Ytajekjjaaohbnaa
open Go.RowKit Go.Lib

theorem putW_one : putW 1 1 = ⟨#[1]⟩ := by decide +kernel
theorem optText_no {o : Opt} (h : optOk o = false) : optText o = ⟨#[]⟩ := by unfold optText; rw [if_neg (by rw [h]; decide)]
theorem optText_yes {o : Opt} (h : optOk o = true) : optText o = optBody o ++ ones ((4 - (optBody o).size % 4) % 4) := by unfold optText; rw [if_pos h]
theorem opt_scale {o : Opt} (h : optOk o = true) : -1 ≤ o.c := by
  unfold optOk at h
  simp only [Bool.and_eq_true, decide_eq_true_eq] at h
  exact h.1.2.1
/-- The text so far is x; the boxed argument stands; what was there stands. -/
def OtRel (w : World) (m c : Int) (k t : Bool) (v e : Int) (x : ByteArray) (n : Nat) (s : Value) (wx : World) : Prop :=
  ∃ y : ByteArray, s = .string y ∧ y = x ∧ y.size ≤ n ∧ HasC wx w.heap.size [.int .i64 m, .int .i64 c, .bool k, .bool t, .int .i64 v, .int .i64 e] ∧ Below w.heap.size w wx
theorem sz_two (a b c : ByteArray) (n : Nat) (h : a.size + b.size + c.size ≤ n) : (a ++ (b ++ c)).size ≤ n := by rw [ByteArray.size_append, ByteArray.size_append]; omega
theorem sz_two' (a b c : ByteArray) (n : Nat) (h : a.size + b.size + c.size ≤ n) : (a ++ b ++ c).size ≤ n := by rw [ByteArray.size_append, ByteArray.size_append]; omega
theorem sz_four (a b c d : ByteArray) (n : Nat) (h : a.size + b.size + c.size + d.size ≤ n) : (a ++ (b ++ c ++ d)).size ≤ n := by rw [ByteArray.size_append, ByteArray.size_append, ByteArray.size_append]; omega
theorem sz_four' (a b c d : ByteArray) (n : Nat) (h : a.size + b.size + c.size + d.size ≤ n) : (a ++ b ++ c ++ d).size ≤ n := by rw [ByteArray.size_append, ByteArray.size_append, ByteArray.size_append]; omega
def strLen : Value → Nat
  | .string b => b.size
  | _ => 0
theorem ones_size (n : Nat) : (ones n).size = n := by unfold ones; show (List.replicate n (1 : UInt8)).toArray.size = n; simp
theorem ones_zero : ones 0 = ⟨#[]⟩ := rfl
theorem ones_succ (n : Nat) : ones n ++ ⟨#[1]⟩ = ones (n + 1) := by
  apply ByteArray.ext
  apply Array.toList_inj.1
  unfold ones
  rw [ByteArray.data_append, Array.toList_append, List.replicate_succ']
end Go.Proofs.Ytajekjjaaohbnaa
namespace Go.Proofs.Ytajekjjaaohbnaa
open Go.RowKit Go.Lib

theorem optRd_fuel (s : ByteArray) (f : Nat) : ∀ (g a : Nat) (o : Opt), s.size ≤ a + f → s.size ≤ a + g → optRd s f a o = optRd s g a o := by
  induction f with
  | zero =>
    intro g a o h _
    rw [optRd_end s g a o (.inl (by omega))]; rfl
  | succ f ih =>
    intro g a o h hg
    by_cases h0 : s.size ≤ a ∨ (at8 s a).toNat = 0
    · rw [optRd_end s _ a o h0, optRd_end s _ a o h0]
    · cases g with
      | zero => exact absurd (Or.inl (by omega)) h0
      | succ g =>
        have ha : a < s.size := by omega
        have hz : ¬ (at8 s a).toNat = 0 := fun e => h0 (.inr e)
        by_cases h1 : (at8 s a).toNat = 1
        · rw [optRd_pad s f a o ha h1, optRd_pad s g a o ha h1]
          exact ih g (a + 1) o (by omega) (by omega)
        · by_cases hb : optBad s a
          · rw [optRd_bad s f a o ha hz h1 hb, optRd_bad s g a o ha hz h1 hb]
          · rw [optRd_next s f a o ha hz h1 hb, optRd_next s g a o ha hz h1 hb]
            unfold optBad at hb
            exact ih g _ _ (by omega) (by omega)
/-- What ReadOptions answers from a on. -/
def optFrom (s : ByteArray) (a : Nat) (o : Opt) : Opt × Bool := optRd s (s.size - a) a o
theorem optRead_from (s : ByteArray) : optRead s = optFrom s 0 optNo := rfl
theorem optFrom_end (s : ByteArray) (a : Nat) (o : Opt) (h : s.size ≤ a) : optFrom s a o = (o, true) := optRd_end s _ a o (.inl h)
theorem at8_mid (p x q s : ByteArray) (i : Nat) (hs : s = p ++ (x ++ q)) (hi : i < x.size) : at8 s (p.size + i) = at8 x i := by
  have hl : i < x.data.toList.length := by simpa using hi
  have hp : p.data.toList.length = p.size := by simp
  subst hs
  unfold at8
  simp only [ByteArray.data_append, Array.toList_append, List.getD_eq_getElem?_getD]
  rw [List.getElem?_append_right (by omega), hp, Nat.add_sub_cancel_left, List.getElem?_append_left hl]
theorem cut_mid (p x q s : ByteArray) (hs : s = p ++ (x ++ q)) : s.extract p.size (p.size + x.size) = x := by
  subst hs
  have e1 := ByteArray.extract_append_size_add (a := p) (b := x ++ q) (i := 0) (j := x.size)
  rw [Nat.add_zero] at e1
  rw [e1]
  exact ByteArray.extract_append_eq_left rfl
/-- An option that stands in a text is laid. -/
theorem optFrom_next (p x q s : ByteArray) (a : Nat) (o : Opt) (hs : s = p ++ (x ++ q)) (hp : p.size = a) (h2 : 2 ≤ x.size) (h0 : 2 ≤ (at8 x 0).toNat) (hx : (at8 x 1).toNat = x.size) : optFrom s a o = optFrom s (a + x.size) (optLay o x) := by
  subst hp
  have a0 := at8_mid p x q s 0 hs (by omega)
  have a1 := at8_mid p x q s 1 hs (by omega)
  have hc := cut_mid p x q s hs
  have hz : s.size = p.size + (x.size + q.size) := by rw [hs, ByteArray.size_append, ByteArray.size_append]
  rw [Nat.add_zero] at a0
  unfold optFrom
  obtain ⟨f, hf⟩ : ∃ f, s.size - p.size = f + 1 := ⟨s.size - p.size - 1, by omega⟩
  rw [hf, optRd_next s f p.size o (by omega) (by rw [a0]; omega) (by rw [a0]; omega) (by unfold optBad; rw [a1]; omega), a1, hx, hc]
  exact optRd_fuel s _ _ _ _ (by omega) (by omega)
/-- Nothing but padding stands behind. -/
theorem optFrom_ones (n : Nat) : ∀ (p s : ByteArray) (a : Nat) (o : Opt), s = p ++ ones n → p.size = a → optFrom s a o = (o, true) := by
  induction n with
  | zero =>
    intro p s a o hs hp
    exact optFrom_end s a o (by rw [hs, ByteArray.size_append, ones_size]; omega)
  | succ n ih =>
    intro p s a o hs hp
    have e : ones (n + 1) = ⟨#[1]⟩ ++ ones n := by
      apply ByteArray.ext
      apply Array.toList_inj.1
      unfold ones
      rw [ByteArray.data_append, Array.toList_append, List.replicate_succ]
      rfl
    have hz : s.size = p.size + (n + 1) := by rw [hs, ByteArray.size_append, ones_size]
    rw [e] at hs
    subst hp
    have a0 := at8_mid p ⟨#[1]⟩ (ones n) s 0 hs (by decide)
    rw [Nat.add_zero] at a0
    have a1 : (at8 ⟨#[1]⟩ 0).toNat = 1 := rfl
    have h1 := ih (p ++ ⟨#[1]⟩) s (p.size + 1) o (by rw [hs, ByteArray.append_assoc]) (by rw [ByteArray.size_append]; rfl)
    rw [← h1]
    unfold optFrom
    obtain ⟨f, hf⟩ : ∃ f, s.size - p.size = f + 1 := ⟨s.size - p.size - 1, by omega⟩
    rw [hf, optRd_pad s f p.size o (by omega) (by rw [a0, a1])]
    exact optRd_fuel s _ _ _ _ (by omega) (by omega)

theorem optOk_all {o : Opt} (h : optOk o = true) : wordOk o.m 16 = true ∧ (-1 ≤ o.c ∧ o.c ≤ 14) ∧ (o.t = true → wordOk o.v 32 = true ∧ wordOk o.e 32 = true) ∧ (o.t = false → o.v = 0 ∧ o.e = 0) := by
  obtain ⟨m, c, k, t, v, e⟩ := o
  unfold optOk at h
  cases t <;> simp only [Bool.and_eq_true, decide_eq_true_eq, cond_true, cond_false] at h
  · exact ⟨h.1.1, h.1.2, fun x => (by cases x), fun _ => h.2⟩
  · exact ⟨h.1.1, h.1.2, fun _ => h.2, fun x => (by cases x)⟩
theorem two_size (a b : UInt8) : (⟨#[a, b]⟩ : ByteArray).size = 2 := rfl
theorem at8_two (a b : UInt8) (y : ByteArray) : at8 (⟨#[a, b]⟩ ++ y) 0 = a ∧ at8 (⟨#[a, b]⟩ ++ y) 1 = b := by
  have e : ((⟨#[a, b]⟩ : ByteArray) ++ y).data.toList = a :: b :: y.data.toList := by rw [ByteArray.data_append, Array.toList_append]; rfl
  unfold at8
  rw [e]
  exact ⟨rfl, rfl⟩
theorem optM_size {o : Opt} (h : optOk o = true) : (optM o).size = if o.m = 0 then 0 else 4 := by
  obtain ⟨hm, _⟩ := optOk_all h
  obtain ⟨_, _, _, _, z⟩ := putW_word o.m 2 (by omega) hm
  have z : (putW o.m 2).size = 2 := z
  unfold optM
  split
  · rfl
  · rw [ByteArray.size_append, two_size]; omega
theorem scale_word {c : Int} (h : 0 ≤ c ∧ c ≤ 14) : wordOk c (8 * (1 : Nat)) = true := by
  unfold wordOk; apply decide_eq_true; refine ⟨by omega, by omega, ?_⟩
  show c < 256
  omega
theorem optC_size {o : Opt} (h : optOk o = true) : (optC o).size = if o.c = -1 then 0 else 3 := by
  obtain ⟨_, hc, _⟩ := optOk_all h
  unfold optC
  split
  · rfl
  · obtain ⟨_, _, _, _, z⟩ := putW_word o.c 1 (by omega) (scale_word (by omega))
    have z : (putW o.c 1).size = 1 := z
    rw [ByteArray.size_append, two_size]; omega
theorem optK_size (o : Opt) : (optK o).size = bif o.k then 2 else 0 := by
  unfold optK
  cases o.k <;> rfl
theorem optT_size {o : Opt} (h : optOk o = true) : (optT o).size = bif o.t then 10 else 0 := by
  obtain ⟨_, _, h1, _⟩ := optOk_all h
  unfold optT
  cases ht : o.t with
  | false => rfl
  | true =>
    obtain ⟨hv, he⟩ := h1 ht
    obtain ⟨_, _, _, _, z1⟩ := putW_word o.v 4 (by omega) hv
    obtain ⟨_, _, _, _, z2⟩ := putW_word o.e 4 (by omega) he
    have z1 : (putW o.v 4).size = 4 := z1
    have z2 : (putW o.e 4).size = 4 := z2
    show (⟨#[8, 10]⟩ ++ putW o.v 4 ++ putW o.e 4 : ByteArray).size = 10
    rw [ByteArray.size_append, ByteArray.size_append, two_size]; omega
theorem optText_size (o : Opt) : (optText o).size % 4 = 0 ∧ (optText o).size ≤ 20 := by
  cases h : optOk o with
  | false => rw [optText_no h]; decide
  | true =>
    have z1 := optM_size h
    have z2 := optC_size h
    have z3 := optK_size o
    have z4 := optT_size h
    have a1 : (optM o).size ≤ 4 := by rw [z1]; split <;> omega
    have a2 : (optC o).size ≤ 3 := by rw [z2]; split <;> omega
    have a3 : (optK o).size ≤ 2 := by rw [z3]; cases o.k <;> decide
    have a4 : (optT o).size ≤ 10 := by rw [z4]; cases o.t <;> decide
    have hb : (optBody o).size ≤ 19 := by unfold optBody; rw [ByteArray.size_append, ByteArray.size_append, ByteArray.size_append]; omega
    rw [optText_yes h, ByteArray.size_append, ones_size]
    omega

theorem from_M {o : Opt} (h : optOk o = true) (p q s : ByteArray) (a : Nat) (o' : Opt) (h0 : o'.m = 0) (hs : s = p ++ (optM o ++ q)) (hp : p.size = a) : optFrom s a o' = optFrom s (a + (optM o).size) { o' with m := o.m } := by
  obtain ⟨hm, _⟩ := optOk_all h
  obtain ⟨_, _, _, _, z⟩ := putW_word o.m 2 (by omega) hm
  have z : (putW o.m 2).size = 2 := z
  by_cases e : o.m = 0
  · have e1 : optM o = ⟨#[]⟩ := by unfold optM; rw [if_pos e]
    rw [e1, e, ← h0]; rfl
  · have e1 : optM o = ⟨#[2, 4]⟩ ++ putW o.m 2 := by unfold optM; rw [if_neg e]
    have g := gw_back o.m 2 2 (by omega) hm ⟨#[2, 4]⟩ ⟨#[]⟩ (optM o) (by rw [e1]; exact congrArg _ ByteArray.append_empty.symm) rfl
    have zz : (optM o).size = 4 := by rw [e1, ByteArray.size_append, z]; rfl
    obtain ⟨b0, b1⟩ := at8_two 2 4 (putW o.m 2)
    rw [← e1] at b0 b1
    rw [optFrom_next p (optM o) q s a o' hs hp (by omega) (by rw [b0]; decide) (by rw [b1, zz]; rfl)]
    congr 1
    unfold optLay
    rw [if_pos ⟨by rw [b0]; rfl, zz⟩, g]
theorem from_C {o : Opt} (h : optOk o = true) (p q s : ByteArray) (a : Nat) (o' : Opt) (h0 : o'.c = -1) (hs : s = p ++ (optC o ++ q)) (hp : p.size = a) : optFrom s a o' = optFrom s (a + (optC o).size) { o' with c := o.c } := by
  obtain ⟨_, hc, _⟩ := optOk_all h
  by_cases e : o.c = -1
  · have e1 : optC o = ⟨#[]⟩ := by unfold optC; rw [if_pos e]
    rw [e1, e, ← h0]; rfl
  · have hw := scale_word (show 0 ≤ o.c ∧ o.c ≤ 14 by omega)
    obtain ⟨_, _, _, _, z⟩ := putW_word o.c 1 (by omega) hw
    have z : (putW o.c 1).size = 1 := z
    have e1 : optC o = ⟨#[3, 3]⟩ ++ putW o.c 1 := by unfold optC; rw [if_neg e]
    have g := gw_back o.c 1 2 (by omega) hw ⟨#[3, 3]⟩ ⟨#[]⟩ (optC o) (by rw [e1]; exact congrArg _ ByteArray.append_empty.symm) rfl
    have zz : (optC o).size = 3 := by rw [e1, ByteArray.size_append, z]; rfl
    obtain ⟨b0, b1⟩ := at8_two 3 3 (putW o.c 1)
    rw [← e1] at b0 b1
    rw [optFrom_next p (optC o) q s a o' hs hp (by omega) (by rw [b0]; decide) (by rw [b1, zz]; rfl)]
    congr 1
    unfold optLay
    rw [if_neg (by rw [b0]; exact fun x => absurd x.1 (by decide)), if_pos ⟨by rw [b0]; rfl, zz⟩]
    rw [gw1] at g
    rw [show ((min (at8 (optC o) 2).toNat 14 : Nat) : Int) = o.c by omega]
theorem from_K {o : Opt} (p q s : ByteArray) (a : Nat) (o' : Opt) (h0 : o'.k = false) (hs : s = p ++ (optK o ++ q)) (hp : p.size = a) : optFrom s a o' = optFrom s (a + (optK o).size) { o' with k := o.k } := by
  cases e : o.k with
  | false =>
    have e1 : optK o = ⟨#[]⟩ := by unfold optK; rw [e]; rfl
    rw [e1, ← h0]; rfl
  | true =>
    have e1 : optK o = ⟨#[4, 2]⟩ ++ ⟨#[]⟩ := by unfold optK; rw [e]; rfl
    have zz : (optK o).size = 2 := by rw [e1]; rfl
    obtain ⟨b0, b1⟩ := at8_two 4 2 ⟨#[]⟩
    rw [← e1] at b0 b1
    rw [optFrom_next p (optK o) q s a o' hs hp (by omega) (by rw [b0]; decide) (by rw [b1, zz]; rfl)]
    congr 1
    unfold optLay
    rw [if_neg (by rw [b0]; exact fun x => absurd x.1 (by decide)), if_neg (by rw [b0]; exact fun x => absurd x.1 (by decide)), if_pos ⟨by rw [b0]; rfl, zz⟩]
theorem from_T {o : Opt} (h : optOk o = true) (p q s : ByteArray) (a : Nat) (o' : Opt) (h0 : o'.t = false ∧ o'.v = 0 ∧ o'.e = 0) (hs : s = p ++ (optT o ++ q)) (hp : p.size = a) : optFrom s a o' = optFrom s (a + (optT o).size) { o' with t := o.t, v := o.v, e := o.e } := by
  obtain ⟨_, _, h1, h2⟩ := optOk_all h
  cases e : o.t with
  | false =>
    obtain ⟨hv, he⟩ := h2 e
    have e1 : optT o = ⟨#[]⟩ := by unfold optT; rw [e]; rfl
    obtain ⟨k0, k1, k2⟩ := h0
    rw [e1, hv, he]
    obtain ⟨m, c, k, t, v, e'⟩ := o'
    simp only at k0 k1 k2
    rw [k0, k1, k2]; rfl
  | true =>
    obtain ⟨hv, he⟩ := h1 e
    obtain ⟨_, _, _, _, z1⟩ := putW_word o.v 4 (by omega) hv
    obtain ⟨_, _, _, _, z2⟩ := putW_word o.e 4 (by omega) he
    have z1 : (putW o.v 4).size = 4 := z1
    have z2 : (putW o.e 4).size = 4 := z2
    have e1 : optT o = ⟨#[8, 10]⟩ ++ (putW o.v 4 ++ putW o.e 4) := by unfold optT; rw [e]; exact ByteArray.append_assoc
    have g1 := gw_back o.v 4 2 (by omega) hv ⟨#[8, 10]⟩ (putW o.e 4) (optT o) e1 rfl
    have g2 := gw_back o.e 4 6 (by omega) he (⟨#[8, 10]⟩ ++ putW o.v 4) ⟨#[]⟩ (optT o) (by rw [e1, ByteArray.append_assoc]; exact congrArg (fun y => (⟨#[8, 10]⟩ : ByteArray) ++ (putW o.v 4 ++ y)) ByteArray.append_empty.symm) (by rw [ByteArray.size_append, two_size]; omega)
    have zz : (optT o).size = 10 := by rw [e1, ByteArray.size_append, ByteArray.size_append, z1, z2]; rfl
    obtain ⟨b0, b1⟩ := at8_two 8 10 (putW o.v 4 ++ putW o.e 4)
    rw [← e1] at b0 b1
    rw [optFrom_next p (optT o) q s a o' hs hp (by omega) (by rw [b0]; decide) (by rw [b1, zz]; rfl)]
    congr 1
    unfold optLay
    rw [if_neg (by rw [b0]; exact fun x => absurd x.1 (by decide)), if_neg (by rw [b0]; exact fun x => absurd x.1 (by decide)), if_neg (by rw [b0]; exact fun x => absurd x.1 (by decide)), if_pos ⟨by rw [b0]; rfl, zz⟩, g1, g2]
/-- The text of a valid Options value is read as that value. -/
theorem opt_round {o : Opt} (h : optOk o = true) : optRead (optText o) = (o, true) := by
  obtain ⟨s, hs⟩ : ∃ s, optText o = s := ⟨_, rfl⟩
  rw [hs, optRead_from]
  rw [optText_yes h] at hs
  generalize (4 - (optBody o).size % 4) % 4 = n at hs
  unfold optBody at hs
  have s1 : s = ⟨#[]⟩ ++ (optM o ++ (optC o ++ (optK o ++ (optT o ++ ones n)))) := by
    rw [← hs]; simp only [ByteArray.append_assoc]; exact ByteArray.empty_append.symm
  have s2 : s = optM o ++ (optC o ++ (optK o ++ (optT o ++ ones n))) := by rw [← hs]; simp only [ByteArray.append_assoc]
  have s3 : s = (optM o ++ optC o) ++ (optK o ++ (optT o ++ ones n)) := by rw [← hs]; simp only [ByteArray.append_assoc]
  have s4 : s = (optM o ++ optC o ++ optK o) ++ (optT o ++ ones n) := by rw [← hs]; simp only [ByteArray.append_assoc]
  have s5 : s = (optM o ++ optC o ++ optK o ++ optT o) ++ ones n := by rw [← hs]
  rw [from_M h ⟨#[]⟩ _ s 0 optNo rfl s1 rfl, from_C h (optM o) _ s _ _ rfl s2 (Nat.zero_add _).symm, from_K (o := o) (optM o ++ optC o) _ s _ _ rfl s3 (by rw [ByteArray.size_append]; omega),
    from_T h (optM o ++ optC o ++ optK o) _ s _ _ ⟨rfl, rfl, rfl⟩ s4 (by rw [ByteArray.size_append, ByteArray.size_append]; omega),
    optFrom_ones n (optM o ++ optC o ++ optK o ++ optT o) s _ _ s5 (by rw [ByteArray.size_append, ByteArray.size_append, ByteArray.size_append]; omega)]

theorem optOk_mk {m c : Int} {k t : Bool} {v e : Int} (h1 : wordOk m 16 = true) (h2 : -1 ≤ c ∧ c ≤ 14) (h3 : (bif t then wordOk v 32 && wordOk e 32 else decide (v = 0 ∧ e = 0)) = true) : optOk ⟨m, c, k, t, v, e⟩ = true := by
  show (wordOk m 16 && decide (-1 ≤ c ∧ c ≤ 14) && bif t then wordOk v 32 && wordOk e 32 else decide (v = 0 ∧ e = 0)) = true
  rw [h1, h3, decide_eq_true h2]; rfl
theorem optOk_get {m c : Int} {k t : Bool} {v e : Int} (h : optOk ⟨m, c, k, t, v, e⟩ = true) : wordOk m 16 = true ∧ (-1 ≤ c ∧ c ≤ 14) ∧ (bif t then wordOk v 32 && wordOk e 32 else decide (v = 0 ∧ e = 0)) = true := by
  have h : (wordOk m 16 && decide (-1 ≤ c ∧ c ≤ 14) && bif t then wordOk v 32 && wordOk e 32 else decide (v = 0 ∧ e = 0)) = true := h
  rw [Bool.and_eq_true, Bool.and_eq_true, decide_eq_true_eq] at h
  exact ⟨h.1.1, h.1.2, h.2⟩
theorem min14 (n : Nat) : (-1 : Int) ≤ ((min n 14 : Nat) : Int) ∧ ((min n 14 : Nat) : Int) ≤ 14 := by omega
/-- Where an option is laid into a valid value, the value is valid again. -/
theorem lay_ok {o : Opt} (h : optOk o = true) (x : ByteArray) : optOk (optLay o x) = true := by
  have w1 : wordOk (gw x 2 2 : Nat) 16 = true := gw_word x 2 2 (by omega)
  have w2 : wordOk (gw x 2 4 : Nat) 32 = true := gw_word x 2 4 (by omega)
  have w3 : wordOk (gw x 6 4 : Nat) 32 = true := gw_word x 6 4 (by omega)
  have w4 := min14 (at8 x 2).toNat
  obtain ⟨m, c, k, t, v, e⟩ := o
  obtain ⟨h1, h2, h3⟩ := optOk_get h
  unfold optLay
  generalize gw x 2 2 = y1 at w1 ⊢
  generalize gw x 2 4 = y2 at w2 ⊢
  generalize gw x 6 4 = y3 at w3 ⊢
  generalize min (at8 x 2).toNat 14 = y4 at w4 ⊢
  by_cases a1 : (at8 x 0).toNat = 2 ∧ x.size = 4
  · rw [if_pos a1]; exact optOk_mk w1 h2 h3
  by_cases a2 : (at8 x 0).toNat = 3 ∧ x.size = 3
  · rw [if_neg a1, if_pos a2]; exact optOk_mk h1 w4 h3
  by_cases a3 : (at8 x 0).toNat = 4 ∧ x.size = 2
  · rw [if_neg a1, if_neg a2, if_pos a3]; exact optOk_mk h1 h2 h3
  by_cases a4 : (at8 x 0).toNat = 8 ∧ x.size = 10
  · rw [if_neg a1, if_neg a2, if_neg a3, if_pos a4]; exact optOk_mk h1 h2 (by rw [w2, w3]; rfl)
  · rw [if_neg a1, if_neg a2, if_neg a3, if_neg a4]; exact h
theorem optRd_ok (s : ByteArray) (f : Nat) : ∀ (a : Nat) (o : Opt), optOk o = true → optOk (optRd s f a o).1 = true ∧ ((optRd s f a o).2 = false → (optRd s f a o).1 = optNo) := by
  induction f with
  | zero => intro a o h; exact ⟨h, fun x => by cases x⟩
  | succ f ih =>
    intro a o h
    by_cases h0 : s.size ≤ a ∨ (at8 s a).toNat = 0
    · rw [optRd_end s _ a o h0]; exact ⟨h, fun x => by cases x⟩
    · have ha : a < s.size := by omega
      have hz : ¬ (at8 s a).toNat = 0 := fun e => h0 (.inr e)
      by_cases h1 : (at8 s a).toNat = 1
      · rw [optRd_pad s f a o ha h1]; exact ih _ _ h
      · by_cases hb : optBad s a
        · rw [optRd_bad s f a o ha hz h1 hb]; exact ⟨optOk_no, fun _ => rfl⟩
        · rw [optRd_next s f a o ha hz h1 hb]; exact ih _ _ (lay_ok h _)
/-- What is read is valid; where nothing is read, it is NoOptions. -/
theorem read_valid (s : ByteArray) : optOk (optRead s).1 = true ∧ ((optRead s).2 = false → (optRead s).1 = optNo) := optRd_ok s _ _ _ optOk_no
end Go.Proofs.Ytajekjjaaohbnaa
namespace Go.Proofs.Ytajekjjaaohbnaa
open Go

/-- A goto to a label that lies ahead: what stands behind the label is walked from wherever the run jumps. -/
theorem wp_scope_ahead {P : Program} {a : Act} {w : World} {Q : Exit → Act → World → Prop} {c rest : Code} (l : Nat) (hf : findLabel c l = some rest)
    (first : c.wp P (Exit.jump l (fun a' w' => ∀ J, rest.wp P (Exit.jump l J Q) a' w') Q) a w) : (Code.scope c).wp P Q a w :=
  wp_scope_jumps l _ (fun _ _ => 0) hf first (fun _ _ h => h _)
end Go.Proofs.Ytajekjjaaohbnaa
