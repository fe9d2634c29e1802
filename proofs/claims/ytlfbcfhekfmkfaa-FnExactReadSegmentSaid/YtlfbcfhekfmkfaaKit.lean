/- Plain lemmas of chapter 1 of the document: hexadecimal digits, bytes and rows of bytes. Nothing here is a claim. -/
import Derived.WalkKit
import Derived.OwnWalk
import Derived.Laws.IdiomStrings
import Derived.Lib.BufferRead
import Derived.Deep.AppendLies
import Derived.KernelRfl
namespace Go.Proofs.Ytlfbcfhekfmkfaa
open Go.RowKit Go.Lib

theorem ret_int {k : IntKind} {a b : Int} (h : a = b) : Ending.returned (.int k a) = .returned (.int k b) := by rw [h]

/-- A hexadecimal digit's byte. -/
def hexB (n : Nat) : UInt8 := if n < 10 then UInt8.ofNat (n + 48) else UInt8.ofNat (n + 87)
/-- The same as an integer. -/
def hexd (n : Int) : Int := if n < 10 then n + 48 else n + 87
theorem hexd_nat (n : Nat) (h : n ≤ 15) : hexd n = ((hexB n).toNat : Int) := by
  unfold hexd hexB
  by_cases hn : n < 10
  · rw [if_pos (by omega), if_pos hn, UInt8.toNat_ofNat']; omega
  · rw [if_neg (by omega), if_neg hn, UInt8.toNat_ofNat']; omega

def hexL (l : List UInt8) : List UInt8 := l.flatMap fun c => [hexB (c.toNat / 16), hexB (c.toNat % 16)]
theorem hexL_nil : hexL [] = [] := rfl
theorem hexL_snoc (l : List UInt8) (c : UInt8) : hexL (l ++ [c]) = hexL l ++ [hexB (c.toNat / 16), hexB (c.toNat % 16)] := by simp [hexL]
theorem hexL_length (l : List UInt8) : (hexL l).length = 2 * l.length := by
  induction l with
  | nil => rfl
  | cons a l ih => simp only [hexL, List.flatMap_cons, List.length_append, List.length_cons, List.length_nil] at ih ⊢; omega

theorem take_snoc (s : ByteArray) (k : Nat) (h : k < s.size) : s.data.toList.take (k + 1) = s.data.toList.take k ++ [s[k]] := by
  rw [List.take_succ_eq_append_getElem (by simpa using h)]; rfl

theorem byteCells_append (a b : List UInt8) : byteCells (a ++ b) = byteCells a ++ byteCells b := by simp [byteCells]

/-- A row of bytes that the call owns, converted to a string. -/
theorem run_string_own {P : Program} {w : World} {base : Nat} {e src dst : TypeId} {v : Value} {n : Nat} {l : List UInt8} (hs : P.underlying src = some (.slice e)) (he : P.underlying e = some (.int .u8)) (hd : P.underlying dst = some .string)
    (h : w.ownsRow base e 1 v n (byteCells l)) : (convert src dst v).run P w = .ok (.string ⟨l.toArray⟩) w := by
  obtain ⟨hl, h⟩ := h
  rw [byteCells_length] at hl
  rcases h with ⟨rfl, rfl⟩ | ⟨g, cap, cur, rfl, _, hg, _, _, _, htk⟩
  · have : l = [] := by cases l <;> simp_all
    subst this
    exact run_convert_nil_bytes w src dst e 0 hs he hd
  · have : n = l.length := by omega
    subst this
    exact run_convert_bytes_back w src dst e ⟨g, 0, none⟩ cap l hs he hd (bytes_of_row hg (by simpa using htk))

theorem hex_step (s : ByteArray) (k : Nat) (h : k < s.size) :
    byteCells (hexL (s.data.toList.take k)) ++ [Value.int .u8 (hexd (↑s[k].toNat / 16)), Value.int .u8 (hexd (↑s[k].toNat % 16))] = byteCells (hexL (s.data.toList.take (k + 1))) := by
  have h8 : s[k].toNat < 256 := s[k].toNat_lt
  rw [take_snoc s k h, hexL_snoc, byteCells_append]
  have e1 : hexd ((s[k].toNat : Int) / 16) = ((hexB (s[k].toNat / 16)).toNat : Int) := by rw [← hexd_nat _ (by omega)]; congr 1
  have e2 : hexd ((s[k].toNat : Int) % 16) = ((hexB (s[k].toNat % 16)).toNat : Int) := by rw [← hexd_nat _ (by omega)]; congr 1
  rw [e1, e2]; rfl

theorem hex_step' (s : ByteArray) (k : Nat) (h : k < s.size) :
    byteCells (hexL (s.data.toList.take k)) ++ [Value.int .u8 ↑(hexB (s[k].toNat / 16)).toNat, Value.int .u8 ↑(hexB (s[k].toNat % 16)).toNat] = byteCells (hexL (s.data.toList.take (k + 1))) := by
  rw [take_snoc s k h, hexL_snoc, byteCells_append]; rfl

theorem and15_all : ∀ n : Fin 256, bits .and .u8 (n.val : Int) 15 = (n.val : Int) % 16 := by decide +kernel
theorem and15 (n : Nat) (h : n < 256) : bits .and .u8 (n : Int) 15 = (n : Int) % 16 := and15_all ⟨n, h⟩

/-- The sixteen digits, as the program's constant has them. -/
theorem hexLit_all : ∀ n : Fin 16, #[(48 : UInt8), 49, 50, 51, 52, 53, 54, 55, 56, 57, 97, 98, 99, 100, 101, 102][n.val]? = some (hexB n.val) := by decide +kernel
theorem hexLit_nat (n : Nat) (h : n < (ByteArray.mk #[48, 49, 50, 51, 52, 53, 54, 55, 56, 57, 97, 98, 99, 100, 101, 102]).size) : (ByteArray.mk #[48, 49, 50, 51, 52, 53, 54, 55, 56, 57, 97, 98, 99, 100, 101, 102])[n] = hexB n := by
  have h2 : n < #[(48 : UInt8), 49, 50, 51, 52, 53, 54, 55, 56, 57, 97, 98, 99, 100, 101, 102].size := h
  have h1 := hexLit_all ⟨n, h⟩
  rw [Array.getElem?_eq_getElem h2] at h1
  exact Option.some.inj h1
theorem hexLit_div (n : Nat) : ∀ hh : ((n : Int) / 16).toNat < (ByteArray.mk #[48, 49, 50, 51, 52, 53, 54, 55, 56, 57, 97, 98, 99, 100, 101, 102]).size, (ByteArray.mk #[48, 49, 50, 51, 52, 53, 54, 55, 56, 57, 97, 98, 99, 100, 101, 102])[((n : Int) / 16).toNat] = hexB (n / 16) := fun hh => by
  rw [hexLit_nat]; congr 1
theorem hexLit_mod (n : Nat) : ∀ hh : ((n : Int) % 16).toNat < (ByteArray.mk #[48, 49, 50, 51, 52, 53, 54, 55, 56, 57, 97, 98, 99, 100, 101, 102]).size, (ByteArray.mk #[48, 49, 50, 51, 52, 53, 54, 55, 56, 57, 97, 98, 99, 100, 101, 102])[((n : Int) % 16).toNat] = hexB (n % 16) := fun hh => by
  rw [hexLit_nat]; congr 1

/-- What lay below the call's own blocks stands behind an append to a row of its own. -/
theorem below_app {B : Nat} {w wr w1 : World} {e : TypeId} {size : Nat} {v : Value} {n : Nat} {xs : List Value} {o : Obj} (hb : Below w.heap.size w wr) (hown : wr.ownsRow B e size v n xs) (hg : (wr.alloc o).drew.grownBy w1 v.ownBlock) (hB : w.heap.size ≤ B := by omega) : Below w.heap.size w w1 :=
  (((hb.alloc hb.size _).drew).grown hg (by have := hb.size; simp; omega) (fun j hj => Nat.le_trans hB (hown.lt j hj).1))
theorem below_app' {B : Nat} {w wr w1 : World} {e : TypeId} {size : Nat} {v : Value} {n : Nat} {xs : List Value} {o : Obj} (hb : Below w.heap.size w wr) (hown : wr.ownsRow B e size v n xs) (hg : (wr.alloc o).grownBy w1 v.ownBlock) (hB : w.heap.size ≤ B := by omega) : Below w.heap.size w w1 :=
  ((hb.alloc hb.size _).grown hg (by have := hb.size; simp; omega) (fun j hj => Nat.le_trans hB (hown.lt j hj).1))
theorem run_string_lit1 {P : Program} (w : World) (src dst e : TypeId) (c : UInt8) (x : Int) (hx : x = (c.toNat : Int)) (hs : P.underlying src = some (.slice e)) (he : P.underlying e = some (.int .u8)) (hd : P.underlying dst = some .string) :
    (convert src dst (.slice (some ⟨w.heap.size, 0, none⟩) 1 1)).run P (w.alloc (.cells #[.int .u8 x] e)) = .ok (.string ⟨#[c]⟩) (w.alloc (.cells #[.int .u8 x] e)) := by
  subst hx
  exact run_string_own (l := [c]) hs he hd (World.ownsRow_lit w #[.int .u8 c.toNat] 1 (Nat.zero_le _) (by simp [maxLen]) rfl)
theorem ret_str {a b : ByteArray} (h : a = b) : Ending.returned (.string a) = .returned (.string b) := by rw [h]
end Go.Proofs.Ytlfbcfhekfmkfaa
