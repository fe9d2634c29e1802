/- Plain lemmas on joined texts, and on a slice that reads as a list. Nothing here is a claim. -/
import Derived.Test.YtlfbcfhekfmkfaaUnhexKit
import Derived.Lib.Join
import Derived.Lib.AppendStr
import Derived.Laws.Rows
namespace Go.Proofs.Ytlfbcfhekfmkfaa
open Go.RowKit Go.Lib

/-- The slice at a (nil or not) reads as xs, one cell an element, all of it below block B. -/
def Row (w : World) (B : Nat) (a : Option Addr) (xs : List Value) : Prop :=
  xs ≠ [] → ∃ b off, a = some ⟨b, off, none⟩ ∧ b < B ∧ ∀ j u, xs[j]? = some u → w.cell? ⟨b, off + j, none⟩ = some u
theorem Row.nil {w : World} {B : Nat} {a : Option Addr} : Row w B a [] := fun h => absurd rfl h
theorem Row.below {w w' : World} {B : Nat} {a : Option Addr} {xs : List Value} (h : Row w B a xs) (hb : Below B w w') : Row w' B a xs := fun hx => by
  obtain ⟨b, off, ha, hB, hc⟩ := h hx
  exact ⟨b, off, ha, hB, fun j u hu => (hb.cell (p := ⟨b, off + j, none⟩) hB).trans (hc j u hu)⟩
theorem Row.mono {w : World} {B B' : Nat} {a : Option Addr} {xs : List Value} (h : Row w B a xs) (hB : B ≤ B') : Row w B' a xs := fun hx => by
  obtain ⟨b, off, ha, hb, hc⟩ := h hx
  exact ⟨b, off, ha, Nat.lt_of_lt_of_le hb hB, hc⟩
theorem Row.own {w : World} {base : Nat} {e : TypeId} {n cap g : Nat} {xs : List Value} (h : w.ownsRow base e 1 (.slice (some ⟨g, 0, none⟩) n cap) n xs) : Row w w.heap.size (some ⟨g, 0, none⟩) xs := fun hx => by
  have hn : 0 < n := by have := h.1; have := List.length_pos_iff.2 hx; omega
  obtain ⟨g', cap', hv, _, hlt⟩ := h.form hn
  have e : g = g' := by injection hv with h1; injection h1 with h1; injection h1
  subst e
  refine ⟨g, 0, rfl, hlt, fun j u hu => ?_⟩
  have := h.cells (g := g) rfl j u hu
  rw [Nat.zero_add]
  rwa [show (⟨g, 0, none⟩ : Addr).add j = ⟨g, j, none⟩ by unfold Addr.add; split <;> simp_all] at this

def strVals (ss : List ByteArray) : List Value := ss.map Value.string
theorem strVals_at (ss : List ByteArray) (k : Nat) (h : k < ss.length) : (strVals ss)[k]? = some (.string ss[k]) := by simp [strVals, h]
theorem Row.str {w : World} {B : Nat} {a : Option Addr} {ss : List ByteArray} (h : Row w B a (strVals ss)) {k : Nat} (hk : k < ss.length) :
    ∃ b off, a = some ⟨b, off, none⟩ ∧ b < B ∧ ∀ j (hj : j < ss.length), w.cell? ⟨b, off + j, none⟩ = some (.string ss[j]) := by
  obtain ⟨b, off, ha, hb, hc⟩ := h (fun e => by have := congrArg List.length e; simp [strVals] at this; subst this; simp at hk)
  exact ⟨b, off, ha, hb, fun j hj => hc j _ (strVals_at ss j hj)⟩

def bytesOf (ss : List ByteArray) : List (List UInt8) := ss.map (·.data.toList)
theorem lens_take (ss : List ByteArray) (k : Nat) (h : k < ss.length) : lens (bytesOf (ss.take (k + 1))) = lens (bytesOf (ss.take k)) + ss[k].size := by
  have e : (bytesOf ss)[k]? = some ss[k].data.toList := by simp [bytesOf, h]
  have := lens_take_succ (bytesOf ss) k _ e
  simp only [bytesOf, ← List.map_take] at this ⊢
  rw [this]; simp

/-- The first k elements, joined. -/
def jn (ss : List ByteArray) (by_ : ByteArray) (k : Nat) : List UInt8 := Lib.join (bytesOf (ss.take k)) by_.data.toList
theorem jn_zero (ss : List ByteArray) (by_ : ByteArray) : jn ss by_ 0 = [] := rfl
theorem jn_one (ss : List ByteArray) (by_ : ByteArray) (h : 0 < ss.length) : jn ss by_ (0 + 1) = ss[0].data.toList := by
  cases ss with
  | nil => simp at h
  | cons x r => simp [jn, bytesOf, join_one]
theorem jn_succ (ss : List ByteArray) (by_ : ByteArray) (k : Nat) (h : k < ss.length) (h0 : 0 < k) : jn ss by_ (k + 1) = jn ss by_ k ++ by_.data.toList ++ ss[k].data.toList := by
  cases ss with
  | nil => simp at h
  | cons x r =>
    obtain ⟨m, rfl⟩ : ∃ m, k = m + 1 := ⟨k - 1, by omega⟩
    have hm : m < r.length := by simpa using h
    have e : (bytesOf r)[m]? = some r[m].data.toList := by simp [bytesOf, hm]
    have := joinTail_take_succ by_.data.toList (bytesOf r) m _ e
    unfold jn
    simp only [bytesOf, List.take_succ_cons, List.map_cons, join_cons, List.getElem_cons_succ]
    simp only [bytesOf, ← List.map_take] at this
    rw [this]; simp
theorem jn_length (ss : List ByteArray) (by_ : ByteArray) (k : Nat) : (jn ss by_ k).length ≤ by_.size * k + lens (bytesOf ss) := by
  cases ss with
  | nil => simp [jn, bytesOf, join_nil]
  | cons x r =>
    cases k with
    | zero => simp [jn_zero]
    | succ k =>
      have h1 := lens_take_le (bytesOf (x :: r)) (k + 1)
      unfold jn
      simp only [List.take_succ_cons, bytesOf, List.map_cons] at h1 ⊢
      rw [join_length]
      have h2 : ((r.take k).map (·.data.toList)).length ≤ k := by simp; omega
      rw [← List.map_take] at h1
      have h3 : by_.data.toList.length = by_.size := by simp
      rw [h3]
      have := Nat.mul_le_mul_left by_.size (show ((r.take k).map (·.data.toList)).length ≤ k + 1 by omega)
      omega
/-- The first k strings, then empty ones. -/
def fillS (ss : List ByteArray) (k : Nat) : List Value := strVals (ss.take k) ++ List.replicate (ss.length - k) (.string ⟨#[]⟩)
theorem fillS_zero (ss : List ByteArray) : fillS ss 0 = List.replicate ss.length (.string ⟨#[]⟩) := by simp [fillS, strVals]
theorem fillS_all (ss : List ByteArray) (k : Nat) (h : ss.length ≤ k) : fillS ss k = strVals ss := by
  unfold fillS; rw [List.take_of_length_le h, show ss.length - k = 0 by omega]; simp
theorem fillS_at (ss : List ByteArray) (k : Nat) (h : k < ss.length) : (fillS ss k)[k]? = some (.string ⟨#[]⟩) := by
  unfold fillS
  have hl : (strVals (ss.take k)).length = k := by simp [strVals]; omega
  rw [List.getElem?_append_right (by omega), hl, Nat.sub_self, List.getElem?_replicate, if_pos (by omega)]
theorem fillS_set (ss : List ByteArray) (k : Nat) (h : k < ss.length) : (fillS ss k).set k (.string ss[k]) = fillS ss (k + 1) := by
  unfold fillS
  have hl : (strVals (ss.take k)).length = k := by simp [strVals]; omega
  rw [List.set_append_right _ _ (by omega), hl, Nat.sub_self, show ss.length - k = (ss.length - (k + 1)) + 1 by omega, List.replicate_succ, List.set_cons_zero, List.take_succ_eq_append_getElem h]
  unfold strVals; rw [List.map_append, List.append_assoc]; rfl
theorem below_grown {B : Nat} {w wr w1 : World} {e : TypeId} {size : Nat} {v : Value} {n : Nat} {xs : List Value} (hb : Below w.heap.size w wr) (hown : wr.ownsRow B e size v n xs) (hg : wr.grownBy w1 v.ownBlock) (hB : w.heap.size ≤ B := by omega) : Below w.heap.size w w1 :=
  hb.grown hg hb.size (fun j hj => Nat.le_trans hB (hown.lt j hj).1)

theorem strCells_bytes (s : ByteArray) : strCells s = byteCells s.data.toList := rfl
end Go.Proofs.Ytlfbcfhekfmkfaa
namespace Go.Proofs.Ytlfbcfhekfmkfaa
open Go.RowKit Go.Lib

theorem row_at {w : World} {r k : Nat} {cs : Array Value} {t : TypeId} (h : w.heap[r]? = some (.cells cs t (0, 0))) (hk : k < cs.size) : w.cell? ⟨r, k, none⟩ = some cs[k] := by
  rw [cell_of_row w r k cs t (0, 0) h]; simp [hk]
end Go.Proofs.Ytlfbcfhekfmkfaa
