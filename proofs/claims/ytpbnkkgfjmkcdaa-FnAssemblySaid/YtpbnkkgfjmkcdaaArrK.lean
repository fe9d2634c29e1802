/- What arrives (pure): the table text byte by text byte, the bytes in order, where it ends. Nothing here is a claim. -/
import Derived.Test.YtpbnkkgfjmkcdaaRcvOk
namespace Go.Proofs.Ytpbnkkgfjmkcdaa
open Go.RowKit Go.Lib

/-- The table once the first i bytes of the text have come. -/
def arrTo (n s : Int) (x : ByteArray) (l : Int) (T : Tab) (i : Nat) : Tab := fun o => (T o).or (if (o : Int) < l ∧ (pl (n + o - s)).toNat < i then x.data[(pl (n + o - s)).toNat]? else none)
theorem arrTo_zero (n s : Int) (x : ByteArray) (l : Int) (T : Tab) : arrTo n s x l T 0 = T := by
  funext o
  unfold arrTo
  rw [if_neg (by omega)]
  simp
theorem arrTo_all (n s : Int) (x : ByteArray) (l : Int) (T : Tab) : arrTo n s x l T x.size = arrT n s x l T := by
  funext o
  unfold arrTo arrT
  congr 1
  by_cases h : (o : Int) < l
  · rw [if_pos h]
    by_cases h2 : (pl (n + o - s)).toNat < x.size
    · rw [if_pos ⟨h, h2⟩]
    · rw [if_neg (fun q => h2 q.2), Array.getElem?_eq_none (by show x.data.size ≤ _; have : x.data.size = x.size := rfl; omega)]
  · rw [if_neg h, if_neg (fun q => h q.1)]
theorem pl_back {n s : Int} {o i q : Nat} (ho : (o : Int) < 33) (hi : i < 4294967296) (hq : (q : Int) = pl (s + i - n)) : (pl (n + o - s)).toNat = i ↔ o = q := by
  unfold pl at *
  omega
theorem arrTo_other {n s : Int} {x : ByteArray} {l : Int} {T : Tab} {i q o : Nat} (hl : l ≤ 32) (hi : i < 4294967296) (hq : (q : Int) = pl (s + i - n)) (h : (q : Int) < l → o ≠ q) : arrTo n s x l T (i + 1) o = arrTo n s x l T i o := by
  unfold arrTo
  congr 1
  by_cases ho : (o : Int) < l
  · have h1 := pl_back (n := n) (s := s) (o := o) (i := i) (q := q) (by omega) hi hq
    by_cases h2 : (pl (n + o - s)).toNat < i
    · rw [if_pos ⟨ho, by omega⟩, if_pos ⟨ho, h2⟩]
    · have h3 : ¬ (pl (n + o - s)).toNat < i + 1 := fun h4 => by
        have h5 := h1.1 (by omega)
        exact h (by omega) h5
      rw [if_neg (fun k => h3 k.2), if_neg (fun k => h2 k.2)]
  · rw [if_neg (fun k => ho k.1), if_neg (fun k => ho k.1)]
theorem arrTo_skip {n s : Int} {x : ByteArray} {l : Int} {T : Tab} {i q : Nat} (hl : l ≤ 32) (hi : i < 4294967296) (hq : (q : Int) = pl (s + i - n)) (h : ¬ (q : Int) < l) : arrTo n s x l T (i + 1) = arrTo n s x l T i :=
  funext fun _ => arrTo_other hl hi hq (fun k => absurd k h)
theorem arrTo_at {n s : Int} {x : ByteArray} {l : Int} {T : Tab} {i q : Nat} (hl : l ≤ 32) (hi : i < 4294967296) (hq : (q : Int) = pl (s + i - n)) (h : (q : Int) < l) : arrTo n s x l T i q = T q := by
  unfold arrTo
  have h1 := (pl_back (n := n) (s := s) (o := q) (i := i) (q := q) (by omega) hi hq).2 rfl
  rw [if_neg (fun k => by omega)]
  simp
theorem arrTo_held {n s : Int} {x : ByteArray} {l : Int} {T : Tab} {i q : Nat} (hl : l ≤ 32) (hi : i < 4294967296) (hq : (q : Int) = pl (s + i - n)) (h : (q : Int) < l) (hT : arrTo n s x l T i q ≠ none) : arrTo n s x l T (i + 1) = arrTo n s x l T i := by
  funext o
  by_cases e : o = q
  · subst e
    have h1 := arrTo_at (x := x) (T := T) hl hi hq h
    rw [h1] at hT ⊢
    unfold arrTo
    cases hTo : T o with
    | none => exact absurd hTo hT
    | some b => rfl
  · exact arrTo_other hl hi hq (fun _ => e)
theorem arrTo_put {n s : Int} {x : ByteArray} {l : Int} {T : Tab} {i q : Nat} (hl : l ≤ 32) (hi : i < 4294967296) (hx : i < x.size) (hq : (q : Int) = pl (s + i - n)) (h : (q : Int) < l) (hT : arrTo n s x l T i q = none) : arrTo n s x l T (i + 1) = putL (arrTo n s x l T i) q x[i] := by
  funext o
  unfold putL
  by_cases e : o = q
  · subst e
    rw [if_pos rfl]
    have h1 := arrTo_at (x := x) (T := T) hl hi hq h
    rw [h1] at hT
    unfold arrTo
    have h2 := (pl_back (n := n) (s := s) (o := o) (i := i) (q := o) (by omega) hi hq).2 rfl
    rw [hT, if_pos ⟨h, by omega⟩, h2, Array.getElem?_eq_getElem hx]
    rfl
  · rw [if_neg e]
    exact arrTo_other hl hi hq (fun _ => e)

/-- Beyond the limit nothing is held. -/
theorem held_limit {rs : List HP} {l : Int} (h0 : 0 ≤ l) (h : PiecesOk rs l rs.length) (o : Nat) (ho : l ≤ (o : Int)) : heldT rs o = none := by
  have h1 := heldT_behind h0 h (Nat.le_refl _) o (by have := (h.end_bd h0 (Nat.le_refl _)).2; omega)
  rwa [List.take_length] at h1
theorem arrTab_out {r : Rcv} (h : RcvOk r) (s : Int) (x : ByteArray) (o : Nat) (ho : lim r.d r.f r.z ≤ (o : Int)) : arrTab r s x o = none := by
  refine arrT_out ho (held_limit ?_ h.2.2.2.2 o ho)
  have h4 := h.2.2.2.1
  have hw := win_bd r.d r.z
  rcases h4 with h4 | h4
  · rw [h4, lim_yes]; exact hw.1
  · rw [lim_no (by omega)]; omega
theorem lim_bd {r : Rcv} (h : RcvOk r) : 0 ≤ lim r.d r.f r.z ∧ lim r.d r.f r.z ≤ win r.d r.z := by
  have h4 := h.2.2.2.1
  have hw := win_bd r.d r.z
  rcases h4 with h4 | h4
  · rw [h4, lim_yes]; omega
  · rw [lim_no (by omega)]; omega
theorem arr_cnt {r : Rcv} (h : RcvOk r) (s : Int) (x : ByteArray) : (cnt (arrTab r s x) : Int) ≤ lim r.d r.f r.z ∧ arrTab r s x (cnt (arrTab r s x)) = none ∧ (∀ i, i < cnt (arrTab r s x) → arrTab r s x i ≠ none) := by
  have hb := lim_bd h
  have hw := win_bd r.d r.z
  have h1 := cnt_lt (arrTab_out h s x 32 (by omega))
  refine ⟨?_, h1.2.1, h1.2.2⟩
  rcases Int.lt_or_le (lim r.d r.f r.z) (cnt (arrTab r s x) : Int) with h2 | h2
  · have h3 := h1.2.2 (lim r.d r.f r.z).toNat (by omega)
    exact absurd (arrTab_out h s x (lim r.d r.f r.z).toNat (by omega)) h3
  · exact h2
/-- The end lies behind the bytes in order. -/
theorem finAt_ge {r : Rcv} (h : RcvOk r) (s : Int) (x : ByteArray) (fin : Bool) (e : Int) (he : 0 ≤ e) :
    finAt r.f fin e (lim r.d r.f r.z) (arrTab r s x) = -1 ∨ (cnt (arrTab r s x) : Int) ≤ finAt r.f fin e (lim r.d r.f r.z) (arrTab r s x) ∧ finAt r.f fin e (lim r.d r.f r.z) (arrTab r s x) ≤ lim r.d r.f r.z := by
  have hc := arr_cnt h s x
  have hl := lim_bd h
  have hw := win_bd r.d r.z
  unfold finAt
  cases hb : (fin && (r.f == -1) && (decide (e ≤ lim r.d r.f r.z) && freeB (arrTab r s x) e)) with
  | true =>
    simp only [Bool.and_eq_true, decide_eq_true_eq] at hb
    obtain ⟨⟨_, hf⟩, hle, hfr⟩ := hb
    simp only [cond_true]
    have hfree : freeFrom (arrTab r s x) e := by unfold freeB at hfr; simpa using hfr
    right
    refine ⟨?_, hle⟩
    rcases Int.lt_or_le e (cnt (arrTab r s x) : Int) with h1 | h1
    · exact absurd (hfree e.toNat (by omega) (by omega)) (hc.2.2 e.toNat (by omega))
    · exact h1
  | false =>
    simp only [cond_false]
    rcases h.2.2.2.1 with h4 | h4
    · exact .inl h4
    · right
      rw [lim_no (by omega)] at hc ⊢
      omega
end Go.Proofs.Ytpbnkkgfjmkcdaa
