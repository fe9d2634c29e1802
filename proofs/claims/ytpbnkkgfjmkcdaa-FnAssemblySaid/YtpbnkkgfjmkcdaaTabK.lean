/- The program's table of stored bytes (pure): its cells, its bytes in order, what a visit gathers. Nothing here is a claim. -/
import Derived.Test.YtpbnkkgfjmkcdaaArrK
namespace Go.Proofs.Ytpbnkkgfjmkcdaa
open Go.RowKit Go.Lib

/-- The cells of a table: 32 bytes, then 32 marks. -/
def tabC (T : Tab) : List Value := ((List.range 32).map fun i => .int .u8 (((T i).getD 0).toNat : Int)) ++ ((List.range 32).map fun i => .bool (T i).isSome)
theorem tabC_length (T : Tab) : (tabC T).length = 64 := by simp [tabC]
theorem tabC_byte (T : Tab) (i : Nat) (h : i < 32) : (tabC T)[i]? = some (.int .u8 (((T i).getD 0).toNat : Int)) := by
  unfold tabC
  rw [List.getElem?_append_left (by simp; exact h)]
  simp [h]
theorem tabC_mark (T : Tab) (i : Nat) (h : i < 32) : (tabC T)[32 + i]? = some (.bool (T i).isSome) := by
  unfold tabC
  rw [List.getElem?_append_right (by simp)]
  simp [h]
theorem tabC_put (T : Tab) (o : Nat) (h : o < 32) (b : UInt8) : ((tabC T).set o (.int .u8 (b.toNat : Int))).set (32 + o) (.bool true) = tabC (putL T o b) := by
  apply List.ext_getElem?
  intro i
  rcases Nat.lt_or_ge i 32 with h1 | h1
  · rw [List.getElem?_set_ne (by omega), tabC_byte _ i h1]
    by_cases e : o = i
    · subst e
      rw [List.getElem?_set_self (by rw [tabC_length]; omega)]
      simp [putL]
    · rw [List.getElem?_set_ne e, tabC_byte _ i h1]
      unfold putL
      rw [if_neg (fun k => e k.symm)]
  · rcases Nat.lt_or_ge i 64 with h2 | h2
    · obtain ⟨j, rfl⟩ : ∃ j, i = 32 + j := ⟨i - 32, by omega⟩
      rw [tabC_mark _ j (by omega)]
      by_cases e : o = j
      · subst e
        rw [List.getElem?_set_self (by rw [List.length_set, tabC_length]; omega)]
        simp [putL]
      · rw [List.getElem?_set_ne (by omega), List.getElem?_set_ne (by omega), tabC_mark _ j (by omega)]
        unfold putL
        rw [if_neg (fun k => e k.symm)]
    · rw [List.getElem?_eq_none (by simp [tabC_length]; omega), List.getElem?_eq_none (by rw [tabC_length]; omega)]
theorem tabC_zero : tabC (heldT []) = List.replicate 32 (.int .u8 0) ++ List.replicate 32 (.bool false) := by
  unfold tabC
  congr 1

/-- The bytes of the first k offsets, with their offsets. -/
def ordTo (T : Tab) : Nat → List (Nat × UInt8)
  | 0 => []
  | k + 1 => match T k with
    | some b => ordTo T k ++ [(k, b)]
    | none => ordTo T k
theorem ordTo_le (T : Tab) (k : Nat) : (ordTo T k).length ≤ k := by
  induction k with
  | zero => simp [ordTo]
  | succ k ih =>
    unfold ordTo
    split
    · rw [List.length_append]; simp; omega
    · omega
theorem ordTo_some {T : Tab} {k : Nat} {b : UInt8} (h : T k = some b) : ordTo T (k + 1) = ordTo T k ++ [(k, b)] := by simp [ordTo, h]
theorem ordTo_none {T : Tab} {k : Nat} (h : T k = none) : ordTo T (k + 1) = ordTo T k := by simp [ordTo, h]
/-- No hole so far. -/
def Tight (xs : List (Nat × UInt8)) : Prop := ∀ i (h : i < xs.length), (xs[i]).1 ≤ i
theorem Tight.init {xs : List (Nat × UInt8)} {y : Nat × UInt8} (h : Tight (xs ++ [y])) : Tight xs ∧ y.1 ≤ xs.length := by
  constructor
  · intro i hi
    have h1 := h i (by rw [List.length_append]; simp; omega)
    rwa [List.getElem_append_left hi] at h1
  · have h1 := h xs.length (by simp)
    simpa using h1
theorem Tight.snoc {xs : List (Nat × UInt8)} {y : Nat × UInt8} (h : Tight xs) (hy : y.1 ≤ xs.length) : Tight (xs ++ [y]) := by
  intro i hi
  rcases Nat.lt_or_ge i xs.length with h1 | h1
  · rw [List.getElem_append_left h1]; exact h i h1
  · have h2 : i = xs.length := by rw [List.length_append] at hi; simp at hi; omega
    subst h2
    simpa using hy
/-- The bytes alone. -/
def bytesP (xs : List (Nat × UInt8)) : List UInt8 := xs.map Prod.snd
theorem tight_ord {T : Tab} {k : Nat} (h : Tight (ordTo T k)) : bytesP (ordTo T k) = (List.range (ordTo T k).length).map (fun o => (T o).getD 0) ∧ (∀ i, i < (ordTo T k).length → T i ≠ none) ∧ (∀ o, (ordTo T k).length ≤ o → o < k → T o = none) := by
  induction k with
  | zero => exact ⟨rfl, fun i hi => by simp [ordTo] at hi, fun o _ ho => by omega⟩
  | succ k ih =>
    cases hT : T k with
    | none =>
      rw [ordTo_none hT] at h ⊢
      obtain ⟨h1, h2, h3⟩ := ih h
      refine ⟨h1, h2, fun o ho hk => ?_⟩
      rcases Nat.lt_or_ge o k with h4 | h4
      · exact h3 o ho h4
      · obtain rfl : o = k := by omega
        exact hT
    | some b =>
      rw [ordTo_some hT] at h ⊢
      obtain ⟨h4, h5⟩ := h.init
      obtain ⟨h1, h2, h3⟩ := ih h4
      have h6 := ordTo_le T k
      have h7 : (ordTo T k).length = k := by simp only at h5; omega
      refine ⟨?_, fun i hi => ?_, fun o ho hk => ?_⟩
      · rw [List.length_append, List.length_singleton, List.range_succ, List.map_append, ← h1]
        unfold bytesP
        rw [List.map_append, h7]
        simp [hT]
      · rcases Nat.lt_or_ge i (ordTo T k).length with h8 | h8
        · exact h2 i h8
        · have h9 : i = k := by rw [List.length_append] at hi; simp at hi; omega
          subst h9
          rw [hT]
          exact fun e => by cases e
      · rw [List.length_append, List.length_singleton] at ho
        omega
/-- The whole visit without a hole. -/
theorem tight_all {T : Tab} (h32 : T 32 = none) (h : Tight (ordTo T 32)) : bytesP (ordTo T 32) = (List.range (cnt T)).map (fun o => (T o).getD 0) := by
  obtain ⟨h1, h2, h3⟩ := tight_ord h
  have h4 := ordTo_le T 32
  have hc : cnt T = (ordTo T 32).length := by
    refine cnt_eq h4 ?_ h2
    rcases Nat.lt_or_ge (ordTo T 32).length 32 with h5 | h5
    · exact h3 _ (Nat.le_refl _) h5
    · rw [show (ordTo T 32).length = 32 by omega]; exact h32
  rw [hc]; exact h1
/-- The visit up to the first hole. -/
theorem tight_stop {T : Tab} {k : Nat} (hk : k < 32) (h : Tight (ordTo T k)) (hg : (ordTo T k).length < k) : bytesP (ordTo T k) = (List.range (cnt T)).map (fun o => (T o).getD 0) := by
  obtain ⟨h1, h2, h3⟩ := tight_ord h
  have hc : cnt T = (ordTo T k).length := cnt_eq (by omega) (h3 _ (Nat.le_refl _) hg) h2
  rw [hc]; exact h1

/-- One more than the last offset. -/
def lastP (xs : List (Nat × UInt8)) : Nat := match xs.getLast? with
  | some y => y.1 + 1
  | none => 0
theorem lastP_snoc (xs : List (Nat × UInt8)) (y : Nat × UInt8) : lastP (xs ++ [y]) = y.1 + 1 := by simp [lastP]
theorem lastP_ord (T : Tab) (e : Int) (he : 0 ≤ e) (k : Nat) : ((lastP (ordTo T k) : Int) ≤ e ↔ ∀ o : Nat, e ≤ (o : Int) → o < k → T o = none) ∧ lastP (ordTo T k) ≤ k := by
  induction k with
  | zero => exact ⟨⟨fun _ o _ h => by omega, fun _ => by simpa [lastP, ordTo] using he⟩, by simp [lastP, ordTo]⟩
  | succ k ih =>
    cases hT : T k with
    | none =>
      rw [ordTo_none hT]
      refine ⟨ih.1.trans ⟨fun h o ho hk => ?_, fun h o ho hk => h o ho (by omega)⟩, by omega⟩
      rcases Nat.lt_or_ge o k with h4 | h4
      · exact h o ho h4
      · obtain rfl : o = k := by omega
        exact hT
    | some b =>
      rw [ordTo_some hT, lastP_snoc]
      refine ⟨⟨fun h o ho hk => by simp only at h; omega, fun h => ?_⟩, Nat.le_refl _⟩
      simp only
      rcases Int.lt_or_le (k : Int) e with h1 | h1
      · omega
      · have := h k h1 (by omega); rw [hT] at this; cases this
theorem lastP_free {T : Tab} (h32 : T 32 = none) {e : Int} (he : 0 ≤ e) : freeB T e = decide ((lastP (ordTo T 32) : Int) ≤ e) := by
  have h1 := (lastP_ord T e he 32).1
  unfold freeB
  congr 1
  refine propext ⟨fun h => h1.2 fun o ho hk => h o ho (by omega), fun h o ho hk => ?_⟩
  rcases Nat.lt_or_ge o 32 with h2 | h2
  · exact h1.1 h o ho h2
  · rw [show o = 32 by omega]; exact h32

/-- The pieces that a visit gathers behind n. -/
def pcsL (n : Nat) (xs : List (Nat × UInt8)) : List HP := xs.foldl (fun L y => if y.1 < n then L else stepP L ((y.1 : Int) - n) y.2) []
theorem pcsL_snoc (n : Nat) (xs : List (Nat × UInt8)) (y : Nat × UInt8) : pcsL n (xs ++ [y]) = if y.1 < n then pcsL n xs else stepP (pcsL n xs) ((y.1 : Int) - n) y.2 := by simp [pcsL]
theorem pcsL_ord (T : Tab) (n : Nat) (k : Nat) : pcsL n (ordTo T k) = pcs T n (k - n) := by
  induction k with
  | zero => simp [pcsL, ordTo, pcs]
  | succ k ih =>
    rcases Nat.lt_or_ge k n with h | h
    · have e : k + 1 - n = 0 := by omega
      have e2 : k - n = 0 := by omega
      rw [e]
      rw [e2] at ih
      cases hT : T k with
      | none => rw [ordTo_none hT]; exact ih
      | some b => rw [ordTo_some hT, pcsL_snoc, if_pos h]; exact ih
    · obtain ⟨j, rfl⟩ : ∃ j, k = n + j := ⟨k - n, by omega⟩
      rw [show n + j + 1 - n = j + 1 by omega]
      rw [show n + j - n = j by omega] at ih
      cases hT : T (n + j) with
      | none => rw [ordTo_none hT, ih]; simp [pcs, hT]
      | some b =>
        rw [ordTo_some hT, pcsL_snoc, if_neg (by simp only; omega), ih]
        simp only [pcs, hT]
        congr 1
        omega
theorem pcs_33 {T : Tab} (h32 : T 32 = none) {c : Nat} (hc : c ≤ 32) : pcs T c (33 - c) = pcs T c (32 - c) := by
  rw [show 33 - c = (32 - c) + 1 by omega]
  have e : T (c + (32 - c)) = none := by rw [show c + (32 - c) = 32 by omega]; exact h32
  simp [pcs, e]

/-- What the bytes of a text put into a table. -/
def foldF (T : Tab) (xs : List (Nat × UInt8)) : Tab := xs.foldl (fun A y => putF A y.1 y.2) T
theorem foldF_snoc (T : Tab) (xs : List (Nat × UInt8)) (y : Nat × UInt8) : foldF T (xs ++ [y]) = putF (foldF T xs) y.1 y.2 := by simp [foldF]
/-- The bytes of a text by their offset. -/
def rcvTo (n s : Int) (x : ByteArray) : Nat → List (Nat × UInt8)
  | 0 => []
  | k + 1 => match x.data[(pl (n + k - s)).toNat]? with
    | some b => rcvTo n s x k ++ [(k, b)]
    | none => rcvTo n s x k
theorem rcvTo_some {n s : Int} {x : ByteArray} {k : Nat} {b : UInt8} (h : x.data[(pl (n + k - s)).toNat]? = some b) : rcvTo n s x (k + 1) = rcvTo n s x k ++ [(k, b)] := by simp [rcvTo, h]
theorem rcvTo_none {n s : Int} {x : ByteArray} {k : Nat} (h : x.data[(pl (n + k - s)).toNat]? = none) : rcvTo n s x (k + 1) = rcvTo n s x k := by simp [rcvTo, h]
theorem rcvTo_le (n s : Int) (x : ByteArray) (k : Nat) : (rcvTo n s x k).length ≤ k := by
  induction k with
  | zero => simp [rcvTo]
  | succ k ih =>
    unfold rcvTo
    split
    · rw [List.length_append]; simp; omega
    · omega
theorem fold_rcv (n s : Int) (x : ByteArray) (T : Tab) (k : Nat) (o : Nat) : foldF T (rcvTo n s x k) o = (T o).or (if o < k then x.data[(pl (n + o - s)).toNat]? else none) := by
  induction k with
  | zero => simp [rcvTo, foldF]
  | succ k ih =>
    cases hb : x.data[(pl (n + k - s)).toNat]? with
    | none =>
      rw [rcvTo_none hb, ih]
      congr 1
      by_cases e : o = k
      · subst e; rw [if_neg (by omega), if_pos (by omega), hb]
      · by_cases h : o < k
        · rw [if_pos h, if_pos (by omega)]
        · rw [if_neg h, if_neg (by omega)]
    | some b =>
      rw [rcvTo_some hb, foldF_snoc]
      unfold putF
      simp only
      by_cases e : o = k
      · subst e
        rw [if_pos rfl, ih, if_neg (by omega), if_pos (by omega), hb]
        simp
      · rw [if_neg e, ih]
        congr 1
        by_cases h : o < k
        · rw [if_pos h, if_pos (by omega)]
        · rw [if_neg h, if_neg (by omega)]
/-- All that came lies below the limit. -/
def UnderL (l : Int) (xs : List (Nat × UInt8)) : Prop := ∀ y ∈ xs, (y.1 : Int) < l
theorem UnderL.snoc {l : Int} {xs : List (Nat × UInt8)} {y : Nat × UInt8} (h : UnderL l xs) (hy : (y.1 : Int) < l) : UnderL l (xs ++ [y]) := fun z hz => by
  rcases List.mem_append.1 hz with h1 | h1
  · exact h z h1
  · obtain rfl := List.mem_singleton.1 h1
    exact hy
theorem rcv_absent {n s : Int} {x : ByteArray} {l : Int} {k o : Nat} (h : UnderL l (rcvTo n s x k)) (ho : o < k) (hl : l ≤ (o : Int)) : x.data[(pl (n + o - s)).toNat]? = none := by
  induction k with
  | zero => omega
  | succ k ih =>
    cases hb : x.data[(pl (n + k - s)).toNat]? with
    | none =>
      rw [rcvTo_none hb] at h
      by_cases e : o = k
      · subst e; exact hb
      · exact ih h (by omega)
    | some b =>
      rw [rcvTo_some hb] at h
      by_cases e : o = k
      · subst e
        have := h (o, b) (by simp)
        simp only at this
        omega
      · exact ih (fun z hz => h z (List.mem_append.2 (.inl hz))) (by omega)
theorem fold_arr {n s : Int} {x : ByteArray} {l : Int} {T : Tab} {k : Nat} (h : UnderL l (rcvTo n s x k)) (hk : l ≤ (k : Int)) : foldF T (rcvTo n s x k) = arrT n s x l T := by
  funext o
  rw [fold_rcv]
  unfold arrT
  congr 1
  by_cases h1 : (o : Int) < l
  · rw [if_pos (by omega), if_pos h1]
  · rw [if_neg h1]
    by_cases h2 : o < k
    · rw [if_pos h2]; exact rcv_absent h h2 (by omega)
    · rw [if_neg h2]
end Go.Proofs.Ytpbnkkgfjmkcdaa
