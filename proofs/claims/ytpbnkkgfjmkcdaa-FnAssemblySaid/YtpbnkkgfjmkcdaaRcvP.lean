/- What a receiver keeps when bytes arrive and when they are taken (pure). Nothing here is a claim. -/
import Derived.Test.YtpbnkkgfjmkcdaaArrK
import Derived.Test.YtpbnkkgfjmkcdaaRcvTakeK
namespace Go.Proofs.Ytpbnkkgfjmkcdaa
open Go.RowKit Go.Lib

theorem word_plR (n : Int) : wordOk (pl n) 32 = true := by
  have := pl_bd n
  unfold wordOk
  simp
  omega
theorem pl_wordR {u : Int} (h : wordOk u 32 = true) : pl u = u := by
  unfold wordOk at h
  simp at h
  unfold pl
  omega
/-! ### Pieces, the last one apart -/
theorem endTo_app (M N : List HP) : ∀ k, k ≤ M.length → endTo (M ++ N) k = endTo M k
  | 0, _ => rfl
  | k + 1, h => by
    show (match (M ++ N)[k]? with | some p => p.o + p.t.size | none => 0) = (match M[k]? with | some p => p.o + p.t.size | none => 0)
    rw [List.getElem?_append_left (by omega)]
theorem endTo_snoc (M : List HP) (p : HP) : endTo (M ++ [p]) (M ++ [p]).length = p.o + p.t.size := by
  rw [List.length_append]
  show (match (M ++ [p])[M.length]? with | some p => p.o + p.t.size | none => 0) = _
  rw [List.getElem?_append_right (Nat.le_refl _)]
  simp
theorem ok_init {M : List HP} {p : HP} {l : Int} (h : PiecesOk (M ++ [p]) l (M ++ [p]).length) : PiecesOk M l M.length ∧ p.t.size ≠ 0 ∧ endTo M M.length < p.o ∧ p.o + p.t.size ≤ l := by
  refine ⟨fun k hk _ => ?_, ?_⟩
  · have h1 := h k (by simp; omega) (by simp; omega)
    unfold PieceOk at h1 ⊢
    rw [endTo_app _ _ _ (by omega), List.getElem_append_left hk] at h1
    exact h1
  · have h1 := h M.length (by simp) (by simp)
    unfold PieceOk at h1
    rw [endTo_app _ _ _ (Nat.le_refl _)] at h1
    simpa using h1
theorem ok_snoc {M : List HP} {p : HP} {l : Int} (h : PiecesOk M l M.length) (h1 : p.t.size ≠ 0) (h2 : endTo M M.length < p.o) (h3 : p.o + p.t.size ≤ l) : PiecesOk (M ++ [p]) l (M ++ [p]).length := by
  intro k hk _
  unfold PieceOk
  rcases Nat.lt_or_ge k M.length with h4 | h4
  · have h5 := h k h4 h4
    unfold PieceOk at h5
    rw [endTo_app _ _ _ (by omega), List.getElem_append_left h4]
    exact h5
  · have e : k = M.length := by simp at hk; omega
    subst e
    rw [endTo_app _ _ _ (Nat.le_refl _)]
    simp only [List.getElem_append_right (Nat.le_refl _), Nat.sub_self, List.getElem_cons_zero]
    exact ⟨h1, h2, h3⟩
theorem ok_mono {rs : List HP} {l l' : Int} {m : Nat} (h : PiecesOk rs l m) (hl : l ≤ l') : PiecesOk rs l' m := fun k hk hm => by
  have h1 := h k hk hm
  unfold PieceOk at h1 ⊢
  exact ⟨h1.1, h1.2.1, by omega⟩
theorem stepP_nil (o : Int) (b : UInt8) : stepP [] o b = [⟨o, ⟨#[b]⟩⟩] := rfl
theorem stepP_snoc (M : List HP) (p : HP) (o : Int) (b : UInt8) : stepP (M ++ [p]) o b = if p.o + p.t.size = o then M ++ [⟨p.o, p.t.push b⟩] else M ++ [p] ++ [⟨o, ⟨#[b]⟩⟩] := by
  unfold stepP
  simp
theorem nil_or_snocR (L : List HP) : L = [] ∨ ∃ M p, L = M ++ [p] := by
  rcases List.eq_nil_or_concat L with h | ⟨M, p, h⟩
  · exact .inl h
  · exact .inr ⟨M, p, by rw [h, List.concat_eq_append]⟩
theorem one_size (b : UInt8) : (⟨#[b]⟩ : ByteArray).size = 1 := rfl
/-- The pieces of a table stand as pieces must. -/
theorem pcs_ok {T : Tab} {n : Nat} {l : Int} (h0 : T n = none) (k : Nat) (hl : ∀ o, o < k → T (n + o) ≠ none → (o : Int) < l) :
    PiecesOk (pcs T n k) l (pcs T n k).length ∧ endTo (pcs T n k) (pcs T n k).length ≤ k := by
  induction k with
  | zero => exact ⟨fun k h => by simp [pcs] at h, Int.le_refl _⟩
  | succ k ih =>
    have h1 := ih (fun o ho => hl o (by omega))
    unfold pcs
    cases e : T (n + k) with
    | none => exact ⟨h1.1, by have := h1.2; simp only at this ⊢; omega⟩
    | some b =>
      have hk : (k : Int) < l := hl k (by omega) (by rw [e]; simp)
      have hk0 : k ≠ 0 := fun e2 => by subst e2; rw [Nat.add_zero, h0] at e; cases e
      simp only
      generalize pcs T n k = L at h1
      rcases nil_or_snocR L with rfl | ⟨M, p, rfl⟩
      · rw [stepP_nil]
        refine ⟨ok_snoc (M := []) (fun k h => by simp at h) (by rw [one_size]; decide) (by show (0 : Int) < k; omega) (by rw [one_size]; show (k : Int) + (1 : Nat) ≤ l; omega), ?_⟩
        show endTo ([] ++ [_]) ([] ++ [_]).length ≤ _
        rw [endTo_snoc, one_size]
        show (k : Int) + (1 : Nat) ≤ _
        omega
      · have h2 := ok_init h1.1
        have h3 := h1.2
        rw [endTo_snoc] at h3
        rw [stepP_snoc]
        split
        · next hp =>
          refine ⟨ok_snoc h2.1 (by rw [ByteArray.size_push]; omega) h2.2.2.1 (by rw [ByteArray.size_push]; simp only; omega), ?_⟩
          rw [endTo_snoc, ByteArray.size_push]
          simp only
          omega
        · next hp =>
          refine ⟨ok_snoc h1.1 (by rw [one_size]; decide) (by rw [endTo_snoc]; simp only; omega) (by rw [one_size]; simp only; omega), ?_⟩
          rw [endTo_snoc, one_size]
          simp only
          omega
theorem inP_one (k o : Nat) (b : UInt8) : inP ⟨(k : Int), ⟨#[b]⟩⟩ o = if o = k then some b else none := by
  unfold inP
  by_cases h : o = k
  · subst h
    simp
  · rw [if_neg h]
    by_cases h1 : (k : Int) ≤ (o : Int)
    · rw [if_pos h1]
      have h2 : 1 ≤ ((o : Int) - (k : Int)).toNat := by omega
      exact Array.getElem?_eq_none h2
    · rw [if_neg h1]
theorem inP_push (p : HP) (k o : Nat) (b : UInt8) (h : p.o + p.t.size = (k : Int)) : inP ⟨p.o, p.t.push b⟩ o = (inP p o).or (if o = k then some b else none) := by
  unfold inP
  have hs : p.t.data.size = p.t.size := rfl
  by_cases h1 : p.o ≤ (o : Int)
  · rw [if_pos h1, if_pos h1]
    show (p.t.data.push b)[_]? = _
    rw [Array.getElem?_push]
    by_cases h2 : o = k
    · have h3 : ((o : Int) - p.o).toNat = p.t.data.size := by rw [hs]; omega
      rw [if_pos h3, if_pos h2, h3, Array.getElem?_eq_none (Nat.le_refl _)]
      rfl
    · have h3 : ((o : Int) - p.o).toNat ≠ p.t.data.size := by rw [hs]; omega
      rw [if_neg h3, if_neg h2]
      simp
  · rw [if_neg h1, if_neg h1, if_neg (by omega)]
    rfl
theorem heldT_step (L : List HP) (k o : Nat) (b : UInt8) : heldT (stepP L k b) o = (heldT L o).or (if o = k then some b else none) := by
  rcases nil_or_snocR L with rfl | ⟨M, p, rfl⟩
  · rw [stepP_nil]
    show (inP _ o).or none = Option.or none _
    rw [inP_one]
    simp
  · rw [stepP_snoc]
    split
    · next h => rw [heldT_snoc, heldT_snoc, inP_push p k o b h, Option.or_assoc]
    · rw [heldT_snoc, inP_one]
/-- What the pieces of a table hold. -/
theorem heldT_ofPcs (T : Tab) (n k o : Nat) : heldT (pcs T n k) o = if o < k then T (n + o) else none := by
  induction k with
  | zero => simp [pcs, heldT]
  | succ k ih =>
    unfold pcs
    cases e : T (n + k) with
    | none =>
      simp only
      rw [ih]
      by_cases h : o < k
      · rw [if_pos h, if_pos (by omega)]
      · rw [if_neg h]
        by_cases h2 : o < k + 1
        · obtain rfl : o = k := by omega
          rw [if_pos h2, e]
        · rw [if_neg h2]
    | some b =>
      simp only
      rw [heldT_step, ih]
      by_cases h : o < k
      · rw [if_pos h, if_neg (show ¬ o = k by omega), if_pos (show o < k + 1 by omega)]
        simp
      · rw [if_neg h]
        by_cases h2 : o < k + 1
        · obtain rfl : o = k := by omega
          rw [if_pos h2, if_pos rfl, e]; rfl
        · rw [if_neg h2, if_neg (by omega)]; rfl
theorem pcs_congr {T T' : Tab} {n n' : Nat} {k : Nat} (h : ∀ j, j < k → T (n + j) = T' (n' + j)) : pcs T n k = pcs T' n' k := by
  induction k with
  | zero => rfl
  | succ k ih =>
    unfold pcs
    rw [h k (by omega), ih (fun j hj => h j (by omega))]
theorem pcs_tail {T : Tab} {n k : Nat} (m : Nat) (h : ∀ j, k ≤ j → j < k + m → T (n + j) = none) : pcs T n (k + m) = pcs T n k := by
  induction m with
  | zero => rfl
  | succ m ih =>
    show pcs T n ((k + m) + 1) = _
    have e := h (k + m) (by omega) (by omega)
    have e2 : pcs T n (k + m + 1) = pcs T n (k + m) := by simp only [pcs, e]
    rw [e2]
    exact ih (fun j h1 h2 => h j h1 (by omega))
theorem pcs_empty {T : Tab} {n k : Nat} (h : ∀ j, j < k → T (n + j) = none) : pcs T n k = [] := by
  have := pcs_tail (T := T) (n := n) (k := 0) k (fun j _ h2 => h j (by omega))
  rw [Nat.zero_add] at this
  rw [this]
  rfl
theorem lastEnd_len {L L' : List HP} {o : Int} {b b' : UInt8} (h : L.length = L'.length) (he : lastEnd L = lastEnd L') : (stepP L o b).length = (stepP L' o b').length := by
  by_cases h1 : lastEnd L = some o
  · obtain ⟨_, e1, _⟩ := stepP_old (b := b) h1
    obtain ⟨_, e2, _⟩ := stepP_old (b := b') (he ▸ h1)
    rw [e1, e2]
    simpa using h
  · rw [stepP_new h1, stepP_new (he ▸ h1)]
    simpa using h
/-- How many pieces there are hangs on where bytes are alone. -/
theorem pcs_count {T T' : Tab} {n n' : Nat} (k : Nat) (h : ∀ j, j < k → (T (n + j)).isSome = (T' (n' + j)).isSome) : (pcs T n k).length = (pcs T' n' k).length ∧ lastEnd (pcs T n k) = lastEnd (pcs T' n' k) := by
  induction k with
  | zero => exact ⟨rfl, rfl⟩
  | succ k ih =>
    have h1 := ih (fun j hj => h j (by omega))
    have h2 := h k (by omega)
    unfold pcs
    cases e : T (n + k) with
    | none =>
      cases e' : T' (n' + k) with
      | none => exact h1
      | some b => rw [e, e'] at h2; cases h2
    | some b =>
      cases e' : T' (n' + k) with
      | none => rw [e, e'] at h2; cases h2
      | some b' =>
        simp only
        exact ⟨lastEnd_len h1.1 h1.2, by rw [lastEnd_step, lastEnd_step]⟩
/-! ### What arrives -/
/-- Where the stream ends then. -/
theorem finAt_cases {r : Rcv} (h : RcvOk r) (s : Int) (x : ByteArray) (fin : Bool) (e : Int) (he : 0 ≤ e) (F : Int) (hF : finAt r.f fin e (lim r.d r.f r.z) (arrTab r s x) = F) :
    (F = -1 ∧ r.f = -1) ∨ (F ≠ -1 ∧ (cnt (arrTab r s x) : Int) ≤ F ∧ F ≤ lim r.d r.f r.z ∧ ∀ o : Nat, F ≤ (o : Int) → o < 33 → arrTab r s x o = none) := by
  have hg := finAt_ge h s x fin e he
  rw [hF] at hg
  by_cases hn : F = -1
  · left
    refine ⟨hn, ?_⟩
    unfold finAt at hF
    cases hb : (fin && (r.f == -1) && (decide (e ≤ lim r.d r.f r.z) && freeB (arrTab r s x) e)) with
    | true => rw [hb] at hF; simp only [cond_true] at hF; omega
    | false => rw [hb] at hF; simp only [cond_false] at hF; omega
  · right
    rcases hg with hg | hg
    · exact absurd hg hn
    · refine ⟨hn, hg.1, hg.2, fun o ho h33 => ?_⟩
      unfold finAt at hF
      cases hb : (fin && (r.f == -1) && (decide (e ≤ lim r.d r.f r.z) && freeB (arrTab r s x) e)) with
      | true =>
        rw [hb] at hF
        simp only [cond_true] at hF
        simp only [Bool.and_eq_true] at hb
        have hfree : freeFrom (arrTab r s x) e := by have := hb.2.2; unfold freeB at this; simpa using this
        exact hfree o (by omega) h33
      | false =>
        rw [hb] at hF
        simp only [cond_false] at hF
        refine arrTab_out h s x o ?_
        rw [lim_no (by omega)]
        omega
theorem win_is {d : ByteArray} (h : d.size ≤ 32) : win d false = 32 - (d.size : Int) := by unfold win; simp only [cond_false]; omega
theorem prefix_is (d y : ByteArray) : (d ++ y).extract 0 d.size = d := by
  apply ByteArray.ext
  simp
/-- What is known of a receiver to which a text has come. -/
structure ArrF (r X : Rcv) : Prop where
  ok : RcvOk X
  le : r.d.size ≤ X.d.size
  pre : X.d.extract 0 r.d.size = r.d
  next : pl (r.n + (((X.d.size : Int) - r.d.size) + if X.z = true ∧ r.z = false then 1 else 0)) = X.n
  room : win X.d X.z ≤ win r.d r.z
theorem ArrF.same {r : Rcv} (h : RcvOk r) : ArrF r r := by
  refine ⟨h, Nat.le_refl _, by rw [ByteArray.extract_zero_size], ?_, Int.le_refl _⟩
  rw [if_neg (fun k => by rw [k.1] at k; cases k.2)]
  rw [Int.sub_self, Int.add_zero, Int.add_zero]
  exact pl_wordR h.1
theorem pl_two (a b : Int) : pl (pl a + b) = pl (a + b) := by unfold pl; omega
theorem arr_facts {r : Rcv} (h : RcvOk r) (s : Int) (x : ByteArray) (fin : Bool) : ArrF r (arrived r s x fin) := by
  unfold arrived
  rw [rcvOk_yes h, Bool.true_and]
  cases hz : r.z with
  | true => exact ArrF.same h
  | false =>
    simp only [Bool.not_false, cond_true]
    have hF := finAt_cases h s x fin (pl (s + x.size - r.n)) (pl_bd _).1 _ rfl
    have hc := arr_cnt h s x
    have hl := lim_bd h
    have hd := h.2.1
    have hout := fun o ho => arrTab_out h s x o ho
    rw [← hz]
    generalize finAt r.f fin (pl (s + x.size - r.n)) (lim r.d r.f r.z) (arrTab r s x) = F at hF ⊢
    generalize arrTab r s x = T at hF hc hout ⊢
    generalize cnt T = c at hF hc ⊢
    have hw : win r.d r.z = 32 - (r.d.size : Int) := by rw [hz]; exact win_is hd
    have hgs : (r.d ++ got T c).size = r.d.size + c := by rw [ByteArray.size_append, got_size]
    have hw2 : win (r.d ++ got T c) false = 32 - (r.d.size : Int) - c := by rw [win_is (by omega), hgs]; omega
    have hP := fun l' hl' => pcs_ok (T := T) (n := c) (l := l') hc.2.1 (33 - c) hl'
    unfold arrEnd
    split
    · exact ArrF.same h
    · next h3 =>
      split
      · next hn =>
        have hf : r.f = -1 := by rcases hF with hF | hF; exact hF.2; exact absurd hn hF.1
        have hlw : lim r.d r.f r.z = win r.d r.z := by rw [hf]; exact lim_yes _ _
        refine ⟨⟨word_plR _, by rw [hgs]; omega, by simp only; omega, .inl rfl, ?_⟩, by rw [hgs]; omega, prefix_is _ _, ?_, by rw [hw2, hw]; omega⟩
        · show PiecesOk _ (lim (r.d ++ got T c) (-1) false) _
          rw [lim_yes, hw2]
          refine (hP _ (fun o ho hT => ?_)).1
          rcases Int.lt_or_le (o : Int) (32 - (r.d.size : Int) - c) with h4 | h4
          · exact h4
          · exact absurd (hout (c + o) (by omega)) hT
        · simp only [hgs]
          rw [if_neg (fun k => by cases k.1)]
          congr 1
          omega
      · next hn =>
        have hF2 := hF.resolve_left (fun k => hn k.1)
        split
        · next hc2 =>
          have hp : pcs T c (33 - c) = [] := pcs_empty (fun j hj => hF2.2.2.2 (c + j) (by omega) (by omega))
          refine ⟨⟨word_plR _, by rw [hgs]; omega, by simp only; omega, .inl rfl, ?_⟩, by rw [hgs]; omega, prefix_is _ _, ?_, ?_⟩
          · show PiecesOk (pcs T c (33 - c)) _ (pcs T c (33 - c)).length
            rw [hp]
            exact fun k hk => by simp at hk
          · simp only [hgs]
            rw [if_pos ⟨trivial, hz⟩, pl_two]
            congr 1
            omega
          · show win _ true ≤ _
            rw [hw]
            show (0 : Int) ≤ _
            omega
        · next hc2 =>
          refine ⟨⟨word_plR _, by rw [hgs]; omega, by simp only; omega, .inr ?_, ?_⟩, by rw [hgs]; omega, prefix_is _ _, ?_, by rw [hw2, hw]; omega⟩
          · show 1 ≤ F - c ∧ F - c ≤ win (r.d ++ got T c) false
            rw [hw2]
            omega
          · show PiecesOk _ (lim (r.d ++ got T c) (F - c) false) _
            rw [lim_no (by omega)]
            refine (hP _ (fun o ho hT => ?_)).1
            rcases Int.lt_or_le (o : Int) (F - c) with h4 | h4
            · exact h4
            · exact absurd (hF2.2.2.2 (c + o) (by omega) (by omega)) hT
          · simp only [hgs]
            rw [if_neg (fun k => by cases k.1)]
            congr 1
            omega
/-- What is known of a receiver from which bytes were taken. -/
theorem taken_ok {r : Rcv} (h : RcvOk r) (k : Int) : RcvOk (taken r k) := by
  unfold taken
  rw [rcvOk_yes h]
  simp only [cond_true]
  obtain ⟨h1, h2, h3, h4, h5⟩ := h
  have hs : (r.d.extract (tkn r.d k) r.d.size).size ≤ r.d.size := by rw [ByteArray.size_extract]; omega
  have hw : win r.d r.z ≤ win (r.d.extract (tkn r.d k) r.d.size) r.z := by
    unfold win
    cases r.z
    · simp only [cond_false]; omega
    · simp
  refine ⟨h1, by simp only; omega, h3, h4.imp id (fun h => ⟨h.1, by simp only; omega⟩), ok_mono h5 ?_⟩
  show lim r.d r.f r.z ≤ lim (r.d.extract (tkn r.d k) r.d.size) r.f r.z
  by_cases hf : r.f = -1
  · rw [hf, lim_yes, lim_yes]; exact hw
  · rw [lim_no hf, lim_no hf]; omega
theorem rb_ok {r : Rcv} (h : RcvOk r) : RB r.d r.rs ∧ r.d.size ≤ 32 ∧ r.rs.length ≤ 3 ∧ ∀ p ∈ r.rs, p.t.size ≤ 32 := by
  have hl := lim_bd h
  have hw := win_bd r.d r.z
  have h5 : ∀ p ∈ r.rs, p.t.size ≤ 32 := fun p hp => by
    obtain ⟨i, hi, rfl⟩ := List.getElem_of_mem hp
    have h1 := h.2.2.2.2 i hi hi
    have h2 := (PiecesOk.end_bd hl.1 (fun k a hk => h.2.2.2.2 k a (by omega) : PiecesOk r.rs (lim r.d r.f r.z) i) (by omega)).1
    unfold PieceOk at h1
    omega
  have h2 := h.2.1
  have h3 := h.2.2.1
  exact ⟨⟨by omega, by omega, fun p hp => by have := h5 p hp; omega⟩, h2, h3, h5⟩
end Go.Proofs.Ytpbnkkgfjmkcdaa
