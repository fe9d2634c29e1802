/- Entries of the neighbour cache as pure words: a row's cells, the place of an address, which caches are valid, what learning and ageing make. Nothing here is a claim. -/
import Derived.Test.YtajekjjaaohbnaaFlatRow
import Derived.Test.YtajekjjaaohbnaaKit
namespace Go.Proofs.Ytajekjjaaohbnaa
open Go.RowKit Go.Lib

/-- An entry. -/
structure ER where
  ip : Int
  hw : Int
  age : Int
noncomputable instance : DecidableEq ER := fun _ _ => Classical.propDecidable _
theorem ER.ext {r q : ER} (h1 : r.ip = q.ip) (h2 : r.hw = q.hw) (h3 : r.age = q.age) : r = q := by cases r; cases q; simp_all
def ER.cs (r : ER) : List Value := [.int .i64 r.ip, .int .i64 r.hw, .int .i64 r.age]
theorem ER.three (r : ER) : r.cs.length = 3 := rfl
def ers (rs : List ER) : List Value := flat ER.cs rs
theorem ers_length (rs : List ER) : (ers rs).length = rs.length * 3 := flat_length ER.three rs
theorem ers_ip (rs : List ER) (i : Nat) (hi : i < rs.length) : (ers rs)[i * 3]? = some (.int .i64 rs[i].ip) := flat_at ER.three rs i 0 hi (by decide)
theorem ers_hw (rs : List ER) (i : Nat) (hi : i < rs.length) : (ers rs)[i * 3 + 1]? = some (.int .i64 rs[i].hw) := flat_at ER.three rs i 1 hi (by decide)
theorem ers_age (rs : List ER) (i : Nat) (hi : i < rs.length) : (ers rs)[i * 3 + 2]? = some (.int .i64 rs[i].age) := flat_at ER.three rs i 2 hi (by decide)
theorem ers_one (rs : List ER) : ∀ u ∈ ers rs, u.oneCell' = true := by
  intro u hu
  obtain ⟨r, _, hr⟩ := List.mem_flatMap.1 hu
  simp only [ER.cs, List.mem_cons, List.not_mem_nil, or_false] at hr
  rcases hr with rfl | rfl | rfl <;> rfl
theorem ers_append (rs ss : List ER) : ers (rs ++ ss) = ers rs ++ ers ss := flat_append rs ss
theorem Row.er {w : World} {B : Nat} {a : Option Addr} {rs : List ER} (h : Row w B a (ers rs)) {i : Nat} (hi : i < rs.length) :
    ∃ b off, a = some ⟨b, off, none⟩ ∧ b < B ∧ ∀ j (hj : j < rs.length), w.cell? ⟨b, off + j * 3, none⟩ = some (.int .i64 rs[j].ip) ∧ w.cell? ⟨b, off + j * 3 + 1, none⟩ = some (.int .i64 rs[j].hw) ∧ w.cell? ⟨b, off + j * 3 + 2, none⟩ = some (.int .i64 rs[j].age) := by
  obtain ⟨b, off, ha, hb, hc⟩ := Row.flat ER.three (by decide) h hi
  refine ⟨b, off, ha, hb, fun j hj => ⟨hc j hj 0 (by decide) _ rfl, ?_, ?_⟩⟩
  · have := hc j hj 1 (by decide) _ rfl
    rwa [← Nat.add_assoc] at this
  · have := hc j hj 2 (by decide) _ rfl
    rwa [← Nat.add_assoc] at this
theorem ers_set (rs : List ER) (i : Nat) (hi : i < rs.length) (r : ER) : (((ers rs).set (i * 3) (.int .i64 r.ip)).set (i * 3 + 1) (.int .i64 r.hw)).set (i * 3 + 2) (.int .i64 r.age) = ers (rs.set i r) := by
  unfold ers
  have e0 := flat_set ER.three ⟨r.ip, rs[i].hw, rs[i].age⟩ rs i 0 (.int .i64 r.ip) hi (by decide) rfl
  have e1 := flat_set ER.three ⟨r.ip, r.hw, rs[i].age⟩ (rs.set i ⟨r.ip, rs[i].hw, rs[i].age⟩) i 1 (.int .i64 r.hw) (by simpa using hi) (by decide) (by simp [ER.cs])
  have e2 := flat_set ER.three r ((rs.set i ⟨r.ip, rs[i].hw, rs[i].age⟩).set i ⟨r.ip, r.hw, rs[i].age⟩) i 2 (.int .i64 r.age) (by simpa using hi) (by decide) (by simp [ER.cs])
  rw [Nat.add_zero] at e0
  rw [e0, e1, e2, List.set_set, List.set_set]
/-- The first k cells of a row are the row of the first k entries. -/
theorem ers_take (rs : List ER) (k : Nat) : ers (rs.take k) = (ers rs).take (k * 3) := by
  induction rs generalizing k with
  | nil => simp [ers, flat]
  | cons x xs ih =>
    cases k with
    | zero => simp [ers, flat]
    | succ k =>
      have e : (k + 1) * 3 = x.cs.length + k * 3 := by rw [ER.three]; omega
      show flat ER.cs (x :: xs.take k) = (flat ER.cs (x :: xs)).take ((k + 1) * 3)
      rw [flat_cons, flat_cons, e, List.take_length_add_append]
      congr 1
      exact ih k
theorem Row.take_er {w : World} {B : Nat} {a : Option Addr} {rs : List ER} (h : Row w B a (ers rs)) (k : Nat) : Row w B a (ers (rs.take k)) := by
  rw [ers_take]
  intro hne
  obtain ⟨b, off, ha, hb, hc⟩ := h (fun e => hne (by rw [e]; simp))
  refine ⟨b, off, ha, hb, fun j u hu => hc j u ?_⟩
  rw [List.getElem?_take] at hu
  split at hu
  · exact hu
  · cases hu

/-- The place of the first entry with this address; the length where there is none. -/
def atE (rs : List ER) (ip : Int) : Nat := rs.findIdx (fun r => decide (r.ip = ip))
theorem atE_le (rs : List ER) (ip : Int) : atE rs ip ≤ rs.length := List.findIdx_le_length
theorem atE_eq {rs : List ER} {ip : Int} {k : Nat} (h : k < rs.length) (hk : rs[k].ip = ip) (hj : ∀ j (h' : j < rs.length), j < k → rs[j].ip ≠ ip) : atE rs ip = k := by
  refine (List.findIdx_eq h).2 ⟨by simp [hk], fun j hji => ?_⟩
  simp [hj j (by omega) hji]
theorem atE_none {rs : List ER} {ip : Int} (hj : ∀ j (h' : j < rs.length), j < rs.length → rs[j].ip ≠ ip) : atE rs ip = rs.length := by
  refine List.findIdx_eq_length.2 fun x hx => ?_
  obtain ⟨j, hj', rfl⟩ := List.getElem_of_mem hx
  simp [hj j hj' hj']
theorem atE_hit {rs : List ER} {ip : Int} (h : atE rs ip < rs.length) : rs[atE rs ip].ip = ip := by
  exact of_decide_eq_true (List.findIdx_getElem (p := fun r : ER => decide (r.ip = ip)) (w := h))
theorem atE_before {rs : List ER} {ip : Int} {j : Nat} (h : j < atE rs ip) : (rs[j]'(Nat.lt_of_lt_of_le h (atE_le rs ip))).ip ≠ ip := by
  have := List.not_of_lt_findIdx (p := fun r : ER => decide (r.ip = ip)) h
  simpa using this
/-- As the program says it: the place, or -1. -/
noncomputable def placeE (rs : List ER) (ip : Int) : Int := if atE rs ip < rs.length then (atE rs ip : Int) else -1
theorem placeE_yes {rs : List ER} {ip : Int} (h : atE rs ip < rs.length) : placeE rs ip = atE rs ip := if_pos h
theorem placeE_no {rs : List ER} {ip : Int} (h : ¬ atE rs ip < rs.length) : placeE rs ip = -1 := if_neg h
theorem placeE_take {rs : List ER} {k : Nat} (h : k < rs.length) : placeE (rs.take k) rs[k].ip < 0 ↔ atE rs rs[k].ip = k := by
  constructor
  · intro h1
    refine atE_eq h rfl fun j hj hjk he => ?_
    have h2 : ¬ atE (rs.take k) rs[k].ip < (rs.take k).length := fun h3 => by rw [placeE_yes h3] at h1; omega
    have h4 : atE (rs.take k) rs[k].ip = (rs.take k).length := by have := atE_le (rs.take k) rs[k].ip; omega
    have h5 : j < atE (rs.take k) rs[k].ip := by rw [h4, List.length_take]; omega
    have h6 := atE_before h5
    rw [List.getElem_take] at h6
    exact h6 he
  · intro h1
    rw [placeE_no]
    · decide
    · intro h2
      have h3 := atE_hit h2
      have h4 : atE (rs.take k) rs[k].ip < k := by rw [List.length_take] at h2; omega
      rw [List.getElem_take] at h3
      have h5 := atE_before (rs := rs) (ip := rs[k].ip) (j := atE (rs.take k) rs[k].ip) (by omega)
      exact h5 h3

/-- Whether the entry at this place may stand there. -/
noncomputable def rowOkE (rs : List ER) (i : Nat) : Bool := match rs[i]? with
  | some r => wordOk r.ip 32 && (wordOk r.hw 48 && (decide (0 ≤ r.age) && (decide (r.age ≤ 9) && decide (atE rs r.ip = i))))
  | none => true
noncomputable def allOkE (rs : List ER) : Nat → Bool
  | 0 => true
  | k + 1 => allOkE rs k && rowOkE rs k
/-- Whether a cache is valid. -/
noncomputable def cacheOk (rs : List ER) : Bool := decide (rs.length ≤ 4) && allOkE rs rs.length
theorem rowOkE_at {rs : List ER} {i : Nat} (h : i < rs.length) : rowOkE rs i = (wordOk rs[i].ip 32 && (wordOk rs[i].hw 48 && (decide (0 ≤ rs[i].age) && (decide (rs[i].age ≤ 9) && decide (atE rs rs[i].ip = i))))) := by
  unfold rowOkE
  rw [List.getElem?_eq_getElem h]
theorem allOkE_iff (rs : List ER) (k : Nat) : allOkE rs k = true ↔ ∀ i, i < k → rowOkE rs i = true := by
  induction k with
  | zero => simp [allOkE]
  | succ k ih =>
    simp only [allOkE, Bool.and_eq_true, ih]
    constructor
    · rintro ⟨h1, h2⟩ i hi
      rcases Nat.lt_or_ge i k with h3 | h3
      · exact h1 i h3
      · obtain rfl : i = k := by omega
        exact h2
    · exact fun h => ⟨fun i hi => h i (by omega), h k (by omega)⟩
theorem allOkE_next {rs : List ER} {k : Nat} (h : allOkE rs k = true) (h1 : rowOkE rs k = true) : allOkE rs (k + 1) = true := by simp [allOkE, h, h1]
theorem cacheOk_long {rs : List ER} (h : ¬ rs.length ≤ 4) : cacheOk rs = false := by simp only [cacheOk, h, decide_false, Bool.false_and]
theorem cacheOk_row {rs : List ER} {k : Nat} (h : k < rs.length) (h1 : rowOkE rs k = false) : cacheOk rs = false := by
  have : ¬ allOkE rs rs.length = true := fun h2 => by have := (allOkE_iff rs _).1 h2 k h; rw [h1] at this; cases this
  simp only [cacheOk, Bool.not_eq_true] at *
  rw [this, Bool.and_false]
theorem cacheOk_all {rs : List ER} (h : allOkE rs rs.length = true) : cacheOk rs = decide (rs.length ≤ 4) := by simp only [cacheOk, h, Bool.and_true]
theorem cacheOk_le {rs : List ER} (h : cacheOk rs = true) : rs.length ≤ 4 := by simp only [cacheOk, Bool.and_eq_true, decide_eq_true_eq] at h; exact h.1
theorem cacheOk_iff (rs : List ER) : cacheOk rs = true ↔ rs.length ≤ 4 ∧ ∀ i (h : i < rs.length), wordOk rs[i].ip 32 = true ∧ wordOk rs[i].hw 48 = true ∧ 0 ≤ rs[i].age ∧ rs[i].age ≤ 9 ∧ atE rs rs[i].ip = i := by
  unfold cacheOk
  rw [Bool.and_eq_true, allOkE_iff, decide_eq_true_eq]
  constructor
  · rintro ⟨h1, h2⟩
    refine ⟨h1, fun i h => ?_⟩
    have := h2 i h
    rw [rowOkE_at h] at this
    simpa only [Bool.and_eq_true, decide_eq_true_eq] using this
  · rintro ⟨h1, h2⟩
    refine ⟨h1, fun i h => ?_⟩
    rw [rowOkE_at h]
    simpa only [Bool.and_eq_true, decide_eq_true_eq] using h2 i h

/-- The place of the first entry with the greatest age among the first k. -/
def oldE (rs : List ER) : Nat → Nat
  | 0 => 0
  | k + 1 => match rs[oldE rs k]?, rs[k]? with
    | some r, some q => if r.age < q.age then k else oldE rs k
    | _, _ => oldE rs k
theorem oldE_le (rs : List ER) (k : Nat) : oldE rs k ≤ k := by
  induction k with
  | zero => exact Nat.le_refl _
  | succ k ih =>
    unfold oldE
    split
    · split <;> omega
    · omega
theorem oldE_lt {rs : List ER} {k : Nat} (h : k ≤ rs.length) (h0 : 0 < rs.length) : oldE rs k < rs.length := by
  induction k with
  | zero => exact h0
  | succ k ih =>
    have := ih (by omega)
    unfold oldE
    split
    · split <;> omega
    · omega
theorem oldE_at {rs : List ER} {k : Nat} (h : k < rs.length) (h1 : oldE rs k < rs.length) : oldE rs (k + 1) = if rs[oldE rs k].age < rs[k].age then k else oldE rs k := by
  rw [oldE, List.getElem?_eq_getElem h1, List.getElem?_eq_getElem h]
theorem oldE_one (rs : List ER) : oldE rs 1 = 0 := by
  rw [oldE]
  show (match rs[0]?, rs[0]? with | some r, some q => if r.age < q.age then 0 else 0 | _, _ => 0) = 0
  split
  · simp
  · rfl
/-- The cache behind a mapping that was learned. -/
noncomputable def putE (rs : List ER) (q : ER) : List ER :=
  if atE rs q.ip < rs.length then rs.set (atE rs q.ip) q
  else if rs.length = 4 then rs.eraseIdx (oldE rs rs.length) ++ [q] else rs ++ [q]
noncomputable def learnE (rs : List ER) (ip hw : Int) : List ER := if (cacheOk rs && (wordOk ip 32 && wordOk hw 48)) = true then putE rs ⟨ip, hw, 0⟩ else rs
theorem learnE_no {rs : List ER} {ip hw : Int} (h : (cacheOk rs && (wordOk ip 32 && wordOk hw 48)) = false) : learnE rs ip hw = rs := if_neg (by rw [h]; simp)
theorem learnE_yes {rs : List ER} {ip hw : Int} (h : (cacheOk rs && (wordOk ip 32 && wordOk hw 48)) = true) : learnE rs ip hw = putE rs ⟨ip, hw, 0⟩ := if_pos h
theorem putE_set {rs : List ER} {q : ER} (h : atE rs q.ip < rs.length) : putE rs q = rs.set (atE rs q.ip) q := if_pos h
theorem putE_full {rs : List ER} {q : ER} (h : ¬ atE rs q.ip < rs.length) (h4 : rs.length = 4) : putE rs q = rs.eraseIdx (oldE rs rs.length) ++ [q] := by rw [putE, if_neg h, if_pos h4]
theorem putE_more {rs : List ER} {q : ER} (h : ¬ atE rs q.ip < rs.length) (h4 : ¬ rs.length = 4) : putE rs q = rs ++ [q] := by rw [putE, if_neg h, if_neg h4]
/-- The cache one step later. -/
def stepE (r : ER) : Option ER := if r.age < 9 then some ⟨r.ip, r.hw, r.age + 1⟩ else none
def agedE (rs : List ER) : List ER := rs.filterMap stepE
theorem agedE_next {rs : List ER} {k : Nat} (h : k < rs.length) : agedE (rs.take (k + 1)) = agedE (rs.take k) ++ (if rs[k].age < 9 then [⟨rs[k].ip, rs[k].hw, rs[k].age + 1⟩] else []) := by
  rw [agedE, agedE, List.take_succ_eq_append_getElem h, List.filterMap_append]
  congr 1
  simp only [List.filterMap_cons, List.filterMap_nil, stepE]
  split <;> simp_all
theorem agedE_length (rs : List ER) : (agedE rs).length ≤ rs.length := List.length_filterMap_le _ _
/-- What came in: numbers of the machine. -/
def goodE (r : ER) : Prop := (Lit.int .i64 r.ip).wf = true ∧ (Lit.int .i64 r.hw).wf = true ∧ (Lit.int .i64 r.age).wf = true
theorem goodE_age {r : ER} (h : goodE r) : -9223372036854775808 ≤ r.age ∧ r.age ≤ 9223372036854775807 := by
  have h1 := h.2.2
  have e1 : IntKind.i64.min = -9223372036854775808 := rfl
  have e2 : IntKind.i64.max = 9223372036854775807 := rfl
  simp only [Lit.wf, Bool.and_eq_true, decide_eq_true_eq] at h1
  omega
theorem wf_int {n : Int} (h0 : -9223372036854775808 ≤ n) (h1 : n ≤ 9223372036854775807) : (Lit.int .i64 n).wf = true := by
  have e1 : IntKind.i64.min = -9223372036854775808 := rfl
  have e2 : IntKind.i64.max = 9223372036854775807 := rfl
  simp only [Lit.wf, Bool.and_eq_true, decide_eq_true_eq]
  omega
theorem goodE_step {r : ER} (h : goodE r) (h9 : r.age < 9) : goodE ⟨r.ip, r.hw, r.age + 1⟩ := ⟨h.1, h.2.1, by have := goodE_age h; exact wf_int (n := r.age + 1) (by omega) (by omega)⟩
theorem goodE_aged {rs : List ER} (h : ∀ r ∈ rs, goodE r) : ∀ r ∈ agedE rs, goodE r := by
  intro r hr
  obtain ⟨q, hq, he⟩ := List.mem_filterMap.1 hr
  unfold stepE at he
  split at he
  · cases he
    exact goodE_step (h q hq) (by assumption)
  · cases he
theorem goodE_put {rs : List ER} {q : ER} (h : ∀ r ∈ rs, goodE r) (hq : goodE q) : ∀ r ∈ putE rs q, goodE r := by
  intro r hr
  unfold putE at hr
  split at hr
  · rcases List.mem_or_eq_of_mem_set hr with h1 | h1
    · exact h r h1
    · rw [h1]; exact hq
  · split at hr
    · rcases List.mem_append.1 hr with h1 | h1
      · exact h r (List.mem_of_mem_eraseIdx h1)
      · rw [List.mem_singleton.1 h1]; exact hq
    · rcases List.mem_append.1 hr with h1 | h1
      · exact h r h1
      · rw [List.mem_singleton.1 h1]; exact hq
theorem goodE_learn {rs : List ER} {ip hw : Int} (h : ∀ r ∈ rs, goodE r) (h1 : (Lit.int .i64 ip).wf = true) (h2 : (Lit.int .i64 hw).wf = true) : ∀ r ∈ learnE rs ip hw, goodE r := by
  unfold learnE
  split
  · exact goodE_put h ⟨h1, h2, rfl⟩
  · exact h
theorem putE_length (rs : List ER) (q : ER) : (putE rs q).length ≤ rs.length + 1 := by
  unfold putE
  split
  · simp
  · split
    · have := List.length_eraseIdx_le rs (oldE rs rs.length); simp; omega
    · simp
theorem learnE_length (rs : List ER) (ip hw : Int) : (learnE rs ip hw).length ≤ rs.length + 1 := by
  unfold learnE
  split
  · exact putE_length _ _
  · omega

/-- A truth, a number, and nothing old has turned. -/
def BoolE (b : Bool) (w : World) (e : Ending) (w' : World) : Prop := e = .returned (.bool b) ∧ Below w.heap.size w w'
def IntE (n : Int) (w : World) (e : Ending) (w' : World) : Prop := e = .returned (.int .i64 n) ∧ Below w.heap.size w w'
end Go.Proofs.Ytajekjjaaohbnaa
