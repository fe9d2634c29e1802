/- Plain lemmas of chapter 11 of the document: the first row of an input, a table as a map, what is left of it when its tags are deleted. Nothing here is a claim. -/
import Derived.Test.YtobfgkiccmhgdaaGreatFlatRow
import Derived.Maps.OwnSet
import Derived.Sort.KeysCollected
namespace Go.Proofs.YtobfgkiccmhgdaaGreat
open Go.RowKit Go.Lib Go.Maps

/-- The value of the first row with this text; 0 if there is none. -/
noncomputable def rawTag : List MR → ByteArray → Int
  | [], _ => 0
  | r :: rs, x => if r.s = x then r.v else rawTag rs x
theorem rawTag_hit {x : ByteArray} : ∀ {rs : List MR} {k : Nat} (hk : k < rs.length), (∀ j (hj : j < rs.length), j < k → rs[j].s ≠ x) → rs[k].s = x → rawTag rs x = rs[k].v
  | r :: rs, 0, _, _, he => by unfold rawTag; rw [if_pos (by simpa using he)]; rfl
  | r :: rs, k + 1, hk, hn, he => by
    unfold rawTag
    rw [if_neg (show r.s ≠ x from hn 0 (by simp) (by omega))]
    exact rawTag_hit (rs := rs) (k := k) (by simpa using hk) (fun j hj hlt => hn (j + 1) (by simpa using hj) (by omega)) he
theorem rawTag_none {x : ByteArray} : ∀ {rs : List MR}, (∀ r ∈ rs, r.s ≠ x) → rawTag rs x = 0
  | [], _ => rfl
  | r :: rs, h => by
    unfold rawTag
    rw [if_neg (h r (by simp))]
    exact rawTag_none fun q hq => h q (by simp [hq])
theorem rawTag_mem {x : ByteArray} : ∀ (rs : List MR), rawTag rs x = 0 ∨ ∃ r ∈ rs, rawTag rs x = r.v
  | [] => Or.inl rfl
  | r :: rs => by
    unfold rawTag
    by_cases h : r.s = x
    · rw [if_pos h]; exact Or.inr ⟨r, by simp, rfl⟩
    · rw [if_neg h]
      rcases rawTag_mem rs with h1 | ⟨q, hq, h1⟩
      · exact Or.inl h1
      · exact Or.inr ⟨q, by simp [hq], h1⟩
/-- The tag of an input by a table. -/
noncomputable def tagOf (rs : List MR) (x : ByteArray) : Int := rawTag rs x % 16777216
theorem and_tag (n : Int) : bits .and .i64 n 16777215 = n % 16777216 := by
  show IntKind.i64.wrap ((BitVec.ofInt 64 n &&& BitVec.ofInt 64 16777215).toNat : Int) = _
  have e1 : BitVec.ofInt 64 16777215 = BitVec.ofNat 64 (2 ^ 24 - 1) := by decide
  have e2 : (BitVec.ofInt 64 n &&& BitVec.ofNat 64 (2 ^ 24 - 1)).toNat = (BitVec.ofInt 64 n).toNat % 2 ^ 24 := by
    rw [BitVec.toNat_and, BitVec.toNat_ofNat, show (2 ^ 24 - 1) % 2 ^ 64 = 2 ^ 24 - 1 by decide, Nat.and_two_pow_sub_one_eq_mod]
  rw [e1, e2, BitVec.toNat_ofInt]
  have h0 : 0 ≤ n % 18446744073709551616 := Int.emod_nonneg _ (by decide)
  have h1 : (((n % ((2 ^ 64 : Nat) : Int)).toNat % 2 ^ 24 : Nat) : Int) = n % 16777216 := by
    have : ((2 ^ 64 : Nat) : Int) = 18446744073709551616 := by decide
    rw [this]
    omega
  rw [h1, IntKind.wrap_i64]
  omega

/-- A row's text as a key. -/
def kx (x : ByteArray) : Lit := .string x.data.toList
theorem kx_inj {x y : ByteArray} (h : kx x = kx y) : x = y := by
  unfold kx at h
  injection h with h
  exact ByteArray.ext (Array.toList_inj.1 h)
theorem kx_key (x : ByteArray) : WideAt.IsKeyLit (kx x) := by unfold kx; simp [WideAt.IsKeyLit]
abbrev vl (v : Int) : DataW Unit := .lit (.int .i64 v)
/-- The map that the rows make, entered from the last to the first. -/
def tabD : List MR → DataW Unit
  | [] => .map []
  | r :: rs => (tabD rs).put (kx r.s) (vl r.v)
theorem tabD_cons (r : MR) (rs : List MR) : tabD (r :: rs) = (tabD rs).put (kx r.s) (vl r.v) := rfl
theorem tabD_tidy : ∀ rs, Tidy (tabD rs)
  | [] => tidy_empty
  | r :: rs => (tabD_tidy rs).put (kx_key r.s) _
theorem tabD_at (x : ByteArray) : ∀ rs, (tabD rs).atKey (kx x) (vl 0) = vl (rawTag rs x)
  | [] => rfl
  | r :: rs => by
    unfold tabD rawTag
    by_cases h : r.s = x
    · rw [if_pos h, ← h, atKey_put_same (tabD_tidy rs).isMap (kx_key _)]
    · rw [if_neg h, atKey_put_other (fun e => h (kx_inj e).symm), tabD_at x rs]
theorem tabD_has (x : ByteArray) : ∀ rs, has (tabD rs) (kx x) = true ↔ ∃ r ∈ rs, r.s = x
  | [] => by simp [tabD, has]
  | r :: rs => by
    unfold tabD
    by_cases h : r.s = x
    · subst h
      rw [has_put_same (tabD_tidy rs).isMap (kx_key _)]
      simp
    · rw [has_put_other (fun e => h (kx_inj e).symm), tabD_has x rs]
      simp [h]
theorem tabD_keys {k : Lit} : ∀ rs, has (tabD rs) k = true → ∃ r ∈ rs, k = kx r.s
  | [], h => by simp [tabD, has] at h
  | r :: rs, h => by
    by_cases e : k = kx r.s
    · exact ⟨r, by simp, e⟩
    · unfold tabD at h
      rw [has_put_other e] at h
      obtain ⟨q, hq, e2⟩ := tabD_keys rs h
      exact ⟨q, by simp [hq], e2⟩
theorem tabD_le : ∀ rs, size (tabD rs) ≤ rs.length
  | [] => Nat.le_refl _
  | r :: rs => by
    unfold tabD
    rw [size_put (tabD_tidy rs), List.length_cons]
    have := tabD_le rs
    split <;> omega
/-- The inputs differ. -/
def Apart (rs : List MR) : Prop := (rs.map MR.s).Nodup
theorem apart_cons (r : MR) (rs : List MR) : Apart (r :: rs) ↔ (¬ ∃ q ∈ rs, q.s = r.s) ∧ Apart rs := by
  unfold Apart
  rw [List.map_cons, List.nodup_cons, List.mem_map]
theorem tabD_size : ∀ rs, size (tabD rs) = rs.length ↔ Apart rs
  | [] => by simp [tabD, size, Apart]
  | r :: rs => by
    rw [apart_cons, ← tabD_has r.s rs, ← tabD_size rs, tabD_cons, size_put (tabD_tidy rs), List.length_cons]
    have := tabD_le rs
    by_cases h : has (tabD rs) (kx r.s) = true
    · rw [if_pos h]
      exact ⟨fun e => by omega, fun e => absurd h e.1⟩
    · rw [if_neg h]
      exact ⟨fun e => ⟨h, by omega⟩, fun e => by rw [e.2]⟩
theorem rawTag_apart : ∀ {rs : List MR}, Apart rs → ∀ r ∈ rs, rawTag rs r.s = r.v
  | [], _, _, h => by cases h
  | q :: rs, h, r, hr => by
    rw [apart_cons] at h
    unfold rawTag
    rcases List.mem_cons.1 hr with rfl | hr
    · rw [if_pos rfl]
    · rw [if_neg (fun e => h.1 ⟨r, hr, e.symm⟩)]
      exact rawTag_apart h.2 r hr

/-- The number at a key. -/
def numAt (D : DataW Unit) (x : List UInt8) : Int := match D.atKey (.string x) (vl 0) with | .lit (.int _ c) => c | _ => 0
theorem numAt_of {D : DataW Unit} {x : List UInt8} {c : Int} (h : D.atKey (.string x) (.lit (.int .i64 0)) = .lit (.int .i64 c)) : numAt D x = c := by
  unfold numAt vl
  rw [h]
/-- A tag's values. -/
def inTag (v : Int) : Prop := 0 ≤ v ∧ v < 16777216
instance (v : Int) : Decidable (inTag v) := inferInstanceAs (Decidable (_ ∧ _))
/-- One step of the deleting. -/
def purge1 (D : DataW Unit) (x : List UInt8) : DataW Unit := if inTag (numAt D x) then D.del (.string x) else D
def purge (D : DataW Unit) (ks : List (List UInt8)) : DataW Unit := ks.foldl purge1 D
theorem purge_snoc (D : DataW Unit) (ks : List (List UInt8)) (x : List UInt8) : purge D (ks ++ [x]) = purge1 (purge D ks) x := by simp [purge]
theorem purge1_other (D : DataW Unit) {x y : List UInt8} (h : y ≠ x) : has (purge1 D x) (.string y) = has D (.string y) ∧ numAt (purge1 D x) y = numAt D y := by
  have hne : Lit.string y ≠ Lit.string x := fun e => h (by injection e)
  unfold purge1
  split
  · exact ⟨has_del_other hne, by unfold numAt; rw [atKey_del_other hne]⟩
  · exact ⟨rfl, rfl⟩
theorem purge1_mono (D : DataW Unit) (x : List UInt8) (k : Lit) (h : has (purge1 D x) k = true) : has D k = true := by
  unfold purge1 at h
  split at h
  · by_cases e : k = .string x
    · subst e; rw [has_del_same] at h; cases h
    · rwa [has_del_other e] at h
  · exact h
theorem purge_mono (k : Lit) : ∀ (ks : List (List UInt8)) (D : DataW Unit), has (purge D ks) k = true → has D k = true
  | [], _, h => h
  | x :: ks, D, h => purge1_mono D x k (purge_mono k ks (purge1 D x) h)
theorem purge_has (y : List UInt8) : ∀ (ks : List (List UInt8)) (D : DataW Unit), has (purge D ks) (.string y) = true ↔ has D (.string y) = true ∧ ¬ (y ∈ ks ∧ inTag (numAt D y))
  | [], D => by simp [purge]
  | x :: ks, D => by
    have ih := purge_has y ks (purge1 D x)
    show has (purge (purge1 D x) ks) (.string y) = true ↔ _
    rw [ih]
    by_cases e : y = x
    · subst e
      by_cases hi : inTag (numAt D y)
      · have e1 : purge1 D y = D.del (.string y) := by unfold purge1; rw [if_pos hi]
        rw [e1, has_del_same]
        simp [hi]
      · have e1 : purge1 D y = D := by unfold purge1; rw [if_neg hi]
        rw [e1]
        simp [hi]
    · obtain ⟨e1, e2⟩ := purge1_other D e
      rw [e1, e2]
      simp [e]
theorem purge1_map {D : DataW Unit} (h : IsMap D) (x : List UInt8) : IsMap (purge1 D x) := by
  unfold purge1
  split
  · exact h.del _
  · exact h
theorem purge_map : ∀ (ks : List (List UInt8)) {D : DataW Unit}, IsMap D → IsMap (purge D ks)
  | [], _, h => h
  | x :: ks, _, h => purge_map ks (purge1_map h x)
theorem size_zero {D : DataW Unit} (h : IsMap D) : size D = 0 → ∀ k, has D k = false := by
  obtain ⟨es, rfl⟩ := h
  intro h0 k
  rw [Maps.size_eq] at h0
  rw [List.eq_nil_of_length_eq_zero h0]
  rfl
theorem size_pos {D : DataW Unit} (h : IsMap D) (hs : ∀ es, D = .map es → ∀ p ∈ es, WideAt.IsKeyLit p.1) (hn : ∀ k, has D k = false) : size D = 0 := by
  obtain ⟨es, rfl⟩ := h
  cases es with
  | nil => rfl
  | cons p es =>
    have := hn p.1
    rw [has_eq, List.any_cons, WideAt.sameKey_self (hs _ rfl p (by simp))] at this
    simp at this
theorem mem_strKeys {D : DataW Unit} {x : List UInt8} (h : has D (.string x) = true) : x ∈ strKeys D := by
  cases D with
  | map es =>
    rw [has_eq, List.any_eq_true] at h
    obtain ⟨p, hp, e⟩ := h
    exact List.mem_map.2 ⟨p, hp, by rw [WideAt.sameKey_eq e]; rfl⟩
  | _ => simp [has] at h
theorem numAt_tab (rs : List MR) (x : ByteArray) : numAt (tabD rs) x.data.toList = rawTag rs x := numAt_of (tabD_at x rs)
/-- Nothing is left just where every row's value is a tag. -/
theorem purge_zero {rs : List MR} (ha : Apart rs) {ks : List (List UInt8)} (hks : ∀ r ∈ rs, r.s.data.toList ∈ ks) (hs : ∀ es, purge (tabD rs) ks = .map es → ∀ p ∈ es, WideAt.IsKeyLit p.1) :
    size (purge (tabD rs) ks) = 0 ↔ ∀ r ∈ rs, inTag r.v := by
  have hm : IsMap (purge (tabD rs) ks) := purge_map ks (tabD_tidy rs).isMap
  constructor
  · intro h0 r hr
    have h1 := size_zero hm h0 (kx r.s)
    by_cases hi : inTag r.v
    · exact hi
    · have := (purge_has r.s.data.toList ks (tabD rs)).2 ⟨(tabD_has r.s rs).2 ⟨r, hr, rfl⟩, fun hh => hi (by have := hh.2; rwa [numAt_tab, rawTag_apart ha r hr] at this)⟩
      unfold kx at h1
      rw [h1] at this
      cases this
  · intro hall
    refine size_pos hm hs fun k => ?_
    by_cases hk : has (purge (tabD rs) ks) k = true
    · obtain ⟨q, hq, e⟩ := tabD_keys rs (purge_mono k ks _ hk)
      subst e
      have := (purge_has q.s.data.toList ks (tabD rs)).1 hk
      exact absurd ⟨hks q hq, by rw [numAt_tab, rawTag_apart ha q hq]; exact hall q hq⟩ this.2
    · simpa using hk

/-- MacOk's word. -/
noncomputable def macOk (u : Bool) (k l : Int) (rs : List MR) : Bool := @decide (if u = true then k = 0 ∧ l = 0 ∧ rs.length ≤ 64 ∧ Apart rs ∧ ∀ r ∈ rs, inTag r.v else rs.length = 0) (Classical.propDecidable _)
theorem macOk_iff (u : Bool) (k l : Int) (rs : List MR) : macOk u k l rs = true ↔ (if u = true then k = 0 ∧ l = 0 ∧ rs.length ≤ 64 ∧ Apart rs ∧ ∀ r ∈ rs, inTag r.v else rs.length = 0) := by
  unfold macOk
  exact @decide_eq_true_iff _ (Classical.propDecidable _)
theorem macOk_no {k l : Int} {rs : List MR} (h : ¬ (k = 0 ∧ l = 0 ∧ rs.length ≤ 64 ∧ Apart rs ∧ ∀ r ∈ rs, inTag r.v)) : macOk true k l rs = false := by
  rw [Bool.eq_false_iff]
  exact fun e => h (by simpa using (macOk_iff true k l rs).1 e)
theorem macOk_yes {k l : Int} {rs : List MR} (h : k = 0 ∧ l = 0 ∧ rs.length ≤ 64 ∧ Apart rs ∧ ∀ r ∈ rs, inTag r.v) : macOk true k l rs = true := (macOk_iff true k l rs).2 (by simpa using h)
theorem macOk_key {k l : Int} {rs : List MR} : macOk false k l rs = decide ((rs.length : Int) = 0) := by
  rw [Bool.eq_iff_iff, macOk_iff]
  simp
end Go.Proofs.YtobfgkiccmhgdaaGreat
