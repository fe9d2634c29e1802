/- What learning and ageing keep. Nothing here is a claim. -/
import Derived.Test.YthckbabcmmkljaaEntKit
import Derived.Test.YthckbabcmmkljaaEntA
namespace Go.Proofs.Ythckbabcmmkljaa
open Go.RowKit Go.Lib

/-- No two entries have one address. -/
def Apart (rs : List ER) : Prop := rs.Pairwise (fun a b => a.ip ≠ b.ip)
theorem apart_iff (rs : List ER) : (∀ i (h : i < rs.length), atE rs rs[i].ip = i) ↔ Apart rs := by
  unfold Apart
  rw [List.pairwise_iff_getElem]
  constructor
  · intro h i j hi hj hij he
    have h1 := h i hi
    have h2 := h j hj
    rw [he] at h1
    omega
  · intro h i hi
    exact atE_eq hi rfl fun j hj hji he => h j i hj hi hji he
/-- What an entry of a valid cache is. -/
def Fine (r : ER) : Prop := wordOk r.ip 32 = true ∧ wordOk r.hw 48 = true ∧ 0 ≤ r.age ∧ r.age ≤ 9
theorem cacheOk_pw (rs : List ER) : cacheOk rs = true ↔ rs.length ≤ 4 ∧ (∀ r ∈ rs, Fine r) ∧ Apart rs := by
  rw [cacheOk_iff, ← apart_iff]
  constructor
  · rintro ⟨h1, h2⟩
    refine ⟨h1, fun r hr => ?_, fun i hi => (h2 i hi).2.2.2.2⟩
    obtain ⟨i, hi, rfl⟩ := List.getElem_of_mem hr
    obtain ⟨a, b, c, d, _⟩ := h2 i hi
    exact ⟨a, b, c, d⟩
  · rintro ⟨h1, h2, h3⟩
    exact ⟨h1, fun i hi => ⟨(h2 _ (List.getElem_mem hi)).1, (h2 _ (List.getElem_mem hi)).2.1, (h2 _ (List.getElem_mem hi)).2.2.1, (h2 _ (List.getElem_mem hi)).2.2.2, h3 i hi⟩⟩
theorem stepE_some {r q : ER} (h : stepE r = some q) : r.age < 9 ∧ q = ⟨r.ip, r.hw, r.age + 1⟩ := by
  unfold stepE at h
  split at h
  · cases h; exact ⟨by assumption, rfl⟩
  · cases h
theorem aged_ok {rs : List ER} (h : cacheOk rs = true) {k : Int} (hk : ∀ r ∈ rs, k ≤ r.age) : cacheOk (agedE rs) = true ∧ ∀ r ∈ agedE rs, k + 1 ≤ r.age := by
  obtain ⟨h1, h2, h3⟩ := (cacheOk_pw rs).1 h
  refine ⟨(cacheOk_pw _).2 ⟨Nat.le_trans (agedE_length rs) h1, fun q hq => ?_, ?_⟩, fun q hq => ?_⟩
  · obtain ⟨r, hr, he⟩ := List.mem_filterMap.1 hq
    obtain ⟨h9, rfl⟩ := stepE_some he
    obtain ⟨a, b, c, d⟩ := h2 r hr
    exact ⟨a, b, by show 0 ≤ r.age + 1; omega, by show r.age + 1 ≤ 9; omega⟩
  · unfold Apart agedE
    refine List.Pairwise.filterMap stepE ?_ h3
    intro a a' hne b hb b' hb'
    obtain ⟨_, rfl⟩ := stepE_some hb
    obtain ⟨_, rfl⟩ := stepE_some hb'
    exact hne
  · obtain ⟨r, hr, he⟩ := List.mem_filterMap.1 hq
    obtain ⟨h9, rfl⟩ := stepE_some he
    have := hk r hr
    show k + 1 ≤ r.age + 1
    omega
/-- Ten steps end every entry. -/
theorem aged_out {rs : List ER} (h : cacheOk rs = true) (hk : ∀ r ∈ rs, 10 ≤ r.age) : rs = [] := by
  cases rs with
  | nil => rfl
  | cons r rs =>
    have h1 := ((cacheOk_pw _).1 h).2.1 r (List.mem_cons_self ..)
    have h2 := hk r (List.mem_cons_self ..)
    have := h1.2.2.2
    omega
theorem not_at {rs : List ER} {ip : Int} (h : ¬ atE rs ip < rs.length) : ∀ r ∈ rs, r.ip ≠ ip := by
  intro r hr he
  obtain ⟨i, hi, rfl⟩ := List.getElem_of_mem hr
  have h2 : i < atE rs ip := by omega
  exact atE_before h2 he
theorem goneE' {rs : List ER} {i : Nat} (hi : i < rs.length) : (rs.eraseIdx i).length = rs.length - 1 := List.length_eraseIdx_of_lt hi
theorem put_ok {rs : List ER} {q : ER} (h : cacheOk rs = true) (hq : Fine q) : cacheOk (putE rs q) = true := by
  obtain ⟨h1, h2, h3⟩ := (cacheOk_pw rs).1 h
  by_cases hf : atE rs q.ip < rs.length
  · rw [putE_set hf]
    refine (cacheOk_pw _).2 ⟨by simpa using h1, fun r hr => ?_, ?_⟩
    · rcases List.mem_or_eq_of_mem_set hr with h4 | h4
      · exact h2 r h4
      · rw [h4]; exact hq
    · have hip := atE_hit hf
      have hg : ∀ i (hi : i < rs.length), ((rs.set (atE rs q.ip) q)[i]'(by simpa using hi)).ip = rs[i].ip := by
        intro i hi
        rw [List.getElem_set]
        split
        · rename_i e; subst e; exact hip.symm
        · rfl
      unfold Apart at h3 ⊢
      rw [List.pairwise_iff_getElem] at h3 ⊢
      intro i j hi hj hij
      rw [List.length_set] at hi hj
      rw [hg i hi, hg j hj]
      exact h3 i j hi hj hij
  · have hna := not_at hf
    have happ : ∀ ss : List ER, ss.length ≤ 3 → (∀ r ∈ ss, r ∈ rs) → Apart ss → cacheOk (ss ++ [q]) = true := by
      intro ss hl hs ha
      refine (cacheOk_pw _).2 ⟨by rw [List.length_append]; show ss.length + 1 ≤ 4; omega, fun r hr => ?_, ?_⟩
      · rcases List.mem_append.1 hr with h4 | h4
        · exact h2 r (hs r h4)
        · rw [List.mem_singleton.1 h4]; exact hq
      · unfold Apart
        rw [List.pairwise_append]
        refine ⟨ha, List.pairwise_singleton _ _, fun a ha' b hb => ?_⟩
        rw [List.mem_singleton.1 hb]
        exact hna a (hs a ha')
    by_cases h4 : rs.length = 4
    · rw [putE_full hf h4]
      refine happ _ ?_ (fun r hr => List.mem_of_mem_eraseIdx hr) (List.Pairwise.sublist (List.eraseIdx_sublist ..) h3)
      rw [goneE' (oldE_lt (Nat.le_refl _) (by omega))]
      omega
    · rw [putE_more hf h4]
      exact happ rs (by omega) (fun _ h => h) h3
theorem put_size {rs : List ER} {q : ER} (h : rs.length ≤ 4) : (putE rs q).length ≤ 4 ∧ rs.length ≤ (putE rs q).length := by
  by_cases hf : atE rs q.ip < rs.length
  · rw [putE_set hf, List.length_set]; omega
  · by_cases h4 : rs.length = 4
    · rw [putE_full hf h4, List.length_append, goneE' (oldE_lt (Nat.le_refl _) (by omega))]
      show rs.length - 1 + 1 ≤ 4 ∧ rs.length ≤ rs.length - 1 + 1
      omega
    · rw [putE_more hf h4, List.length_append]
      show rs.length + 1 ≤ 4 ∧ rs.length ≤ rs.length + 1
      omega
theorem hw_at {rs : List ER} {q : ER} {k : Nat} (h : k < rs.length) (hk : rs[k] = q) (hj : ∀ j (h' : j < rs.length), j < k → rs[j].ip ≠ q.ip) : hasE rs q.ip = true ∧ hwE rs q.ip = q.hw := by
  have e := atE_eq h (by rw [hk]) hj
  unfold hasE hwE
  rw [e, List.getElem?_eq_getElem h, hk]
  exact ⟨decide_eq_true h, rfl⟩
theorem hw_app {ss : List ER} {q : ER} (h : ∀ r ∈ ss, r.ip ≠ q.ip) : hasE (ss ++ [q]) q.ip = true ∧ hwE (ss ++ [q]) q.ip = q.hw := by
  refine hw_at (k := ss.length) (by simp) (by simp) fun j h1 hj => ?_
  rw [List.getElem_append_left hj]
  exact h _ (List.getElem_mem hj)
theorem put_hw (rs : List ER) (q : ER) : hasE (putE rs q) q.ip = true ∧ hwE (putE rs q) q.ip = q.hw := by
  by_cases hf : atE rs q.ip < rs.length
  · rw [putE_set hf]
    refine hw_at (k := atE rs q.ip) (by simpa using hf) (by simp) fun j h1 hj => ?_
    rw [List.getElem_set_ne (by omega)]
    exact atE_before hj
  · have hna := not_at hf
    by_cases h4 : rs.length = 4
    · rw [putE_full hf h4]
      exact hw_app fun r hr => hna r (List.mem_of_mem_eraseIdx hr)
    · rw [putE_more hf h4]
      exact hw_app hna
end Go.Proofs.Ythckbabcmmkljaa
