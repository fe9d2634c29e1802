/- What the laws of chapter 17 lean on (pure). Nothing here is a claim. -/
import Derived.Test.YtkigkfedkjnkeaaSndB
namespace Go.Proofs.Ytkigkfedkjnkeaa
open Go.RowKit Go.Lib

theorem pl_word {u : Int} (h : wordOk u 32 = true) : pl u = u := by
  unfold wordOk at h; rw [decide_eq_true_iff] at h; simp at h; unfold pl; omega
theorem word_pl (n : Int) : wordOk (pl n) 32 = true := by
  have h := pl_bd n
  unfold wordOk; rw [decide_eq_true_iff]; simp; omega
theorem extract_all (d : ByteArray) : d.extract 0 d.size = d := ByteArray.extract_zero_size
/-- What is sent again. -/
theorem rew_facts {u : Int} {d : ByteArray} {t : Int} {f g h : Bool} (k : sndOk ⟨u, d, t, f, g, h⟩ = true) :
    sndOk ⟨u, d, 0, f, false, h⟩ = true ∧ nxt u 0 false = u ∧ (d.size ≠ 0 → h = false) ∧ (h = true → f = true) ∧
    ckOk ⟨u, d, 0, f, false, h⟩ 1000 1000 = (decide (d.size ≠ 0) || (f && !h)) ∧ (ckOk ⟨u, d, 0, f, false, h⟩ 1000 1000 = true → chk ⟨u, d, 0, f, false, h⟩ 1000 1000 = ⟨u, d, f⟩) := by
  obtain ⟨hw, ⟨h1, h2, h3⟩, h4, h5⟩ := sndOk_of k
  have ok : sndOk ⟨u, d, 0, f, false, h⟩ = true := sndOk_mk hw h1 (Int.le_refl 0) (by omega) (fun e => by cases e) (fun e => ⟨(h5 e).1, rfl, (h5 e).2.2⟩)
  have nx : nxt u 0 false = u := by
    unfold nxt fl
    simp only [cond_false, Int.add_zero]
    exact pl_word hw
  have hh : d.size ≠ 0 → h = false := fun e => by
    cases h with
    | false => rfl
    | true => exact absurd (h5 rfl).2.2 e
  have eW : ckW ⟨u, d, 0, f, false, h⟩ 1000 = 1000 := by unfold ckW fl; simp only [cond_false]; omega
  have eN : ckN ⟨u, d, 0, f, false, h⟩ 1000 1000 = d.size := by unfold ckN; rw [eW]; simp only; omega
  have eF : ckF ⟨u, d, 0, f, false, h⟩ 1000 1000 = (f && !h) := by
    unfold ckF
    rw [eW, eN]
    simp only [Bool.not_false, Bool.true_and]
    rw [decide_eq_true (show (0 : Int) + d.size = d.size by omega), decide_eq_true (show (d.size : Int) < 1000 by omega)]
    simp
  have eO : ckOk ⟨u, d, 0, f, false, h⟩ 1000 1000 = (decide (d.size ≠ 0) || (f && !h)) := by rw [ck_ok ok, eN, eF]
  refine ⟨ok, nx, hh, fun e => (h5 e).1, eO, fun e => ?_⟩
  rw [chk_yes e, eN, eF]
  have e2 : (f && !h) = f := by
    rw [eO] at e
    by_cases hd : d.size = 0
    · rw [decide_eq_false (fun q : d.size ≠ 0 => q hd), Bool.false_or, Bool.and_eq_true] at e
      rw [e.1, e.2]; rfl
    · rw [hh hd]; simp
  rw [e2]
  simp only [Int.toNat_zero, Nat.zero_add]
  rw [nx, extract_all]
end Go.Proofs.Ytkigkfedkjnkeaa
