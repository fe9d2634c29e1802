/- spec.Digits below 0; the whole of spec.Digits. -/
import Derived.Test.YtahkaemdgelmdaaDoorNumA
import Derived.Lib.ItoaMem
namespace Go.Proofs.YtahkaemdgelmdaaDoor
open Go.RowKit Go.Lib

theorem nDigits_le : ∀ k u : Nat, u < 10 ^ (k + 1) → nDigits u ≤ k + 1
  | 0, u, h => by rw [nDigits_small (by omega)]; omega
  | k + 1, u, h => by
    by_cases h10 : u < 10
    · rw [nDigits_small h10]; omega
    · rw [nDigits_big h10]
      have := nDigits_le k (u / 10) (by rw [Nat.pow_succ] at h; omega)
      omega
theorem Rest.size {u v : Nat} {t : ByteArray} (h : Rest u v t) (hu : u ≤ 9223372036854775808) : t.size ≤ 20 := by
  have h1 := congrArg List.length (show dd v ++ t.data.toList = decDigits u from h)
  rw [List.length_append, decDigits_length] at h1
  have h2 := nDigits_le 19 u (by omega)
  have h3 : t.data.toList.length = t.size := by simp
  omega

set_option maxHeartbeats 400000 in
theorem digitsS_neg (u : Nat) (w : World) (h0 : 0 < u) (h1 : -9223372036854775808 ≤ -(u : Int)) :
    Calls Tryd.prog 38 #[.int .i64 (-(u : Int))] w fun e w' => e = .returned (.string (⟨#[45]⟩ ++ ⟨(decDigits u).toArray⟩)) ∧ Below w.heap.size w w' := by
  have hu : Hid (u ≠ 0) := by show u ≠ 0; omega
  have hne : ((-(u : Int)) == 0) = false := by simp; omega
  have hnn : decide ((-(u : Int)) < 0) = true := by simp; omega
  go_enter Tryd.func38, Tryd.ntmps38
  go_wp2_with fail
  clear hne
  go_loopw [0, 4, 5] (fun n out _ wr => ∃ (v : Nat) (t : ByteArray), t.size + v ≤ u ∧ n = .int .i64 (-(v : Int)) ∧ out = .string t ∧ Rest u v t ∧ Below w.heap.size w wr)
    (fun n _ _ _ => (-(RowKit.intOf n)).toNat)
  case atStart => exact ⟨u, ⟨#[]⟩, by simp [ByteArray.size], rfl, rfl, Rest.start hu.out, Below.refl _ _⟩
  case round =>
    obtain ⟨v, t, hv, rfl, rfl, hr, hb⟩ := hrel
    have hts := hr.size (by omega)
    by_cases hz : v = 0
    · subst hz
      go_wp2_with fail
      go_ret
      exact ⟨ret_str (by rw [hr.last]), hb⟩
    · have hne : ((-(v : Int)) != 0) = true := by simp; omega
      by_cases hd : 0 < (v : Int) % 10
      · have hcv := run_string_lit1 (P := Tryd.prog) wr 22 9 5 (digB v) (48 + (v : Int) % 10) (digB_nat v) Tryd.underlying22 Tryd.underlying5 Tryd.underlying9
        go_wp2_with fail
        go_roundw
        case rel => exact ⟨v / 10, _, by rw [ByteArray.size_append]; show 1 + t.size + v / 10 ≤ u; omega, by simp, rfl, hr.next hz, hb.alloc hb.size _⟩
        case measure => simp [RowKit.intOf]; omega
      · have hcv := run_string_lit1 (P := Tryd.prog) wr 22 9 5 (digB v) (48 + -((v : Int) % 10)) (by rw [← digB_nat]; omega) Tryd.underlying22 Tryd.underlying5 Tryd.underlying9
        go_wp2_with fail
        go_roundw
        case rel => exact ⟨v / 10, _, by rw [ByteArray.size_append]; show 1 + t.size + v / 10 ≤ u; omega, by simp, rfl, hr.next hz, hb.alloc hb.size _⟩
        case measure => simp [RowKit.intOf]; omega

/-- The model's Digits. -/
theorem digitsS (n : Int) (w : World) (h0 : -9223372036854775808 ≤ n) (h1 : n ≤ 9223372036854775807) :
    Calls Tryd.prog 38 #[.int .i64 n] w fun e w' => e = .returned (.string ⟨(itoa n).toArray⟩) ∧ Below w.heap.size w w' := by
  by_cases hn : n < 0
  · obtain ⟨u, rfl⟩ : ∃ u : Nat, n = -(u : Int) := ⟨n.natAbs, by omega⟩
    rw [itoa_neg u (by omega)]
    refine (digitsS_neg u w (by omega) h0).mono fun e w' ⟨he, hb⟩ => ⟨he.trans (ret_str ?_), hb⟩
    apply ByteArray.ext; rw [ByteArray.data_append]; simp
  · obtain ⟨u, rfl⟩ : ∃ u : Nat, n = (u : Int) := ⟨n.toNat, by omega⟩
    rw [itoa_nonneg]
    exact digitsS_nat u w (by omega)
end Go.Proofs.YtahkaemdgelmdaaDoor
