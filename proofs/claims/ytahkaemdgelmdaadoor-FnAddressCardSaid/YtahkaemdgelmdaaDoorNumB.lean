import Derived.Test.YtahkaemdgelmdaaDoorNumA
import Derived.WalkLawsBesides
namespace Go.Proofs.YtahkaemdgelmdaaDoor
open Go.RowKit Go.Lib

theorem ret_num {a b : Int × Bool} (h : a = b) : Ending.returned (.tuple #[.int .i64 a.1, .bool a.2]) = .returned (.tuple #[.int .i64 b.1, .bool b.2]) := by rw [h]

theorem num_eq (s : ByteArray) (m : Nat) (h1 : ¬ s.size < 1) (h : allDig s.data.toList ∧ m = val s.data.toList) : decDigits m = s.data.toList ↔ ¬ lead0 s.data.toList := by
  rw [h.2]
  exact dec_val _ h.1 (fun e => h1 (by rw [← ByteArray.size_data, ← Array.length_toList, e]; decide))
theorem num_no (s : ByteArray) (m : Nat) (h1 : ¬ s.size < 1) (h : allDig s.data.toList ∧ m = val s.data.toList) (ht : (!decDigits m == s.toList) = true) : numOut s = (0, false) := by
  rw [ByteArray.toList_eq] at ht
  refine numOut_lead s (Classical.byContradiction fun hn => ?_)
  rw [(num_eq s m h1 h).2 hn] at ht
  simp at ht
theorem num_yes (s : ByteArray) (m : Nat) (h1 : ¬ s.size < 1) (h2 : ¬ 12 < s.size) (h : allDig s.data.toList ∧ m = val s.data.toList) (ht : (!decDigits m == s.toList) = false) : numOut s = ((m : Int), true) := by
  rw [ByteArray.toList_eq] at ht
  have e : decDigits m = s.data.toList := by simpa using ht
  rw [numOut_good s (by omega) (by omega) h.1 ((num_eq s m h1 h).1 e), ← h.2]

set_option maxHeartbeats 800000 in
theorem numberS (s : ByteArray) (w : World) (hs : s.size ≤ 1048576) :
    Calls Tryd.prog 24 #[.string s] w fun e w' => e = .returned (.tuple #[.int .i64 (numOut s).1, .bool (numOut s).2]) ∧ Below w.heap.size w w' := by
  by_cases h1 : s.size < 1
  · rw [numOut_len s (.inl h1)]
    go_enter Tryd.func24, Tryd.ntmps24
    go_wp2_with fail
    go_ret2
    exact ⟨rfl, Below.refl _ _⟩
  · by_cases h2 : 12 < s.size
    · rw [numOut_len s (.inr h2)]
      go_enter Tryd.func24, Tryd.ntmps24
      go_wp2_with fail
      go_ret2
      exact ⟨rfl, Below.refl _ _⟩
    · obtain ⟨out, hout⟩ : ∃ out, numOut s = out := ⟨_, rfl⟩
      have HO : Hid (numOut s = out) := hout
      rw [hout]
      clear hout
      go_enter Tryd.func24, Tryd.ntmps24
      go_wp2_with fail
      go_loop [4, 5] (fun n i => ∃ k m : Nat, k ≤ s.size ∧ i = .int .i64 k ∧ n = .int .i64 m ∧ Got s k m) (fun _ i => s.size - (RowKit.intOf i).toNat)
      case atStart => exact ⟨0, 0, Nat.zero_le _, rfl, rfl, Got.start s⟩
      case round =>
        obtain ⟨k, m, hk, rfl, rfl, hg⟩ := hrel
        have hm := hg.bd hk (by omega)
        by_cases hlt : k < s.size
        · have h8 : s[k].toNat < 256 := s[k].toNat_lt
          by_cases d1 : s[k].toNat < 48
          · go_wp2_with fail
            go_ret2
            rw [show out = (0, false) from HO.out.symm.trans (numOut_dig s k hlt (fun h => by unfold isDig at h; omega))]; exact ⟨rfl, Below.refl _ _⟩
          · by_cases d2 : 57 < s[k].toNat
            · go_wp2_with fail
              go_ret2
              rw [show out = (0, false) from HO.out.symm.trans (numOut_dig s k hlt (fun h => by unfold isDig at h; omega))]; exact ⟨rfl, Below.refl _ _⟩
            · have hg1 := hg.next hlt (by unfold isDig; omega)
              go_wp2_with fail
              go_round
              case rel => exact ⟨k + 1, 10 * m + (s[k].toNat - 48), by omega, by go_num, by go_num, hg1⟩
              case measure => simp [RowKit.intOf]; omega
        · have HG := Lib.hid (hg.all (by omega))
          clear hg
          go_wp2_with fail
          refine (digitsS_nat m _ (by omega)).mono ?_
          rintro e w1 ⟨rfl, hb⟩
          go_wp2_with fail
          all_goals go_ret2
          · rw [show out = (0, false) from HO.out.symm.trans (num_no s m h1 HG.out (by assumption))]; exact ⟨rfl, hb⟩
          · rw [show out = ((m : Int), true) from HO.out.symm.trans (num_yes s m h1 h2 HG.out (by assumption))]; exact ⟨rfl, hb⟩
end Go.Proofs.YtahkaemdgelmdaaDoor
