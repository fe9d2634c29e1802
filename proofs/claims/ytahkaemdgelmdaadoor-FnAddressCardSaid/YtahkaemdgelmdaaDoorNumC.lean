import Derived.Test.YtahkaemdgelmdaaDoorBase
import Derived.Test.YtahkaemdgelmdaaDoorNumKit
namespace Go.Proofs.YtahkaemdgelmdaaDoor
open Go.RowKit Go.Lib

set_option maxHeartbeats 400000 in
theorem digitIn_yes (n : Int) (w : World) (h0 : 48 ≤ n) (h1 : n ≤ 57) :
    Calls Tryd.prog 45 #[.int .u8 n] w fun e w' => e = .returned (.int .i64 (n - 48)) ∧ w = w' := by
  go_enter Tryd.func45, Tryd.ntmps45
  go_wp2
  go_ret
  exact ⟨rfl, rfl⟩
/-- It panics, with one string. -/
def Panics (w : World) (e : Ending) (w' : World) : Prop := ∃ s, e = .panicked [{ v := .iface 9 (.string s), recovered := false }] ∧ w = w'
set_option maxHeartbeats 400000 in
theorem digitIn_no (n : Int) (w : World) (h0 : 0 ≤ n) (h1 : n ≤ 255) (h : n < 48 ∨ 57 < n) :
    Calls Tryd.prog 45 #[.int .u8 n] w (Panics w) := by
  rcases h with h | h
  · go_enter Tryd.func45, Tryd.ntmps45
    go_wp2
    exact ⟨rfl, _, rfl, rfl⟩
  · have h2 : decide (n < 48) = false := by simp; omega
    go_enter Tryd.func45, Tryd.ntmps45
    go_wp2
    exact ⟨rfl, _, rfl, rfl⟩

/-- What numberIn does: it returns the number, or it panics with a string. -/
def NumEnd (s : ByteArray) (w : World) (e : Ending) (w' : World) : Prop :=
  w = w' ∧ ((∃ m : Int, numOut s = (m, true) ∧ e = .returned (.int .i64 m)) ∨ (numOut s = (0, false) ∧ ∃ t, e = .panicked [{ v := .iface 9 (.string t), recovered := false }]))

theorem lead0_of (s : ByteArray) (h : 0 < s.size) (h0 : ((s[0].toNat : Int) == 48) = true) (h1 : 1 < s.size) : lead0 s.data.toList := by
  have h2 : 0 < s.data.toList.length := by simpa using h
  refine ⟨?_, by simpa using h1⟩
  have e : s[0].toNat = 48 := by simp only [beq_iff_eq] at h0; omega
  have e2 : s[0] = 48 := UInt8.toNat_inj.1 e
  rw [List.head?_eq_getElem?, List.getElem?_eq_getElem h2]
  exact congrArg some e2
theorem not_lead0_of (s : ByteArray) (h : 0 < s.size) (h0 : ((s[0].toNat : Int) == 48) = false ∨ ¬ 1 < s.size) : ¬ lead0 s.data.toList := by
  rintro ⟨a, b⟩
  rcases h0 with h0 | h0
  · have h2 : 0 < s.data.toList.length := by simpa using h
    rw [List.head?_eq_getElem?, List.getElem?_eq_getElem h2] at a
    have e2 : s[0] = 48 := Option.some.inj a
    rw [e2] at h0
    simp at h0
  · exact h0 (by simpa using b)

set_option maxHeartbeats 800000 in
theorem numberIn_any (s : ByteArray) (w : World) (hs : s.size ≤ 1048576) : Calls Tryd.prog 35 #[.string s] w (NumEnd s w) := by
  by_cases h1 : s.size < 1
  · have hd : s.data.toList = [] := List.eq_nil_of_length_eq_zero (by rw [Array.length_toList, ByteArray.size_data]; omega)
    have e0 : s.toList = [] := by rw [ByteArray.toList_eq, hd]
    have N := Lib.hid (numOut_len s (.inl h1))
    clear hd
    go_enter Tryd.func35, Tryd.ntmps35
    go_wp2_with fail
    exact ⟨rfl, rfl, .inr ⟨N.out, _, rfl⟩⟩
  · have h0 : 0 < s.size := by omega
    have e1 : s.toList.isEmpty = false := by
      rw [ByteArray.toList_eq]; cases hl : s.data.toList with
      | nil => exact absurd (by rw [← ByteArray.size_data, ← Array.length_toList, hl]; rfl) (show s.size ≠ 0 by omega)
      | cons _ _ => rfl
    by_cases h2 : 12 < s.size
    · have N := Lib.hid (numOut_len s (.inr h2))
      go_enter Tryd.func35, Tryd.ntmps35
      go_wp2_with fail
      exact ⟨rfl, rfl, .inr ⟨N.out, _, rfl⟩⟩
    · by_cases h3 : ((s[0].toNat : Int) == 48) = true ∧ 1 < s.size
      · obtain ⟨h3, h4⟩ := h3
        have N := Lib.hid (numOut_lead s (lead0_of s h0 h3 h4))
        go_enter Tryd.func35, Tryd.ntmps35
        go_wp2_with fail
        exact ⟨rfl, rfl, .inr ⟨N.out, _, rfl⟩⟩
      · have N := Lib.hid (not_lead0_of s h0 (by
          by_cases g : ((s[0].toNat : Int) == 48) = true
          · exact .inr (fun hh => h3 ⟨g, hh⟩)
          · exact .inl (by simpa using g)))
        have g2 : ((s[0].toNat : Int) == 48) = true → s.size ≤ 1 := fun g => by
          rcases Nat.lt_or_ge 1 s.size with x | x
          · exact absurd ⟨g, x⟩ h3
          · exact x
        clear h3
        by_cases g : ((s[0].toNat : Int) == 48) = true
        · have g3 := g2 g
          clear g2
          go_enter Tryd.func35, Tryd.ntmps35
          go_wp2_with fail
          clear g
          go_loop [3, 4] (fun n i => ∃ k m : Nat, k ≤ s.size ∧ i = .int .i64 k ∧ n = .int .i64 m ∧ Got s k m) (fun _ i => s.size - (RowKit.intOf i).toNat)
          case atStart => exact ⟨0, 0, Nat.zero_le _, rfl, rfl, Got.start s⟩
          case round =>
            obtain ⟨k, m, hk, rfl, rfl, hg⟩ := hrel
            have hm := hg.bd hk (by omega)
            by_cases hlt : k < s.size
            · have h8 : s[k].toNat < 256 := s[k].toNat_lt
              by_cases d : 48 ≤ s[k].toNat ∧ s[k].toNat ≤ 57
              · have hg1 := hg.next hlt d
                go_wp2_with (go_at_call 45; refine (digitIn_yes _ _ (by omega) (by omega)).mono ?_; rintro e w' ⟨rfl, rfl⟩)
                go_round
                case rel => exact ⟨k + 1, 10 * m + (s[k].toNat - 48), by omega, by go_num, by go_num, hg1⟩
                case measure => simp [RowKit.intOf]; omega
              · have M := Lib.hid (numOut_dig s k hlt d)
                go_wp2_with (go_at_call 45; refine (digitIn_no _ _ (by omega) (by omega) (by omega)).mono ?_; rintro e w' ⟨t, rfl, rfl⟩)
                exact ⟨rfl, rfl, .inr ⟨M.out, _, rfl⟩⟩
            · have HG := Lib.hid (hg.all (by omega))
              clear hg
              go_wp2_with fail
              go_ret
              exact ⟨rfl, .inl ⟨_, by rw [numOut_good s (by omega) (by omega) HG.out.1 N.out, ← HG.out.2], rfl⟩⟩
        · have g' : ((s[0].toNat : Int) == 48) = false := by simpa using g
          clear g g2
          go_enter Tryd.func35, Tryd.ntmps35
          go_wp2_with fail
          clear g'
          go_loop [3, 4] (fun n i => ∃ k m : Nat, k ≤ s.size ∧ i = .int .i64 k ∧ n = .int .i64 m ∧ Got s k m) (fun _ i => s.size - (RowKit.intOf i).toNat)
          case atStart => exact ⟨0, 0, Nat.zero_le _, rfl, rfl, Got.start s⟩
          case round =>
            obtain ⟨k, m, hk, rfl, rfl, hg⟩ := hrel
            have hm := hg.bd hk (by omega)
            by_cases hlt : k < s.size
            · have h8 : s[k].toNat < 256 := s[k].toNat_lt
              by_cases d : 48 ≤ s[k].toNat ∧ s[k].toNat ≤ 57
              · have hg1 := hg.next hlt d
                go_wp2_with (go_at_call 45; refine (digitIn_yes _ _ (by omega) (by omega)).mono ?_; rintro e w' ⟨rfl, rfl⟩)
                go_round
                case rel => exact ⟨k + 1, 10 * m + (s[k].toNat - 48), by omega, by go_num, by go_num, hg1⟩
                case measure => simp [RowKit.intOf]; omega
              · have M := Lib.hid (numOut_dig s k hlt d)
                go_wp2_with (go_at_call 45; refine (digitIn_no _ _ (by omega) (by omega) (by omega)).mono ?_; rintro e w' ⟨t, rfl, rfl⟩)
                exact ⟨rfl, rfl, .inr ⟨M.out, _, rfl⟩⟩
            · have HG := Lib.hid (hg.all (by omega))
              clear hg
              go_wp2_with fail
              go_ret
              exact ⟨rfl, .inl ⟨_, by rw [numOut_good s (by omega) (by omega) HG.out.1 N.out, ← HG.out.2], rfl⟩⟩
end Go.Proofs.YtahkaemdgelmdaaDoor
