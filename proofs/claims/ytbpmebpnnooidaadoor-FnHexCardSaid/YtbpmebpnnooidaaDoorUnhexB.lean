import Derived.Test.YtbpmebpnnooidaaDoorBase
import Derived.Test.YtbpmebpnnooidaaDoorUnhexKit
import Derived.Test.YtbpmebpnnooidaaDoorShelf
namespace Go.Proofs.YtbpmebpnnooidaaDoor
open Go.RowKit Go.Lib

theorem index_at (c : UInt8) (a : Int) (ha : Hid (half c = a)) (w : World) :
    Calls Tryd.prog 33 #[.string ⟨#[48, 49, 50, 51, 52, 53, 54, 55, 56, 57, 97, 98, 99, 100, 101, 102]⟩, .int .u8 c.toNat] w fun e w' => e = .returned (.int .i64 a) ∧ w = w' :=
  (Tryd.strings_IndexByte _ _ w).mono fun e w' ⟨he, hw⟩ => ⟨he.trans (ret_int (by
    have h := half_lit c
    rw [ha.out] at h
    rw [← h]
    simp)), hw.symm⟩

set_option maxHeartbeats 800000 in
theorem unhexI (s : ByteArray) (w : World) (hs : s.size ≤ 1048576) :
    Calls Tryd.prog 15 #[.string s] w fun e w' => e = .returned (.tuple #[.string (unhexOut s).1, .bool (unhexOut s).2]) ∧ Below w.heap.size w w' := by
  obtain ⟨i0, hi, hz0, hz1, hz2⟩ := info_parts Tryd.info5
  by_cases ho : s.size % 2 = 1
  · rw [unhexOut_odd s ho]
    have ho' : (((s.size : Int) % 2) != 0) = true := by simp; omega
    clear ho
    go_enter Tryd.func15, Tryd.ntmps15
    go_wp2_with fail
    go_ret2
    exact ⟨rfl, Below.refl _ _⟩
  · have ho' : (((s.size : Int) % 2) != 0) = false := by simp; omega
    have he : Hid (s.size % 2 = 0) := by show s.size % 2 = 0; omega
    clear ho
    go_enter Tryd.func15, Tryd.ntmps15
    go_wp2_with (at_make; refine wpList_make_own _ rfl _ _ 22 rfl w.heap.size 5 i0 (.int .u8 0) 1 Tryd.underlying22 hi hz0 hz1 .i64 .i64 _ (s.size / 2) rfl rfl (by omega) (by rw [hz2]; omega) (by unfold maxLen; omega) (Nat.le_refl _) ?_; intro w0 hown0 hgrow0)
    go_loopw [4, 5] (fun v i wr => ∃ j k : Nat, k ≤ s.size ∧ i = .int .i64 k ∧ Read s j k ∧ wr.ownsRow w.heap.size 5 1 v j (byteCells (pairs s j)) ∧ Below w.heap.size w wr)
      (fun _ i _ => s.size - (RowKit.intOf i).toNat)
    case atStart => exact ⟨0, 0, Nat.zero_le _, rfl, ⟨rfl, fun _ h => by omega⟩, hown0, (Below.refl _ _).grown hgrow0 (Nat.le_refl _) (fun _ h => by cases h)⟩
    case round =>
      obtain ⟨j, k, hk, rfl, hread, hown, hb⟩ := hrel
      clear hown0 hgrow0
      have hj : j ≤ 1048576 := by have := hread.1; omega
      by_cases hlt : k < s.size
      · have hk2 := hread.even he.out hlt
        obtain ⟨a, ha⟩ : ∃ a, half s[k] = a := ⟨_, rfl⟩
        obtain ⟨b, hb'⟩ : ∃ b, half s[k + 1] = b := ⟨_, rfl⟩
        have a1 := half_bd s[k]
        have b1 := half_bd s[k + 1]
        rw [ha] at a1; rw [hb'] at b1
        have Ha : Hid (half s[k] = a) := ha
        have Hb : Hid (half s[k + 1] = b) := hb'
        have Ea : Hid (half (at8 s k) = a) := by show half (at8 s k) = a; rw [← at8_eq s k hlt]; exact ha
        have Eb : Hid (half (at8 s (k + 1)) = b) := by show half (at8 s (k + 1)) = b; rw [← at8_eq s (k + 1) hk2]; exact hb'
        clear ha hb'
        by_cases hna : a < 0
        · go_wp2_with (go_at_call 33; refine (index_at _ _ (by assumption) _).mono ?_; rintro e w' ⟨rfl, rfl⟩)
          go_ret2
          rw [hread.bad hlt he.out (.inl (by rw [Ea.out]; exact hna))]
          exact ⟨rfl, hb⟩
        · by_cases hnb : b < 0
          · go_wp2_with (go_at_call 33; refine (index_at _ _ (by assumption) _).mono ?_; rintro e w' ⟨rfl, rfl⟩)
            go_ret2
            rw [hread.bad hlt he.out (.inr (by rw [Eb.out]; exact hnb))]
            exact ⟨rfl, hb⟩
          · have a0 : 0 ≤ a := by omega
            have b0 : 0 ≤ b := by omega
            have hor := shl_or a b a0 b0 (by omega) (by omega)
            go_wp2_with (first
              | (go_at_call 33; refine (index_at _ _ (by assumption) _).mono ?_; rintro e w' ⟨rfl, rfl⟩)
              | (at_builtin; refine wpList_append_lies _ rfl _ _ _ rfl w.heap.size 5 i0 _ 1 1 Tryd.underlying22 hi hz0 hz1 hz2 rfl (by omega) _ j _ rfl (hown.alloc _) ⟨wr.heap.size, 0, none⟩ 1 1 [.int .u8 (16 * a + b)] rfl rfl (World.news_of_block (cs := #[.int .u8 (16 * a + b)]) (t := 5) (fr := (0, 0)) (heap_alloc_new wr _)) (by simp [Value.oneCell']) (by omega) (by unfold maxLen; omega) (by omega) (by have := hb.size; simp; omega) (wr.heap.size + 1) (by simp) ?_; intro gg cap w1 hown1 hgrow hat hlt'))
            have hb1 := below_app' hb hown hgrow
            rw [hread.byte a b Ea.out Eb.out a0 b0] at hown1
            have hread1 := hread.next (by rw [Ea.out]; exact a0) (by rw [Eb.out]; exact b0)
            clear hgrow hown hread
            go_roundw
            case rel => exact ⟨j + 1, k + 2, by omega, by go_num, hread1, hown1, hb1⟩
            case measure => simp [RowKit.intOf]; omega
      · have hcv := run_string_own (P := Tryd.prog) Tryd.underlying22 Tryd.underlying5 Tryd.underlying9 hown
        go_wp2_with fail
        go_ret2
        rw [hread.last (by omega) hk he.out]
        exact ⟨rfl, hb⟩
end Go.Proofs.YtbpmebpnnooidaaDoor
