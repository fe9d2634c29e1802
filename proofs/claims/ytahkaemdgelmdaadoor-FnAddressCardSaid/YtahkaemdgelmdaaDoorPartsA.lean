/- impl.Parts and spec.Parts -/
import Derived.Test.YtahkaemdgelmdaaDoorBase
import Derived.Test.YtahkaemdgelmdaaDoorPartsKit
import Derived.Test.YtahkaemdgelmdaaDoorShelf
namespace Go.Proofs.YtahkaemdgelmdaaDoor
open Go.RowKit Go.Lib

/-- What Parts hands back: a new row with the pieces. -/
def PartsEnd (s : ByteArray) (c : UInt8) (w : World) (e : Ending) (w' : World) : Prop :=
  ∃ g cap, e = .returned (.slice (some ⟨g, 0, none⟩) (pieces s c).length cap) ∧ w'.ownsRow w.heap.size 9 1 (.slice (some ⟨g, 0, none⟩) (pieces s c).length cap) (pieces s c).length (strVals (pieces s c)) ∧ Below w.heap.size w w' ∧ (pieces s c).length ≤ cap

set_option maxHeartbeats 400000 in
theorem partsI (s : ByteArray) (c : UInt8) (m : Int) (w : World) (hs : s.size ≤ 1048576) (hm : w.cell? ⟨1, 0, none⟩ = some (.int .i64 m)) :
    Calls Tryd.prog 18 #[.string s, .int .u8 c.toNat] w (PartsEnd s c w) := by
  have hcv := run_string_lit1 (P := Tryd.prog) w 22 9 5 c c.toNat rfl Tryd.underlying22 Tryd.underlying5 Tryd.underlying9
  have hlt := World.block_lt_of_cell? w _ hm
  have hm1 : (w.alloc (.cells #[.int .u8 c.toNat] 5)).cell? ⟨1, 0, none⟩ = some (.int .i64 m) := by rw [World.cell?_alloc_past _ _ _ hlt]; exact hm
  have C := Lib.hid (Tryd.strings_Split s ⟨#[c]⟩ m _ (by omega) hm1 (Nat.le_refl 1))
  clear hm hm1 hlt
  go_enter Tryd.func18, Tryd.ntmps18
  go_wp2_with fail
  refine C.out.mono ?_
  rintro e w1 ⟨rfl, hw⟩
  rw [split_pieces] at hw
  rw [count_pieces]
  have hown := World.ownsRow_lit (base := w.heap.size) (e := 9) (size := 1) (w.alloc (.cells #[.int .u8 c.toNat] 5)) ((pieces s c).map Value.string).toArray (pieces s c).length (by simp) (by have := pieces_length s c; unfold maxLen; omega) (by simp)
  rw [← hw, show (w.alloc (.cells #[.int .u8 c.toNat] 5)).heap.size = w.heap.size + 1 by simp] at hown
  have O := Lib.hid hown
  have B : Hid (Below w.heap.size w w1) := by show Below _ _ _; rw [hw]; exact ((Below.refl _ _).alloc (Nat.le_refl _) _).alloc (by simp) _
  clear hw hown hcv
  go_wp2_with fail
  go_ret
  exact ⟨_, _, rfl, O.out, B.out, Nat.le_refl _⟩

set_option maxHeartbeats 1000000 in
theorem partsS (s : ByteArray) (c : UInt8) (w : World) (hs : s.size ≤ 1048576) : Calls Tryd.prog 23 #[.string s, .int .u8 c.toNat] w (PartsEnd s c w) := by
  obtain ⟨i0, hi, hz0, hz1, hz2⟩ := info_parts Tryd.info9
  go_enter Tryd.func23, Tryd.ntmps23
  go_wp2_with fail
  go_loopw [5, 6, 7] (fun v f i wr => ∃ k : Nat, i = .int .i64 k ∧ ∃ (a : Nat) (out : List ByteArray), f = .int .i64 a ∧ wr.ownsRow w.heap.size 9 1 v out.length (strVals out) ∧ Below w.heap.size w wr ∧
      ((k ≤ s.size ∧ a ≤ s.size ∧ Cut s c a k out) ∨ (k = s.size + 1 ∧ out = pieces s c))) (fun _ _ i _ => s.size + 1 - (RowKit.intOf i).toNat)
  case atStart => exact ⟨0, rfl, 0, [], rfl, World.ownsRow_lit w #[] 0 (Nat.le_refl _) (by simp [maxLen]) rfl, (Below.refl _ _).alloc (Nat.le_refl _) _, .inl ⟨Nat.zero_le _, Nat.zero_le _, Cut.start s c⟩⟩
  case round =>
    obtain ⟨k, rfl, a, out, rfl, hown, hb, hcase⟩ := hrel
    rcases hcase with ⟨hk, ha, hcut⟩ | ⟨hk, hout⟩
    · have hlen := hcut.len
      have hak := hcut.1
      by_cases hlt : k < s.size
      · have hne : ((k : Int) == (s.size : Int)) = false := by simp; omega
        by_cases hc : s[k] = c
        · have hcb : ((s[k].toNat : Int) == (c.toNat : Int)) = true := by rw [hc]; simp
          have H1 := Lib.hid (hcut.hit hlt hc)
          clear hcut hc
          go_wp2_with (at_builtin; refine wpList_append_lies _ rfl _ _ _ rfl w.heap.size 9 i0 _ 1 16 Tryd.underlying35 hi hz0 hz1 hz2 rfl (by omega) _ out.length _ rfl (hown.alloc _) ⟨wr.heap.size, 0, none⟩ 1 1 [.string (s.extract a k)] rfl rfl (World.news_of_block (cs := #[.string (s.extract a k)]) (t := 9) (fr := (0, 0)) (heap_alloc_new wr _)) (by simp [Value.oneCell']) (by omega) (by unfold maxLen; omega) (by omega) (by have := hb.size; simp; omega) (wr.heap.size + 1) (by simp) ?_; intro gg cap w1 hown1 hgrow hat hlt')
          have hb1 := below_app' hb hown hgrow
          rw [strVals_snoc] at hown1
          clear hgrow hown hne hcb
          go_roundw
          case rel => exact ⟨k + 1, by go_num, k + 1, out ++ [s.extract a k], by go_num, by rw [List.length_append]; exact hown1, hb1, .inl ⟨by omega, by omega, H1.out⟩⟩
          case measure => simp [RowKit.intOf]; omega
        · have hcb : ((s[k].toNat : Int) == (c.toNat : Int)) = false := by
            simp only [beq_eq_false_iff_ne, ne_eq]
            exact fun e => hc (UInt8.toNat_inj.1 (by omega))
          have H1 := Lib.hid (hcut.pass hlt hc)
          clear hcut hc
          go_wp2_with fail
          clear hne hcb
          go_roundw
          case rel => exact ⟨k + 1, by go_num, a, out, rfl, hown, hb, .inl ⟨by omega, ha, H1.out⟩⟩
          case measure => simp [RowKit.intOf]; omega
      · obtain rfl : k = s.size := by omega
        have heq : ((s.size : Int) == (s.size : Int)) = true := by simp
        have H1 := Lib.hid hcut.last
        clear hcut
        go_wp2_with (at_builtin; refine wpList_append_lies _ rfl _ _ _ rfl w.heap.size 9 i0 _ 1 16 Tryd.underlying35 hi hz0 hz1 hz2 rfl (by omega) _ out.length _ rfl (hown.alloc _) ⟨wr.heap.size, 0, none⟩ 1 1 [.string (s.extract a s.size)] rfl rfl (World.news_of_block (cs := #[.string (s.extract a s.size)]) (t := 9) (fr := (0, 0)) (heap_alloc_new wr _)) (by simp [Value.oneCell']) (by omega) (by unfold maxLen; omega) (by omega) (by have := hb.size; simp; omega) (wr.heap.size + 1) (by simp) ?_; intro gg cap w1 hown1 hgrow hat hlt')
        have hb1 := below_app' hb hown hgrow
        rw [strVals_snoc] at hown1
        clear hgrow hown heq
        go_roundw
        case rel => exact ⟨s.size + 1, by go_num, s.size + 1, out ++ [s.extract a s.size], by go_num, by rw [List.length_append]; exact hown1, hb1, .inr ⟨rfl, H1.out⟩⟩
        case measure => simp [RowKit.intOf]
    · subst hk hout
      have hform := hown.form (by have := cuts_ne c s.data.toList; have := List.length_pos_iff.2 this; simpa [pieces] using this)
      obtain ⟨g, cap, rfl, _, _⟩ := hform
      have hcap : (pieces s c).length ≤ cap := by
        rcases hown.2 with ⟨h, _⟩ | ⟨g', cap', cur, hv, _, _, hnc, _⟩
        · cases h
        · injection hv with _ _ e; omega
      have H := Lib.hid hown
      clear hown
      go_wp2_with fail
      go_ret
      exact ⟨g, cap, rfl, H.out, hb, hcap⟩
end Go.Proofs.YtahkaemdgelmdaaDoor
