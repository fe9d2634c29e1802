/- impl.segmentFields: nine slices of one row. Nothing here is a claim. -/
import Derived.Test.YtlfbcfhekfmkfaaKit
import Derived.Test.YtlfbcfhekfmkfaaBase
namespace Go.Proofs.Ytlfbcfhekfmkfaa
open Go.RowKit Go.Lib

/-- The cells of the array of fields behind round number j. -/
def flC (b : Nat) : Nat → Array Value
  | 0 => #[.slice none 0 0, .slice none 0 0, .slice none 0 0, .slice none 0 0, .slice none 0 0, .slice none 0 0, .slice none 0 0, .slice none 0 0, .slice none 0 0]
  | 1 => #[.slice (some ⟨b, 0, none⟩) 2 2, .slice none 0 0, .slice none 0 0, .slice none 0 0, .slice none 0 0, .slice none 0 0, .slice none 0 0, .slice none 0 0, .slice none 0 0]
  | 2 => #[.slice (some ⟨b, 0, none⟩) 2 2, .slice (some ⟨b, 2, none⟩) 2 2, .slice none 0 0, .slice none 0 0, .slice none 0 0, .slice none 0 0, .slice none 0 0, .slice none 0 0, .slice none 0 0]
  | 3 => #[.slice (some ⟨b, 0, none⟩) 2 2, .slice (some ⟨b, 2, none⟩) 2 2, .slice (some ⟨b, 4, none⟩) 4 4, .slice none 0 0, .slice none 0 0, .slice none 0 0, .slice none 0 0, .slice none 0 0, .slice none 0 0]
  | 4 => #[.slice (some ⟨b, 0, none⟩) 2 2, .slice (some ⟨b, 2, none⟩) 2 2, .slice (some ⟨b, 4, none⟩) 4 4, .slice (some ⟨b, 8, none⟩) 4 4, .slice none 0 0, .slice none 0 0, .slice none 0 0, .slice none 0 0, .slice none 0 0]
  | 5 => #[.slice (some ⟨b, 0, none⟩) 2 2, .slice (some ⟨b, 2, none⟩) 2 2, .slice (some ⟨b, 4, none⟩) 4 4, .slice (some ⟨b, 8, none⟩) 4 4, .slice (some ⟨b, 12, none⟩) 1 1, .slice none 0 0, .slice none 0 0, .slice none 0 0, .slice none 0 0]
  | 6 => #[.slice (some ⟨b, 0, none⟩) 2 2, .slice (some ⟨b, 2, none⟩) 2 2, .slice (some ⟨b, 4, none⟩) 4 4, .slice (some ⟨b, 8, none⟩) 4 4, .slice (some ⟨b, 12, none⟩) 1 1, .slice (some ⟨b, 13, none⟩) 1 1, .slice none 0 0, .slice none 0 0, .slice none 0 0]
  | 7 => #[.slice (some ⟨b, 0, none⟩) 2 2, .slice (some ⟨b, 2, none⟩) 2 2, .slice (some ⟨b, 4, none⟩) 4 4, .slice (some ⟨b, 8, none⟩) 4 4, .slice (some ⟨b, 12, none⟩) 1 1, .slice (some ⟨b, 13, none⟩) 1 1, .slice (some ⟨b, 14, none⟩) 2 2, .slice none 0 0, .slice none 0 0]
  | 8 => #[.slice (some ⟨b, 0, none⟩) 2 2, .slice (some ⟨b, 2, none⟩) 2 2, .slice (some ⟨b, 4, none⟩) 4 4, .slice (some ⟨b, 8, none⟩) 4 4, .slice (some ⟨b, 12, none⟩) 1 1, .slice (some ⟨b, 13, none⟩) 1 1, .slice (some ⟨b, 14, none⟩) 2 2, .slice (some ⟨b, 16, none⟩) 2 2, .slice none 0 0]
  | _ => #[.slice (some ⟨b, 0, none⟩) 2 2, .slice (some ⟨b, 2, none⟩) 2 2, .slice (some ⟨b, 4, none⟩) 4 4, .slice (some ⟨b, 8, none⟩) 4 4, .slice (some ⟨b, 12, none⟩) 1 1, .slice (some ⟨b, 13, none⟩) 1 1, .slice (some ⟨b, 14, none⟩) 2 2, .slice (some ⟨b, 16, none⟩) 2 2, .slice (some ⟨b, 18, none⟩) 2 2]
/-- Where field j begins. -/
def flAt : Nat → Int
  | 0 => 0
  | 1 => 2
  | 2 => 4
  | 3 => 8
  | 4 => 12
  | 5 => 13
  | 6 => 14
  | 7 => 16
  | 8 => 18
  | _ => 20
/-- What segmentFields answers. -/
def flds (b : Nat) : Array Value := #[.slice (some ⟨b, 0, none⟩) 2 2, .slice (some ⟨b, 2, none⟩) 2 2, .slice (some ⟨b, 4, none⟩) 4 4, .slice (some ⟨b, 8, none⟩) 4 4, .slice (some ⟨b, 12, none⟩) 1 1, .slice (some ⟨b, 13, none⟩) 1 1, .slice (some ⟨b, 14, none⟩) 2 2, .slice (some ⟨b, 16, none⟩) 2 2, .slice (some ⟨b, 18, none⟩) 2 2]

set_option maxRecDepth 100000 in
set_option maxHeartbeats 4000000 in
theorem segmentFields_any (b len cap : Nat) (h : 20 ≤ cap) (w : World) :
    Calls Try.prog 35 #[.slice (some ⟨b, 0, none⟩) len cap] w fun e w' => e = .returned (.agg (flds b)) ∧ Below w.heap.size w w' := by
  have i0 : ∀ w, (Instr.index 59 (.agg #[.int .i64 2, .int .i64 2, .int .i64 4, .int .i64 4, .int .i64 1, .int .i64 1, .int .i64 2, .int .i64 2, .int .i64 2]) (.int .i64 0)).run Try.prog w = .ok (.int .i64 2) w := fun _ => by kernel_rfl
  have i1 : ∀ w, (Instr.index 59 (.agg #[.int .i64 2, .int .i64 2, .int .i64 4, .int .i64 4, .int .i64 1, .int .i64 1, .int .i64 2, .int .i64 2, .int .i64 2]) (.int .i64 1)).run Try.prog w = .ok (.int .i64 2) w := fun _ => by kernel_rfl
  have i2 : ∀ w, (Instr.index 59 (.agg #[.int .i64 2, .int .i64 2, .int .i64 4, .int .i64 4, .int .i64 1, .int .i64 1, .int .i64 2, .int .i64 2, .int .i64 2]) (.int .i64 2)).run Try.prog w = .ok (.int .i64 4) w := fun _ => by kernel_rfl
  have i3 : ∀ w, (Instr.index 59 (.agg #[.int .i64 2, .int .i64 2, .int .i64 4, .int .i64 4, .int .i64 1, .int .i64 1, .int .i64 2, .int .i64 2, .int .i64 2]) (.int .i64 3)).run Try.prog w = .ok (.int .i64 4) w := fun _ => by kernel_rfl
  have i4 : ∀ w, (Instr.index 59 (.agg #[.int .i64 2, .int .i64 2, .int .i64 4, .int .i64 4, .int .i64 1, .int .i64 1, .int .i64 2, .int .i64 2, .int .i64 2]) (.int .i64 4)).run Try.prog w = .ok (.int .i64 1) w := fun _ => by kernel_rfl
  have i5 : ∀ w, (Instr.index 59 (.agg #[.int .i64 2, .int .i64 2, .int .i64 4, .int .i64 4, .int .i64 1, .int .i64 1, .int .i64 2, .int .i64 2, .int .i64 2]) (.int .i64 5)).run Try.prog w = .ok (.int .i64 1) w := fun _ => by kernel_rfl
  have i6 : ∀ w, (Instr.index 59 (.agg #[.int .i64 2, .int .i64 2, .int .i64 4, .int .i64 4, .int .i64 1, .int .i64 1, .int .i64 2, .int .i64 2, .int .i64 2]) (.int .i64 6)).run Try.prog w = .ok (.int .i64 2) w := fun _ => by kernel_rfl
  have i7 : ∀ w, (Instr.index 59 (.agg #[.int .i64 2, .int .i64 2, .int .i64 4, .int .i64 4, .int .i64 1, .int .i64 1, .int .i64 2, .int .i64 2, .int .i64 2]) (.int .i64 7)).run Try.prog w = .ok (.int .i64 2) w := fun _ => by kernel_rfl
  have i8 : ∀ w, (Instr.index 59 (.agg #[.int .i64 2, .int .i64 2, .int .i64 4, .int .i64 4, .int .i64 1, .int .i64 1, .int .i64 2, .int .i64 2, .int .i64 2]) (.int .i64 8)).run Try.prog w = .ok (.int .i64 2) w := fun _ => by kernel_rfl
  go_enter Try.func35, Try.ntmps35
  go_wp2
  go_loopw [5, 10] (fun x i wr => ∃ j : Nat, j ≤ 9 ∧ i = .int .i64 j ∧ x = .int .i64 (flAt j) ∧ wr = ((w.alloc (.cells (flC b 0) 57)).alloc (.cells #[.int .i64 2, .int .i64 2, .int .i64 4, .int .i64 4, .int .i64 1, .int .i64 1, .int .i64 2, .int .i64 2, .int .i64 2] 59)).alloc (.cells (flC b j) 57))
    (fun _ i _ => 9 - (RowKit.intOf i).toNat)
  case atStart => exact ⟨0, Nat.zero_le _, rfl, rfl, rfl⟩
  case round =>
    obtain ⟨j, hj, rfl, rfl, rfl⟩ := hrel
    have h9 : j = 0 ∨ j = 1 ∨ j = 2 ∨ j = 3 ∨ j = 4 ∨ j = 5 ∨ j = 6 ∨ j = 7 ∨ j = 8 ∨ j = 9 := by omega
    clear hj
    rcases h9 with rfl | rfl | rfl | rfl | rfl | rfl | rfl | rfl | rfl | rfl
    · simp only [flC, flAt]
      go_wp2
      go_roundw
      case rel => exact ⟨1, by omega, rfl, rfl, rfl⟩
      case measure => simp [RowKit.intOf]
    · simp only [flC, flAt]
      go_wp2
      go_roundw
      case rel => exact ⟨2, by omega, rfl, rfl, rfl⟩
      case measure => simp [RowKit.intOf]
    · simp only [flC, flAt]
      go_wp2
      go_roundw
      case rel => exact ⟨3, by omega, rfl, rfl, rfl⟩
      case measure => simp [RowKit.intOf]
    · simp only [flC, flAt]
      go_wp2
      go_roundw
      case rel => exact ⟨4, by omega, rfl, rfl, rfl⟩
      case measure => simp [RowKit.intOf]
    · simp only [flC, flAt]
      go_wp2
      go_roundw
      case rel => exact ⟨5, by omega, rfl, rfl, rfl⟩
      case measure => simp [RowKit.intOf]
    · simp only [flC, flAt]
      go_wp2
      go_roundw
      case rel => exact ⟨6, by omega, rfl, rfl, rfl⟩
      case measure => simp [RowKit.intOf]
    · simp only [flC, flAt]
      go_wp2
      go_roundw
      case rel => exact ⟨7, by omega, rfl, rfl, rfl⟩
      case measure => simp [RowKit.intOf]
    · simp only [flC, flAt]
      go_wp2
      go_roundw
      case rel => exact ⟨8, by omega, rfl, rfl, rfl⟩
      case measure => simp [RowKit.intOf]
    · simp only [flC, flAt]
      go_wp2
      go_roundw
      case rel => exact ⟨9, by omega, rfl, rfl, rfl⟩
      case measure => simp [RowKit.intOf]
    · simp only [flC, flAt]
      go_wp2
      exact bodyPost_ret (v := .agg (flds b)) (by simp [results, Try.results35, go_sem, flds]) rfl ⟨rfl, (((Below.refl _ _).alloc (Nat.le_refl _) _).alloc (by simp) _).alloc (by simp; omega) _⟩
end Go.Proofs.Ytlfbcfhekfmkfaa
