/- KeyMac, both sides. Nothing here is a claim. -/
import Derived.Test.YtkmflfmbmmpohaaBase
namespace Go.Proofs.Ytkmflfmbmmpohaa
open Go.RowKit Go.Lib

theorem keyMacI (k l : Int) (w : World) : Calls Try.prog 28 #[.int .u64 k, .int .u64 l] w fun e w' => e = .returned (.agg #[.bool false, .int .u64 k, .int .u64 l, .slice none 0 0]) ∧ Below w.heap.size w w' := by
  go_enter Try.func28, Try.ntmps28
  go_wp2_with fail
  exact bodyPost_ret (v := .agg #[.bool false, .int .u64 k, .int .u64 l, .slice none 0 0]) (by simp [results, Try.results28, go_sem]) rfl ⟨rfl, (Below.refl _ _).alloc (Nat.le_refl _) _⟩
theorem keyMacS (k l : Int) (w : World) : Calls Try.prog 27 #[.int .u64 k, .int .u64 l] w fun e w' => e = .returned (.agg #[.bool false, .int .u64 k, .int .u64 l, .slice none 0 0]) ∧ Below w.heap.size w w' := by
  go_enter Try.func27, Try.ntmps27
  go_wp2_with fail
  exact bodyPost_ret (v := .agg #[.bool false, .int .u64 k, .int .u64 l, .slice none 0 0]) (by simp [results, Try.results27, go_sem]) rfl ⟨rfl, (Below.refl _ _).alloc (Nat.le_refl _) _⟩
end Go.Proofs.Ytkmflfmbmmpohaa
