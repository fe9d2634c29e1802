/- KeyMac, of the model. Nothing here is a claim. -/
import Derived.Test.YtobfgkiccmhgdaaBase
namespace Go.Proofs.Ytobfgkiccmhgdaa
open Go.RowKit Go.Lib

theorem keyMacS (k l : Int) (w : World) : Calls Try.prog 74 #[.int .u64 k, .int .u64 l] w fun e w' => e = .returned (.agg #[.bool false, .int .u64 k, .int .u64 l, .slice none 0 0]) ∧ Below w.heap.size w w' := by
  go_enter Try.func74, Try.ntmps74
  go_wp2_with fail
  exact bodyPost_ret (v := .agg #[.bool false, .int .u64 k, .int .u64 l, .slice none 0 0]) (by simp [results, Try.results74, go_sem]) rfl ⟨rfl, (Below.refl _ _).alloc (Nat.le_refl _) _⟩
end Go.Proofs.Ytobfgkiccmhgdaa
