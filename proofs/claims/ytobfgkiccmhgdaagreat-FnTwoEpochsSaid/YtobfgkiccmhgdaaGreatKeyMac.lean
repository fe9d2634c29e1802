/- KeyMac, of the model. Nothing here is a claim. -/
import Derived.Test.YtobfgkiccmhgdaaGreatBase
namespace Go.Proofs.YtobfgkiccmhgdaaGreat
open Go.RowKit Go.Lib

theorem keyMacS (k l : Int) (w : World) : Calls Tryz.prog 54 #[.int .u64 k, .int .u64 l] w fun e w' => e = .returned (.agg #[.bool false, .int .u64 k, .int .u64 l, .slice none 0 0]) ∧ Below w.heap.size w w' := by
  go_enter Tryz.func54, Tryz.ntmps54
  go_wp2_with fail
  exact bodyPost_ret (v := .agg #[.bool false, .int .u64 k, .int .u64 l, .slice none 0 0]) (by simp [results, Tryz.results54, go_sem]) rfl ⟨rfl, (Below.refl _ _).alloc (Nat.le_refl _) _⟩
end Go.Proofs.YtobfgkiccmhgdaaGreat
