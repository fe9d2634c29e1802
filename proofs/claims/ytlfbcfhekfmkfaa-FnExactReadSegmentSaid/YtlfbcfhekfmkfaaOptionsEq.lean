/- The laws' own eqOptions at two structs that are the same. Nothing here is a claim. -/
import Derived.Test.YtlfbcfhekfmkfaaOptKit
import Derived.Test.YtlfbcfhekfmkfaaBase
namespace Go.Proofs.Ytlfbcfhekfmkfaa
open Go.RowKit Go.Lib

theorem eqOptions_self (m : Int) (c : Int) (k : Bool) (t : Bool) (v : Int) (u : Int) (w : World) :
    Calls Try.prog 57 #[.agg #[.int .i64 m, .int .i64 c, .bool k, .bool t, .int .i64 v, .int .i64 u], .agg #[.int .i64 m, .int .i64 c, .bool k, .bool t, .int .i64 v, .int .i64 u]] w fun e w' => e = .returned (.bool true) ∧ Below w.heap.size w w' := by
  go_enter Try.func57, Try.ntmps57
  go_wp2
  go_ret
  exact ⟨rfl, ((Below.refl _ _).alloc (Nat.le_refl _) _).alloc (by simp) _⟩
end Go.Proofs.Ytlfbcfhekfmkfaa
