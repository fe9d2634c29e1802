/- The laws' own eqOptions at two structs that are the same. Nothing here is a claim. -/
import Derived.Test.YtifgaojgnaafbaaKit
import Derived.Test.YtifgaojgnaafbaaBase
namespace Go.Proofs.Ytifgaojgnaafbaa
open Go.RowKit Go.Lib

theorem eqOptions_self (m : Int) (c : Int) (k : Bool) (t : Bool) (v : Int) (u : Int) (w : World) :
    Calls Try.prog 27 #[.agg #[.int .i64 m, .int .i64 c, .bool k, .bool t, .int .i64 v, .int .i64 u], .agg #[.int .i64 m, .int .i64 c, .bool k, .bool t, .int .i64 v, .int .i64 u]] w fun e w' => e = .returned (.bool true) ∧ Below w.heap.size w w' := by
  go_enter Try.func27, Try.ntmps27
  go_wp2
  go_ret
  exact ⟨rfl, ((Below.refl _ _).alloc (Nat.le_refl _) _).alloc (by simp) _⟩
end Go.Proofs.Ytifgaojgnaafbaa
