/- The laws' own eqOptions at two structs that are the same. Nothing here is a claim. -/
import Derived.Test.YtajekjjaaohbnaaKit
import Derived.Test.YtajekjjaaohbnaaBase
namespace Go.Proofs.Ytajekjjaaohbnaa
open Go.RowKit Go.Lib

theorem eqOptions_self (m : Int) (c : Int) (k : Bool) (t : Bool) (v : Int) (u : Int) (w : World) :
    Calls Try.prog 63 #[.agg #[.int .i64 m, .int .i64 c, .bool k, .bool t, .int .i64 v, .int .i64 u], .agg #[.int .i64 m, .int .i64 c, .bool k, .bool t, .int .i64 v, .int .i64 u]] w fun e w' => e = .returned (.bool true) ∧ Below w.heap.size w w' := by
  go_enter Try.func63, Try.ntmps63
  go_wp2
  go_ret
  exact ⟨rfl, ((Below.refl _ _).alloc (Nat.le_refl _) _).alloc (by simp) _⟩
end Go.Proofs.Ytajekjjaaohbnaa
