/- The laws' own eqSender at two structs that are the same. Nothing here is a claim. -/
import Derived.Test.YtajekjjaaohbnaaKit
import Derived.Test.YtajekjjaaohbnaaBase
namespace Go.Proofs.Ytajekjjaaohbnaa
open Go.RowKit Go.Lib

theorem eqSender_self (u : Int) (d : ByteArray) (t : Int) (f : Bool) (g : Bool) (h : Bool) (w : World) :
    Calls Try.prog 61 #[.agg #[.int .i64 u, .string d, .int .i64 t, .bool f, .bool g, .bool h], .agg #[.int .i64 u, .string d, .int .i64 t, .bool f, .bool g, .bool h]] w fun e w' => e = .returned (.bool true) ∧ Below w.heap.size w w' := by
  go_enter Try.func61, Try.ntmps61
  go_wp2
  go_ret
  exact ⟨rfl, ((Below.refl _ _).alloc (Nat.le_refl _) _).alloc (by simp) _⟩
end Go.Proofs.Ytajekjjaaohbnaa
