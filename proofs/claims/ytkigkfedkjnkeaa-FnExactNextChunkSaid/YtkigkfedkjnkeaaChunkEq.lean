/- The laws' own eqChunk at two structs that are the same. Nothing here is a claim. -/
import Derived.Test.YtkigkfedkjnkeaaKit
import Derived.Test.YtkigkfedkjnkeaaBase
namespace Go.Proofs.Ytkigkfedkjnkeaa
open Go.RowKit Go.Lib

theorem eqChunk_self (q : Int) (x : ByteArray) (b : Bool) (w : World) :
    Calls Try.prog 39 #[.agg #[.int .i64 q, .string x, .bool b], .agg #[.int .i64 q, .string x, .bool b]] w fun e w' => e = .returned (.bool true) ∧ Below w.heap.size w w' := by
  go_enter Try.func39, Try.ntmps39
  go_wp2
  go_ret
  exact ⟨rfl, ((Below.refl _ _).alloc (Nat.le_refl _) _).alloc (by simp) _⟩
end Go.Proofs.Ytkigkfedkjnkeaa
