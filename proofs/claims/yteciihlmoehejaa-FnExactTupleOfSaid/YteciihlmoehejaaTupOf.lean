/- TupleOf, of the model and of the program. Nothing here is a claim. -/
import Derived.Test.YteciihlmoehejaaBase
import Derived.Test.YteciihlmoehejaaKit
namespace Go.Proofs.Yteciihlmoehejaa
open Go.RowKit Go.Lib

set_option maxRecDepth 100000 in
set_option maxHeartbeats 2000000 in
theorem tupleOfS (x : Int) (p d q a g n : Int) (m c : Int) (k t : Bool) (v u : Int) (b : ByteArray) (w : World) :
    Calls Try.prog 24 #[.int .i64 x, .agg #[.int .i64 p, .int .i64 d, .int .i64 q, .int .i64 a, .int .i64 g, .int .i64 n, .int .i64 m, .int .i64 c, .bool k, .bool t, .int .i64 v, .int .i64 u, .string b]] w fun e w' => e = .returned (.agg #[.int .i64 x, .int .i64 p, .int .i64 d]) ∧ Below w.heap.size w w' := by
  go_enter Try.func24, Try.ntmps24
  go_wp2_with fail
  exact bodyPost_ret (v := .agg #[.int .i64 x, .int .i64 p, .int .i64 d]) (by simp [results, Try.results24, go_sem]) rfl ⟨rfl, ((Below.refl _ _).alloc (Nat.le_refl _) _).alloc (by simp) _⟩

set_option maxRecDepth 100000 in
set_option maxHeartbeats 2000000 in
theorem tupleOfI (x : Int) (p d q a g n : Int) (m c : Int) (k t : Bool) (v u : Int) (b : ByteArray) (w : World) :
    Calls Try.prog 26 #[.int .i64 x, .agg #[.int .i64 p, .int .i64 d, .int .i64 q, .int .i64 a, .int .i64 g, .int .i64 n, .int .i64 m, .int .i64 c, .bool k, .bool t, .int .i64 v, .int .i64 u, .string b]] w fun e w' => e = .returned (.agg #[.int .i64 x, .int .i64 p, .int .i64 d]) ∧ Below w.heap.size w w' := by
  go_enter Try.func26, Try.ntmps26
  go_wp2_with fail
  exact bodyPost_ret (v := .agg #[.int .i64 x, .int .i64 p, .int .i64 d]) (by simp [results, Try.results26, go_sem]) rfl ⟨rfl, ((Below.refl _ _).alloc (Nat.le_refl _) _).alloc (by simp) _⟩

end Go.Proofs.Yteciihlmoehejaa
