/- The laws' own eqSegment at two structs that are the same. Nothing here is a claim. -/
import Derived.Test.YtajekjjaaohbnaaOptionsEq
import Derived.Test.YtajekjjaaohbnaaBase
import Derived.Test.YtajekjjaaohbnaaKit
namespace Go.Proofs.Ytajekjjaaohbnaa
open Go.RowKit Go.Lib

set_option maxRecDepth 100000 in
set_option maxHeartbeats 4000000 in
theorem eqSegment_self (p d q a g n : Int) (m c : Int) (k t : Bool) (v u : Int) (b : ByteArray) (w : World) :
    Calls Try.prog 31 #[.agg #[.int .i64 p, .int .i64 d, .int .i64 q, .int .i64 a, .int .i64 g, .int .i64 n, .int .i64 m, .int .i64 c, .bool k, .bool t, .int .i64 v, .int .i64 u, .string b], .agg #[.int .i64 p, .int .i64 d, .int .i64 q, .int .i64 a, .int .i64 g, .int .i64 n, .int .i64 m, .int .i64 c, .bool k, .bool t, .int .i64 v, .int .i64 u, .string b]] w fun e w' => e = .returned (.bool true) ∧ Below w.heap.size w w' := by
  have T := Lib.hid (eqOptions_self m c k t v u)
  go_enter Try.func31, Try.ntmps31
  go_wp2_with fail
  refine (T.out _).mono ?_
  rintro e w1 ⟨rfl, hb⟩
  have s1 : (w.alloc (.cells #[.int .i64 p, .int .i64 d, .int .i64 q, .int .i64 a, .int .i64 g, .int .i64 n, .int .i64 m, .int .i64 c, .bool k, .bool t, .int .i64 v, .int .i64 u, .string b] 40)).heap.size = w.heap.size + 1 := by simp
  have B3 : Below w.heap.size w ((w.alloc (.cells #[.int .i64 p, .int .i64 d, .int .i64 q, .int .i64 a, .int .i64 g, .int .i64 n, .int .i64 m, .int .i64 c, .bool k, .bool t, .int .i64 v, .int .i64 u, .string b] 40)).alloc (.cells #[.int .i64 p, .int .i64 d, .int .i64 q, .int .i64 a, .int .i64 g, .int .i64 n, .int .i64 m, .int .i64 c, .bool k, .bool t, .int .i64 v, .int .i64 u, .string b] 40)) := (((Below.refl w.heap.size w).alloc (Nat.le_refl _) _).alloc (by simp) _)
  have b1 := Lib.hid (B3.trans (hb.mono B3.size))
  have k1 := (((HasC.new w #[.int .i64 p, .int .i64 d, .int .i64 q, .int .i64 a, .int .i64 g, .int .i64 n, .int .i64 m, .int .i64 c, .bool k, .bool t, .int .i64 v, .int .i64 u, .string b] 40).alloc (.cells #[.int .i64 p, .int .i64 d, .int .i64 q, .int .i64 a, .int .i64 g, .int .i64 n, .int .i64 m, .int .i64 c, .bool k, .bool t, .int .i64 v, .int .i64 u, .string b] 40)).keep hb).at 12 rfl
  have k2 := ((HasC.new (w.alloc (.cells #[.int .i64 p, .int .i64 d, .int .i64 q, .int .i64 a, .int .i64 g, .int .i64 n, .int .i64 m, .int .i64 c, .bool k, .bool t, .int .i64 v, .int .i64 u, .string b] 40)) #[.int .i64 p, .int .i64 d, .int .i64 q, .int .i64 a, .int .i64 g, .int .i64 n, .int .i64 m, .int .i64 c, .bool k, .bool t, .int .i64 v, .int .i64 u, .string b] 40).keep hb)
  rw [s1] at k2
  have k3 := k2.at 12 rfl
  have hg := k2.1
  clear k2 s1 B3 hb
  go_wp2_with fail
  go_ret
  exact ⟨rfl, b1.out⟩
end Go.Proofs.Ytajekjjaaohbnaa
