/- The laws' own eqPacket at two structs that are the same. Nothing here is a claim. -/
import Derived.Test.YtedndifhnmhgpaaDoorCells
import Derived.Test.YtedndifhnmhgpaaDoorBase
namespace Go.Proofs.YtedndifhnmhgpaaDoor
open Go.RowKit Go.Lib

theorem eqPacket_self (s : Int) (d : Int) (t : Int) (p : Int) (i : Int) (b : ByteArray) (w : World) :
    Calls Tryd.prog 17 #[.agg #[.int .i64 s, .int .i64 d, .int .i64 t, .int .i64 p, .int .i64 i, .string b], .agg #[.int .i64 s, .int .i64 d, .int .i64 t, .int .i64 p, .int .i64 i, .string b]] w fun e w' => e = .returned (.bool true) ∧ Below w.heap.size w w' := by
  go_enter Tryd.func17, Tryd.ntmps17
  go_wp2
  go_ret
  exact ⟨rfl, ((Below.refl _ _).alloc (Nat.le_refl _) _).alloc (by simp) _⟩
end Go.Proofs.YtedndifhnmhgpaaDoor
