/- What a new connection is; scaledWindow. Nothing here is a claim. -/
import Derived.Test.YtajekjjaaohbnaaConnKit
import Derived.Test.YtajekjjaaohbnaaSndPos
import Derived.Test.YtajekjjaaohbnaaCurA
namespace Go.Proofs.Ytajekjjaaohbnaa
open Go.RowKit Go.Lib

/-- The options that a new connection keeps. -/
def cnO (o : Opt) : Opt := bif optOk o then o else ⟨0, -1, false, false, 0, 0⟩
def cnWd (wd : Int) : Int := bif wordOk wd 16 then wd else 0
/-- A window as the options mean it. -/
def scaled (wd c : Int) : Int := wrap64 (wd * 2 ^ min (max c 0).toNat 64)
/-- What ConnNew answers. -/
def EndCN (p q r i j : Int) (o : Opt) (ms : Int) (w : World) (e : Ending) (w' : World) : Prop := e = .returned (.agg #[.int .i64 p, .int .i64 q, .int .i64 r, .int .i64 1, .int .i64 i, .string ⟨#[]⟩, .int .i64 0, .bool false, .bool false, .bool false, .int .i64 j, .string ⟨#[]⟩, .slice none 0 0, .int .i64 (-1), .bool false, .int .i64 ms, .int .i64 ms, .int .i64 o.m, .int .i64 o.c, .bool o.k, .bool o.t, .int .i64 o.v, .int .i64 o.e, .int .i64 0, .int .i64 0]) ∧ Below w.heap.size w w'
theorem cnO_scale (o : Opt) : (cnO o).c ≤ 14 := by
  unfold cnO
  cases h : optOk o with
  | false => exact (by decide : (-1 : Int) ≤ 14)
  | true => unfold optOk at h; simp only [Bool.and_eq_true, decide_eq_true_eq] at h; exact h.1.2.2

set_option maxHeartbeats 2000000 in
theorem scaledI (wd m c : Int) (k s : Bool) (v x : Int) (w : World) : Calls Try.prog 45 #[.int .i64 wd, .agg #[.int .i64 m, .int .i64 c, .bool k, .bool s, .int .i64 v, .int .i64 x]] w (SndI (scaled wd c) w) := by
  have h0 : (0 : Int) ≤ max c 0 := by omega
  unfold scaled
  go_enter Try.func45, Try.ntmps45
  go_wp2_with fail
  go_ret
  exact ⟨rfl, (Below.refl _ _).alloc (Nat.le_refl _) _⟩
theorem scaledS (wd c : Int) (h : c ≤ 14) : IntKind.u64.wrap (max 0 c) = max 0 c ∧ Op.shift .shl .i64 wd .u64 (max 0 c) = pure (.int .i64 (scaled wd c)) := by
  refine ⟨?_, ?_⟩
  · exact IntWalk.u64_in _ ⟨by omega, by omega⟩
  · rw [shift_shl_any _ _ _ _ (by omega)]
    unfold scaled
    rw [show max 0 c = max c 0 by omega, show IntKind.i64.bits = 64 from rfl]
    rw [IntWalk.i64_left]

end Go.Proofs.Ytajekjjaaohbnaa
