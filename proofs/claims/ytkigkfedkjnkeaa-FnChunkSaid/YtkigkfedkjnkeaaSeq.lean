/- Chapter 4, both sides: SeqAdd, SeqDiff, SeqBelow, SeqUpTo, InWindow. -/
import Derived.Test.YtkigkfedkjnkeaaSeqKit
import Derived.Test.YtkigkfedkjnkeaaSeqA
namespace Go.Proofs.Ytkigkfedkjnkeaa
open Go.RowKit Go.Lib

set_option maxHeartbeats 400000 in
theorem seqAddI (a n : Int) (w : World) : Calls Try.prog 28 #[.int .i64 a, .int .i64 n] w fun e w' => e = .returned (.int .i64 (pl (a + n))) ∧ w = w' := by
  go_enter Try.func28, Try.ntmps28
  go_wp2
  go_ret
  refine ⟨?_, rfl⟩
  have e : bits BinOp.and IntKind.i64 (wrap64 (a + n)) 4294967295 = pl (a + n) := by rw [and_seq, wrap64_is]; unfold pl; omega
  rw [e]
  rfl

set_option maxHeartbeats 400000 in
theorem seqDiffI (a b : Int) (w : World) : Calls Try.prog 27 #[.int .i64 a, .int .i64 b] w fun e w' => e = .returned (.int .i64 (df a b)) ∧ w = w' := by
  go_enter Try.func27, Try.ntmps27
  go_wp2
  go_ret
  refine ⟨?_, rfl⟩
  have e : wrap64 (wrap32 (wrap64 (a - b))) = df a b := by rw [wrap64_is, wrap32_is, wrap64_is]; unfold df; omega
  rw [e]
  rfl

set_option maxHeartbeats 400000 in
theorem seqDiffS (a b : Int) (w : World) : Calls Try.prog 60 #[.int .i64 a, .int .i64 b] w fun e w' => e = .returned (.int .i64 (df a b)) ∧ w = w' := by
  obtain ⟨d, hd⟩ : ∃ d, Hid (pl (pl a - pl b) = d) := ⟨_, Lib.hid rfl⟩
  have h3 : 0 ≤ d ∧ d ≤ 4294967295 := by rw [← hd.out]; exact pl_bd _
  by_cases h : 2147483647 < d
  · rw [show df a b = d - 4294967296 by have := hd.out; unfold pl at this; unfold df; omega]
    go_enter Try.func60, Try.ntmps60
    go_wp2_with fail
    refine (restS _ _).mono ?_
    rintro e w1 ⟨rfl, rfl⟩
    go_wp2_with fail
    refine (restS _ _).mono ?_
    rintro e w1 ⟨rfl, rfl⟩
    have h1 := pl_bd a
    have h2 := pl_bd b
    go_wp2_with fail
    refine (restS _ _).mono ?_
    rintro e w1 ⟨rfl, rfl⟩
    rw [hd.out]
    go_wp2_with fail
    go_ret
    exact ⟨rfl, rfl⟩
  · rw [show df a b = d by have := hd.out; unfold pl at this; unfold df; omega]
    go_enter Try.func60, Try.ntmps60
    go_wp2_with fail
    refine (restS _ _).mono ?_
    rintro e w1 ⟨rfl, rfl⟩
    go_wp2_with fail
    refine (restS _ _).mono ?_
    rintro e w1 ⟨rfl, rfl⟩
    have h1 := pl_bd a
    have h2 := pl_bd b
    go_wp2_with fail
    refine (restS _ _).mono ?_
    rintro e w1 ⟨rfl, rfl⟩
    rw [hd.out]
    go_wp2_with fail
    go_ret
    exact ⟨rfl, rfl⟩

/-- What orderOf answers. -/
def ordOf (a b : Int) : Int := if df a b < 0 then 0 else if 0 < df a b then 2 else 1
/-- What InWindow answers. -/
def inW (x f s : Int) : Bool := decide (pl (x - f) < s)
end Go.Proofs.Ytkigkfedkjnkeaa
