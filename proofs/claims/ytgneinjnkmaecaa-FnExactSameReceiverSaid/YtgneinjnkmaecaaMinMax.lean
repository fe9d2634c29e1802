/- The model's l1Min and l1Max. Nothing here is a claim. -/
import Derived.Test.YtgneinjnkmaecaaBase
import Derived.Test.YtgneinjnkmaecaaKit
namespace Go.Proofs.Ytgneinjnkmaecaa
open Go.RowKit Go.Lib

theorem l1Min_mm (a b : Int) (w : World) : Calls Try.prog 59 #[.int .i64 a, .int .i64 b] w fun e w' => e = .returned (.int .i64 (min a b)) ∧ w = w' := by
  by_cases h : a < b
  · have e0 : min a b = a := by omega
    rw [e0]
    clear e0
    go_enter Try.func59, Try.ntmps59
    go_wp2
    go_ret
    exact ⟨rfl, rfl⟩
  · have e0 : min a b = b := by omega
    rw [e0]
    clear e0
    go_enter Try.func59, Try.ntmps59
    go_wp2
    go_ret
    exact ⟨rfl, rfl⟩
theorem l1Max_mm (a b : Int) (w : World) : Calls Try.prog 58 #[.int .i64 a, .int .i64 b] w fun e w' => e = .returned (.int .i64 (max a b)) ∧ w = w' := by
  by_cases h : b < a
  · have e0 : max a b = a := by omega
    rw [e0]
    clear e0
    go_enter Try.func58, Try.ntmps58
    go_wp2
    go_ret
    exact ⟨rfl, rfl⟩
  · have e0 : max a b = b := by omega
    rw [e0]
    clear e0
    go_enter Try.func58, Try.ntmps58
    go_wp2
    go_ret
    exact ⟨rfl, rfl⟩
end Go.Proofs.Ytgneinjnkmaecaa
