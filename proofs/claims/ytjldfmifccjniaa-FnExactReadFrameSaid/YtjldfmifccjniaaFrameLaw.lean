/- The laws' own szFrame, toFrame, eqFrame. Nothing here is a claim. -/
import Derived.Test.YtjldfmifccjniaaFrameKit
import Derived.Test.YtjldfmifccjniaaBase
namespace Go.Proofs.Ytjldfmifccjniaa
open Go.RowKit Go.Lib

theorem szFrame_yes (d s t n : Int) (b : ByteArray) (w : World) (hn : n ≤ 1048576) (h : (b.size : Int) ≤ n) :
    Calls Try.prog 16 #[.agg #[.int .i64 d, .int .i64 s, .int .i64 t, .string b], .int .i64 n] w fun e w' => e = .returned (.int .i64 (n - b.size)) ∧ Below w.heap.size w w' := by
  have h0 : (0 : Int) ≤ n - b.size := by omega
  go_enter Try.func16, Try.ntmps16
  go_wp2
  go_ret
  exact ⟨rfl, (Below.refl _ _).alloc (Nat.le_refl _) _⟩

theorem szFrame_no (d s t n : Int) (b : ByteArray) (w : World) (hn : 0 ≤ n) (hm : b.size ≤ maxLen) (h : n < (b.size : Int)) :
    Calls Try.prog 16 #[.agg #[.int .i64 d, .int .i64 s, .int .i64 t, .string b], .int .i64 n] w fun e w' => e = .returned (.int .i64 (-1)) ∧ Below w.heap.size w w' := by
  unfold maxLen at hm
  have h0 : n - b.size < 0 := by omega
  go_enter Try.func16, Try.ntmps16
  go_wp2
  go_ret
  exact ⟨rfl, (Below.refl _ _).alloc (Nat.le_refl _) _⟩

theorem toFrame_any (d s t : Int) (b : ByteArray) (w : World) :
    Calls Try.prog 18 #[.agg #[.int .i64 d, .int .i64 s, .int .i64 t, .string b]] w fun e w' => e = .returned (.agg #[.int .i64 d, .int .i64 s, .int .i64 t, .string b]) ∧ Below w.heap.size w w' := by
  go_enter Try.func18, Try.ntmps18
  go_wp2
  exact bodyPost_ret (v := .agg #[.int .i64 d, .int .i64 s, .int .i64 t, .string b]) (by simp [results, Try.results18, go_sem]) rfl ⟨rfl, (((Below.refl _ _).alloc (Nat.le_refl _) _).alloc (by simp) _).alloc (by simp; omega) _⟩

/-- Two frames are compared field by field. -/
def eqFr (d s t d2 s2 t2 : Int) (b b2 : ByteArray) : Bool := decide (d = d2 ∧ s = s2 ∧ t = t2 ∧ b = b2)
theorem eqFr_self (d s t : Int) (b : ByteArray) : eqFr d s t d s t b b = true := by simp [eqFr]

theorem eqFrame_self (d s t : Int) (b : ByteArray) (w : World) :
    Calls Try.prog 19 #[.agg #[.int .i64 d, .int .i64 s, .int .i64 t, .string b], .agg #[.int .i64 d, .int .i64 s, .int .i64 t, .string b]] w fun e w' => e = .returned (.bool true) ∧ Below w.heap.size w w' := by
  go_enter Try.func19, Try.ntmps19
  go_wp2
  go_ret
  exact ⟨rfl, ((Below.refl _ _).alloc (Nat.le_refl _) _).alloc (by simp) _⟩
end Go.Proofs.Ytjldfmifccjniaa
