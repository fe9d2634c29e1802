/- The laws' own szSender, toSender. Nothing here is a claim. -/
import Derived.Test.YtajekjjaaohbnaaKit
import Derived.Test.YtajekjjaaohbnaaBase
namespace Go.Proofs.Ytajekjjaaohbnaa
open Go.RowKit Go.Lib

theorem szSender_yes (u : Int) (d : ByteArray) (t : Int) (f : Bool) (g : Bool) (h : Bool) (n : Int) (w : World) (hn : n ≤ 1048576) (hsz_ : (d.size : Int) ≤ n) :
    Calls Try.prog 66 #[.agg #[.int .i64 u, .string d, .int .i64 t, .bool f, .bool g, .bool h], .int .i64 n] w fun e w' => e = .returned (.int .i64 (n - d.size)) ∧ Below w.heap.size w w' := by
  have h0 : (0 : Int) ≤ n - d.size := by omega
  go_enter Try.func66, Try.ntmps66
  go_wp2
  go_ret
  exact ⟨rfl, (Below.refl _ _).alloc (Nat.le_refl _) _⟩

theorem szSender_no (u : Int) (d : ByteArray) (t : Int) (f : Bool) (g : Bool) (h : Bool) (n : Int) (w : World) (hn : 0 ≤ n) (hm : d.size ≤ maxLen) (hsz_ : n < (d.size : Int)) :
    Calls Try.prog 66 #[.agg #[.int .i64 u, .string d, .int .i64 t, .bool f, .bool g, .bool h], .int .i64 n] w fun e w' => e = .returned (.int .i64 (-1)) ∧ Below w.heap.size w w' := by
  unfold maxLen at hm
  have h0 : n - d.size < 0 := by omega
  go_enter Try.func66, Try.ntmps66
  go_wp2
  go_ret
  exact ⟨rfl, (Below.refl _ _).alloc (Nat.le_refl _) _⟩

theorem toSender_any (u : Int) (d : ByteArray) (t : Int) (f : Bool) (g : Bool) (h : Bool) (w : World) :
    Calls Try.prog 72 #[.agg #[.int .i64 u, .string d, .int .i64 t, .bool f, .bool g, .bool h]] w fun e w' => e = .returned (.agg #[.int .i64 u, .string d, .int .i64 t, .bool f, .bool g, .bool h]) ∧ Below w.heap.size w w' := by
  go_enter Try.func72, Try.ntmps72
  go_wp2
  exact bodyPost_ret (v := .agg #[.int .i64 u, .string d, .int .i64 t, .bool f, .bool g, .bool h]) (by simp [results, Try.results72, go_sem]) rfl ⟨rfl, (((Below.refl _ _).alloc (Nat.le_refl _) _).alloc (by simp) _).alloc (by simp; omega) _⟩
end Go.Proofs.Ytajekjjaaohbnaa
