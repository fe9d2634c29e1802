/- The laws' own szChunk, toChunk. Nothing here is a claim. -/
import Derived.Test.YtkigkfedkjnkeaaKit
import Derived.Test.YtkigkfedkjnkeaaBase
namespace Go.Proofs.Ytkigkfedkjnkeaa
open Go.RowKit Go.Lib

theorem szChunk_yes (q : Int) (x : ByteArray) (b : Bool) (n : Int) (w : World) (hn : n ≤ 1048576) (hsz_ : (x.size : Int) ≤ n) :
    Calls Try.prog 40 #[.agg #[.int .i64 q, .string x, .bool b], .int .i64 n] w fun e w' => e = .returned (.int .i64 (n - x.size)) ∧ Below w.heap.size w w' := by
  have h0 : (0 : Int) ≤ n - x.size := by omega
  go_enter Try.func40, Try.ntmps40
  go_wp2
  go_ret
  exact ⟨rfl, (Below.refl _ _).alloc (Nat.le_refl _) _⟩

theorem szChunk_no (q : Int) (x : ByteArray) (b : Bool) (n : Int) (w : World) (hn : 0 ≤ n) (hm : x.size ≤ maxLen) (hsz_ : n < (x.size : Int)) :
    Calls Try.prog 40 #[.agg #[.int .i64 q, .string x, .bool b], .int .i64 n] w fun e w' => e = .returned (.int .i64 (-1)) ∧ Below w.heap.size w w' := by
  unfold maxLen at hm
  have h0 : n - x.size < 0 := by omega
  go_enter Try.func40, Try.ntmps40
  go_wp2
  go_ret
  exact ⟨rfl, (Below.refl _ _).alloc (Nat.le_refl _) _⟩

theorem toChunk_any (q : Int) (x : ByteArray) (b : Bool) (w : World) :
    Calls Try.prog 41 #[.agg #[.int .i64 q, .string x, .bool b]] w fun e w' => e = .returned (.agg #[.int .i64 q, .string x, .bool b]) ∧ Below w.heap.size w w' := by
  go_enter Try.func41, Try.ntmps41
  go_wp2
  exact bodyPost_ret (v := .agg #[.int .i64 q, .string x, .bool b]) (by simp [results, Try.results41, go_sem]) rfl ⟨rfl, (((Below.refl _ _).alloc (Nat.le_refl _) _).alloc (by simp) _).alloc (by simp; omega) _⟩
end Go.Proofs.Ytkigkfedkjnkeaa
