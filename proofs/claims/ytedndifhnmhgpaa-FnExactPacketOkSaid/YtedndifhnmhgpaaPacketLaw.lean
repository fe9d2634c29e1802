/- The laws' own szPacket, toPacket. Nothing here is a claim. -/
import Derived.Test.YtedndifhnmhgpaaCells
import Derived.Test.YtedndifhnmhgpaaBase
namespace Go.Proofs.Ytedndifhnmhgpaa
open Go.RowKit Go.Lib

theorem szPacket_yes (s : Int) (d : Int) (t : Int) (p : Int) (i : Int) (b : ByteArray) (n : Int) (w : World) (hn : n ≤ 1048576) (h : (b.size : Int) ≤ n) :
    Calls Try.prog 6 #[.agg #[.int .i64 s, .int .i64 d, .int .i64 t, .int .i64 p, .int .i64 i, .string b], .int .i64 n] w fun e w' => e = .returned (.int .i64 (n - b.size)) ∧ Below w.heap.size w w' := by
  have h0 : (0 : Int) ≤ n - b.size := by omega
  go_enter Try.func6, Try.ntmps6
  go_wp2
  go_ret
  exact ⟨rfl, (Below.refl _ _).alloc (Nat.le_refl _) _⟩

theorem szPacket_no (s : Int) (d : Int) (t : Int) (p : Int) (i : Int) (b : ByteArray) (n : Int) (w : World) (hn : 0 ≤ n) (hm : b.size ≤ maxLen) (h : n < (b.size : Int)) :
    Calls Try.prog 6 #[.agg #[.int .i64 s, .int .i64 d, .int .i64 t, .int .i64 p, .int .i64 i, .string b], .int .i64 n] w fun e w' => e = .returned (.int .i64 (-1)) ∧ Below w.heap.size w w' := by
  unfold maxLen at hm
  have h0 : n - b.size < 0 := by omega
  go_enter Try.func6, Try.ntmps6
  go_wp2
  go_ret
  exact ⟨rfl, (Below.refl _ _).alloc (Nat.le_refl _) _⟩

theorem toPacket_any (s : Int) (d : Int) (t : Int) (p : Int) (i : Int) (b : ByteArray) (w : World) :
    Calls Try.prog 8 #[.agg #[.int .i64 s, .int .i64 d, .int .i64 t, .int .i64 p, .int .i64 i, .string b]] w fun e w' => e = .returned (.agg #[.int .i64 s, .int .i64 d, .int .i64 t, .int .i64 p, .int .i64 i, .string b]) ∧ Below w.heap.size w w' := by
  go_enter Try.func8, Try.ntmps8
  go_wp2
  exact bodyPost_ret (v := .agg #[.int .i64 s, .int .i64 d, .int .i64 t, .int .i64 p, .int .i64 i, .string b]) (by simp [results, Try.results8, go_sem]) rfl ⟨rfl, (((Below.refl _ _).alloc (Nat.le_refl _) _).alloc (by simp) _).alloc (by simp; omega) _⟩
end Go.Proofs.Ytedndifhnmhgpaa
