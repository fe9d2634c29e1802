/- The draws' own l6Ip. -/
import Derived.Test.YtajekjjaaohbnaaCurA
namespace Go.Proofs.Ytajekjjaaohbnaa
open Go.RowKit Go.Lib

def ipCs : Array Value := #[.int .i64 167772161, .int .i64 167772162, .int .i64 167772163, .int .i64 0, .int .i64 4294967295]
theorem ipCs_bd : ∀ v ∈ ipCs.toList, ∃ x, v = .int .i64 x ∧ I64 x := by
  intro v hv
  simp only [ipCs, List.mem_cons, List.mem_nil_iff, or_false] at hv
  unfold I64
  rcases hv with rfl | rfl | rfl | rfl | rfl <;> exact ⟨_, rfl, by decide⟩
theorem pickIp (B g : Nat) (w : World) (hc : CurB w B g) : Calls Try.prog 39 #[.pointer (some ⟨g, 0, none⟩), .slice (some ⟨w.heap.size, 0, none⟩) 5 5] (w.alloc (.cells ipCs 3)) (WholeEnd w B g) :=
  pickNew B g w hc ipCs (by decide) (by decide) ipCs_bd

set_option maxRecDepth 100000 in
set_option maxHeartbeats 1000000 in
theorem l6Ip_any (B g : Nat) (w : World) (hc : CurB w B g) : Calls Try.prog 96 #[.pointer (some ⟨g, 0, none⟩)] w (WholeEnd w B g) := by
  have C := Lib.hid (pickIp B g w hc)
  clear hc
  go_enter Try.func96, Try.ntmps96
  go_wp2_with fail
  refine C.out.mono ?_
  rintro e w1 ⟨n, rfl, hn, hc1, hg1⟩
  have N := Lib.hid hn
  have C1 := Lib.hid hc1
  have G1 := Lib.hid hg1
  clear hn hc1 hg1
  go_wp2_with fail
  go_ret
  exact ⟨n, rfl, N.out, C1.out, G1.out⟩

end Go.Proofs.Ytajekjjaaohbnaa
