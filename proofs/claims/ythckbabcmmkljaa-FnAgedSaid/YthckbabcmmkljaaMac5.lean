/- The draws' own l5Mac. -/
import Derived.Test.YthckbabcmmkljaaPickNew
namespace Go.Proofs.Ythckbabcmmkljaa
open Go.RowKit Go.Lib

def macCs : Array Value := #[.int .i64 11, .int .i64 12, .int .i64 13, .int .i64 281474976710655, .int .i64 0, .int .i64 2199023255552]
theorem macCs_bd : ∀ v ∈ macCs.toList, ∃ x, v = .int .i64 x ∧ I64 x := by
  intro v hv
  simp only [macCs, List.mem_cons, List.mem_nil_iff, or_false] at hv
  unfold I64
  rcases hv with rfl | rfl | rfl | rfl | rfl | rfl <;> exact ⟨_, rfl, by decide⟩
theorem pickMac (B g : Nat) (w : World) (hc : CurB w B g) : Calls Try.prog 46 #[.pointer (some ⟨g, 0, none⟩), .slice (some ⟨w.heap.size, 0, none⟩) 6 6] (w.alloc (.cells macCs 3)) (WholeEnd w B g) :=
  pickNew B g w hc macCs (by decide) (by decide) macCs_bd

set_option maxRecDepth 100000 in
set_option maxHeartbeats 1000000 in
theorem l5Mac_any (B g : Nat) (w : World) (hc : CurB w B g) : Calls Try.prog 32 #[.pointer (some ⟨g, 0, none⟩)] w (WholeEnd w B g) := by
  have C := Lib.hid (pickMac B g w hc)
  clear hc
  go_enter Try.func32, Try.ntmps32
  go_wp2_with fail
  refine C.out.mono ?_
  rintro e w1 ⟨n, rfl, hn, hc1, hg1⟩
  have N := Lib.hid hn
  have C1 := Lib.hid hc1
  have G1 := Lib.hid hg1
  clear hn hc1 hg1
  go_wp2_with fail
  go_ret
  exact ⟨n, rfl, N.out, C1.out, G1.out⟩
end Go.Proofs.Ythckbabcmmkljaa
