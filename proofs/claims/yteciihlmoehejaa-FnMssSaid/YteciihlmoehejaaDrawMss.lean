/- The draw DrawMssIndex. Nothing here is a claim. -/
import Derived.Test.YteciihlmoehejaaPickNew
namespace Go.Proofs.Yteciihlmoehejaa
open Go.RowKit Go.Lib

def mssCs : Array Value := #[.int .i64 0, .int .i64 63, .int .i64 64, .int .i64 255, .int .i64 256, .int .i64 535, .int .i64 536, .int .i64 1024, .int .i64 1299, .int .i64 1300, .int .i64 1400, .int .i64 1439, .int .i64 1440, .int .i64 1459, .int .i64 1460, .int .i64 65535, .int .i64 (-1), .int .i64 9223372036854775807]
theorem mssCs_bd : ∀ v ∈ mssCs.toList, ∃ x, v = .int .i64 x ∧ I64 x := by
  intro v hv
  simp only [mssCs, List.mem_cons, List.mem_nil_iff, or_false] at hv
  unfold I64
  rcases hv with rfl | rfl | rfl | rfl | rfl | rfl | rfl | rfl | rfl | rfl | rfl | rfl | rfl | rfl | rfl | rfl | rfl | rfl <;> exact ⟨_, rfl, by decide⟩
theorem pickMss (B g : Nat) (w : World) (hc : CurB w B g) : Calls Try.prog 31 #[.pointer (some ⟨g, 0, none⟩), .slice (some ⟨w.heap.size, 0, none⟩) 18 18] (w.alloc (.cells mssCs 3)) (WholeEnd w B g) :=
  pickNew B g w hc mssCs (by decide) (by decide) mssCs_bd

set_option maxRecDepth 100000 in
set_option maxHeartbeats 1000000 in
theorem drawMssIndex (a : Option Addr) (bs : List UInt8) (cap : Nat) (w : World) (hrow : Row w w.heap.size a (byteCells bs)) (hbs : bs.length ≤ 1048576) :
    Calls Try.prog 15 #[.slice a bs.length cap] w fun e w' => ∃ m : Int, e = .returned (.int .i64 m) ∧ I64 m ∧ Below w.heap.size w w' := by
  have C := Lib.hid (l1New_any a bs cap w hrow hbs)
  clear hrow
  go_enter Try.func15, Try.ntmps15
  go_wp2_with fail
  refine C.out.mono ?_
  rintro e w1 ⟨g, rfl, hc1, hb1⟩
  have C1 := Lib.hid (pickMss _ g w1 hc1)
  have K1 := Lib.hid hc1
  have B1 := Lib.hid hb1
  clear hc1 hb1
  go_wp2_with fail
  refine C1.out.mono ?_
  rintro e w2 ⟨n, rfl, hn, hc2, hg2⟩
  have N := Lib.hid hn
  have B2 := Lib.hid (below_new B1.out K1.out hg2)
  clear hn hc2 hg2
  go_wp2_with fail
  go_ret
  exact ⟨n, rfl, N.out, B2.out⟩
end Go.Proofs.Yteciihlmoehejaa
