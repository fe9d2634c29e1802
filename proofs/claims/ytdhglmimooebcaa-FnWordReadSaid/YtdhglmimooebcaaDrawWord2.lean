/- DrawPutWord, DrawGetWord. -/
import Derived.Test.YtdhglmimooebcaaDrawWord
namespace Go.Proofs.Ytdhglmimooebcaa
open Go.RowKit Go.Lib

set_option maxHeartbeats 1000000 in
theorem drawPutWord (a : Option Addr) (bs : List UInt8) (cap : Nat) (w : World) (hrow : Row w w.heap.size a (byteCells bs)) (hbs : bs.length ≤ 1048576) :
    Calls Try.prog 9 #[.slice a bs.length cap] w fun e w' => ∃ n s : Int, e = .returned (.tuple #[.int .i64 n, .int .i64 s]) ∧ I64 n ∧ (-1 ≤ s ∧ s ≤ 7) ∧ Below w.heap.size w w' := by
  have C := Lib.hid (l1New_any a bs cap w hrow hbs)
  clear hrow
  go_enter Try.func9, Try.ntmps9
  go_wp2_with fail
  refine C.out.mono ?_
  rintro e w1 ⟨g, rfl, hc1, hb1⟩
  have C1 := Lib.hid hc1
  have B1 := Lib.hid hb1
  clear hc1 hb1
  go_wp2_with fail
  refine (l2Word_any _ g w1 C1.out).mono ?_
  rintro e w2 ⟨n, rfl, hn, hc2, hg2⟩
  have N := Lib.hid hn
  have B2 := Lib.hid (below_new B1.out C1.out hg2)
  have C2 := Lib.hid hc2
  clear hn hc2 hg2
  go_wp2_with fail
  refine (l1Below_pos _ g w2 C2.out 9 (by omega) (by omega)).mono ?_
  rintro e w3 ⟨r, rfl, ⟨r0, r1⟩, hc3, hg3⟩
  have B3 := Lib.hid (below_new B2.out C2.out hg3)
  clear hc3 hg3
  go_wp2_with fail
  go_ret2
  exact ⟨n, _, rfl, N.out, ⟨by omega, by omega⟩, B3.out⟩

/-- The places among which DrawGetWord picks. -/
def getCs (n : Nat) : Array Value := #[.int .i64 0, .int .i64 1, .int .i64 2, .int .i64 ((n : Int) - 2), .int .i64 n, .int .i64 (-1), .int .i64 9223372036854775807, .int .i64 (-9223372036854775808)]
theorem getCs_bd (n : Nat) (h : n ≤ 1000) : ∀ v ∈ (getCs n).toList, ∃ x, v = .int .i64 x ∧ I64 x := by
  intro v hv
  simp only [getCs, List.mem_cons, List.mem_nil_iff, or_false] at hv
  unfold I64
  rcases hv with rfl | rfl | rfl | rfl | rfl | rfl | rfl | rfl <;> exact ⟨_, rfl, by omega⟩

set_option maxRecDepth 100000 in
set_option maxHeartbeats 1000000 in
theorem drawGetWord (a : Option Addr) (bs : List UInt8) (cap : Nat) (w : World) (hrow : Row w w.heap.size a (byteCells bs)) (hbs : bs.length ≤ 1048576) :
    Calls Try.prog 14 #[.slice a bs.length cap] w fun e w' => ∃ (s : ByteArray) (n k : Int), e = .returned (.tuple #[.string s, .int .i64 n, .int .i64 k]) ∧ s.size ≤ 12 ∧ I64 n ∧ (-1 ≤ k ∧ k ≤ 7) ∧ Below w.heap.size w w' := by
  have C := Lib.hid (l1New_any a bs cap w hrow hbs)
  clear hrow
  go_enter Try.func14, Try.ntmps14
  go_wp2_with fail
  refine C.out.mono ?_
  rintro e w1 ⟨g, rfl, hc1, hb1⟩
  have C1 := Lib.hid hc1
  have B1 := Lib.hid hb1
  clear hc1 hb1
  go_wp2_with fail
  refine (l1Below_pos _ g w1 C1.out 9 (by omega) (by omega)).mono ?_
  rintro e w2 ⟨r, rfl, ⟨r0, r1⟩, hc2, hg2⟩
  obtain ⟨n, rfl⟩ : ∃ n : Nat, r = (n : Int) := ⟨r.toNat, by omega⟩
  have B2 := Lib.hid (below_new B1.out C1.out hg2)
  have C2 := Lib.hid hc2
  clear hc2 hg2
  go_wp2_with fail
  refine (l1Bytes_any _ g n w2 C2.out (by omega)).mono ?_
  rintro e w3 ⟨v, l, rfl, hl, hown, hc3, hg3⟩
  have hcv := run_string_own (P := Try.prog) Try.underlying22 Try.underlying5 Try.underlying9 hown
  obtain ⟨s, hs⟩ : ∃ s : ByteArray, (⟨l.toArray⟩ : ByteArray) = s := ⟨_, rfl⟩
  have hsz : s.size ≤ 12 := by rw [← hs]; simp [ByteArray.size]; omega
  rw [hs] at hcv
  have B3 := Lib.hid (below_new B2.out C2.out hg3)
  have C3 := Lib.hid hc3
  clear hc3 hg3 hown hl hs
  go_wp2_with fail
  refine (pickNew _ g w3 C3.out (getCs s.size) (by simp [getCs]) (by simp [getCs]) (getCs_bd s.size (by omega))).mono ?_
  rintro e w4 ⟨x, rfl, hx, hc4, hg4⟩
  have X := Lib.hid hx
  have B4 := Lib.hid (below_new B3.out C3.out hg4)
  have C4 := Lib.hid hc4
  clear hx hc4 hg4 hcv
  go_wp2_with fail
  refine (l1Below_pos _ g w4 C4.out 9 (by omega) (by omega)).mono ?_
  rintro e w5 ⟨r, rfl, ⟨r0', r1'⟩, hc5, hg5⟩
  have B5 := Lib.hid (below_new B4.out C4.out hg5)
  clear hc5 hg5
  go_wp2_with fail
  go_ret3
  exact ⟨s, x, _, rfl, hsz, X.out, ⟨by omega, by omega⟩, B5.out⟩
end Go.Proofs.Ytdhglmimooebcaa
