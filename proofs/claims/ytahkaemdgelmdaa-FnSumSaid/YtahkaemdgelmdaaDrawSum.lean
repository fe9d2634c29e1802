/- DrawFolded, DrawWordSum, DrawSumOf. -/
import Derived.Test.YtahkaemdgelmdaaDrawWord
import Derived.Test.YtahkaemdgelmdaaBytesA
namespace Go.Proofs.Ytahkaemdgelmdaa
open Go.RowKit Go.Lib

set_option maxHeartbeats 1000000 in
theorem drawFolded (a : Option Addr) (bs : List UInt8) (cap : Nat) (w : World) (hrow : Row w w.heap.size a (byteCells bs)) (hbs : bs.length ≤ 1048576) :
    Calls Try.prog 22 #[.slice a bs.length cap] w fun e w' => ∃ n : Int, e = .returned (.int .i64 n) ∧ I64 n ∧ Below w.heap.size w w' := by
  have C := Lib.hid (l1New_any a bs cap w hrow hbs)
  clear hrow
  go_enter Try.func22, Try.ntmps22
  go_wp2_with fail
  refine C.out.mono ?_
  rintro e w1 ⟨g, rfl, hc1, hb1⟩
  have C1 := Lib.hid hc1
  have B1 := Lib.hid hb1
  clear hc1 hb1
  go_wp2_with fail
  refine (l2Word_any _ g w1 C1.out).mono ?_
  rintro e w2 ⟨n, rfl, hn, hc2, hg2⟩
  have N := Lib.hid hn
  have B2 := Lib.hid (below_new B1.out C1.out hg2)
  clear hn hc2 hg2
  go_wp2_with fail
  go_ret
  exact ⟨n, rfl, N.out, B2.out⟩

set_option maxHeartbeats 1000000 in
theorem drawWordSum (a : Option Addr) (bs : List UInt8) (cap : Nat) (w : World) (hrow : Row w w.heap.size a (byteCells bs)) (hbs : bs.length ≤ 1048576) :
    Calls Try.prog 18 #[.slice a bs.length cap] w fun e w' => ∃ s : ByteArray, e = .returned (.string s) ∧ s.size ≤ 12 ∧ Below w.heap.size w w' := by
  have C := Lib.hid (l1New_any a bs cap w hrow hbs)
  clear hrow
  go_enter Try.func18, Try.ntmps18
  go_wp2_with fail
  refine C.out.mono ?_
  rintro e w1 ⟨g, rfl, hc1, hb1⟩
  have C1 := Lib.hid hc1
  have B1 := Lib.hid hb1
  clear hc1 hb1
  go_wp2_with fail
  refine (l1Below_pos _ g w1 C1.out 12 (by omega) (by omega)).mono ?_
  rintro e w2 ⟨r, rfl, ⟨r0, r1⟩, hc2, hg2⟩
  obtain ⟨n, rfl⟩ : ∃ n : Nat, r = (n : Int) := ⟨r.toNat, by omega⟩
  have B2 := Lib.hid (below_new B1.out C1.out hg2)
  have C2 := Lib.hid hc2
  clear hc2 hg2
  go_wp2_with fail
  refine (l1Bytes_any _ g n w2 C2.out (by omega)).mono ?_
  rintro e w3 ⟨v, l, rfl, hl, hown, hc3, hg3⟩
  have hcv := run_string_own (P := Try.prog) Try.underlying22 Try.underlying5 Try.underlying9 hown
  obtain ⟨s, hs⟩ : ∃ s : ByteArray, (⟨l.toArray⟩ : ByteArray) = s := ⟨_, rfl⟩
  have hsz : s.size ≤ 12 := by rw [← hs]; simp [ByteArray.size]; omega
  rw [hs] at hcv
  have B3 := Lib.hid (below_new B2.out C2.out hg3)
  clear hc3 hg3 hown hl hs
  go_wp2_with fail
  go_ret
  exact ⟨s, rfl, hsz, B3.out⟩

set_option maxHeartbeats 1000000 in
theorem drawSumOf (a : Option Addr) (bs : List UInt8) (cap : Nat) (w : World) (hrow : Row w w.heap.size a (byteCells bs)) (hbs : bs.length ≤ 1048576) :
    Calls Try.prog 12 #[.slice a bs.length cap] w fun e w' => ∃ s : ByteArray, e = .returned (.string s) ∧ s.size ≤ 12 ∧ Below w.heap.size w w' := by
  have C := Lib.hid (drawWordSum a bs cap w hrow hbs)
  clear hrow
  go_enter Try.func12, Try.ntmps12
  go_wp2_with fail
  refine C.out.mono ?_
  rintro e w1 ⟨s, rfl, hs, hb1⟩
  have S := Lib.hid hs
  have B1 := Lib.hid hb1
  clear hs hb1
  go_wp2_with fail
  go_ret
  exact ⟨s, rfl, S.out, B1.out⟩
end Go.Proofs.Ytahkaemdgelmdaa
