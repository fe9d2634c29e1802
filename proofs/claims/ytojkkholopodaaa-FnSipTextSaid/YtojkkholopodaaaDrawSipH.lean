/- The draws' own DrawSipHash. Nothing here is a claim. -/
import Derived.Test.YtojkkholopodaaaKey10
import Derived.Test.YtojkkholopodaaaBytesA
import Derived.Test.YtojkkholopodaaaCurO
import Derived.Test.YtojkkholopodaaaLong
namespace Go.Proofs.Ytojkkholopodaaa
open Go.RowKit Go.Lib

set_option maxHeartbeats 1000000 in
theorem drawSipHash (a : Option Addr) (bs : List UInt8) (cap : Nat) (w : World) (hrow : Row w w.heap.size a (byteCells bs)) (hbs : bs.length ≤ 1048576) :
    Calls Try.prog 17 #[.slice a bs.length cap] w fun e w' => ∃ (k l : BitVec 64) (s : ByteArray), e = .returned (.tuple #[.int .u64 (n64 k), .int .u64 (n64 l), .string s]) ∧ s.size ≤ 260 ∧ Below w.heap.size w w' := by
  have C := Lib.hid (l1New_any a bs cap w hrow hbs)
  clear hrow
  go_enter Try.func17, Try.ntmps17
  go_wp2_with fail
  refine C.out.mono ?_
  rintro e w1 ⟨g, rfl, hc1, hb1⟩
  have C1 := Lib.hid hc1
  have B1 := Lib.hid hb1
  clear hc1 hb1 C
  go_wp2_with fail
  refine (l1Below_pos _ g w1 C1.out 20 (by omega) (by omega)).mono ?_
  rintro e w2 ⟨r, rfl, ⟨r0, r1⟩, hc2, hg2⟩
  obtain ⟨n, rfl⟩ : ∃ n : Nat, r = (n : Int) := ⟨r.toNat, by omega⟩
  have B2 := Lib.hid (below_new B1.out C1.out hg2)
  have C2 := Lib.hid hc2
  clear hc2 hg2 C1 B1
  go_wp2_with fail
  refine (l1Bytes_any _ g n w2 C2.out (by omega)).mono ?_
  rintro e w3 ⟨v, l0, rfl, hl, hown, hc3, hg3⟩
  have hcv := run_string_own (P := Try.prog) Try.underlying22 Try.underlying5 Try.underlying9 hown
  obtain ⟨s, hs⟩ : ∃ s : ByteArray, (⟨l0.toArray⟩ : ByteArray) = s := ⟨_, rfl⟩
  have hsz : s.size ≤ 20 := by rw [← hs]; simp [ByteArray.size]; omega
  rw [hs] at hcv
  have B3 := Lib.hid (below_new B2.out C2.out hg3)
  have C3 := Lib.hid hc3
  clear hc3 hg3 hown hl hs C2 B2
  go_wp2_with fail
  refine (l1Once_any _ g w3 C3.out 20 (by omega) (by omega)).mono ?_
  rintro e w4 ⟨b, rfl, hc4, hg4⟩
  have B4 := Lib.hid (below_new B3.out C3.out hg4)
  have C4 := Lib.hid hc4
  clear hc4 hg4 C3 B3 hcv
  cases b
  · go_wp2_with fail
    refine (l10Key_any _ g w4 C4.out).mono ?_
    rintro e w5 ⟨k, rfl, hc, hg⟩
    have B5 := Lib.hid (below_new B4.out C4.out hg)
    have C5 := Lib.hid hc
    clear hc hg C4 B4
    go_wp2_with fail
    refine (l10Key_any _ g w5 C5.out).mono ?_
    rintro e w6 ⟨l, rfl, hc, hg⟩
    have B6 := Lib.hid (below_new B5.out C5.out hg)
    have C6 := Lib.hid hc
    clear hc hg C5 B5
    go_wp2_with fail
    exact bodyPost_ret (v := .tuple #[.int .u64 (n64 k), .int .u64 (n64 l), .string s]) (by simp [results, Try.results17, go_sem]) rfl ⟨k, l, _, rfl, by omega, B6.out⟩
  · go_wp2_with fail
    refine (l1Below_pos _ g w4 C4.out 10 (by omega) (by omega)).mono ?_
    rintro e w5 ⟨r, rfl, ⟨p0, p1⟩, hc5, hg5⟩
    obtain ⟨m, rfl⟩ : ∃ m : Nat, r = (m : Int) := ⟨r.toNat, by omega⟩
    have B5 := Lib.hid (below_new B4.out C4.out hg5)
    have C5 := Lib.hid hc5
    clear hc5 hg5 C4 B4
    have T := Lib.hid (l5Long_any (250 + m) (by omega))
    have hm : IntKind.i64.wrap (250 + (m : Int)) = ((250 + m : Nat) : Int) := by rw [IntKind.wrap_i64]; omega
    go_wp2_with fail
    refine (T.out _).mono ?_
    rintro e w6 ⟨s2, rfl, hs2, hb6⟩
    have B6 := Lib.hid (B5.out.trans (hb6.mono B5.out.size))
    have C6 := Lib.hid (C5.out.below hb6)
    clear hb6 C5 B5
    go_wp2_with fail
    refine (l10Key_any _ g w6 C6.out).mono ?_
    rintro e w7 ⟨k, rfl, hc, hg⟩
    have B7 := Lib.hid (below_new B6.out C6.out hg)
    have C7 := Lib.hid hc
    clear hc hg C6 B6
    go_wp2_with fail
    refine (l10Key_any _ g w7 C7.out).mono ?_
    rintro e w8 ⟨l, rfl, hc, hg⟩
    have B8 := Lib.hid (below_new B7.out C7.out hg)
    have C8 := Lib.hid hc
    clear hc hg C7 B7
    go_wp2_with fail
    exact bodyPost_ret (v := .tuple #[.int .u64 (n64 k), .int .u64 (n64 l), .string s2]) (by simp [results, Try.results17, go_sem]) rfl ⟨k, l, _, rfl, by omega, B8.out⟩
end Go.Proofs.Ytojkkholopodaaa
