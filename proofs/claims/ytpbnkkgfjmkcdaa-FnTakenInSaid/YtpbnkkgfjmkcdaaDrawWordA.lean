/- The draws of chapter 2's words: l2Word, DrawPutWord, DrawGetWord. -/
import Derived.Test.YtpbnkkgfjmkcdaaPickNew
import Derived.Test.YtpbnkkgfjmkcdaaWhole
namespace Go.Proofs.Ytpbnkkgfjmkcdaa
open Go.RowKit Go.Lib

/-- The numbers among which l2Word picks. -/
def word2Cs : Array Value := #[.int .i64 0, .int .i64 1, .int .i64 255, .int .i64 256, .int .i64 65535, .int .i64 65536, .int .i64 16777215, .int .i64 4294967295, .int .i64 4294967296, .int .i64 281474976710655, .int .i64 281474976710656]
theorem word2Cs_bd : ∀ v ∈ word2Cs.toList, ∃ x, v = .int .i64 x ∧ I64 x := by
  intro v hv
  simp only [word2Cs, List.mem_cons, List.mem_nil_iff, or_false] at hv
  unfold I64
  rcases hv with rfl | rfl | rfl | rfl | rfl | rfl | rfl | rfl | rfl | rfl | rfl <;> exact ⟨_, rfl, by decide⟩
theorem pickWord2 (B g : Nat) (w : World) (hc : CurB w B g) : Calls Try.prog 50 #[.pointer (some ⟨g, 0, none⟩), .slice (some ⟨w.heap.size, 0, none⟩) 11 11] (w.alloc (.cells word2Cs 3)) (WholeEnd w B g) :=
  pickNew B g w hc word2Cs (by decide) (by decide) word2Cs_bd

set_option maxRecDepth 100000 in
set_option maxHeartbeats 1000000 in
theorem l2Word_any (B g : Nat) (w : World) (hc : CurB w B g) : Calls Try.prog 60 #[.pointer (some ⟨g, 0, none⟩)] w (WholeEnd w B g) := by
  have C := Lib.hid (l1Below_pos B g w hc 3 (by omega) (by omega))
  clear hc
  go_enter Try.func60, Try.ntmps60
  go_wp2_with fail
  refine C.out.mono ?_
  rintro e w1 ⟨r, rfl, ⟨r0, r1⟩, hc1, hg1⟩
  have C1 := Lib.hid hc1
  have G1 := Lib.hid hg1
  clear hc1 hg1
  have hr : r = 0 ∨ r = 1 ∨ r = 2 := by omega
  rcases hr with rfl | rfl | rfl
  · go_wp2_with fail
    refine (l1Whole_any B g w1 C1.out).mono ?_
    rintro e w2 ⟨n, rfl, hn, hc2, hg2⟩
    have N := Lib.hid hn
    have C2 := Lib.hid hc2
    have G2 := Lib.hid (grown_tr G1.out hg2)
    clear hn hc2 hg2
    go_wp2_with fail
    go_ret
    exact ⟨n, rfl, N.out, C2.out, G2.out⟩
  · go_wp2_with fail
    refine (pickWord2 B g w1 C1.out).mono ?_
    rintro e w2 ⟨n, rfl, hn, hc2, hg2⟩
    have N := Lib.hid hn
    have C2 := Lib.hid hc2
    have G2 := Lib.hid (grown_tr G1.out hg2)
    clear hn hc2 hg2
    go_wp2_with fail
    go_ret
    exact ⟨n, rfl, N.out, C2.out, G2.out⟩
  · go_wp2_with fail
    refine (l1Below_pos B g w1 C1.out 65536 (by omega) (by omega)).mono ?_
    rintro e w2 ⟨n, rfl, ⟨n0, n1⟩, hc2, hg2⟩
    have C2 := Lib.hid hc2
    have G2 := Lib.hid (grown_tr G1.out hg2)
    clear hc2 hg2
    go_wp2_with fail
    go_ret
    exact ⟨_, rfl, ⟨by omega, by omega⟩, C2.out, G2.out⟩
end Go.Proofs.Ytpbnkkgfjmkcdaa
