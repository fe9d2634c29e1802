/- The draws of chapter 2's addresses: l2Deep, DrawAddressText, DrawAddress. -/
import Derived.Test.YtahkaemdgelmdaaDoorDrawWordA
import Derived.Test.YtahkaemdgelmdaaDoorTurned
import Derived.Test.YtahkaemdgelmdaaDoorCurO
import Derived.Test.YtahkaemdgelmdaaDoorAdrS
namespace Go.Proofs.YtahkaemdgelmdaaDoor
open Go.RowKit Go.Lib

theorem pow256_4 (k : Nat) (h : k ≤ 4) : (256 : Int) ^ k ≤ 4294967296 := by
  have h : k = 0 ∨ k = 1 ∨ k = 2 ∨ k = 3 ∨ k = 4 := by omega
  rcases h with rfl | rfl | rfl | rfl | rfl <;> decide
def deepCs : Array Value := #[.int .i64 0, .int .i64 1, .int .i64 4294967295, .int .i64 2147483647, .int .i64 2147483648, .int .i64 4294967294]
theorem deepCs_bd : ∀ v ∈ deepCs.toList, ∃ x, v = .int .i64 x ∧ I64 x := by
  intro v hv
  simp only [deepCs, List.mem_cons, List.mem_nil_iff, or_false] at hv
  unfold I64
  rcases hv with rfl | rfl | rfl | rfl | rfl | rfl <;> exact ⟨_, rfl, by decide⟩
theorem pickDeep (B g : Nat) (w : World) (hc : CurB w B g) : Calls Tryd.prog 27 #[.pointer (some ⟨g, 0, none⟩), .slice (some ⟨w.heap.size, 0, none⟩) 6 6] (w.alloc (.cells deepCs 3)) (WholeEnd w B g) :=
  pickNew B g w hc deepCs (by decide) (by decide) deepCs_bd

set_option maxRecDepth 100000 in
set_option maxHeartbeats 1000000 in
theorem l2Deep_any (B g : Nat) (w : World) (hc : CurB w B g) : Calls Tryd.prog 13 #[.pointer (some ⟨g, 0, none⟩)] w (WholeEnd w B g) := by
  have C := Lib.hid (l1Once_any B g w hc 3 (by omega) (by omega))
  clear hc
  go_enter Tryd.func13, Tryd.ntmps13
  go_wp2_with fail
  refine C.out.mono ?_
  rintro e w1 ⟨b, rfl, hc1, hg1⟩
  have C1 := Lib.hid hc1
  have G1 := Lib.hid hg1
  clear hc1 hg1
  cases b with
  | true =>
    go_wp2_with fail
    refine (pickDeep B g w1 C1.out).mono ?_
    rintro e w2 ⟨n, rfl, hn, hc2, hg2⟩
    have N := Lib.hid hn
    have C2 := Lib.hid hc2
    have G2 := Lib.hid (grown_tr G1.out hg2)
    clear hn hc2 hg2
    go_wp2_with fail
    go_ret
    exact ⟨n, rfl, N.out, C2.out, G2.out⟩
  | false =>
    go_wp2_with fail
    go_loopw [3, 4] (fun n i wr => ∃ (k : Nat) (q : Int), k ≤ 4 ∧ i = .int .i64 k ∧ n = .int .i64 q ∧ (0 ≤ q ∧ q < 256 ^ k) ∧ CurB wr B g ∧ w.grownBy wr (some g))
      (fun _ i _ => 4 - (RowKit.intOf i).toNat)
    case atStart => exact ⟨0, 0, Nat.zero_le _, rfl, rfl, ⟨by omega, by decide⟩, C1.out, G1.out⟩
    case round =>
      obtain ⟨k, q, hk, rfl, rfl, ⟨q0, q1⟩, hcur, hgr⟩ := hrel
      have K := Lib.hid hcur
      have G := Lib.hid hgr
      have hq4 : q < 4294967296 := Int.lt_of_lt_of_le q1 (pow256_4 k hk)
      have Q := Lib.hid q1
      clear hcur hgr q1
      by_cases hlt : k < 4
      · go_wp2_with fail
        refine (l1Byte_any B g wr K.out).mono ?_
        rintro e w2 ⟨x, rfl, ⟨x0, x1⟩, hc2, hg2⟩
        have K2 := Lib.hid hc2
        have G2 := Lib.hid (grown_tr G.out hg2)
        clear hc2 hg2
        go_wp2_with fail
        go_roundw
        case rel => exact ⟨k + 1, 256 * q + x, by omega, by go_num, by go_num, ⟨by omega, by have := Q.out; rw [Int.pow_succ]; omega⟩, K2.out, G2.out⟩
        case measure => simp [RowKit.intOf]; omega
      · go_wp2_with fail
        go_ret
        exact ⟨q, rfl, ⟨by omega, by omega⟩, K.out, G.out⟩

set_option maxHeartbeats 1000000 in
theorem drawAddressText (a : Option Addr) (bs : List UInt8) (cap : Nat) (w : World) (hrow : Row w w.heap.size a (byteCells bs)) (hbs : bs.length ≤ 1048576) :
    Calls Tryd.prog 5 #[.slice a bs.length cap] w fun e w' => ∃ n : Int, e = .returned (.int .i64 n) ∧ I64 n ∧ Below w.heap.size w w' := by
  have C := Lib.hid (l1New_any a bs cap w hrow hbs)
  clear hrow
  go_enter Tryd.func5, Tryd.ntmps5
  go_wp2_with fail
  refine C.out.mono ?_
  rintro e w1 ⟨g, rfl, hc1, hb1⟩
  have C1 := Lib.hid hc1
  have B1 := Lib.hid hb1
  clear hc1 hb1
  go_wp2_with fail
  refine (l1Once_any _ g w1 C1.out 2 (by omega) (by omega)).mono ?_
  rintro e w2 ⟨b, rfl, hc2, hg2⟩
  have B2 := Lib.hid (below_cur B1.out C1.out hg2)
  have C2 := Lib.hid hc2
  clear hc2 hg2
  cases b with
  | true =>
    go_wp2_with fail
    refine (l2Deep_any _ g w2 C2.out).mono ?_
    rintro e w3 ⟨n, rfl, hn, hc3, hg3⟩
    have N := Lib.hid hn
    have B3 := Lib.hid (below_cur B2.out C2.out hg3)
    clear hn hc3 hg3
    go_wp2_with fail
    go_ret
    exact ⟨n, rfl, N.out, B3.out⟩
  | false =>
    go_wp2_with fail
    refine (l2Word_any _ g w2 C2.out).mono ?_
    rintro e w3 ⟨n, rfl, hn, hc3, hg3⟩
    have N := Lib.hid hn
    have B3 := Lib.hid (below_cur B2.out C2.out hg3)
    clear hn hc3 hg3
    go_wp2_with fail
    go_ret
    exact ⟨n, rfl, N.out, B3.out⟩

def turnCs : Array Value := #[.string ⟨#[46]⟩, .string ⟨#[48]⟩, .string ⟨#[49]⟩, .string ⟨#[50, 53, 54]⟩, .string ⟨#[32]⟩, .string ⟨#[45]⟩]
theorem turnCs_bd : ∀ v ∈ turnCs.toList, ∃ x, v = .string x ∧ x.size ≤ 100 := by
  intro v hv
  simp only [turnCs, List.mem_cons, List.mem_nil_iff, or_false] at hv
  rcases hv with rfl | rfl | rfl | rfl | rfl | rfl <;> exact ⟨_, rfl, by decide⟩

set_option maxRecDepth 100000 in
set_option maxHeartbeats 1000000 in
theorem drawAddress (a : Option Addr) (bs : List UInt8) (cap : Nat) (w : World) (hrow : Row w w.heap.size a (byteCells bs)) (hbs : bs.length ≤ 1048576) :
    Calls Tryd.prog 8 #[.slice a bs.length cap] w fun e w' => ∃ t : ByteArray, e = .returned (.string t) ∧ t.size ≤ 1048576 ∧ Below w.heap.size w w' := by
  have C := Lib.hid (l1New_any a bs cap w hrow hbs)
  clear hrow
  go_enter Tryd.func8, Tryd.ntmps8
  go_wp2_with fail
  refine C.out.mono ?_
  rintro e w1 ⟨g, rfl, hc1, hb1⟩
  have C1 := Lib.hid hc1
  have B1 := Lib.hid hb1
  clear hc1 hb1
  go_wp2_with fail
  refine (l2Deep_any _ g w1 C1.out).mono ?_
  rintro e w2 ⟨n, rfl, hn, hc2, hg2⟩
  have B2 := Lib.hid (below_cur B1.out C1.out hg2)
  have C2 := Lib.hid hc2
  have hsz := adrText_small n
  have CT := Lib.hid (addressTextS n w2)
  obtain ⟨s, hs⟩ : ∃ s, adrText n = s := ⟨_, rfl⟩
  rw [hs] at CT hsz
  clear hn hc2 hg2 hs
  go_wp2_with fail
  refine CT.out.mono ?_
  rintro e w3 ⟨rfl, hb3⟩
  have C3 := Lib.hid (C2.out.below hb3)
  have B3 := Lib.hid (B2.out.trans (hb3.mono B2.out.size))
  clear hb3
  go_wp2_with fail
  have hlt := C3.out.lt
  refine (l1Turned_any _ g w3.heap.size _ (C3.out.new _) s (by omega) turnCs (heap_alloc_new w3 _) (by omega) (by decide) (by decide) turnCs_bd).mono ?_
  rintro e w4 ⟨t, rfl, ht, hc4, hg4⟩
  have B4 := Lib.hid (below_cur B3.out C3.out (grown_tr (World.grownBy_alloc w3 _ _) hg4))
  clear hc4 hg4 hlt
  go_wp2_with fail
  go_ret
  exact ⟨t, rfl, by omega, B4.out⟩
end Go.Proofs.YtahkaemdgelmdaaDoor
