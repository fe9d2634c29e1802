/- Proved here: for every code of at most 1048576 bytes, with the message, the hardware address and the address that are drawn from it, impl.ArpReply answers exactly where the model's does, from the owner of the address and to who asked, and impl.ReadArp reads the message back out of its text with two bytes behind it exactly where it is valid (a longer code is not asked); the call returns true for every argument, without condition. -/
import Derived.Test.YtamjkchhffhejaaRows
import Derived.Test.YtamjkchhffhejaaDrawArp
import Derived.Test.YtamjkchhffhejaaArpRound
import Derived.Test.YtamjkchhffhejaaArpRep2
import Derived.Test.YtamjkchhffhejaaBig
import Derived.Test.YtamjkchhffhejaaOpen
import Derived.ProofKit
import Derived.OpenShut
import Derived.ShutString
import Derived.ChangeOld
import Derived.Below
namespace Go.Proofs.Ytamjkchhffhejaa.fnArp
open Go.ChangeShapes Go.WideShapes Go.ChangeAt Go.RowKit

/-- A contract of a call that makes memory, with the worlds behind it. -/
theorem step {w w1 w2 : World} (h : Below w.heap.size w w1) (hb : Below w1.heap.size w1 w2) : Below w.heap.size w w2 := h.trans (hb.mono h.size)

set_option maxRecDepth 100000 in
set_option maxHeartbeats 8000000 in
theorem walk (a0 : Option Addr) (len0 cap0 : Nat) (s0 : List UInt8) {w : World} (w0 : IsBytes w a0 len0 s0) :
    Calls Try.prog 3 #[.slice a0 len0 cap0] w fun e w' => e = .returned (.bool true) ∧ Below w.heap.size w w' := by
  obtain ⟨⟨rfl, hm⟩, hrow⟩ := w0
  unfold maxLen at hm
  have HR := Lib.hid hrow
  clear hrow
  by_cases hs : s0.length ≤ 1048576
  · go_enter Try.func3, Try.ntmps3
    go_wp2_with fail
    refine (big_no _ _ _ _ hs).mono ?_
    rintro e w' ⟨rfl, rfl⟩
    go_wp2_with fail
    refine (drawArpReply a0 s0 cap0 w HR.out hs).mono ?_
    rintro e w1 ⟨k, a, b, c, d, m, ip, rfl, _, hb1⟩
    have B1 := Lib.hid hb1
    clear hb1
    have T := Lib.hid (arpTextI k a b c d)
    have R1 := Lib.hid (arpReplyI k a b c d m ip)
    have R2 := Lib.hid (arpReplyS k a b c d m ip)
    have O1 := Lib.hid (arpOkS k a b c d)
    have hle := arpText_le k a b c d
    have RD := Lib.hid (fun w => readArpI (arpText k a b c d ++ ⟨#[120, 120]⟩) w (by rw [ByteArray.size_append]; show _ + 2 ≤ _; omega))
    have hsum : ¬ 9223372036854775807 < (arpText k a b c d).size + 2 := by omega
    cases hp : rpOk k a b d m ip with
    | false =>
      rw [rpV_no _ _ _ _ _ _ hp] at R1 R2
      clear hp
      cases ho : arpOk k a b c d with
      | false =>
        rw [raV_no _ (arp_none k a b c d ⟨#[120, 120]⟩ ho (by decide))] at RD
        rw [ho] at O1
        clear ho hle
        generalize arpText k a b c d = t at T RD hsum
        have A1 := Lib.hid (Blk.new w1 [.int .i64 k, .int .i64 a, .int .i64 b, .int .i64 c, .int .i64 d] 25)
        have B1' := Lib.hid (B1.out.alloc B1.out.size (.cells #[.int .i64 k, .int .i64 a, .int .i64 b, .int .i64 c, .int .i64 d] 25))
        go_wp2_with fail
        generalize w1.alloc (.cells #[.int .i64 k, .int .i64 a, .int .i64 b, .int .i64 c, .int .i64 d] 25) = w2 at A1 B1' ⊢
        generalize w1.heap.size = fa at A1 ⊢
        clear B1
        refine (R1.out _).mono ?_
        rintro e w3 ⟨rfl, hb⟩
        have B3 := Lib.hid (step B1'.out hb)
        have A3 := Lib.hid ((A1.out.below hb).alloc (.cells #[.int .i64 0, .int .i64 0, .int .i64 0, .int .i64 0, .int .i64 0] 25))
        have B3' := Lib.hid (B3.out.alloc B3.out.size (.cells #[.int .i64 0, .int .i64 0, .int .i64 0, .int .i64 0, .int .i64 0] 25))
        have R3 := Lib.hid (Blk.new w3 [.int .i64 0, .int .i64 0, .int .i64 0, .int .i64 0, .int .i64 0] 25)
        have hlt := (A1.out.below hb).lt
        clear hb A1 B1'
        obtain ⟨⟨c0, c1, c2, c3, c4⟩, _, _, _, _, _⟩ := A3.out.of5
        have hn1 : ¬ w3.heap.size = fa := by omega
        have hn2 : ¬ fa = w3.heap.size := by omega
        go_wp2_with fail
        generalize w3.alloc (.cells #[.int .i64 0, .int .i64 0, .int .i64 0, .int .i64 0, .int .i64 0] 25) = w4 at A3 B3' R3 c0 c1 c2 c3 c4 ⊢
        generalize w3.heap.size = fr at R3 hlt hn1 hn2 ⊢
        clear B3
        refine (R2.out _).mono ?_
        rintro e w5 ⟨rfl, hb⟩
        have B5 := Lib.hid (step B3'.out hb)
        have A5 := Lib.hid ((A3.out.below hb).alloc (.cells #[.int .i64 0, .int .i64 0, .int .i64 0, .int .i64 0, .int .i64 0] 25))
        have R5 := Lib.hid ((R3.out.below hb).alloc (.cells #[.int .i64 0, .int .i64 0, .int .i64 0, .int .i64 0, .int .i64 0] 25))
        have B5' := Lib.hid (B5.out.alloc B5.out.size (.cells #[.int .i64 0, .int .i64 0, .int .i64 0, .int .i64 0, .int .i64 0] 25))
        have hla := (A3.out.below hb).lt
        obtain ⟨⟨c0, c1, c2, c3, c4⟩, _, _, _, _, _⟩ := (A3.out.below hb).of5
        have hn3 : ¬ w5.heap.size = fa := by omega
        have hn4 : ¬ fa = w5.heap.size := by omega
        clear hb A3 R3 B3'
        go_wp2_with fail
        clear c0 c1 c2 c3 c4 hn3 hn4 hla B5
        generalize w5.alloc (.cells #[.int .i64 0, .int .i64 0, .int .i64 0, .int .i64 0, .int .i64 0] 25) = w5' at A5 R5 B5' ⊢
        refine (T.out _).mono ?_
        rintro e w6 ⟨rfl, hb⟩
        have B6 := Lib.hid (step B5'.out hb)
        have A6 := Lib.hid (A5.out.below hb)
        have R6 := Lib.hid (R5.out.below hb)
        clear hb A5 R5 B5'
        go_wp2_with fail
        refine (RD.out _).mono ?_
        rintro e w7 ⟨rfl, hb⟩
        have B7 := Lib.hid (step B6.out hb)
        have A7 := Lib.hid ((A6.out.below hb).alloc (.cells #[.int .i64 0, .int .i64 0, .int .i64 0, .int .i64 0, .int .i64 0] 25))
        have R7 := Lib.hid ((R6.out.below hb).alloc (.cells #[.int .i64 0, .int .i64 0, .int .i64 0, .int .i64 0, .int .i64 0] 25))
        have D7 := Lib.hid (Blk.new w7 [.int .i64 0, .int .i64 0, .int .i64 0, .int .i64 0, .int .i64 0] 25)
        have B7' := Lib.hid (B7.out.alloc B7.out.size (.cells #[.int .i64 0, .int .i64 0, .int .i64 0, .int .i64 0, .int .i64 0] 25))
        have hla := (A6.out.below hb).lt
        obtain ⟨⟨c0, c1, c2, c3, c4⟩, _, _, _, _, _⟩ := (A6.out.below hb).of5
        have hn3 : ¬ w7.heap.size = fa := by omega
        have hn4 : ¬ fa = w7.heap.size := by omega
        clear hb A6 R6 B6
        go_wp2_with fail
        clear c0 c1 c2 c3 c4 hn3 hn4 hla B7
        generalize w7.alloc (.cells #[.int .i64 0, .int .i64 0, .int .i64 0, .int .i64 0, .int .i64 0] 25) = w8 at A7 R7 D7 B7' ⊢
        generalize w7.heap.size = fb at D7 ⊢
        refine (O1.out _).mono ?_
        rintro e w9 ⟨rfl, hb⟩
        have B9 := Lib.hid (step B7'.out hb)
        have A9 := Lib.hid (A7.out.below hb)
        have R9 := Lib.hid (R7.out.below hb)
        have D9 := Lib.hid (D7.out.below hb)
        clear hb A7 R7 D7 B7'
        obtain ⟨⟨c0, c1, c2, c3, c4⟩, _, _, _, _, _⟩ := A9.out.of5
        obtain ⟨⟨p0, p1, p2, p3, p4⟩, _, _, _, _, _⟩ := R9.out.of5
        obtain ⟨⟨q0, q1, q2, q3, q4⟩, _, _, _, _, _⟩ := D9.out.of5
        go_wp2_with fail
        go_ret
        exact ⟨rfl, B9.out⟩
      | true =>
        obtain ⟨h0, h1, h2, h3, h4, h5⟩ := arp_round k a b c d ⟨#[120, 120]⟩ ho
        unfold raV at RD
        rw [h0, h1, h2, h3, h4, h5] at RD
        rw [ho] at O1
        clear h0 h1 h2 h3 h4 h5 ho hle
        generalize arpText k a b c d = t at T RD hsum
        have A1 := Lib.hid (Blk.new w1 [.int .i64 k, .int .i64 a, .int .i64 b, .int .i64 c, .int .i64 d] 25)
        have B1' := Lib.hid (B1.out.alloc B1.out.size (.cells #[.int .i64 k, .int .i64 a, .int .i64 b, .int .i64 c, .int .i64 d] 25))
        go_wp2_with fail
        generalize w1.alloc (.cells #[.int .i64 k, .int .i64 a, .int .i64 b, .int .i64 c, .int .i64 d] 25) = w2 at A1 B1' ⊢
        generalize w1.heap.size = fa at A1 ⊢
        clear B1
        refine (R1.out _).mono ?_
        rintro e w3 ⟨rfl, hb⟩
        have B3 := Lib.hid (step B1'.out hb)
        have A3 := Lib.hid ((A1.out.below hb).alloc (.cells #[.int .i64 0, .int .i64 0, .int .i64 0, .int .i64 0, .int .i64 0] 25))
        have B3' := Lib.hid (B3.out.alloc B3.out.size (.cells #[.int .i64 0, .int .i64 0, .int .i64 0, .int .i64 0, .int .i64 0] 25))
        have R3 := Lib.hid (Blk.new w3 [.int .i64 0, .int .i64 0, .int .i64 0, .int .i64 0, .int .i64 0] 25)
        have hlt := (A1.out.below hb).lt
        clear hb A1 B1'
        obtain ⟨⟨c0, c1, c2, c3, c4⟩, _, _, _, _, _⟩ := A3.out.of5
        have hn1 : ¬ w3.heap.size = fa := by omega
        have hn2 : ¬ fa = w3.heap.size := by omega
        go_wp2_with fail
        generalize w3.alloc (.cells #[.int .i64 0, .int .i64 0, .int .i64 0, .int .i64 0, .int .i64 0] 25) = w4 at A3 B3' R3 c0 c1 c2 c3 c4 ⊢
        generalize w3.heap.size = fr at R3 hlt hn1 hn2 ⊢
        clear B3
        refine (R2.out _).mono ?_
        rintro e w5 ⟨rfl, hb⟩
        have B5 := Lib.hid (step B3'.out hb)
        have A5 := Lib.hid ((A3.out.below hb).alloc (.cells #[.int .i64 0, .int .i64 0, .int .i64 0, .int .i64 0, .int .i64 0] 25))
        have R5 := Lib.hid ((R3.out.below hb).alloc (.cells #[.int .i64 0, .int .i64 0, .int .i64 0, .int .i64 0, .int .i64 0] 25))
        have B5' := Lib.hid (B5.out.alloc B5.out.size (.cells #[.int .i64 0, .int .i64 0, .int .i64 0, .int .i64 0, .int .i64 0] 25))
        have hla := (A3.out.below hb).lt
        obtain ⟨⟨c0, c1, c2, c3, c4⟩, _, _, _, _, _⟩ := (A3.out.below hb).of5
        have hn3 : ¬ w5.heap.size = fa := by omega
        have hn4 : ¬ fa = w5.heap.size := by omega
        clear hb A3 R3 B3'
        go_wp2_with fail
        clear c0 c1 c2 c3 c4 hn3 hn4 hla B5
        generalize w5.alloc (.cells #[.int .i64 0, .int .i64 0, .int .i64 0, .int .i64 0, .int .i64 0] 25) = w5' at A5 R5 B5' ⊢
        refine (T.out _).mono ?_
        rintro e w6 ⟨rfl, hb⟩
        have B6 := Lib.hid (step B5'.out hb)
        have A6 := Lib.hid (A5.out.below hb)
        have R6 := Lib.hid (R5.out.below hb)
        clear hb A5 R5 B5'
        go_wp2_with fail
        refine (RD.out _).mono ?_
        rintro e w7 ⟨rfl, hb⟩
        have B7 := Lib.hid (step B6.out hb)
        have A7 := Lib.hid ((A6.out.below hb).alloc (.cells #[.int .i64 k, .int .i64 a, .int .i64 b, .int .i64 c, .int .i64 d] 25))
        have R7 := Lib.hid ((R6.out.below hb).alloc (.cells #[.int .i64 k, .int .i64 a, .int .i64 b, .int .i64 c, .int .i64 d] 25))
        have D7 := Lib.hid (Blk.new w7 [.int .i64 k, .int .i64 a, .int .i64 b, .int .i64 c, .int .i64 d] 25)
        have B7' := Lib.hid (B7.out.alloc B7.out.size (.cells #[.int .i64 k, .int .i64 a, .int .i64 b, .int .i64 c, .int .i64 d] 25))
        have hla := (A6.out.below hb).lt
        obtain ⟨⟨c0, c1, c2, c3, c4⟩, _, _, _, _, _⟩ := (A6.out.below hb).of5
        have hn3 : ¬ w7.heap.size = fa := by omega
        have hn4 : ¬ fa = w7.heap.size := by omega
        clear hb A6 R6 B6
        go_wp2_with fail
        clear c0 c1 c2 c3 c4 hn3 hn4 hla B7
        generalize w7.alloc (.cells #[.int .i64 k, .int .i64 a, .int .i64 b, .int .i64 c, .int .i64 d] 25) = w8 at A7 R7 D7 B7' ⊢
        generalize w7.heap.size = fb at D7 ⊢
        refine (O1.out _).mono ?_
        rintro e w9 ⟨rfl, hb⟩
        have B9 := Lib.hid (step B7'.out hb)
        have A9 := Lib.hid (A7.out.below hb)
        have R9 := Lib.hid (R7.out.below hb)
        have D9 := Lib.hid (D7.out.below hb)
        clear hb A7 R7 D7 B7'
        obtain ⟨⟨c0, c1, c2, c3, c4⟩, _, _, _, _, _⟩ := A9.out.of5
        obtain ⟨⟨p0, p1, p2, p3, p4⟩, _, _, _, _, _⟩ := R9.out.of5
        obtain ⟨⟨q0, q1, q2, q3, q4⟩, _, _, _, _, _⟩ := D9.out.of5
        go_wp2_with fail
        go_ret
        exact ⟨rfl, B9.out⟩
    | true =>
      have hp' := hp
      unfold rpOk at hp'
      simp only [Bool.and_eq_true, decide_eq_true_eq] at hp'
      obtain ⟨rfl, rfl, hr⟩ := hp'
      rw [rpV_yes _ _ _ _ _ _ hp] at R1 R2
      have OR := Lib.hid (arpOkI 2 m d a b)
      rw [hr] at OR
      clear hr hp
      cases ho : arpOk 1 a b c d with
      | false =>
        rw [raV_no _ (arp_none 1 a b c d ⟨#[120, 120]⟩ ho (by decide))] at RD
        rw [ho] at O1
        clear ho hle
        generalize arpText 1 a b c d = t at T RD hsum
        have A1 := Lib.hid (Blk.new w1 [.int .i64 1, .int .i64 a, .int .i64 b, .int .i64 c, .int .i64 d] 25)
        have B1' := Lib.hid (B1.out.alloc B1.out.size (.cells #[.int .i64 1, .int .i64 a, .int .i64 b, .int .i64 c, .int .i64 d] 25))
        go_wp2_with fail
        generalize w1.alloc (.cells #[.int .i64 1, .int .i64 a, .int .i64 b, .int .i64 c, .int .i64 d] 25) = w2 at A1 B1' ⊢
        generalize w1.heap.size = fa at A1 ⊢
        clear B1
        refine (R1.out _).mono ?_
        rintro e w3 ⟨rfl, hb⟩
        have B3 := Lib.hid (step B1'.out hb)
        have A3 := Lib.hid ((A1.out.below hb).alloc (.cells #[.int .i64 2, .int .i64 m, .int .i64 d, .int .i64 a, .int .i64 b] 25))
        have B3' := Lib.hid (B3.out.alloc B3.out.size (.cells #[.int .i64 2, .int .i64 m, .int .i64 d, .int .i64 a, .int .i64 b] 25))
        have R3 := Lib.hid (Blk.new w3 [.int .i64 2, .int .i64 m, .int .i64 d, .int .i64 a, .int .i64 b] 25)
        have hlt := (A1.out.below hb).lt
        clear hb A1 B1'
        obtain ⟨⟨c0, c1, c2, c3, c4⟩, _, _, _, _, _⟩ := A3.out.of5
        have hn1 : ¬ w3.heap.size = fa := by omega
        have hn2 : ¬ fa = w3.heap.size := by omega
        go_wp2_with fail
        generalize w3.alloc (.cells #[.int .i64 2, .int .i64 m, .int .i64 d, .int .i64 a, .int .i64 b] 25) = w4 at A3 B3' R3 c0 c1 c2 c3 c4 ⊢
        generalize w3.heap.size = fr at R3 hlt hn1 hn2 ⊢
        clear B3
        refine (R2.out _).mono ?_
        rintro e w5 ⟨rfl, hb⟩
        have B5 := Lib.hid (step B3'.out hb)
        have A5 := Lib.hid ((A3.out.below hb).alloc (.cells #[.int .i64 2, .int .i64 m, .int .i64 d, .int .i64 a, .int .i64 b] 25))
        have R5 := Lib.hid ((R3.out.below hb).alloc (.cells #[.int .i64 2, .int .i64 m, .int .i64 d, .int .i64 a, .int .i64 b] 25))
        have B5' := Lib.hid (B5.out.alloc B5.out.size (.cells #[.int .i64 2, .int .i64 m, .int .i64 d, .int .i64 a, .int .i64 b] 25))
        have hla := (A3.out.below hb).lt
        obtain ⟨⟨c0, c1, c2, c3, c4⟩, _, _, _, _, _⟩ := (A3.out.below hb).of5
        have hn3 : ¬ w5.heap.size = fa := by omega
        have hn4 : ¬ fa = w5.heap.size := by omega
        clear hb A3 R3 B3'
        go_wp2_with fail
        clear c0 c1 c2 c3 c4 hn3 hn4 hla B5
        generalize w5.alloc (.cells #[.int .i64 2, .int .i64 m, .int .i64 d, .int .i64 a, .int .i64 b] 25) = w5' at A5 R5 B5' ⊢
        refine (T.out _).mono ?_
        rintro e w6 ⟨rfl, hb⟩
        have B6 := Lib.hid (step B5'.out hb)
        have A6 := Lib.hid (A5.out.below hb)
        have R6 := Lib.hid (R5.out.below hb)
        clear hb A5 R5 B5'
        go_wp2_with fail
        refine (RD.out _).mono ?_
        rintro e w7 ⟨rfl, hb⟩
        have B7 := Lib.hid (step B6.out hb)
        have A7 := Lib.hid ((A6.out.below hb).alloc (.cells #[.int .i64 0, .int .i64 0, .int .i64 0, .int .i64 0, .int .i64 0] 25))
        have R7 := Lib.hid ((R6.out.below hb).alloc (.cells #[.int .i64 0, .int .i64 0, .int .i64 0, .int .i64 0, .int .i64 0] 25))
        have D7 := Lib.hid (Blk.new w7 [.int .i64 0, .int .i64 0, .int .i64 0, .int .i64 0, .int .i64 0] 25)
        have B7' := Lib.hid (B7.out.alloc B7.out.size (.cells #[.int .i64 0, .int .i64 0, .int .i64 0, .int .i64 0, .int .i64 0] 25))
        have hla := (A6.out.below hb).lt
        obtain ⟨⟨c0, c1, c2, c3, c4⟩, _, _, _, _, _⟩ := (A6.out.below hb).of5
        have hn3 : ¬ w7.heap.size = fa := by omega
        have hn4 : ¬ fa = w7.heap.size := by omega
        clear hb A6 R6 B6
        go_wp2_with fail
        clear c0 c1 c2 c3 c4 hn3 hn4 hla B7
        generalize w7.alloc (.cells #[.int .i64 0, .int .i64 0, .int .i64 0, .int .i64 0, .int .i64 0] 25) = w8 at A7 R7 D7 B7' ⊢
        generalize w7.heap.size = fb at D7 ⊢
        refine (O1.out _).mono ?_
        rintro e w9 ⟨rfl, hb⟩
        have B9 := Lib.hid (step B7'.out hb)
        have A9 := Lib.hid (A7.out.below hb)
        have R9 := Lib.hid (R7.out.below hb)
        have D9 := Lib.hid (D7.out.below hb)
        clear hb A7 R7 D7 B7'
        obtain ⟨⟨c0, c1, c2, c3, c4⟩, _, _, _, _, _⟩ := A9.out.of5
        obtain ⟨⟨p0, p1, p2, p3, p4⟩, _, _, _, _, _⟩ := R9.out.of5
        obtain ⟨⟨q0, q1, q2, q3, q4⟩, _, _, _, _, _⟩ := D9.out.of5
        go_wp2_with fail
        refine (OR.out _).mono ?_
        rintro e w10 ⟨rfl, hb⟩
        have B10 := Lib.hid (step B9.out hb)
        clear hb
        go_wp2_with fail
        go_ret
        exact ⟨rfl, B10.out⟩
      | true =>
        obtain ⟨h0, h1, h2, h3, h4, h5⟩ := arp_round 1 a b c d ⟨#[120, 120]⟩ ho
        unfold raV at RD
        rw [h0, h1, h2, h3, h4, h5] at RD
        rw [ho] at O1
        clear h0 h1 h2 h3 h4 h5 ho hle
        generalize arpText 1 a b c d = t at T RD hsum
        have A1 := Lib.hid (Blk.new w1 [.int .i64 1, .int .i64 a, .int .i64 b, .int .i64 c, .int .i64 d] 25)
        have B1' := Lib.hid (B1.out.alloc B1.out.size (.cells #[.int .i64 1, .int .i64 a, .int .i64 b, .int .i64 c, .int .i64 d] 25))
        go_wp2_with fail
        generalize w1.alloc (.cells #[.int .i64 1, .int .i64 a, .int .i64 b, .int .i64 c, .int .i64 d] 25) = w2 at A1 B1' ⊢
        generalize w1.heap.size = fa at A1 ⊢
        clear B1
        refine (R1.out _).mono ?_
        rintro e w3 ⟨rfl, hb⟩
        have B3 := Lib.hid (step B1'.out hb)
        have A3 := Lib.hid ((A1.out.below hb).alloc (.cells #[.int .i64 2, .int .i64 m, .int .i64 d, .int .i64 a, .int .i64 b] 25))
        have B3' := Lib.hid (B3.out.alloc B3.out.size (.cells #[.int .i64 2, .int .i64 m, .int .i64 d, .int .i64 a, .int .i64 b] 25))
        have R3 := Lib.hid (Blk.new w3 [.int .i64 2, .int .i64 m, .int .i64 d, .int .i64 a, .int .i64 b] 25)
        have hlt := (A1.out.below hb).lt
        clear hb A1 B1'
        obtain ⟨⟨c0, c1, c2, c3, c4⟩, _, _, _, _, _⟩ := A3.out.of5
        have hn1 : ¬ w3.heap.size = fa := by omega
        have hn2 : ¬ fa = w3.heap.size := by omega
        go_wp2_with fail
        generalize w3.alloc (.cells #[.int .i64 2, .int .i64 m, .int .i64 d, .int .i64 a, .int .i64 b] 25) = w4 at A3 B3' R3 c0 c1 c2 c3 c4 ⊢
        generalize w3.heap.size = fr at R3 hlt hn1 hn2 ⊢
        clear B3
        refine (R2.out _).mono ?_
        rintro e w5 ⟨rfl, hb⟩
        have B5 := Lib.hid (step B3'.out hb)
        have A5 := Lib.hid ((A3.out.below hb).alloc (.cells #[.int .i64 2, .int .i64 m, .int .i64 d, .int .i64 a, .int .i64 b] 25))
        have R5 := Lib.hid ((R3.out.below hb).alloc (.cells #[.int .i64 2, .int .i64 m, .int .i64 d, .int .i64 a, .int .i64 b] 25))
        have B5' := Lib.hid (B5.out.alloc B5.out.size (.cells #[.int .i64 2, .int .i64 m, .int .i64 d, .int .i64 a, .int .i64 b] 25))
        have hla := (A3.out.below hb).lt
        obtain ⟨⟨c0, c1, c2, c3, c4⟩, _, _, _, _, _⟩ := (A3.out.below hb).of5
        have hn3 : ¬ w5.heap.size = fa := by omega
        have hn4 : ¬ fa = w5.heap.size := by omega
        clear hb A3 R3 B3'
        go_wp2_with fail
        clear c0 c1 c2 c3 c4 hn3 hn4 hla B5
        generalize w5.alloc (.cells #[.int .i64 2, .int .i64 m, .int .i64 d, .int .i64 a, .int .i64 b] 25) = w5' at A5 R5 B5' ⊢
        refine (T.out _).mono ?_
        rintro e w6 ⟨rfl, hb⟩
        have B6 := Lib.hid (step B5'.out hb)
        have A6 := Lib.hid (A5.out.below hb)
        have R6 := Lib.hid (R5.out.below hb)
        clear hb A5 R5 B5'
        go_wp2_with fail
        refine (RD.out _).mono ?_
        rintro e w7 ⟨rfl, hb⟩
        have B7 := Lib.hid (step B6.out hb)
        have A7 := Lib.hid ((A6.out.below hb).alloc (.cells #[.int .i64 1, .int .i64 a, .int .i64 b, .int .i64 c, .int .i64 d] 25))
        have R7 := Lib.hid ((R6.out.below hb).alloc (.cells #[.int .i64 1, .int .i64 a, .int .i64 b, .int .i64 c, .int .i64 d] 25))
        have D7 := Lib.hid (Blk.new w7 [.int .i64 1, .int .i64 a, .int .i64 b, .int .i64 c, .int .i64 d] 25)
        have B7' := Lib.hid (B7.out.alloc B7.out.size (.cells #[.int .i64 1, .int .i64 a, .int .i64 b, .int .i64 c, .int .i64 d] 25))
        have hla := (A6.out.below hb).lt
        obtain ⟨⟨c0, c1, c2, c3, c4⟩, _, _, _, _, _⟩ := (A6.out.below hb).of5
        have hn3 : ¬ w7.heap.size = fa := by omega
        have hn4 : ¬ fa = w7.heap.size := by omega
        clear hb A6 R6 B6
        go_wp2_with fail
        clear c0 c1 c2 c3 c4 hn3 hn4 hla B7
        generalize w7.alloc (.cells #[.int .i64 1, .int .i64 a, .int .i64 b, .int .i64 c, .int .i64 d] 25) = w8 at A7 R7 D7 B7' ⊢
        generalize w7.heap.size = fb at D7 ⊢
        refine (O1.out _).mono ?_
        rintro e w9 ⟨rfl, hb⟩
        have B9 := Lib.hid (step B7'.out hb)
        have A9 := Lib.hid (A7.out.below hb)
        have R9 := Lib.hid (R7.out.below hb)
        have D9 := Lib.hid (D7.out.below hb)
        clear hb A7 R7 D7 B7'
        obtain ⟨⟨c0, c1, c2, c3, c4⟩, _, _, _, _, _⟩ := A9.out.of5
        obtain ⟨⟨p0, p1, p2, p3, p4⟩, _, _, _, _, _⟩ := R9.out.of5
        obtain ⟨⟨q0, q1, q2, q3, q4⟩, _, _, _, _, _⟩ := D9.out.of5
        go_wp2_with fail
        refine (OR.out _).mono ?_
        rintro e w10 ⟨rfl, hb⟩
        have B10 := Lib.hid (step B9.out hb)
        clear hb
        go_wp2_with fail
        go_ret
        exact ⟨rfl, B10.out⟩
  · go_enter Try.func3, Try.ntmps3
    go_wp2_with fail
    refine (big_yes _ _ _ _ (by omega) hm).mono ?_
    rintro e w' ⟨rfl, rfl⟩
    go_wp2
    go_ret
    exact ⟨rfl, Below.refl _ _⟩

theorem own : ownKnob Try.prog.godebug = none := by kernel_rfl
theorem laidOut : laidOutB Try.prog = true := by kernel_rfl

set_option maxRecDepth 100000 in
theorem lifted (os : Os) (started : os.Started) (H : Type) (enc : TypeId × Value → H) :
    ReturnsInHanded {} Try.checked os 3 .any (Rows.fnArpSpec.pre6 enc Try.prog Try.f3 Rows.fnArpRow.domain false) (Rows.fnArpSpec.post enc Try.prog Try.f3 false true false false) := by
  refine returnsInHanded_of_change (C := Try.checked) own started (by kernel_rfl) Try.func3
    (ChangeSpec.witness6 (enc := enc) (C := Try.checked) false ⟨#[], #[.slice none 0 0], []⟩ 8 (by kernel_rfl) (by kernel_rfl) (by kernel_rfl) (by kernel_rfl)) ?_
  intro W base args ds gs before hval0 hW _ _
  have hval : ∀ (j : Nat) t v, Try.f3.params[j]? = some t → args[j]? = some v → Value.okWide Try.prog W .any base t v := hval0
  have hW' := hW
  obtain ⟨p, q, hA0, hV, rfl, _, _⟩ := hW
  have hA : DataW.TrodAll enc Try.prog W 0 (fun _ => true) true Try.f3.params.toList args.toList ds p := hA0
  rw [Try.params3] at hA hval
  obtain ⟨v0, vs0, d0, ds0, p0, q0, hargs, rfl, rfl, h0, r0⟩ := trodAll_cons hA
  obtain ⟨rfl, rfl, rfl⟩ := trodAll_nil r0
  obtain rfl : args = #[v0] := by cases args; simp_all
  obtain ⟨rfl, rfl⟩ := trodVars_none hV
  obtain ⟨a0, len0, cap0, rfl⟩ := okWide_slice Try.underlying22 (hval 0 22 v0 rfl rfl)
  have k0 := h0
  have lt0 : ∀ x ∈ p0, x.block < W.heap.size := by obtain ⟨m, hm⟩ := k0; exact DataW.trod_lt m _ _ _ hm
  obtain ⟨s0, w0⟩ : ∃ bs : List UInt8, IsBytes W a0 len0 bs := by obtain ⟨fuel, hf⟩ := h0; exact openBytes Try.underlying22 Try.underlying5 (by kernel_rfl) hf
  clear hA0 hval0
  refine (walk a0 len0 cap0 s0 w0).mono fun e W' ⟨he, bel⟩ => ?_
  subst he
  exact ⟨_, rfl, _, _, _, [], _, [], hW', trodAll_mk1 (shut_bool Try.underlying4 _), (trodAll_cons_mk (Below.trod laidOut (by kernel_rfl) (of_decide_eq_true (by kernel_rfl)) k0 bel lt0) trodAll_mk0), rfl, bel.frame _, fun h => by cases h⟩

theorem over : Rows.fnArpRow.holds Try.pinned (OpenSpec.ofChange Rows.fnArpSpec) :=
  OpenClaim.holds_of_wide 3 Try.f3 rfl rfl rfl rfl rfl rfl rfl ⟨rfl, rfl, rfl, rfl, rfl⟩ rfl rfl rfl rfl rfl (by kernel_rfl) Try.func3 (by kernel_rfl)
    (of_decide_eq_true (by kernel_rfl)) (by unfold Func.isWrapper; first | (rw [if_pos (by decide +kernel)]; kernel_rfl) | (rw [if_neg (by decide +kernel)]; exact ⟨rfl, rfl⟩))
    (fun os started H enc _ => lifted os started H enc)

theorem proved : Rows.FnArpSaid := over
#print axioms proved
end Go.Proofs.Ytamjkchhffhejaa.fnArp
