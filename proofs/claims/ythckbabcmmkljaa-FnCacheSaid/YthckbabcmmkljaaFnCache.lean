/- The law FnCache holds at every code: what was learned last is found, the cache stays valid, has at most four entries and no fewer than before; what is not valid changes nothing; the call returns true for every argument, without condition. -/
import Derived.Test.YthckbabcmmkljaaRows
import Derived.Test.YthckbabcmmkljaaDraw15
import Derived.Test.YthckbabcmmkljaaEntP
import Derived.Test.YthckbabcmmkljaaEntLaw
import Derived.Test.YthckbabcmmkljaaBig
import Derived.Test.YthckbabcmmkljaaOpen
import Derived.ShutString
import Derived.ChangeOld
import Derived.Below
namespace Go.Proofs.Ythckbabcmmkljaa.fnCache
open Go.ChangeShapes Go.WideShapes Go.ChangeAt Go.RowKit Go.Lib

/-- The law's word: true, and what lay before the call lies as it lay. -/
def OkB (w : World) (e : Ending) (w' : World) : Prop := e = .returned (.bool true) ∧ Below w.heap.size w w'

set_option maxRecDepth 100000 in
set_option maxHeartbeats 8000000 in
theorem walk (a0 : Option Addr) (len0 cap0 : Nat) (s0 : List UInt8) {w : World} (w0 : IsBytes w a0 len0 s0) :
    Calls Try.prog 3 #[.slice a0 len0 cap0] w (OkB w) := by
  obtain ⟨⟨rfl, hm⟩, hrow⟩ := w0
  unfold maxLen at hm
  have HR := Lib.hid hrow
  clear hrow
  by_cases hs : s0.length ≤ 1048576
  · go_enter Try.func3, Try.ntmps3
    go_wp2_with fail
    refine (big_no _ _ _ _ hs).mono ?_
    rintro e w' ⟨rfl, rfl⟩
    go_wp2_with fail
    refine (drawLearned _ _ _ _ HR.out hs).mono ?_
    rintro e v0 ⟨rs, b, c, ip, hw, rfl, ⟨hi, hh⟩, ⟨hl6, hgd⟩, hc, hr, hb⟩
    have HG := Lib.hid hgd
    have B0 := Lib.hid hb
    have Rl0 := Lib.hid hr
    have HI := Lib.hid hi
    have HH := Lib.hid hh
    clear hgd hr hb hi hh HR
    have CI := Lib.hid (fun w h => learnedI (some ⟨b, 0, none⟩) c rs ip hw w h (fun e => by cases e) (by omega))
    have CS := Lib.hid (fun w h => learnedN b 0 c rs ip hw w h (by omega) hc)
    have KI := Lib.hid (fun w h => cacheOkI (some ⟨b, 0, none⟩) c rs w h (by omega))
    have KS := Lib.hid (fun w h => cacheOkS (some ⟨b, 0, none⟩) c rs w h (by omega) hc)
    have W1 := Lib.hid (fun w => wordOkS_E ip 32 w)
    have W2 := Lib.hid (fun w => wordOkS_E hw 48 w)
    have hll := learnE_length rs ip hw
    cases hx1 : cacheOk rs with
    | false =>
      have e0 : learnE rs ip hw = rs := learnE_no (by rw [hx1]; rfl)
      rw [e0] at CI CS
      rw [hx1] at KI KS
      clear e0 hll hx1
      go_wp2_with fail
      refine (CI.out _ Rl0.out).mono ?_
      rintro e v1 ⟨a1, c1, rfl, ho, hb⟩
      have Rl1 := Lib.hid ((Rl0.out.below hb).mono hb.size)
      have B1 := Lib.hid (B0.out.trans (hb.mono B0.out.size))
      have Ro1 := Lib.hid (Row.ownV ho)
      clear hb Rl0 B0 ho
      go_wp2_with fail
      refine (CS.out _ Rl1.out).mono ?_
      rintro e v2 ⟨g2, c2, rfl, ho, hb⟩
      have Rl2 := Lib.hid ((Rl1.out.below hb).mono hb.size)
      have Ro2 := Lib.hid ((Ro1.out.below hb).mono hb.size)
      have B2 := Lib.hid (B1.out.trans (hb.mono B1.out.size))
      have Rs2 := Lib.hid (Row.ownV ho)
      clear hb Rl1 Ro1 B1 ho
      go_wp2_with fail
      refine (sameEntries_self a1 (some ⟨g2, 0, none⟩) _ c1 c2 rs _ rfl Ro2.out Rs2.out (by omega)).mono ?_
      rintro e v3 ⟨rfl, hb⟩
      have Rl3 := Lib.hid ((Rl2.out.below hb).mono hb.size)
      have Ro3 := Lib.hid ((Ro2.out.below hb).mono hb.size)
      have Rs3 := Lib.hid ((Rs2.out.below hb).mono hb.size)
      have B3 := Lib.hid (B2.out.trans (hb.mono B2.out.size))
      clear hb Rl2 Ro2 Rs2 B2
      go_wp2_with fail
      refine (KI.out _ Rl3.out).mono ?_
      rintro e v4 ⟨rfl, hb⟩
      have Rl4 := Lib.hid ((Rl3.out.below hb).mono hb.size)
      have Ro4 := Lib.hid ((Ro3.out.below hb).mono hb.size)
      have B4 := Lib.hid (B3.out.trans (hb.mono B3.out.size))
      clear hb Rl3 Ro3 B3
      go_wp2_with fail
      refine (KS.out _ Rl4.out).mono ?_
      rintro e v5 ⟨rfl, hb⟩
      have Rl5 := Lib.hid ((Rl4.out.below hb).mono hb.size)
      have Ro5 := Lib.hid ((Ro4.out.below hb).mono hb.size)
      have B5 := Lib.hid (B4.out.trans (hb.mono B4.out.size))
      clear hb Rl4 Ro4 B4
      go_wp2_with fail
      refine (KS.out _ Rl5.out).mono ?_
      rintro e v6 ⟨rfl, hb⟩
      have Rl6 := Lib.hid ((Rl5.out.below hb).mono hb.size)
      have Ro6 := Lib.hid ((Ro5.out.below hb).mono hb.size)
      have B6 := Lib.hid (B5.out.trans (hb.mono B5.out.size))
      clear hb Rl5 Ro5 B5
      go_wp2_with fail
      refine (sameEntries_self a1 (some ⟨b, 0, none⟩) _ c1 c rs _ rfl Ro6.out Rl6.out (by omega)).mono ?_
      rintro e v7 ⟨rfl, hb⟩
      have Rl7 := Lib.hid ((Rl6.out.below hb).mono hb.size)
      have Ro7 := Lib.hid ((Ro6.out.below hb).mono hb.size)
      have B7 := Lib.hid (B6.out.trans (hb.mono B6.out.size))
      clear hb Rl6 Ro6 B6
      go_wp2_with fail
      go_ret
      exact ⟨rfl, B7.out⟩
    | true =>
      cases hx2 : wordOk ip 32 with
      | false =>
        have e0 : learnE rs ip hw = rs := learnE_no (by rw [hx1, hx2]; rfl)
        rw [e0] at CI CS
        rw [hx1] at KI KS
        rw [hx2] at W1
        clear e0 hll hx1 hx2
        go_wp2_with fail
        refine (CI.out _ Rl0.out).mono ?_
        rintro e v1 ⟨a1, c1, rfl, ho, hb⟩
        have Rl1 := Lib.hid ((Rl0.out.below hb).mono hb.size)
        have B1 := Lib.hid (B0.out.trans (hb.mono B0.out.size))
        have Ro1 := Lib.hid (Row.ownV ho)
        clear hb Rl0 B0 ho
        go_wp2_with fail
        refine (CS.out _ Rl1.out).mono ?_
        rintro e v2 ⟨g2, c2, rfl, ho, hb⟩
        have Rl2 := Lib.hid ((Rl1.out.below hb).mono hb.size)
        have Ro2 := Lib.hid ((Ro1.out.below hb).mono hb.size)
        have B2 := Lib.hid (B1.out.trans (hb.mono B1.out.size))
        have Rs2 := Lib.hid (Row.ownV ho)
        clear hb Rl1 Ro1 B1 ho
        go_wp2_with fail
        refine (sameEntries_self a1 (some ⟨g2, 0, none⟩) _ c1 c2 rs _ rfl Ro2.out Rs2.out (by omega)).mono ?_
        rintro e v3 ⟨rfl, hb⟩
        have Rl3 := Lib.hid ((Rl2.out.below hb).mono hb.size)
        have Ro3 := Lib.hid ((Ro2.out.below hb).mono hb.size)
        have Rs3 := Lib.hid ((Rs2.out.below hb).mono hb.size)
        have B3 := Lib.hid (B2.out.trans (hb.mono B2.out.size))
        clear hb Rl2 Ro2 Rs2 B2
        go_wp2_with fail
        refine (KI.out _ Rl3.out).mono ?_
        rintro e v4 ⟨rfl, hb⟩
        have Rl4 := Lib.hid ((Rl3.out.below hb).mono hb.size)
        have Ro4 := Lib.hid ((Ro3.out.below hb).mono hb.size)
        have B4 := Lib.hid (B3.out.trans (hb.mono B3.out.size))
        clear hb Rl3 Ro3 B3
        go_wp2_with fail
        refine (KS.out _ Rl4.out).mono ?_
        rintro e v5 ⟨rfl, hb⟩
        have Rl5 := Lib.hid ((Rl4.out.below hb).mono hb.size)
        have Ro5 := Lib.hid ((Ro4.out.below hb).mono hb.size)
        have B5 := Lib.hid (B4.out.trans (hb.mono B4.out.size))
        clear hb Rl4 Ro4 B4
        go_wp2_with fail
        refine (KS.out _ Rl5.out).mono ?_
        rintro e v6 ⟨rfl, hb⟩
        have Rl6 := Lib.hid ((Rl5.out.below hb).mono hb.size)
        have Ro6 := Lib.hid ((Ro5.out.below hb).mono hb.size)
        have B6 := Lib.hid (B5.out.trans (hb.mono B5.out.size))
        clear hb Rl5 Ro5 B5
        go_wp2_with fail
        refine (W1.out _).mono ?_
        rintro e v7 ⟨rfl, hb⟩
        have Rl7 := Lib.hid ((Rl6.out.below hb).mono hb.size)
        have Ro7 := Lib.hid ((Ro6.out.below hb).mono hb.size)
        have B7 := Lib.hid (B6.out.trans (hb.mono B6.out.size))
        clear hb Rl6 Ro6 B6
        go_wp2_with fail
        refine (sameEntries_self a1 (some ⟨b, 0, none⟩) _ c1 c rs _ rfl Ro7.out Rl7.out (by omega)).mono ?_
        rintro e v8 ⟨rfl, hb⟩
        have Rl8 := Lib.hid ((Rl7.out.below hb).mono hb.size)
        have Ro8 := Lib.hid ((Ro7.out.below hb).mono hb.size)
        have B8 := Lib.hid (B7.out.trans (hb.mono B7.out.size))
        clear hb Rl7 Ro7 B7
        go_wp2_with fail
        go_ret
        exact ⟨rfl, B8.out⟩
      | true =>
        cases hx3 : wordOk hw 48 with
        | false =>
          have e0 : learnE rs ip hw = rs := learnE_no (by rw [hx1, hx2, hx3]; rfl)
          rw [e0] at CI CS
          rw [hx1] at KI KS
          rw [hx2] at W1
          rw [hx3] at W2
          clear e0 hll hx1 hx2 hx3
          go_wp2_with fail
          refine (CI.out _ Rl0.out).mono ?_
          rintro e v1 ⟨a1, c1, rfl, ho, hb⟩
          have Rl1 := Lib.hid ((Rl0.out.below hb).mono hb.size)
          have B1 := Lib.hid (B0.out.trans (hb.mono B0.out.size))
          have Ro1 := Lib.hid (Row.ownV ho)
          clear hb Rl0 B0 ho
          go_wp2_with fail
          refine (CS.out _ Rl1.out).mono ?_
          rintro e v2 ⟨g2, c2, rfl, ho, hb⟩
          have Rl2 := Lib.hid ((Rl1.out.below hb).mono hb.size)
          have Ro2 := Lib.hid ((Ro1.out.below hb).mono hb.size)
          have B2 := Lib.hid (B1.out.trans (hb.mono B1.out.size))
          have Rs2 := Lib.hid (Row.ownV ho)
          clear hb Rl1 Ro1 B1 ho
          go_wp2_with fail
          refine (sameEntries_self a1 (some ⟨g2, 0, none⟩) _ c1 c2 rs _ rfl Ro2.out Rs2.out (by omega)).mono ?_
          rintro e v3 ⟨rfl, hb⟩
          have Rl3 := Lib.hid ((Rl2.out.below hb).mono hb.size)
          have Ro3 := Lib.hid ((Ro2.out.below hb).mono hb.size)
          have Rs3 := Lib.hid ((Rs2.out.below hb).mono hb.size)
          have B3 := Lib.hid (B2.out.trans (hb.mono B2.out.size))
          clear hb Rl2 Ro2 Rs2 B2
          go_wp2_with fail
          refine (KI.out _ Rl3.out).mono ?_
          rintro e v4 ⟨rfl, hb⟩
          have Rl4 := Lib.hid ((Rl3.out.below hb).mono hb.size)
          have Ro4 := Lib.hid ((Ro3.out.below hb).mono hb.size)
          have B4 := Lib.hid (B3.out.trans (hb.mono B3.out.size))
          clear hb Rl3 Ro3 B3
          go_wp2_with fail
          refine (KS.out _ Rl4.out).mono ?_
          rintro e v5 ⟨rfl, hb⟩
          have Rl5 := Lib.hid ((Rl4.out.below hb).mono hb.size)
          have Ro5 := Lib.hid ((Ro4.out.below hb).mono hb.size)
          have B5 := Lib.hid (B4.out.trans (hb.mono B4.out.size))
          clear hb Rl4 Ro4 B4
          go_wp2_with fail
          refine (KS.out _ Rl5.out).mono ?_
          rintro e v6 ⟨rfl, hb⟩
          have Rl6 := Lib.hid ((Rl5.out.below hb).mono hb.size)
          have Ro6 := Lib.hid ((Ro5.out.below hb).mono hb.size)
          have B6 := Lib.hid (B5.out.trans (hb.mono B5.out.size))
          clear hb Rl5 Ro5 B5
          go_wp2_with fail
          refine (W1.out _).mono ?_
          rintro e v7 ⟨rfl, hb⟩
          have Rl7 := Lib.hid ((Rl6.out.below hb).mono hb.size)
          have Ro7 := Lib.hid ((Ro6.out.below hb).mono hb.size)
          have B7 := Lib.hid (B6.out.trans (hb.mono B6.out.size))
          clear hb Rl6 Ro6 B6
          go_wp2_with fail
          refine (W2.out _).mono ?_
          rintro e v8 ⟨rfl, hb⟩
          have Rl8 := Lib.hid ((Rl7.out.below hb).mono hb.size)
          have Ro8 := Lib.hid ((Ro7.out.below hb).mono hb.size)
          have B8 := Lib.hid (B7.out.trans (hb.mono B7.out.size))
          clear hb Rl7 Ro7 B7
          go_wp2_with fail
          refine (sameEntries_self a1 (some ⟨b, 0, none⟩) _ c1 c rs _ rfl Ro8.out Rl8.out (by omega)).mono ?_
          rintro e v9 ⟨rfl, hb⟩
          have Rl9 := Lib.hid ((Rl8.out.below hb).mono hb.size)
          have Ro9 := Lib.hid ((Ro8.out.below hb).mono hb.size)
          have B9 := Lib.hid (B8.out.trans (hb.mono B8.out.size))
          clear hb Rl8 Ro8 B8
          go_wp2_with fail
          go_ret
          exact ⟨rfl, B9.out⟩
        | true =>
          have e0 : learnE rs ip hw = putE rs ⟨ip, hw, 0⟩ := learnE_yes (by rw [hx1, hx2, hx3]; rfl)
          have p1 := put_ok (q := ⟨ip, hw, 0⟩) hx1 ⟨hx2, hx3, Int.le_refl 0, (show (0 : Int) ≤ 9 by decide)⟩
          have p2 := put_size (q := ⟨ip, hw, 0⟩) (cacheOk_le hx1)
          have p3 := put_hw rs ⟨ip, hw, 0⟩
          rw [← e0] at p1 p2 p3
          obtain ⟨LL, hLL⟩ : ∃ LL, learnE rs ip hw = LL := ⟨_, rfl⟩
          rw [hLL] at CI CS hll p1 p2 p3
          have HW := Lib.hid (fun a c w h => hwOfI a c LL ip w h (by omega))
          have K2 := Lib.hid (fun a c w h => cacheOkI a c LL w h (by omega))
          unfold HwEnd at HW
          rw [show hasE LL ip = true from p3.1, show hwE LL ip = hw from p3.2] at HW
          rw [p1] at K2
          have HZ := Lib.hid p2
          rw [hx1] at KI KS
          rw [hx2] at W1
          rw [hx3] at W2
          clear hLL e0 p1 p2 p3 hx1 hx2 hx3
          go_wp2_with fail
          refine (CI.out _ Rl0.out).mono ?_
          rintro e v1 ⟨a1, c1, rfl, ho, hb⟩
          have Rl1 := Lib.hid ((Rl0.out.below hb).mono hb.size)
          have B1 := Lib.hid (B0.out.trans (hb.mono B0.out.size))
          have Ro1 := Lib.hid (Row.ownV ho)
          clear hb Rl0 B0 ho
          go_wp2_with fail
          refine (CS.out _ Rl1.out).mono ?_
          rintro e v2 ⟨g2, c2, rfl, ho, hb⟩
          have Rl2 := Lib.hid ((Rl1.out.below hb).mono hb.size)
          have Ro2 := Lib.hid ((Ro1.out.below hb).mono hb.size)
          have B2 := Lib.hid (B1.out.trans (hb.mono B1.out.size))
          have Rs2 := Lib.hid (Row.ownV ho)
          clear hb Rl1 Ro1 B1 ho
          go_wp2_with fail
          refine (sameEntries_self a1 (some ⟨g2, 0, none⟩) _ c1 c2 LL _ rfl Ro2.out Rs2.out (by omega)).mono ?_
          rintro e v3 ⟨rfl, hb⟩
          have Rl3 := Lib.hid ((Rl2.out.below hb).mono hb.size)
          have Ro3 := Lib.hid ((Ro2.out.below hb).mono hb.size)
          have Rs3 := Lib.hid ((Rs2.out.below hb).mono hb.size)
          have B3 := Lib.hid (B2.out.trans (hb.mono B2.out.size))
          clear hb Rl2 Ro2 Rs2 B2
          go_wp2_with fail
          refine (KI.out _ Rl3.out).mono ?_
          rintro e v4 ⟨rfl, hb⟩
          have Rl4 := Lib.hid ((Rl3.out.below hb).mono hb.size)
          have Ro4 := Lib.hid ((Ro3.out.below hb).mono hb.size)
          have B4 := Lib.hid (B3.out.trans (hb.mono B3.out.size))
          clear hb Rl3 Ro3 B3
          go_wp2_with fail
          refine (KS.out _ Rl4.out).mono ?_
          rintro e v5 ⟨rfl, hb⟩
          have Rl5 := Lib.hid ((Rl4.out.below hb).mono hb.size)
          have Ro5 := Lib.hid ((Ro4.out.below hb).mono hb.size)
          have B5 := Lib.hid (B4.out.trans (hb.mono B4.out.size))
          clear hb Rl4 Ro4 B4
          go_wp2_with fail
          refine (KS.out _ Rl5.out).mono ?_
          rintro e v6 ⟨rfl, hb⟩
          have Rl6 := Lib.hid ((Rl5.out.below hb).mono hb.size)
          have Ro6 := Lib.hid ((Ro5.out.below hb).mono hb.size)
          have B6 := Lib.hid (B5.out.trans (hb.mono B5.out.size))
          clear hb Rl5 Ro5 B5
          go_wp2_with fail
          refine (W1.out _).mono ?_
          rintro e v7 ⟨rfl, hb⟩
          have Rl7 := Lib.hid ((Rl6.out.below hb).mono hb.size)
          have Ro7 := Lib.hid ((Ro6.out.below hb).mono hb.size)
          have B7 := Lib.hid (B6.out.trans (hb.mono B6.out.size))
          clear hb Rl6 Ro6 B6
          go_wp2_with fail
          refine (W2.out _).mono ?_
          rintro e v8 ⟨rfl, hb⟩
          have Rl8 := Lib.hid ((Rl7.out.below hb).mono hb.size)
          have Ro8 := Lib.hid ((Ro7.out.below hb).mono hb.size)
          have B8 := Lib.hid (B7.out.trans (hb.mono B7.out.size))
          clear hb Rl7 Ro7 B7
          go_wp2_with fail
          refine (HW.out a1 c1 _ Ro8.out).mono ?_
          rintro e v9 ⟨rfl, hb⟩
          have Rl9 := Lib.hid ((Rl8.out.below hb).mono hb.size)
          have Ro9 := Lib.hid ((Ro8.out.below hb).mono hb.size)
          have B9 := Lib.hid (B8.out.trans (hb.mono B8.out.size))
          clear hb Rl8 Ro8 B8
          have hww : (hw == hw) = true := by simp
          go_wp2_with fail
          refine (K2.out a1 c1 _ Ro9.out).mono ?_
          rintro e v10 ⟨rfl, hb⟩
          have Rl10 := Lib.hid ((Rl9.out.below hb).mono hb.size)
          have Ro10 := Lib.hid ((Ro9.out.below hb).mono hb.size)
          have B10 := Lib.hid (B9.out.trans (hb.mono B9.out.size))
          clear hb Rl9 Ro9 B9
          have hz1 := HZ.out.1
          have hz2 := HZ.out.2
          have hd1 : decide ((LL.length : Int) ≤ 4) = true := by simp; omega
          have hd2 : decide ((rs.length : Int) ≤ (LL.length : Int)) = true := by simp; omega
          go_wp2_with fail
          go_ret
          exact ⟨rfl, B10.out⟩
  · have h1 : 1048576 < s0.length := by omega
    go_enter Try.func3, Try.ntmps3
    go_wp2_with fail
    refine (big_yes _ _ _ _ h1 hm).mono ?_
    rintro e w' ⟨rfl, rfl⟩
    go_wp2_with fail
    go_ret
    exact ⟨rfl, Below.refl _ _⟩
theorem own : ownKnob Try.prog.godebug = none := by kernel_rfl
theorem laidOut : laidOutB Try.prog = true := by kernel_rfl

set_option maxRecDepth 100000 in
theorem lifted (os : Os) (started : os.Started) (H : Type) (enc : TypeId × Value → H) :
    ReturnsInHanded {} Try.checked os 3 .any (Rows.fnCacheSpec.pre6 enc Try.prog Try.f3 Rows.fnCacheRow.domain false) (Rows.fnCacheSpec.post enc Try.prog Try.f3 false true false false) := by
  refine returnsInHanded_of_change (C := Try.checked) own started (by kernel_rfl) Try.func3
    (ChangeSpec.witness6 (enc := enc) (C := Try.checked) false ⟨#[], #[.slice none 0 0], []⟩ 8 (by kernel_rfl) (by kernel_rfl) (by kernel_rfl) (by kernel_rfl)) ?_
  intro W base args ds gs before hval0 hW _ _
  have hval : ∀ (j : Nat) t v, Try.f3.params[j]? = some t → args[j]? = some v → Value.okWide Try.prog W .any base t v := hval0
  have hW' := hW
  obtain ⟨p, q, hA0, hV, rfl, _, _⟩ := hW
  have hA : DataW.TrodAll enc Try.prog W 0 (fun _ => true) true Try.f3.params.toList args.toList ds p := hA0
  rw [Try.params3] at hA hval
  obtain ⟨v0, vs0, d0, ds0, p0, q0, hargs, rfl, rfl, h0, r0⟩ := trodAll_cons hA
  obtain ⟨rfl, rfl, rfl⟩ := trodAll_nil r0
  obtain rfl : args = #[v0] := by cases args; simp_all
  obtain ⟨rfl, rfl⟩ := trodVars_none hV
  obtain ⟨a0, len0, cap0, rfl⟩ := okWide_slice Try.underlying22 (hval 0 22 v0 rfl rfl)
  have k0 := h0
  have lt0 : ∀ x ∈ p0, x.block < W.heap.size := by obtain ⟨m, hm⟩ := k0; exact DataW.trod_lt m _ _ _ hm
  obtain ⟨s0, w0⟩ : ∃ bs : List UInt8, IsBytes W a0 len0 bs := by obtain ⟨fuel, hf⟩ := h0; exact openBytes Try.underlying22 Try.underlying5 (by kernel_rfl) hf
  clear hA0 hval0
  refine (walk a0 len0 cap0 s0 w0).mono fun e W' ⟨he, bel⟩ => ?_
  subst he
  exact ⟨_, rfl, _, _, _, [], _, [], hW', trodAll_mk1 (shut_bool Try.underlying4 _), (trodAll_cons_mk (Below.trod laidOut (by kernel_rfl) (of_decide_eq_true (by kernel_rfl)) k0 bel lt0) trodAll_mk0), rfl, bel.frame _, fun h => by cases h⟩

theorem over : Rows.fnCacheRow.holds Try.pinned (OpenSpec.ofChange Rows.fnCacheSpec) :=
  OpenClaim.holds_of_wide 3 Try.f3 rfl rfl rfl rfl rfl rfl rfl ⟨rfl, rfl, rfl, rfl, rfl⟩ rfl rfl rfl rfl rfl (by kernel_rfl) Try.func3 (by kernel_rfl)
    (of_decide_eq_true (by kernel_rfl)) (by unfold Func.isWrapper; first | (rw [if_pos (by decide +kernel)]; kernel_rfl) | (rw [if_neg (by decide +kernel)]; exact ⟨rfl, rfl⟩))
    (fun os started H enc _ => lifted os started H enc)

theorem proved : Rows.FnCacheSaid := over
#print axioms proved
end Go.Proofs.Ythckbabcmmkljaa.fnCache
