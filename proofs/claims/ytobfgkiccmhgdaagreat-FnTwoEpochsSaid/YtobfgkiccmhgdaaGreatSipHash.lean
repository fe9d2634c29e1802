/- SipHash, both sides. Nothing here is a claim. -/
import Derived.Test.YtobfgkiccmhgdaaGreatSipW
import Derived.Test.YtobfgkiccmhgdaaGreatSipLow
namespace Go.Proofs.YtobfgkiccmhgdaaGreat
open Go.RowKit Go.Lib

/-- k words of the text. -/
def S4.grp (s : S4) (x : ByteArray) : Nat → S4
  | 0 => s
  | k + 1 => (s.grp x k).wrd (le x (8 * k) 8)
/-- The last word: what remains behind k words, and the length. -/
def sipLast (x : ByteArray) (k : Nat) : BitVec 64 := le x (8 * k) (x.size - 8 * k) ||| (BitVec.ofNat 64 x.size <<< 56)
def sipHash (k l : BitVec 64) (x : ByteArray) : BitVec 64 := (((S4.start k l).grp x (x.size / 8)).wrd (sipLast x (x.size / 8))).fin
theorem cut_size (x : ByteArray) (a b : Nat) (h : a ≤ b) (hb : b ≤ x.size) : (x.extract a b).size = b - a := by
  rw [ByteArray.size_extract]
  omega
theorem cut_cut (x : ByteArray) (a c : Nat) (h : a + c ≤ x.size) : (x.extract a x.size).extract c (x.extract a x.size).size = x.extract (a + c) x.size := by
  rw [cut_size x a x.size (by omega) (by omega), ByteArray.extract_extract]
  congr 1
  omega
theorem le_cut (x : ByteArray) (a : Nat) (h : a ≤ x.size) : le (x.extract a x.size) 0 (x.extract a x.size).size = le x a (x.size - a) := by
  rw [cut_size x a x.size h (by omega), le_extract x a x.size _ (by omega)]
theorem le_cut8 (x : ByteArray) (a : Nat) (h : a + 8 ≤ x.size) : le (x.extract a (a + 8)) 0 (x.extract a (a + 8)).size = le x a 8 := by
  rw [cut_size x a (a + 8) (by omega) h, show a + 8 - a = 8 by omega, le_extract x a (a + 8) _ (by omega)]
theorem le_cut08 (x : ByteArray) (a : Nat) (h : a + 8 ≤ x.size) : le ((x.extract a x.size).extract 0 8) 0 ((x.extract a x.size).extract 0 8).size = le x a 8 := by
  rw [ByteArray.extract_extract, show min (a + 8) x.size = a + 8 by omega]
  exact le_cut8 x a h
theorem len64 (n : Nat) : IntKind.u64.wrap (n : Int) = n64 (BitVec.ofNat 64 n) := by
  rw [IntKind.wrap_u64]
  unfold n64
  rw [BitVec.toNat_ofNat]
  omega
theorem len56 (n : Nat) (h : n < 18446744073709551616) : IntKind.u64.wrap ((n : Int) * 72057594037927936) = n64 (BitVec.ofNat 64 n <<< 56) := by
  rw [← shl64]
  unfold n64
  rw [BitVec.toNat_ofNat, Nat.mod_eq_of_lt h, show (2 : Int) ^ 56 = 72057594037927936 by decide]

set_option maxRecDepth 100000 in
set_option maxHeartbeats 1000000 in
theorem sipHashI (k l : BitVec 64) (x : ByteArray) (hx : x.size ≤ 1048576) (w : World) : Calls Tryz.prog 49 #[.int .u64 (n64 k), .int .u64 (n64 l), .string x] w fun e w' => e = .returned (.int .u64 (n64 (sipHash k l x))) ∧ Below w.heap.size w w' := by
  obtain ⟨s, hs⟩ : ∃ s, Hid (S4.start k l = s) := ⟨_, rfl⟩
  have C0 := Lib.hid (sipStartI k l)
  unfold sipHash
  rw [hs.out] at C0 ⊢
  go_enter Tryz.func49, Tryz.ntmps49
  go_wp2_with fail
  refine (C0.out w).mono ?_
  rintro e w1 ⟨rfl, hb1⟩
  have W1 := Lib.hid (hb1.alloc hb1.size (.cells s.vs.toArray 91))
  have B1 := Lib.hid (Blk.new w1 s.vs 91)
  have g1 := hb1.size
  clear hb1
  go_wp2_with fail
  change Code.wp _ _ _ _ (w1.alloc (.cells s.vs.toArray 91))
  generalize w1.alloc (.cells s.vs.toArray 91) = w2 at W1 B1 ⊢
  generalize w1.heap.size = g at g1 B1 ⊢
  go_loopw [8] (fun r wr => ∃ (j : Nat) (y : ByteArray), r = .string y ∧ Hid (y = x.extract (8 * j) x.size) ∧ y.size + 8 * j = x.size ∧ Hid (Blk wr g (s.grp x j).vs) ∧ Hid (Below w.heap.size w wr))
    (fun r _ => strLen r)
  case atStart => exact ⟨0, x, rfl, by show _ = _; simp, by omega, B1, W1⟩
  case round =>
    obtain ⟨j, y, rfl, hy, hsz, B2, W2⟩ := hrel
    by_cases hlt : 8 ≤ y.size
    · have E := Lib.hid (le_cut08 x (8 * j) (by omega))
      rw [← hy.out] at E
      have z8 : Hid ((y.extract 0 8).size ≤ 8) := by show _ ≤ _; rw [cut_size y 0 8 (by omega) hlt]; decide
      have zr : Hid ((y.extract 8 y.size).size = y.size - 8) := by show _ = _; rw [cut_size y 8 y.size hlt (by omega)]
      go_wp2_with fail
      refine (lowI (y.extract 0 8) z8.out _).mono ?_
      rintro e w3 ⟨rfl, hw3⟩
      rw [hw3, E.out]
      clear hw3
      go_wp2_with fail
      refine (wordI _ _ g _ B2.out).mono ?_
      rintro e w4 ⟨rfl, hB3, hG3⟩
      have B3 := Lib.hid hB3
      have W3 := Lib.hid (W2.out.trans (grown_below hG3 g1 W2.out.size))
      clear hB3 hG3
      go_wp2_with fail
      go_roundw
      case rel =>
        refine ⟨j + 1, _, rfl, ?_, ?_, B3, W3⟩
        · show _ = _
          rw [hy.out, cut_cut x (8 * j) 8 (by omega), show 8 * (j + 1) = 8 * j + 8 by omega]
        · rw [zr.out]; omega
      case measure => simp only [strLen]; rw [zr.out]; omega
    · obtain rfl : j = x.size / 8 := by omega
      have E := Lib.hid (le_cut x (8 * (x.size / 8)) (by omega))
      rw [← hy.out] at E
      have E2 : Hid (bits .or .u64 (n64 (le x (8 * (x.size / 8)) (x.size - 8 * (x.size / 8)))) (IntKind.u64.wrap ((x.size : Int) * 72057594037927936)) = n64 (sipLast x (x.size / 8))) := by
        show _ = _
        rw [len56 _ (by omega), or64]
        rfl
      go_wp2_with fail
      refine (lowI y (by omega) _).mono ?_
      rintro e w3 ⟨rfl, hw3⟩
      rw [hw3, E.out]
      clear hw3
      go_wp2_with fail
      rw [E2.out]
      refine (wordI _ _ g _ B2.out).mono ?_
      rintro e w4 ⟨rfl, hB3, hG3⟩
      have B3 := Lib.hid hB3
      have W3 := Lib.hid (W2.out.trans (grown_below hG3 g1 W2.out.size))
      clear hB3 hG3
      go_wp2_with fail
      refine (endI _ g _ B3.out).mono ?_
      rintro e w5 ⟨rfl, hG4⟩
      have W4 := Lib.hid (W3.out.trans (grown_below hG4 g1 W3.out.size))
      clear hG4
      go_wp2_with fail
      go_ret
      exact ⟨rfl, W4.out⟩

theorem len56m (n : Nat) : IntKind.u64.wrap (((n : Int) % 256) * 72057594037927936) = n64 (BitVec.ofNat 64 n <<< 56) := by
  rw [← shl64]
  unfold n64
  rw [BitVec.toNat_ofNat, IntKind.wrap_u64, IntKind.wrap_u64, show (2 : Int) ^ 56 = 72057594037927936 by decide]
  omega

set_option maxRecDepth 100000 in
set_option maxHeartbeats 1000000 in
theorem sipHashS (k l : BitVec 64) (x : ByteArray) (hx : x.size ≤ 1048576) (w : World) : Calls Tryz.prog 53 #[.int .u64 (n64 k), .int .u64 (n64 l), .string x] w fun e w' => e = .returned (.int .u64 (n64 (sipHash k l x))) ∧ Below w.heap.size w w' := by
  obtain ⟨s, hs⟩ : ∃ s, Hid (S4.start k l = s) := ⟨_, rfl⟩
  have C0 := Lib.hid (sipStartS k l)
  unfold sipHash
  rw [hs.out] at C0 ⊢
  go_enter Tryz.func53, Tryz.ntmps53
  go_wp2_with fail
  refine (C0.out w).mono ?_
  rintro e w1 ⟨rfl, hb1⟩
  have W1 := Lib.hid (hb1.alloc hb1.size (.cells s.vs.toArray 91))
  have B1 := Lib.hid (Blk.new w1 s.vs 91)
  have g1 := hb1.size
  clear hb1
  go_wp2_with fail
  change Code.wp _ _ _ _ (w1.alloc (.cells s.vs.toArray 91))
  generalize w1.alloc (.cells s.vs.toArray 91) = w2 at W1 B1 ⊢
  generalize w1.heap.size = g at g1 B1 ⊢
  go_loopw [9] (fun a wr => ∃ j p : Nat, Hid (p = 8 * j) ∧ a = .int .i64 p ∧ p ≤ x.size ∧ Hid (Blk wr g (s.grp x j).vs) ∧ Hid (Below w.heap.size w wr))
    (fun a _ => x.size - (RowKit.intOf a).toNat)
  case atStart => exact ⟨0, 0, rfl, rfl, by omega, B1, W1⟩
  case round =>
    obtain ⟨j, p, hp, rfl, hsz, B2, W2⟩ := hrel
    obtain ⟨⟨c0, c1, c2, c3⟩, f0, f1, f2, f3⟩ := B2.out.sip
    have B3 := Lib.hid (B2.out.drew)
    have W3 := Lib.hid (W2.out.trans (show Below w.heap.size wr wr.drew from ⟨rfl, rfl, rfl, Nat.le_refl _, fun _ _ => rfl⟩))
    by_cases hlt : p + 8 ≤ x.size
    · have E := Lib.hid (le_cut8 x p hlt)
      have z8 : Hid ((x.extract p (p + 8)).size ≤ 1000) := by show _ ≤ _; rw [cut_size x _ _ (by omega) hlt]; omega
      have hg : Hid ((s.grp x j).wrd (le x p 8) = s.grp x (j + 1)) := by show _ = _; rw [hp.out]; rfl
      have hp2 : Hid (p + 8 = 8 * (j + 1)) := by show _ = _; rw [hp.out]; omega
      have hm : Hid (x.size - (p + 8) < x.size - p) := by show _ < _; omega
      have q2 : (p : Int) + 8 ≤ x.size := by omega
      have a1 : IntKind.i64.wrap ((p : Int) + 8) = (p : Int) + 8 := by rw [IntKind.wrap_i64]; omega
      have a2 : (0 : Int) ≤ (p : Int) + 8 := by omega
      have a3 : (p : Int) ≤ (p : Int) + 8 := by omega
      have a4 : ((p : Int) + 8).toNat = p + 8 := by omega
      go_wp2_with fail
      go_still_tail 7, (by kernel_rfl)
      still_call (lowS (x.extract p (p + 8)) z8.out _)
      repeat still_step
      refine wpStill_nil ?_
      rw [E.out]
      change wpList _ _ _ _ _ wr.drew
      generalize wr.drew = wd at B3 W3 ⊢
      clear B2 W2 c0 c1 c2 c3 f0 f1 f2 f3
      go_wp2_with fail
      refine (sipWordS (s.grp x j) (le x p 8) wd).mono ?_
      rw [hg.out]
      rintro e w4 ⟨rfl, hb4⟩
      have B4 := Lib.hid (B3.out.below hb4)
      have W4 := Lib.hid (W3.out.trans (hb4.mono W3.out.size))
      clear hb4 B3 W3
      obtain ⟨⟨c0, c1, c2, c3⟩, f0, f1, f2, f3⟩ := B4.out.sip
      clear a2 a3 a4
      go_wp2_with fail
      go_roundw
      case rel => exact ⟨j + 1, p + 8, hp2, by go_num, by omega, (((B4.out.set 0 _).set 1 _).set 2 _).set 3 _, (((W4.out.setCell g1 _).setCell g1 _).setCell g1 _).setCell g1 _⟩
      case measure => simp [RowKit.intOf]; omega
    · obtain rfl : j = x.size / 8 := by have := hp.out; omega
      have E := Lib.hid (le_cut x p hsz)
      have z8 : Hid ((x.extract p x.size).size ≤ 1000) := by show _ ≤ _; rw [cut_size x _ _ hsz (by omega)]; omega
      have E2 : Hid (bits .or .u64 (n64 (le x p (x.size - p))) (IntKind.u64.wrap (((x.size : Int) % 256) * 72057594037927936)) = n64 (sipLast x (x.size / 8))) := by
        show _ = _
        rw [len56m, or64, hp.out]
        rfl
      have C1 := Lib.hid (lowS (x.extract p x.size) z8.out)
      rw [E.out] at C1
      obtain ⟨m, hm⟩ : ∃ m, Hid (le x p (x.size - p) = m) := ⟨_, rfl⟩
      rw [hm.out] at C1 E2
      clear hm E
      have a5 : IntKind.u64.wrap ((x.size : Int) % 256) = (x.size : Int) % 256 := by rw [IntKind.wrap_u64]; omega
      have a6 : (x.size : Int).tmod 256 = (x.size : Int) % 256 := by rw [Int.tmod_eq_emod_of_nonneg (by omega)]
      go_wp2_with fail
      go_still_tail 10, (by kernel_rfl)
      still_call (C1.out _)
      repeat still_step
      refine wpStill_nil ?_
      rw [E2.out]
      change wpList _ _ _ _ _ wr.drew
      generalize wr.drew = wd at B3 W3 ⊢
      clear B2 W2 c0 c1 c2 c3 f0 f1 f2 f3
      go_wp2_with fail
      refine (sipWordS _ _ wd).mono ?_
      rintro e w4 ⟨rfl, hb4⟩
      have W4 := Lib.hid (W3.out.trans (hb4.mono W3.out.size))
      clear hb4 B3 W3
      go_wp2_with fail
      refine (sipEndS _ w4).mono ?_
      rintro e w5 ⟨rfl, hb5⟩
      have W5 := Lib.hid (W4.out.trans (hb5.mono W4.out.size))
      clear hb5 W4
      go_wp2_with fail
      go_ret
      exact ⟨rfl, W5.out⟩
end Go.Proofs.YtobfgkiccmhgdaaGreat
