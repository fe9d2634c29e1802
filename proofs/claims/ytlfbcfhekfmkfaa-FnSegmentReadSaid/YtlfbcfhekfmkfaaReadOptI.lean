/- impl.ReadOptions -/
import Derived.Test.YtlfbcfhekfmkfaaOptOk
import Derived.Test.YtlfbcfhekfmkfaaOptAt
import Derived.Test.YtlfbcfhekfmkfaaKit
import Derived.Deep.DeepCutAuto
namespace Go.Proofs.Ytlfbcfhekfmkfaa
open Go.RowKit Go.Lib

set_option maxRecDepth 100000 in
set_option maxHeartbeats 4000000 in
theorem readOptionsI (s : ByteArray) (w : World) (hs : s.size ≤ 1048576) :
    Calls Try.prog 46 #[.string s] w fun e' w' => e' = .returned (.tuple #[.agg (optRead s).1.cs, .bool (optRead s).2]) ∧ Below w.heap.size w w' := by
  obtain ⟨r, hr⟩ : ∃ r, optRead s = r := ⟨_, rfl⟩
  rw [hr]
  have R := Lib.hid hr
  clear hr
  have N := Lib.hid noOptionsI
  go_enter Try.func46, Try.ntmps46
  go_wp2_with fail
  refine wp_scope_ahead 0 rfl ?_
  go_wp2_with fail
  refine (N.out _).mono ?_
  rintro e' w1 ⟨rfl, hb1⟩
  have B1 := Lib.hid (((Below.refl w.heap.size w).alloc (Nat.le_refl _) _).trans (hb1.mono (by simp)))
  have K1 := Lib.hid ((Blk.new w [.int .i64 0, .int .i64 0, .bool false, .bool false, .int .i64 0, .int .i64 0] 25).below hb1)
  clear hb1
  go_wp2_with fail
  go_step3
  go_wp2_with fail
  have hg1 : w.heap.size < w1.heap.size := K1.out.lt
  have B2 := Lib.hid (B1.out.alloc B1.out.size (.cells #[.int .i64 0, .int .i64 (-1), .bool false, .bool false, .int .i64 0, .int .i64 0] 25))
  have K2 := Lib.hid (K1.out.alloc (.cells #[.int .i64 0, .int .i64 (-1), .bool false, .bool false, .int .i64 0, .int .i64 0] 25))
  have F2 := Lib.hid (Blk.new w1 [.int .i64 0, .int .i64 (-1), .bool false, .bool false, .int .i64 0, .int .i64 0] 25)
  clear B1 K1
  generalize w1.alloc (.cells #[.int .i64 0, .int .i64 (-1), .bool false, .bool false, .int .i64 0, .int .i64 0] 25) = w2 at B2 K2 F2 ⊢
  generalize hg : w1.heap.size = g at F2 hg1 ⊢
  clear hg
  have hgne : w.heap.size ≠ g := by omega
  have hgne2 : g ≠ w.heap.size := by omega
  have hBg : w.heap.size ≤ g := by omega
  go_loopw [5] (fun i wr => ∃ (a f : Nat) (o : Opt), i = .int .i64 a ∧ a ≤ s.size ∧ s.size ≤ a + f ∧ Hid (optRd s f a o = r) ∧ Blk wr w.heap.size [.int .i64 0, .int .i64 0, .bool false, .bool false, .int .i64 0, .int .i64 0] ∧ Blk wr g o.cs.toList ∧ Below w.heap.size w wr)
    (fun i _ => s.size - (RowKit.intOf i).toNat)
  case atStart => exact ⟨0, s.size, optNo, rfl, Nat.zero_le _, by omega, R.out, K2.out, F2.out, B2.out⟩
  case round =>
    clear B2 K2 F2 R
    obtain ⟨a, f, ⟨m, c, k, t, v, e⟩, rfl, ha, hf, hr, hk, hF, hb⟩ := hrel
    have K := Lib.hid hk
    have E := Lib.hid hF
    have B := Lib.hid hb
    clear hk hF hb
    by_cases h0 : a < s.size
    · have e8 : s[a] = at8 s a := at8_eq s a h0
      by_cases hz : (at8 s a).toNat = 0
      · have b0 : ((s[a].toNat : Int) == 0) = true := by rw [e8, beq_iff_eq]; omega
        have D := Lib.hid ((optRd_end s f a ⟨m, c, k, t, v, e⟩ (.inr hz)).symm.trans hr.out)
        clear e8 hz hr
        obtain ⟨⟨c0, c1, c2, c3, c4, c5⟩, f0, f1, f2, f3, f4, f5⟩ := (show Blk _ g [.int .i64 m, .int .i64 c, .bool k, .bool t, .int .i64 v, .int .i64 e] from E.out).of6
        obtain ⟨⟨d0, d1, d2, d3, d4, d5⟩, g0, g1, g2, g3, g4, g5⟩ := K.out.of6
        go_wp2_with fail
        go_step3
        refine ⟨rfl, fun J => ?_⟩
        go_wp2_with fail
        simp only [Exit.jump]
        exact bodyPost_ret (v := .tuple #[.agg #[.int .i64 m, .int .i64 c, .bool k, .bool t, .int .i64 v, .int .i64 e], .bool true]) (by simp [results, Try.results46, go_sem, d0, d1, d2, d3, d4, d5]) rfl ⟨by rw [← D.out]; rfl, (((((B.out.setCell (Nat.le_refl _) _).setCell (Nat.le_refl _) _).setCell (Nat.le_refl _) _).setCell (Nat.le_refl _) _).setCell (Nat.le_refl _) _).setCell (Nat.le_refl _) _⟩
      by_cases h1 : (at8 s a).toNat = 1
      · have b0 : ((s[a].toNat : Int) == 0) = false := by rw [e8, beq_eq_false_iff_ne]; omega
        have b1 : ((s[a].toNat : Int) == 1) = true := by rw [e8, beq_iff_eq]; omega
        obtain ⟨q, rfl⟩ : ∃ q, f = q + 1 := ⟨f - 1, by omega⟩
        have D := Lib.hid ((optRd_pad s q a ⟨m, c, k, t, v, e⟩ h0 h1).symm.trans hr.out)
        clear e8 hz h1 hr
        go_wp2_with fail
        go_roundw
        case rel => exact ⟨a + 1, q, ⟨m, c, k, t, v, e⟩, by go_num, by omega, by omega, D.out, K.out, E.out, B.out⟩
        case measure => simp [RowKit.intOf]; omega
      · have b0 : ((s[a].toNat : Int) == 0) = false := by rw [e8, beq_eq_false_iff_ne]; omega
        have b1 : ((s[a].toNat : Int) == 1) = false := by rw [e8, beq_eq_false_iff_ne]; omega
        obtain ⟨q, rfl⟩ : ∃ q, f = q + 1 := ⟨f - 1, by omega⟩
        by_cases hbad : optBad s a
        · have D := Lib.hid ((optRd_bad s q a ⟨m, c, k, t, v, e⟩ h0 hz h1 hbad).symm.trans hr.out)
          have A := Lib.hid (fun w => optionAt_bad s a w hs h0 hbad)
          clear e8 hz h1 hr hbad
          go_wp2_with fail
          refine (A.out _).mono ?_
          rintro e' w3 ⟨rfl, rfl⟩
          go_wp2_with fail
          refine (N.out _).mono ?_
          rintro e' w3 ⟨rfl, hb3⟩
          have B3 := Lib.hid (B.out.trans (hb3.mono B.out.size))
          have K3 := Lib.hid (K.out.below hb3)
          clear hb3 K E B
          obtain ⟨⟨d0, d1, d2, d3, d4, d5⟩, f0, f1, f2, f3, f4, f5⟩ := K3.out.of6
          go_wp2_with fail
          simp only [Exit.jump]
          exact bodyPost_ret (v := .tuple #[.agg #[.int .i64 0, .int .i64 (-1), .bool false, .bool false, .int .i64 0, .int .i64 0], .bool false]) (by simp [results, Try.results46, go_sem, d0, d1, d2, d3, d4, d5]) rfl ⟨by rw [← D.out]; rfl, (((((B3.out.setCell (Nat.le_refl _) _).setCell (Nat.le_refl _) _).setCell (Nat.le_refl _) _).setCell (Nat.le_refl _) _).setCell (Nat.le_refl _) _).setCell (Nat.le_refl _) _⟩
        · have D := Lib.hid ((optRd_next s q a ⟨m, c, k, t, v, e⟩ h0 hz h1 hbad).symm.trans hr.out)
          have A := Lib.hid (fun w => optionAt_yes s a w hs h0 hbad)
          obtain ⟨x2, x3, x4⟩ := opt_cut s a hbad
          have hlt : a + (at8 s (a + 1)).toNat ≤ s.size := by unfold optBad at hbad; omega
          clear e8 hz h1 hr hbad
          generalize (at8 s (a + 1)).toNat = n at D A x2 x3 x4 hlt
          generalize s.extract a (a + n) = x at D A x2 x3 x4
          have W := withOptionI m c k t v e x
          obtain ⟨⟨m9, c9, k9, t9, v9, e9⟩, ho⟩ : ∃ o', optLay ⟨m, c, k, t, v, e⟩ x = o' := ⟨_, rfl⟩
          rw [ho] at D W
          simp only [Opt.cs] at W
          have W := Lib.hid (fun w => W w x2 x3)
          have xl : x.size ≤ n := by omega
          have xg : n ≤ x.size := by omega
          clear ho x3 x4
          obtain ⟨⟨c0, c1, c2, c3, c4, c5⟩, f0, f1, f2, f3, f4, f5⟩ := (show Blk _ g [.int .i64 m, .int .i64 c, .bool k, .bool t, .int .i64 v, .int .i64 e] from E.out).of6
          go_wp2_with fail
          refine (A.out _).mono ?_
          rintro e' w3 ⟨rfl, rfl⟩
          go_wp2_with fail
          refine (W.out _).mono ?_
          rintro e' w3 ⟨rfl, hb3⟩
          have B3 := Lib.hid (B.out.trans (hb3.mono B.out.size))
          have K3 := Lib.hid (K.out.below hb3)
          have E3 := Lib.hid (E.out.below hb3)
          clear hb3 K E B c0 c1 c2 c3 c4 c5 f0 f1 f2 f3 f4 f5
          obtain ⟨⟨c0, c1, c2, c3, c4, c5⟩, f0, f1, f2, f3, f4, f5⟩ := (show Blk _ g [.int .i64 m, .int .i64 c, .bool k, .bool t, .int .i64 v, .int .i64 e] from E3.out).of6
          go_wp2_with fail
          go_roundw
          case rel => exact ⟨a + n, q, ⟨m9, c9, k9, t9, v9, e9⟩, by go_num, by omega, by omega, D.out, (((((K3.out.setOther _ _ hgne).setOther _ _ hgne).setOther _ _ hgne).setOther _ _ hgne).setOther _ _ hgne).setOther _ _ hgne, (((((E3.out.set 0 (.int .i64 m9)).set 1 (.int .i64 c9)).set 2 (.bool k9)).set 3 (.bool t9)).set 4 (.int .i64 v9)).set 5 (.int .i64 e9), (((((B3.out.setCell hBg _).setCell hBg _).setCell hBg _).setCell hBg _).setCell hBg _).setCell hBg _⟩
          case measure => simp [RowKit.intOf]; omega
    · obtain rfl : a = s.size := by omega
      have D := Lib.hid ((optRd_end s f s.size ⟨m, c, k, t, v, e⟩ (.inl (Nat.le_refl _))).symm.trans hr.out)
      clear hr h0
      obtain ⟨⟨c0, c1, c2, c3, c4, c5⟩, f0, f1, f2, f3, f4, f5⟩ := (show Blk _ g [.int .i64 m, .int .i64 c, .bool k, .bool t, .int .i64 v, .int .i64 e] from E.out).of6
      obtain ⟨⟨d0, d1, d2, d3, d4, d5⟩, g0, g1, g2, g3, g4, g5⟩ := K.out.of6
      go_wp2_with fail
      go_step3
      go_wp2_with fail
      simp only [Exit.jump]
      exact bodyPost_ret (v := .tuple #[.agg #[.int .i64 m, .int .i64 c, .bool k, .bool t, .int .i64 v, .int .i64 e], .bool true]) (by simp [results, Try.results46, go_sem, d0, d1, d2, d3, d4, d5]) rfl ⟨by rw [← D.out]; rfl, (((((B.out.setCell (Nat.le_refl _) _).setCell (Nat.le_refl _) _).setCell (Nat.le_refl _) _).setCell (Nat.le_refl _) _).setCell (Nat.le_refl _) _).setCell (Nat.le_refl _) _⟩
end Go.Proofs.Ytlfbcfhekfmkfaa
