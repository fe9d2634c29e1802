/- OptionsText, of the model. -/
import Derived.Test.YtlfbcfhekfmkfaaOptOk
import Derived.Test.YtlfbcfhekfmkfaaPutS
import Derived.Test.YtlfbcfhekfmkfaaKit
import Derived.Deep.RegionHeld3
import Derived.Deep.DeepCutAuto
namespace Go.Proofs.Ytlfbcfhekfmkfaa
open Go.RowKit Go.Lib

set_option maxRecDepth 100000 in
set_option maxHeartbeats 4000000 in
theorem optionsTextS (m c : Int) (k t : Bool) (v e : Int) (w : World) :
    Calls Try.prog 38 #[.agg #[.int .i64 m, .int .i64 c, .bool k, .bool t, .int .i64 v, .int .i64 e]] w fun e' w' => e' = .returned (.string (optText ⟨m, c, k, t, v, e⟩)) ∧ Below w.heap.size w w' := by
  have C1 := Lib.hid (optionsOkS m c k t v e)
  obtain ⟨o, ho⟩ : ∃ o, optOk ⟨m, c, k, t, v, e⟩ = o := ⟨_, rfl⟩
  rw [ho] at C1
  cases o with
  | false =>
    rw [optText_no ho]
    clear ho
    go_enter Try.func38, Try.ntmps38
    go_wp2_with fail
    refine (C1.out _).mono ?_
    rintro e w1 ⟨rfl, hb1⟩
    have B1 := Lib.hid (((Below.refl w.heap.size w).alloc (Nat.le_refl _) _).trans (hb1.mono (by simp)))
    clear hb1
    go_wp2_with fail
    go_ret
    exact ⟨rfl, B1.out⟩
  | true =>
    have PM := Lib.hid (putWordS m 2)
    have PC := Lib.hid (putWordS c 1)
    have PV := Lib.hid (putWordS v 4)
    have PE := Lib.hid (putWordS e 4)
    have R := Lib.hid (optText_yes ho)
    have hc := opt_scale ho
    clear ho
    generalize optText ⟨m, c, k, t, v, e⟩ = z at R ⊢
    have zm := putW_le m 2
    have zc := putW_le c 1
    have zv := putW_le v 4
    have ze := putW_le e 4
    have DM := Lib.hid (show optM ⟨m, c, k, t, v, e⟩ = if m = 0 then ⟨#[]⟩ else ⟨#[2, 4]⟩ ++ putW m 2 from rfl)
    have DC := Lib.hid (show optC ⟨m, c, k, t, v, e⟩ = if c = -1 then ⟨#[]⟩ else ⟨#[3, 3]⟩ ++ putW c 1 from rfl)
    have DK := Lib.hid (show optK ⟨m, c, k, t, v, e⟩ = bif k then ⟨#[4, 2]⟩ else ⟨#[]⟩ from rfl)
    have DT := Lib.hid (show optT ⟨m, c, k, t, v, e⟩ = bif t then ⟨#[8, 10]⟩ ++ putW v 4 ++ putW e 4 else ⟨#[]⟩ from rfl)
    have R2 := Lib.hid (show optBody ⟨m, c, k, t, v, e⟩ = optM ⟨m, c, k, t, v, e⟩ ++ optC ⟨m, c, k, t, v, e⟩ ++ optK ⟨m, c, k, t, v, e⟩ ++ optT ⟨m, c, k, t, v, e⟩ from rfl)
    generalize optBody ⟨m, c, k, t, v, e⟩ = xb at R R2
    generalize optM ⟨m, c, k, t, v, e⟩ = xm at DM R2
    generalize optC ⟨m, c, k, t, v, e⟩ = xc at DC R2
    generalize optK ⟨m, c, k, t, v, e⟩ = xk at DK R2
    generalize optT ⟨m, c, k, t, v, e⟩ = xt at DT R2
    generalize putW m 2 = pm at PM DM zm
    generalize putW c 1 = pc at PC DC zc
    generalize putW v 4 = pv at PV DT zv
    generalize putW e 4 = pe at PE DT ze
    go_enter Try.func38, Try.ntmps38
    go_wp2_with fail
    refine (C1.out _).mono ?_
    rintro e' w1 ⟨rfl, hb1⟩
    have B1 := Lib.hid (((Below.refl w.heap.size w).alloc (Nat.le_refl _) _).trans (hb1.mono (by simp)))
    have K1 := Lib.hid ((HasC.new w #[.int .i64 m, .int .i64 c, .bool k, .bool t, .int .i64 v, .int .i64 e] 25).keep hb1)
    clear hb1 C1
    obtain ⟨c0, c1, c2, c3, c4, c5⟩ := K1.out.of6
    go_upto_if 9 with fail
    go_cut [3] (OtRel w m c k t v e (xm) 8)
    case first =>
      by_cases h : m = 0
      · subst h
        go_wp2_with fail
        go_meet
        case rel => exact ⟨_, rfl, by rw [DM.out]; rfl, by decide, K1.out, B1.out⟩
      · have h1 : (m == 0) = false := by simp [h]
        have h2 : (m != 0) = true := by simp [h]
        have E := Lib.hid h
        have E := Lib.hid h
        clear h
        have hsz : (⟨#[2, 4]⟩ : ByteArray).size = 2 := rfl
        clear hsz
        go_wp2_with fail
        refine (PM.out _).mono ?_
        rintro e' w2 ⟨rfl, hb2⟩
        have B0 := Lib.hid (B1.out.trans (hb2.mono B1.out.size))
        have K0 := Lib.hid (K1.out.keep hb2)
        clear hb2
        go_wp2_with fail
        go_meet
        case rel => exact ⟨_, rfl, by rw [DM.out, if_neg E.out]; exact congrArg (· ++ pm) ByteArray.empty_append, by first | exact sz_two _ _ _ _ (by show 0 + 2 + _ ≤ 8; omega) | exact sz_two' _ _ _ _ (by show 0 + 2 + _ ≤ 8; omega), K0.out, B0.out⟩
    case rest =>
      obtain ⟨y1, rfl, hy, hyz, hk, hb⟩ := hcut
      have Y1 := Lib.hid hy
      have K2 := Lib.hid hk
      have B2 := Lib.hid hb
      clear hy hk hb c0 c1 c2 c3 c4 c5 B1 K1
      obtain ⟨c0, c1, c2, c3, c4, c5⟩ := K2.out.of6
      go_upto_if 18 with fail
      go_cut [3] (OtRel w m c k t v e (xm ++ xc) 16)
      case first =>
        by_cases h : c = -1
        · subst h
          go_wp2_with fail
          go_meet
          case rel => exact ⟨_, rfl, by rw [DC.out, ← Y1.out]; exact ByteArray.append_empty.symm, by omega, K2.out, B2.out⟩
        · have h3 : 0 ≤ c := by omega
          have E := Lib.hid h
          have E := Lib.hid h
          clear h
          have hsz : (⟨#[3, 3]⟩ : ByteArray).size = 2 := rfl
          clear hsz
          go_wp2_with fail
          refine (PC.out _).mono ?_
          rintro e' w2 ⟨rfl, hb2⟩
          have B0 := Lib.hid (B2.out.trans (hb2.mono B2.out.size))
          have K0 := Lib.hid (K2.out.keep hb2)
          clear hb2
          go_wp2_with fail
          go_meet
          case rel => exact ⟨_, rfl, by rw [DC.out, if_neg E.out, ← Y1.out]; exact (ByteArray.append_assoc ..), by first | exact sz_two _ _ _ _ (by show _ + 2 + _ ≤ 16; omega) | exact sz_two' _ _ _ _ (by show _ + 2 + _ ≤ 16; omega), K0.out, B0.out⟩
      case rest =>
        obtain ⟨y2, rfl, hy, hyz, hk, hb⟩ := hcut
        have Y2 := Lib.hid hy
        have K3 := Lib.hid hk
        have B3 := Lib.hid hb
        clear hy hk hb c0 c1 c2 c3 c4 c5 B2 K2
        obtain ⟨c0, c1, c2, c3, c4, c5⟩ := K3.out.of6
        go_upto_if 26 with fail
        go_cut [3] (OtRel w m c k t v e (xm ++ xc ++ xk) 18)
        case first =>
          cases k with
          | false =>
            go_wp2_with fail
            go_meet
            case rel => exact ⟨_, rfl, by rw [DK.out, ← Y2.out]; exact ByteArray.append_empty.symm, by omega, K3.out, B3.out⟩
          | true =>
            go_wp2_with fail
            go_meet
            case rel => exact ⟨_, rfl, by rw [DK.out, ← Y2.out]; rfl, by rw [ByteArray.size_append]; show y2.size + 2 ≤ 18; omega, K3.out, B3.out⟩
        case rest =>
          obtain ⟨y3, rfl, hy, hyz, hk, hb⟩ := hcut
          have Y3 := Lib.hid hy
          have K4 := Lib.hid hk
          have B4 := Lib.hid hb
          clear hy hk hb c0 c1 c2 c3 c4 c5 B3 K3
          obtain ⟨c0, c1, c2, c3, c4, c5⟩ := K4.out.of6
          go_upto_if 30 with fail
          go_cut [3] (OtRel w m c k t v e (xb) 32)
          case first =>
            cases t with
            | false =>
              go_wp2_with fail
              go_meet
              case rel => exact ⟨_, rfl, by rw [R2.out, DT.out, ← Y3.out]; exact ByteArray.append_empty.symm, by omega, K4.out, B4.out⟩
            | true =>
              have m1 : ¬ 9223372036854775807 < y3.size + 2 := by omega
              have m2 : ¬ 9223372036854775807 < y3.size + 2 + pv.size := by omega
              have m3 : ¬ 9223372036854775807 < y3.size + 2 + pv.size + pe.size := by omega
              have hg := K4.out.1
              go_wp2_with fail
              go_region_held3 (fun w' => w.heap.size < w'.heap.size ∧ w'.cell? ⟨w.heap.size, 0, none⟩ = some (.int .i64 m) ∧ w'.cell? ⟨w.heap.size, 1, none⟩ = some (.int .i64 c) ∧ w'.cell? ⟨w.heap.size, 2, none⟩ = some (.bool k) ∧ w'.cell? ⟨w.heap.size, 3, none⟩ = some (.bool true) ∧ w'.cell? ⟨w.heap.size, 4, none⟩ = some (.int .i64 v) ∧ w'.cell? ⟨w.heap.size, 5, none⟩ = some (.int .i64 e))
                (first | (exact keep6 (by assumption) hb4) | (exact keep6 (by assumption) hb3) | go_keep)
                ((go_at_call 40; first | ((with_reducible refine (PV.out _).mono ?_); rintro e' w3 ⟨rfl, hb3⟩) | ((with_reducible refine (PE.out _).mono ?_); rintro e' w4 ⟨rfl, hb4⟩)))
              have B0 := Lib.hid ((B4.out.drew.trans (hb3.mono B4.out.size)).trans (hb4.mono (B4.out.drew.trans (hb3.mono B4.out.size)).size))
              have K0 := Lib.hid ((K4.out.drew.keep hb3).keep hb4)
              clear hb3 hb4
              go_wp2_with fail
              go_meet
              case rel => exact ⟨_, rfl, by rw [R2.out, DT.out, ← Y3.out]; simp only [cond_true, ByteArray.append_assoc], by first | exact sz_four _ _ _ _ _ (by show _ + 2 + _ + _ ≤ 32; omega) | exact sz_four' _ _ _ _ _ (by show _ + 2 + _ + _ ≤ 32; omega), K0.out, B0.out⟩
          case rest =>
            obtain ⟨y4, rfl, hy, hyz, hk, hb⟩ := hcut
            have Y4 := Lib.hid hy
            have K5 := Lib.hid hk
            have B5 := Lib.hid hb
            clear hy hk hb c0 c1 c2 c3 c4 c5 B4 K4
            obtain ⟨c0, c1, c2, c3, c4, c5⟩ := K5.out.of6
            have hz1 : y4.size ≤ 32 := hyz
            clear c0 c1 c2 c3 c4 c5 K5 PM PC PV PE DM DC DK DT R2 zm zc zv ze Y1 Y2 Y3 hyz
            have Z := Lib.hid (R.out.trans (by rw [← Y4.out]) : z = y4 ++ ones ((4 - y4.size % 4) % 4))
            clear Y4 R
            go_wp2_with fail
            go_loopw [3] (fun s wr => ∃ (j : Nat) (y : ByteArray), s = .string y ∧ Hid (y = y4 ++ ones j) ∧ j ≤ (4 - y4.size % 4) % 4 ∧ (y4.size + j ≤ y.size ∧ y.size ≤ y4.size + j) ∧ Below w.heap.size w wr)
              (fun s _ => 40 - strLen s)
            case atStart => exact ⟨0, y4, rfl, by show _ = _; rw [ones_zero]; exact ByteArray.append_empty.symm, Nat.zero_le _, ⟨by omega, by omega⟩, B5.out⟩
            case round =>
              obtain ⟨j, y, rfl, hy, hj, ⟨hs1, hs2⟩, hb⟩ := hrel
              by_cases hlt : j < (4 - y4.size % 4) % 4
              · have h1 : ((y.size : Int) % 4 != 0) = true := by rw [bne_iff_ne]; omega
                have h2 : ((y.size : Int) % 4 == 0) = false := by rw [beq_eq_false_iff_ne]; omega
                have BW := Lib.hid hb
                clear hb
                have hq : y.size ≤ 40 := by omega
                go_wp2_with fail
                have zs : (y ++ ⟨#[1]⟩).size = y.size + 1 := by rw [ByteArray.size_append]; rfl
                go_roundw
                case rel => exact ⟨j + 1, _, rfl, by show _ = _; rw [hy.out, ← ones_succ, ByteArray.append_assoc], by omega, ⟨by omega, by omega⟩, BW.out⟩
                case measure => simp only [strLen, zs]; omega
              · obtain rfl : j = (4 - y4.size % 4) % 4 := by omega
                have h1 : ((y.size : Int) % 4 != 0) = false := by rw [bne_eq_false_iff_eq]; omega
                have h2 : ((y.size : Int) % 4 == 0) = true := by rw [beq_iff_eq]; omega
                have BW := Lib.hid hb
                clear hb
                go_wp2_with fail
                go_ret
                exact ⟨ret_str (hy.out.trans Z.out.symm), BW.out⟩
end Go.Proofs.Ytlfbcfhekfmkfaa
