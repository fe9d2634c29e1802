/- SegmentText of the program. Nothing here is a claim. -/
import Derived.Test.YtlfbcfhekfmkfaaSegTxt
import Derived.Test.YtlfbcfhekfmkfaaSegOk
import Derived.Test.YtlfbcfhekfmkfaaCopyText
import Derived.Test.YtlfbcfhekfmkfaaOptTxtI
import Derived.Test.YtlfbcfhekfmkfaaSum
import Derived.Test.YtlfbcfhekfmkfaaSegFlds
import Derived.Test.YtlfbcfhekfmkfaaPutFld
import Derived.Test.YtlfbcfhekfmkfaaKit
import Derived.Deep.RegionLaw
import Derived.Deep.RegionWith
import Derived.Deep.DeepCutAuto
namespace Go.Proofs.Ytlfbcfhekfmkfaa
open Go.RowKit Go.Lib

/-- What the first j fields hold. -/
def segD (y1 y2 y3 y4 y5 y6 y7 : ByteArray) : Nat → ByteArray
  | 0 => (⟨#[]⟩ : ByteArray)
  | 1 => (⟨#[]⟩ : ByteArray) ++ y1
  | 2 => (⟨#[]⟩ : ByteArray) ++ y1 ++ y2
  | 3 => (⟨#[]⟩ : ByteArray) ++ y1 ++ y2 ++ y3
  | 4 => (⟨#[]⟩ : ByteArray) ++ y1 ++ y2 ++ y3 ++ y4
  | 5 => (⟨#[]⟩ : ByteArray) ++ y1 ++ y2 ++ y3 ++ y4 ++ y5
  | 6 => (⟨#[]⟩ : ByteArray) ++ y1 ++ y2 ++ y3 ++ y4 ++ y5 ++ y6
  | 7 => (⟨#[]⟩ : ByteArray) ++ y1 ++ y2 ++ y3 ++ y4 ++ y5 ++ y6 ++ y7
  | 8 => (⟨#[]⟩ : ByteArray) ++ y1 ++ y2 ++ y3 ++ y4 ++ y5 ++ y6 ++ y7 ++ (⟨#[0, 0]⟩ : ByteArray)
  | _ => (⟨#[]⟩ : ByteArray) ++ y1 ++ y2 ++ y3 ++ y4 ++ y5 ++ y6 ++ y7 ++ (⟨#[0, 0]⟩ : ByteArray) ++ (⟨#[0, 0]⟩ : ByteArray)

set_option maxRecDepth 100000 in
set_option maxHeartbeats 16000000 in
theorem segTextI (p d q a g n : Int) (m c : Int) (k t : Bool) (v u : Int) (b : ByteArray) (x z : Int) (w : World) :
    Calls Try.prog 12 #[.agg #[.int .i64 p, .int .i64 d, .int .i64 q, .int .i64 a, .int .i64 g, .int .i64 n, .int .i64 m, .int .i64 c, .bool k, .bool t, .int .i64 v, .int .i64 u, .string b], .int .i64 x, .int .i64 z] w fun e w' => e = .returned (.string (segText ⟨p, d, q, a, g, n, ⟨m, c, k, t, v, u⟩, b⟩ x z)) ∧ Below w.heap.size w w' := by
  obtain ⟨i0, hi, hz0, hz1, hz2⟩ := info_parts Try.info5
  have C1 := Lib.hid (segOkI p d q a g n m c k t v u b)
  cases ho : segOk ⟨p, d, q, a, g, n, ⟨m, c, k, t, v, u⟩, b⟩ with
  | false =>
    rw [segText_no x z ho]
    rw [ho] at C1
    clear ho
    go_enter Try.func12, Try.ntmps12
    go_wp2_with fail
    refine (C1.out _).mono ?_
    rintro e w1 ⟨rfl, hb1⟩
    have B1 := Lib.hid (((Below.refl w.heap.size w).alloc (Nat.le_refl _) _).trans (hb1.mono (by simp)))
    clear hb1
    go_wp2_with fail
    go_ret
    exact ⟨rfl, B1.out⟩
  | true =>
    obtain ⟨o1, o2, o3, o4, o5, o6, o7, hz⟩ := segOk_all ho
    simp only at o1 o2 o3 o4 o5 o6 o7 hz
    rw [segText_yes x z ho]
    rw [ho] at C1
    clear ho o7
    have CO := Lib.hid (optionsTextI m c k t v u)
    have yz := optText_size ⟨m, c, k, t, v, u⟩
    obtain ⟨y, hy⟩ : ∃ y, optText ⟨m, c, k, t, v, u⟩ = y := ⟨_, rfl⟩
    simp only [hy]
    rw [hy] at CO yz
    clear hy
    obtain ⟨yz1, yz2⟩ := yz
    obtain ⟨H, hH⟩ : ∃ H : Nat, 20 + y.size = H := ⟨_, rfl⟩
    obtain ⟨M, hM⟩ : ∃ M : Nat, H + b.size = M := ⟨_, rfl⟩
    obtain ⟨N, hN⟩ : ∃ N : Nat, H / 4 * 16 = N := ⟨_, rfl⟩
    have oN : wordOk (N : Int) 8 = true := by unfold wordOk; apply decide_eq_true; refine ⟨by omega, by omega, ?_⟩; show (N : Int) < 256; omega
    have CP := Lib.hid (pseudoHeadI x z M)
    have EA : Hid (segFst ⟨p, d, q, a, g, n, ⟨m, c, k, t, v, u⟩, b⟩ y = putW p 2 ++ putW d 2 ++ putW q 4 ++ putW a 4 ++ putW (N : Int) 1 ++ putW g 1 ++ putW n 2) := by show _ = _; unfold segFst; rw [hH, hN]
    have EB : Hid (segEnd y b = ⟨#[0, 0]⟩ ++ y ++ b) := rfl
    rw [hH, hM]
    have zp := segPs_le x z M
    have e0 : segPs x z M = pseudo (putW x 4) (putW z 4) (putW M 2) := rfl
    rw [← e0] at CP
    clear e0
    obtain ⟨P, hP⟩ : ∃ P, segPs x z M = P := ⟨_, rfl⟩
    rw [hP] at CP zp ⊢
    clear hP
    have hw1 : IntKind.i64.wrap (20 + (y.size : Int)) = (H : Int) := by rw [IntKind.wrap_i64]; omega
    have hw2 : IntKind.i64.wrap ((H : Int) + (b.size : Int)) = (M : Int) := by rw [IntKind.wrap_i64]; omega
    by_cases hp : P = ⟨#[]⟩
    · subst hp
      rw [segAll_no]
      go_enter Try.func12, Try.ntmps12
      go_wp2_with fail
      refine (C1.out _).mono ?_
      rintro e w1 ⟨rfl, hb1⟩
      have B1 := Lib.hid (((Below.refl w.heap.size w).alloc (Nat.le_refl _) _).trans (hb1.mono (by simp)))
      have K1 := Lib.hid ((HasC.new w #[.int .i64 p, .int .i64 d, .int .i64 q, .int .i64 a, .int .i64 g, .int .i64 n, .int .i64 m, .int .i64 c, .bool k, .bool t, .int .i64 v, .int .i64 u, .string b] 27).keep hb1)
      clear hb1
      obtain ⟨c6, c7, c8, c9, c10, c11⟩ : _ ∧ _ ∧ _ ∧ _ ∧ _ ∧ _ := ⟨K1.out.at 6 rfl, K1.out.at 7 rfl, K1.out.at 8 rfl, K1.out.at 9 rfl, K1.out.at 10 rfl, K1.out.at 11 rfl⟩
      have hg := K1.out.1
      go_wp2_with fail
      refine (CO.out _).mono ?_
      rintro e w2 ⟨rfl, hb2⟩
      have B2 := Lib.hid (B1.out.trans (hb2.mono B1.out.size))
      have K2 := Lib.hid (K1.out.keep hb2)
      clear hb2 B1 K1 c6 c7 c8 c9 c10 c11 hg
      have c12 := K2.out.at 12 rfl
      have hg := K2.out.1
      go_wp2_with fail
      refine (CP.out _).mono ?_
      rintro e w3 ⟨rfl, hb3⟩
      have B3 := Lib.hid (B2.out.trans (hb3.mono B2.out.size))
      have K3 := Lib.hid (K2.out.keep hb3)
      clear hb3 B2 K2 c12 hg
      go_wp2_with fail
      go_ret
      exact ⟨rfl, B3.out⟩
    · have ep := empty_no hp
      rw [segAll_yes _ _ hp]
      clear hp
      have P1 := Lib.hid (fun (G o : Nat) l w => putField_any p G o 2 l w)
      have zy1 := putW_len p 2 (by omega) o1
      have P2 := Lib.hid (fun (G o : Nat) l w => putField_any d G o 2 l w)
      have zy2 := putW_len d 2 (by omega) o2
      have P3 := Lib.hid (fun (G o : Nat) l w => putField_any q G o 4 l w)
      have zy3 := putW_len q 4 (by omega) o4
      have P4 := Lib.hid (fun (G o : Nat) l w => putField_any a G o 4 l w)
      have zy4 := putW_len a 4 (by omega) o5
      have P5 := Lib.hid (fun (G o : Nat) l w => putField_any (N : Int) G o 1 l w)
      have zy5 := putW_len (N : Int) 1 (by omega) oN
      have P6 := Lib.hid (fun (G o : Nat) l w => putField_any g G o 1 l w)
      have zy6 := putW_len g 1 (by omega) (wordOk6 o6)
      have P7 := Lib.hid (fun (G o : Nat) l w => putField_any n G o 2 l w)
      have zy7 := putW_len n 2 (by omega) o3
      obtain ⟨y1, hy1⟩ : ∃ y, putW p (2 : Nat) = y := ⟨_, rfl⟩
      have hy1' : putW p 2 = y1 := hy1
      rw [hy1] at zy1
      rw [hy1'] at EA
      simp only [hy1] at P1
      clear hy1 hy1'
      obtain ⟨y2, hy2⟩ : ∃ y, putW d (2 : Nat) = y := ⟨_, rfl⟩
      have hy2' : putW d 2 = y2 := hy2
      rw [hy2] at zy2
      rw [hy2'] at EA
      simp only [hy2] at P2
      clear hy2 hy2'
      obtain ⟨y3, hy3⟩ : ∃ y, putW q (4 : Nat) = y := ⟨_, rfl⟩
      have hy3' : putW q 4 = y3 := hy3
      rw [hy3] at zy3
      rw [hy3'] at EA
      simp only [hy3] at P3
      clear hy3 hy3'
      obtain ⟨y4, hy4⟩ : ∃ y, putW a (4 : Nat) = y := ⟨_, rfl⟩
      have hy4' : putW a 4 = y4 := hy4
      rw [hy4] at zy4
      rw [hy4'] at EA
      simp only [hy4] at P4
      clear hy4 hy4'
      obtain ⟨y5, hy5⟩ : ∃ y, putW (N : Int) (1 : Nat) = y := ⟨_, rfl⟩
      have hy5' : putW (N : Int) 1 = y5 := hy5
      rw [hy5] at zy5
      rw [hy5'] at EA
      simp only [hy5] at P5
      clear hy5 hy5'
      obtain ⟨y6, hy6⟩ : ∃ y, putW g (1 : Nat) = y := ⟨_, rfl⟩
      have hy6' : putW g 1 = y6 := hy6
      rw [hy6] at zy6
      rw [hy6'] at EA
      simp only [hy6] at P6
      clear hy6 hy6'
      obtain ⟨y7, hy7⟩ : ∃ y, putW n (2 : Nat) = y := ⟨_, rfl⟩
      have hy7' : putW n 2 = y7 := hy7
      rw [hy7] at zy7
      rw [hy7'] at EA
      simp only [hy7] at P7
      clear hy7 hy7'
      have P8 := Lib.hid (fun (G o : Nat) l w => putField_any 0 G o 2 l w)
      have h00 : putW 0 (2 : Nat) = ⟨#[0, 0]⟩ := by decide +kernel
      simp only [h00] at P8
      clear h00 o1 o2 o3 o4 o5 o6 oN
      have s00 : (⟨#[0, 0]⟩ : ByteArray).size = 2 := rfl
      have s0 : (⟨#[]⟩ : ByteArray).size = 0 := rfl
      obtain ⟨A, hA⟩ : ∃ A, segFst ⟨p, d, q, a, g, n, ⟨m, c, k, t, v, u⟩, b⟩ y = A := ⟨_, rfl⟩
      obtain ⟨E, hE⟩ : ∃ E, segEnd y b = E := ⟨_, rfl⟩
      rw [hA] at EA
      rw [hE] at EB
      rw [hA, hE]
      clear hA hE
      have zA : A.size = 16 := by rw [EA.out]; simp only [ByteArray.size_append]; omega
      have zE : E.size = 2 + y.size + b.size := by rw [EB.out]; simp only [ByteArray.size_append]; omega
      have SO := Lib.hid (sumOfI (P ++ A ++ ⟨#[0, 0]⟩ ++ E) (by simp only [ByteArray.size_append]; omega))
      have P9 := Lib.hid (fun (G o : Nat) l w => putField_any (sumOf (P ++ A ++ ⟨#[0, 0]⟩ ++ E)) G o 2 l w)
      have z8 := putW_len (sumOf (P ++ A ++ ⟨#[0, 0]⟩ ++ E)) 2 (by omega) (seg_sum _)
      have z8 : (putW (sumOf (P ++ A ++ ⟨#[0, 0]⟩ ++ E)) 2).size = 2 := z8
      have e2 : ((2 : Nat) : Int) = 2 := rfl
      simp only [e2] at P9
      clear e2
      obtain ⟨f, hf⟩ : ∃ f, sumOf (P ++ A ++ ⟨#[0, 0]⟩ ++ E) = f := ⟨_, rfl⟩
      rw [hf] at SO z8 ⊢
      simp only [hf] at P9
      clear hf
      obtain ⟨l, hl⟩ : ∃ l, putW f 2 = l := ⟨_, rfl⟩
      rw [hl] at z8 ⊢
      simp only [hl] at P9
      clear hl
      have hq1 : IntKind.i64.wrap ((H : Int) / 4) = (H : Int) / 4 := by rw [IntKind.wrap_i64]; omega
      have hq2 : IntKind.i64.wrap ((H : Int) / 4 * 16) = (N : Int) := by rw [IntKind.wrap_i64]; omega
      have ix0 : ∀ w, (Instr.index 59 (.agg #[.int .i64 p, .int .i64 d, .int .i64 q, .int .i64 a, .int .i64 (N : Int), .int .i64 g, .int .i64 n, .int .i64 0, .int .i64 0]) (.int .i64 0)).run Try.prog w = .ok (.int .i64 p) w := fun _ => by kernel_rfl
      have ix1 : ∀ w, (Instr.index 59 (.agg #[.int .i64 p, .int .i64 d, .int .i64 q, .int .i64 a, .int .i64 (N : Int), .int .i64 g, .int .i64 n, .int .i64 0, .int .i64 0]) (.int .i64 1)).run Try.prog w = .ok (.int .i64 d) w := fun _ => by kernel_rfl
      have ix2 : ∀ w, (Instr.index 59 (.agg #[.int .i64 p, .int .i64 d, .int .i64 q, .int .i64 a, .int .i64 (N : Int), .int .i64 g, .int .i64 n, .int .i64 0, .int .i64 0]) (.int .i64 2)).run Try.prog w = .ok (.int .i64 q) w := fun _ => by kernel_rfl
      have ix3 : ∀ w, (Instr.index 59 (.agg #[.int .i64 p, .int .i64 d, .int .i64 q, .int .i64 a, .int .i64 (N : Int), .int .i64 g, .int .i64 n, .int .i64 0, .int .i64 0]) (.int .i64 3)).run Try.prog w = .ok (.int .i64 a) w := fun _ => by kernel_rfl
      have ix4 : ∀ w, (Instr.index 59 (.agg #[.int .i64 p, .int .i64 d, .int .i64 q, .int .i64 a, .int .i64 (N : Int), .int .i64 g, .int .i64 n, .int .i64 0, .int .i64 0]) (.int .i64 4)).run Try.prog w = .ok (.int .i64 (N : Int)) w := fun _ => by kernel_rfl
      have ix5 : ∀ w, (Instr.index 59 (.agg #[.int .i64 p, .int .i64 d, .int .i64 q, .int .i64 a, .int .i64 (N : Int), .int .i64 g, .int .i64 n, .int .i64 0, .int .i64 0]) (.int .i64 5)).run Try.prog w = .ok (.int .i64 g) w := fun _ => by kernel_rfl
      have ix6 : ∀ w, (Instr.index 59 (.agg #[.int .i64 p, .int .i64 d, .int .i64 q, .int .i64 a, .int .i64 (N : Int), .int .i64 g, .int .i64 n, .int .i64 0, .int .i64 0]) (.int .i64 6)).run Try.prog w = .ok (.int .i64 n) w := fun _ => by kernel_rfl
      have ix7 : ∀ w, (Instr.index 59 (.agg #[.int .i64 p, .int .i64 d, .int .i64 q, .int .i64 a, .int .i64 (N : Int), .int .i64 g, .int .i64 n, .int .i64 0, .int .i64 0]) (.int .i64 7)).run Try.prog w = .ok (.int .i64 0) w := fun _ => by kernel_rfl
      have ix8 : ∀ w, (Instr.index 59 (.agg #[.int .i64 p, .int .i64 d, .int .i64 q, .int .i64 a, .int .i64 (N : Int), .int .i64 g, .int .i64 n, .int .i64 0, .int .i64 0]) (.int .i64 8)).run Try.prog w = .ok (.int .i64 0) w := fun _ => by kernel_rfl
      have bH : 20 ≤ H ∧ H ≤ 40 := by omega
      have bM : H ≤ M ∧ M ≤ 1460 := by omega
      have Z := Lib.hid (And.intro zy1 (And.intro zy2 (And.intro zy3 (And.intro zy4 (And.intro zy5 (And.intro zy6 (And.intro zy7 (And.intro zA (And.intro zE (And.intro z8 (And.intro s00 (And.intro s0 (And.intro hH (And.intro hM (zp)))))))))))))))
      clear zy1 zy2 zy3 zy4 zy5 zy6 zy7 zA zE z8 s00 s0 hH hM zp yz1 yz2 hz hN
      obtain ⟨bH1, bH2⟩ := bH
      obtain ⟨bM1, bM2⟩ := bM
      go_enter Try.func12, Try.ntmps12
      go_wp2_with fail
      refine (C1.out _).mono ?_
      rintro e w1 ⟨rfl, hb1⟩
      have B1 := Lib.hid (((Below.refl w.heap.size w).alloc (Nat.le_refl _) _).trans (hb1.mono (by simp)))
      have K1 := Lib.hid ((HasC.new w #[.int .i64 p, .int .i64 d, .int .i64 q, .int .i64 a, .int .i64 g, .int .i64 n, .int .i64 m, .int .i64 c, .bool k, .bool t, .int .i64 v, .int .i64 u, .string b] 27).keep hb1)
      clear hb1
      obtain ⟨c6, c7, c8, c9, c10, c11⟩ : _ ∧ _ ∧ _ ∧ _ ∧ _ ∧ _ := ⟨K1.out.at 6 rfl, K1.out.at 7 rfl, K1.out.at 8 rfl, K1.out.at 9 rfl, K1.out.at 10 rfl, K1.out.at 11 rfl⟩
      have hg := K1.out.1
      go_wp2_with fail
      refine (CO.out _).mono ?_
      rintro e w2 ⟨rfl, hb2⟩
      have B2 := Lib.hid (B1.out.trans (hb2.mono B1.out.size))
      have K2 := Lib.hid (K1.out.keep hb2)
      clear hb2 B1 K1 c6 c7 c8 c9 c10 c11 hg
      have c12 := K2.out.at 12 rfl
      have hg := K2.out.1
      go_wp2_with fail
      refine (CP.out _).mono ?_
      rintro e w3 ⟨rfl, hb3⟩
      have B3 := Lib.hid (B2.out.trans (hb3.mono B2.out.size))
      have K3 := Lib.hid (K2.out.keep hb3)
      clear hb3 B2 K2 c12 hg
      have c12 := K3.out.at 12 rfl
      have hg := K3.out.1
      go_wp2_with (at_make; refine wpList_make_full _ rfl _ _ _ rfl w3.heap.size 5 i0 _ 1 Try.underlying22 hi hz0 hz1 _ _ _ _ M rfl rfl rfl rfl (by rw [hz2]; omega) (by unfold maxLen; omega) (Nat.le_refl _) ?_; intro w4 hown hgrow)
      have hbl := blk_made hown
      rw [← zeroed_empty] at hbl
      have hb4 := below_made hgrow
      have K4 := Lib.hid (K3.out.keep hb4)
      have B4 := Lib.hid (B3.out.trans (hb4.mono B3.out.size))
      have hG0 : w.heap.size < w3.heap.size := K3.out.1
      obtain ⟨G, hG⟩ : ∃ G, w3.heap.size = G := ⟨_, rfl⟩
      rw [hG] at hbl hG0 ⊢
      have R4 := Lib.hid hbl
      clear hown hgrow hbl hb4 B3 K3 c12 hg hG
      have sf := segmentFields_any G M M (by omega)
      simp only [flds] at sf
      have SF := Lib.hid sf
      clear sf
      go_wp2_with fail
      refine (SF.out _).mono ?_
      rintro e w5 ⟨rfl, hb5⟩
      have K5 := Lib.hid (K4.out.keep hb5)
      have B5 := Lib.hid (B4.out.trans (hb5.mono B4.out.size))
      have R5 := Lib.hid (R4.out.below hb5)
      clear hb5 K4 B4 R4 SF
      have hGF : G < w5.heap.size := R5.out.lt
      obtain ⟨c0, c1, c2, c3, c4, c5⟩ : _ ∧ _ ∧ _ ∧ _ ∧ _ ∧ _ := ⟨K5.out.at 0 rfl, K5.out.at 1 rfl, K5.out.at 2 rfl, K5.out.at 3 rfl, K5.out.at 4 rfl, K5.out.at 5 rfl⟩
      have hg := K5.out.1
      go_wp2_with fail
      clear c0 c1 c2 c3 c4 c5 hg
      go_loopw [57] (fun i wr => ∃ j : Nat, j ≤ 9 ∧ i = .int .i64 j ∧ Hid (Blk wr G (byteCells (zeroed (segD y1 y2 y3 y4 y5 y6 y7 j) M))) ∧ Hid (HasC wr w5.heap.size (flds G).toList) ∧ Hid (HasC wr w.heap.size [.int .i64 p, .int .i64 d, .int .i64 q, .int .i64 a, .int .i64 g, .int .i64 n, .int .i64 m, .int .i64 c, .bool k, .bool t, .int .i64 v, .int .i64 u, .string b]) ∧ Hid (Below w.heap.size w wr))
        (fun i _ => 9 - (RowKit.intOf i).toNat)
      case atStart => exact ⟨0, Nat.zero_le _, rfl, Lib.hid (R5.out.alloc _), Lib.hid (HasC.new w5 _ _), Lib.hid (K5.out.alloc _), Lib.hid (B5.out.alloc B5.out.size _)⟩
      case round =>
        obtain ⟨j, hj, rfl, R, KF, KS, B⟩ := hrel
        clear R5 K5 B5
        have h9 : j = 0 ∨ j = 1 ∨ j = 2 ∨ j = 3 ∨ j = 4 ∨ j = 5 ∨ j = 6 ∨ j = 7 ∨ j = 8 ∨ j = 9 := by omega
        clear hj
        rcases h9 with rfl | rfl | rfl | rfl | rfl | rfl | rfl | rfl | rfl | rfl
        · have r := R.out
          simp only [segD] at r
          have zD : ((⟨#[]⟩ : ByteArray)).size = 0 := by obtain ⟨zy1, zy2, zy3, zy4, zy5, zy6, zy7, zA, zE, z8, s00, s0, hH, hM, zp⟩ := Z.out; omega
          have zY : (y1).size = 2 := by obtain ⟨zy1, zy2, zy3, zy4, zy5, zy6, zy7, zA, zE, z8, s00, s0, hH, hM, zp⟩ := Z.out; omega
          have hl : 0 + 2 ≤ (zeroed ((⟨#[]⟩ : ByteArray)) M).length := by rw [zeroed_length _ _ (by omega)]; omega
          have e := zeroed_lay ((⟨#[]⟩ : ByteArray)) (y1) M 0 zD (by omega)
          have C := Lib.hid (P1.out G 0 _ wr hl r)
          rw [e] at C
          clear r e hl zD zY
          have cj := KF.out.at 0 rfl
          have hgF := KF.out.1
          go_wp2_with fail
          refine C.out.mono ?_
          rintro e w6 ⟨rfl, r6, g6⟩
          have R6 := Lib.hid r6
          have KF6 := Lib.hid (KF.out.grown g6 (by omega))
          have KS6 := Lib.hid (KS.out.grown g6 (by omega))
          have B6 := Lib.hid (below_row B.out g6 B.out.size (Nat.le_of_lt hG0))
          clear r6 g6 R KF KS B C cj hgF
          go_wp2_with fail
          go_roundw
          case rel => exact ⟨1, by omega, by go_num, R6, KF6, KS6, B6⟩
          case measure => simp [RowKit.intOf]
        · have r := R.out
          simp only [segD] at r
          have zD : ((⟨#[]⟩ : ByteArray) ++ y1).size = 2 := by obtain ⟨zy1, zy2, zy3, zy4, zy5, zy6, zy7, zA, zE, z8, s00, s0, hH, hM, zp⟩ := Z.out; simp only [ByteArray.size_append]; omega
          have zY : (y2).size = 2 := by obtain ⟨zy1, zy2, zy3, zy4, zy5, zy6, zy7, zA, zE, z8, s00, s0, hH, hM, zp⟩ := Z.out; omega
          have hl : 2 + 2 ≤ (zeroed ((⟨#[]⟩ : ByteArray) ++ y1) M).length := by rw [zeroed_length _ _ (by omega)]; omega
          have e := zeroed_lay ((⟨#[]⟩ : ByteArray) ++ y1) (y2) M 2 zD (by omega)
          have C := Lib.hid (P2.out G 2 _ wr hl r)
          rw [e] at C
          clear r e hl zD zY
          have cj := KF.out.at 1 rfl
          have hgF := KF.out.1
          go_wp2_with fail
          refine C.out.mono ?_
          rintro e w6 ⟨rfl, r6, g6⟩
          have R6 := Lib.hid r6
          have KF6 := Lib.hid (KF.out.grown g6 (by omega))
          have KS6 := Lib.hid (KS.out.grown g6 (by omega))
          have B6 := Lib.hid (below_row B.out g6 B.out.size (Nat.le_of_lt hG0))
          clear r6 g6 R KF KS B C cj hgF
          go_wp2_with fail
          go_roundw
          case rel => exact ⟨2, by omega, by go_num, R6, KF6, KS6, B6⟩
          case measure => simp [RowKit.intOf]
        · have r := R.out
          simp only [segD] at r
          have zD : ((⟨#[]⟩ : ByteArray) ++ y1 ++ y2).size = 4 := by obtain ⟨zy1, zy2, zy3, zy4, zy5, zy6, zy7, zA, zE, z8, s00, s0, hH, hM, zp⟩ := Z.out; simp only [ByteArray.size_append]; omega
          have zY : (y3).size = 4 := by obtain ⟨zy1, zy2, zy3, zy4, zy5, zy6, zy7, zA, zE, z8, s00, s0, hH, hM, zp⟩ := Z.out; omega
          have hl : 4 + 4 ≤ (zeroed ((⟨#[]⟩ : ByteArray) ++ y1 ++ y2) M).length := by rw [zeroed_length _ _ (by omega)]; omega
          have e := zeroed_lay ((⟨#[]⟩ : ByteArray) ++ y1 ++ y2) (y3) M 4 zD (by omega)
          have C := Lib.hid (P3.out G 4 _ wr hl r)
          rw [e] at C
          clear r e hl zD zY
          have cj := KF.out.at 2 rfl
          have hgF := KF.out.1
          go_wp2_with fail
          refine C.out.mono ?_
          rintro e w6 ⟨rfl, r6, g6⟩
          have R6 := Lib.hid r6
          have KF6 := Lib.hid (KF.out.grown g6 (by omega))
          have KS6 := Lib.hid (KS.out.grown g6 (by omega))
          have B6 := Lib.hid (below_row B.out g6 B.out.size (Nat.le_of_lt hG0))
          clear r6 g6 R KF KS B C cj hgF
          go_wp2_with fail
          go_roundw
          case rel => exact ⟨3, by omega, by go_num, R6, KF6, KS6, B6⟩
          case measure => simp [RowKit.intOf]
        · have r := R.out
          simp only [segD] at r
          have zD : ((⟨#[]⟩ : ByteArray) ++ y1 ++ y2 ++ y3).size = 8 := by obtain ⟨zy1, zy2, zy3, zy4, zy5, zy6, zy7, zA, zE, z8, s00, s0, hH, hM, zp⟩ := Z.out; simp only [ByteArray.size_append]; omega
          have zY : (y4).size = 4 := by obtain ⟨zy1, zy2, zy3, zy4, zy5, zy6, zy7, zA, zE, z8, s00, s0, hH, hM, zp⟩ := Z.out; omega
          have hl : 8 + 4 ≤ (zeroed ((⟨#[]⟩ : ByteArray) ++ y1 ++ y2 ++ y3) M).length := by rw [zeroed_length _ _ (by omega)]; omega
          have e := zeroed_lay ((⟨#[]⟩ : ByteArray) ++ y1 ++ y2 ++ y3) (y4) M 8 zD (by omega)
          have C := Lib.hid (P4.out G 8 _ wr hl r)
          rw [e] at C
          clear r e hl zD zY
          have cj := KF.out.at 3 rfl
          have hgF := KF.out.1
          go_wp2_with fail
          refine C.out.mono ?_
          rintro e w6 ⟨rfl, r6, g6⟩
          have R6 := Lib.hid r6
          have KF6 := Lib.hid (KF.out.grown g6 (by omega))
          have KS6 := Lib.hid (KS.out.grown g6 (by omega))
          have B6 := Lib.hid (below_row B.out g6 B.out.size (Nat.le_of_lt hG0))
          clear r6 g6 R KF KS B C cj hgF
          go_wp2_with fail
          go_roundw
          case rel => exact ⟨4, by omega, by go_num, R6, KF6, KS6, B6⟩
          case measure => simp [RowKit.intOf]
        · have r := R.out
          simp only [segD] at r
          have zD : ((⟨#[]⟩ : ByteArray) ++ y1 ++ y2 ++ y3 ++ y4).size = 12 := by obtain ⟨zy1, zy2, zy3, zy4, zy5, zy6, zy7, zA, zE, z8, s00, s0, hH, hM, zp⟩ := Z.out; simp only [ByteArray.size_append]; omega
          have zY : (y5).size = 1 := by obtain ⟨zy1, zy2, zy3, zy4, zy5, zy6, zy7, zA, zE, z8, s00, s0, hH, hM, zp⟩ := Z.out; omega
          have hl : 12 + 1 ≤ (zeroed ((⟨#[]⟩ : ByteArray) ++ y1 ++ y2 ++ y3 ++ y4) M).length := by rw [zeroed_length _ _ (by omega)]; omega
          have e := zeroed_lay ((⟨#[]⟩ : ByteArray) ++ y1 ++ y2 ++ y3 ++ y4) (y5) M 12 zD (by omega)
          have C := Lib.hid (P5.out G 12 _ wr hl r)
          rw [e] at C
          clear r e hl zD zY
          have cj := KF.out.at 4 rfl
          have hgF := KF.out.1
          go_wp2_with fail
          refine C.out.mono ?_
          rintro e w6 ⟨rfl, r6, g6⟩
          have R6 := Lib.hid r6
          have KF6 := Lib.hid (KF.out.grown g6 (by omega))
          have KS6 := Lib.hid (KS.out.grown g6 (by omega))
          have B6 := Lib.hid (below_row B.out g6 B.out.size (Nat.le_of_lt hG0))
          clear r6 g6 R KF KS B C cj hgF
          go_wp2_with fail
          go_roundw
          case rel => exact ⟨5, by omega, by go_num, R6, KF6, KS6, B6⟩
          case measure => simp [RowKit.intOf]
        · have r := R.out
          simp only [segD] at r
          have zD : ((⟨#[]⟩ : ByteArray) ++ y1 ++ y2 ++ y3 ++ y4 ++ y5).size = 13 := by obtain ⟨zy1, zy2, zy3, zy4, zy5, zy6, zy7, zA, zE, z8, s00, s0, hH, hM, zp⟩ := Z.out; simp only [ByteArray.size_append]; omega
          have zY : (y6).size = 1 := by obtain ⟨zy1, zy2, zy3, zy4, zy5, zy6, zy7, zA, zE, z8, s00, s0, hH, hM, zp⟩ := Z.out; omega
          have hl : 13 + 1 ≤ (zeroed ((⟨#[]⟩ : ByteArray) ++ y1 ++ y2 ++ y3 ++ y4 ++ y5) M).length := by rw [zeroed_length _ _ (by omega)]; omega
          have e := zeroed_lay ((⟨#[]⟩ : ByteArray) ++ y1 ++ y2 ++ y3 ++ y4 ++ y5) (y6) M 13 zD (by omega)
          have C := Lib.hid (P6.out G 13 _ wr hl r)
          rw [e] at C
          clear r e hl zD zY
          have cj := KF.out.at 5 rfl
          have hgF := KF.out.1
          go_wp2_with fail
          refine C.out.mono ?_
          rintro e w6 ⟨rfl, r6, g6⟩
          have R6 := Lib.hid r6
          have KF6 := Lib.hid (KF.out.grown g6 (by omega))
          have KS6 := Lib.hid (KS.out.grown g6 (by omega))
          have B6 := Lib.hid (below_row B.out g6 B.out.size (Nat.le_of_lt hG0))
          clear r6 g6 R KF KS B C cj hgF
          go_wp2_with fail
          go_roundw
          case rel => exact ⟨6, by omega, by go_num, R6, KF6, KS6, B6⟩
          case measure => simp [RowKit.intOf]
        · have r := R.out
          simp only [segD] at r
          have zD : ((⟨#[]⟩ : ByteArray) ++ y1 ++ y2 ++ y3 ++ y4 ++ y5 ++ y6).size = 14 := by obtain ⟨zy1, zy2, zy3, zy4, zy5, zy6, zy7, zA, zE, z8, s00, s0, hH, hM, zp⟩ := Z.out; simp only [ByteArray.size_append]; omega
          have zY : (y7).size = 2 := by obtain ⟨zy1, zy2, zy3, zy4, zy5, zy6, zy7, zA, zE, z8, s00, s0, hH, hM, zp⟩ := Z.out; omega
          have hl : 14 + 2 ≤ (zeroed ((⟨#[]⟩ : ByteArray) ++ y1 ++ y2 ++ y3 ++ y4 ++ y5 ++ y6) M).length := by rw [zeroed_length _ _ (by omega)]; omega
          have e := zeroed_lay ((⟨#[]⟩ : ByteArray) ++ y1 ++ y2 ++ y3 ++ y4 ++ y5 ++ y6) (y7) M 14 zD (by omega)
          have C := Lib.hid (P7.out G 14 _ wr hl r)
          rw [e] at C
          clear r e hl zD zY
          have cj := KF.out.at 6 rfl
          have hgF := KF.out.1
          go_wp2_with fail
          refine C.out.mono ?_
          rintro e w6 ⟨rfl, r6, g6⟩
          have R6 := Lib.hid r6
          have KF6 := Lib.hid (KF.out.grown g6 (by omega))
          have KS6 := Lib.hid (KS.out.grown g6 (by omega))
          have B6 := Lib.hid (below_row B.out g6 B.out.size (Nat.le_of_lt hG0))
          clear r6 g6 R KF KS B C cj hgF
          go_wp2_with fail
          go_roundw
          case rel => exact ⟨7, by omega, by go_num, R6, KF6, KS6, B6⟩
          case measure => simp [RowKit.intOf]
        · have r := R.out
          simp only [segD] at r
          have zD : ((⟨#[]⟩ : ByteArray) ++ y1 ++ y2 ++ y3 ++ y4 ++ y5 ++ y6 ++ y7).size = 16 := by obtain ⟨zy1, zy2, zy3, zy4, zy5, zy6, zy7, zA, zE, z8, s00, s0, hH, hM, zp⟩ := Z.out; simp only [ByteArray.size_append]; omega
          have zY : ((⟨#[0, 0]⟩ : ByteArray)).size = 2 := by obtain ⟨zy1, zy2, zy3, zy4, zy5, zy6, zy7, zA, zE, z8, s00, s0, hH, hM, zp⟩ := Z.out; omega
          have hl : 16 + 2 ≤ (zeroed ((⟨#[]⟩ : ByteArray) ++ y1 ++ y2 ++ y3 ++ y4 ++ y5 ++ y6 ++ y7) M).length := by rw [zeroed_length _ _ (by omega)]; omega
          have e := zeroed_lay ((⟨#[]⟩ : ByteArray) ++ y1 ++ y2 ++ y3 ++ y4 ++ y5 ++ y6 ++ y7) ((⟨#[0, 0]⟩ : ByteArray)) M 16 zD (by omega)
          have C := Lib.hid (P8.out G 16 _ wr hl r)
          rw [e] at C
          clear r e hl zD zY
          have cj := KF.out.at 7 rfl
          have hgF := KF.out.1
          go_wp2_with fail
          refine C.out.mono ?_
          rintro e w6 ⟨rfl, r6, g6⟩
          have R6 := Lib.hid r6
          have KF6 := Lib.hid (KF.out.grown g6 (by omega))
          have KS6 := Lib.hid (KS.out.grown g6 (by omega))
          have B6 := Lib.hid (below_row B.out g6 B.out.size (Nat.le_of_lt hG0))
          clear r6 g6 R KF KS B C cj hgF
          go_wp2_with fail
          go_roundw
          case rel => exact ⟨8, by omega, by go_num, R6, KF6, KS6, B6⟩
          case measure => simp [RowKit.intOf]
        · have r := R.out
          simp only [segD] at r
          have zD : ((⟨#[]⟩ : ByteArray) ++ y1 ++ y2 ++ y3 ++ y4 ++ y5 ++ y6 ++ y7 ++ (⟨#[0, 0]⟩ : ByteArray)).size = 18 := by obtain ⟨zy1, zy2, zy3, zy4, zy5, zy6, zy7, zA, zE, z8, s00, s0, hH, hM, zp⟩ := Z.out; simp only [ByteArray.size_append]; omega
          have zY : ((⟨#[0, 0]⟩ : ByteArray)).size = 2 := by obtain ⟨zy1, zy2, zy3, zy4, zy5, zy6, zy7, zA, zE, z8, s00, s0, hH, hM, zp⟩ := Z.out; omega
          have hl : 18 + 2 ≤ (zeroed ((⟨#[]⟩ : ByteArray) ++ y1 ++ y2 ++ y3 ++ y4 ++ y5 ++ y6 ++ y7 ++ (⟨#[0, 0]⟩ : ByteArray)) M).length := by rw [zeroed_length _ _ (by omega)]; omega
          have e := zeroed_lay ((⟨#[]⟩ : ByteArray) ++ y1 ++ y2 ++ y3 ++ y4 ++ y5 ++ y6 ++ y7 ++ (⟨#[0, 0]⟩ : ByteArray)) ((⟨#[0, 0]⟩ : ByteArray)) M 18 zD (by omega)
          have C := Lib.hid (P8.out G 18 _ wr hl r)
          rw [e] at C
          clear r e hl zD zY
          have cj := KF.out.at 8 rfl
          have hgF := KF.out.1
          go_wp2_with fail
          refine C.out.mono ?_
          rintro e w6 ⟨rfl, r6, g6⟩
          have R6 := Lib.hid r6
          have KF6 := Lib.hid (KF.out.grown g6 (by omega))
          have KS6 := Lib.hid (KS.out.grown g6 (by omega))
          have B6 := Lib.hid (below_row B.out g6 B.out.size (Nat.le_of_lt hG0))
          clear r6 g6 R KF KS B C cj hgF
          go_wp2_with fail
          go_roundw
          case rel => exact ⟨9, by omega, by go_num, R6, KF6, KS6, B6⟩
          case measure => simp [RowKit.intOf]
        · clear P1 P2 P3 P4 P5 P6 P7 P8 ix0 ix1 ix2 ix3 ix4 ix5 ix6 ix7 ix8
          have r := R.out
          simp only [segD] at r
          have e9 : (⟨#[]⟩ : ByteArray) ++ y1 ++ y2 ++ y3 ++ y4 ++ y5 ++ y6 ++ y7 ++ (⟨#[0, 0]⟩ : ByteArray) ++ (⟨#[0, 0]⟩ : ByteArray) = A ++ ⟨#[0, 0]⟩ ++ ⟨#[0, 0]⟩ := by rw [EA.out, empty_add]
          rw [e9] at r
          have R9 := Lib.hid r
          clear r e9 R
          have zD : (A ++ ⟨#[0, 0]⟩ ++ ⟨#[0, 0]⟩ : ByteArray).size = 20 := by obtain ⟨zy1, zy2, zy3, zy4, zy5, zy6, zy7, zA, zE, z8, s00, s0, hH, hM, zp⟩ := Z.out; simp only [ByteArray.size_append]; omega
          have zy : y.size = H - 20 := by obtain ⟨zy1, zy2, zy3, zy4, zy5, zy6, zy7, zA, zE, z8, s00, s0, hH, hM, zp⟩ := Z.out; omega
          have zb : b.size = M - H := by obtain ⟨zy1, zy2, zy3, zy4, zy5, zy6, zy7, zA, zE, z8, s00, s0, hH, hM, zp⟩ := Z.out; omega
          go_upto_region 15 with fail
          have e10 := zeroed_lay (A ++ ⟨#[0, 0]⟩ ++ ⟨#[0, 0]⟩) y M 20 zD (by omega)
          have l9 : (zeroed (A ++ ⟨#[0, 0]⟩ ++ ⟨#[0, 0]⟩) M).length = M := zeroed_length _ _ (by omega)
          go_cut [] (fun wx => Hid (Blk wx G (byteCells (zeroed (A ++ ⟨#[0, 0]⟩ ++ ⟨#[0, 0]⟩ ++ y) M))) ∧ Hid (HasC wx w5.heap.size (flds G).toList) ∧ Hid (HasC wx w.heap.size [.int .i64 p, .int .i64 d, .int .i64 q, .int .i64 a, .int .i64 g, .int .i64 n, .int .i64 m, .int .i64 c, .bool k, .bool t, .int .i64 v, .int .i64 u, .string b]) ∧ Hid (Below w.heap.size w wx))
          case first =>
            by_cases hy0 : y.size = 0
            · obtain rfl : H = 20 := by omega
              obtain ⟨w8, hrun, r8, g8⟩ := run_copy_text (P := Try.prog) wr 22 9 3 5 (some ⟨G, 0, none⟩) 0 0 y G 20 (zeroed (A ++ ⟨#[0, 0]⟩ ++ ⟨#[0, 0]⟩) M) Try.underlying22 u8_size R9.out (by omega) (by omega) (by intro h; first | rfl | omega)
              rw [e10] at r8
              have R8 := Lib.hid r8
              have KF8 := Lib.hid (KF.out.grown g8 (by omega))
              have KS8 := Lib.hid (KS.out.grown g8 (by omega))
              have B8 := Lib.hid (below_row B.out g8 B.out.size (Nat.le_of_lt hG0))
              clear r8 g8 e10 l9 R9 KF KS B zD
              go_wp2_with fail
              go_meet
              exact ⟨R8, KF8, KS8, B8⟩
            · have hH20 : 20 < H := by omega
              obtain ⟨w8, hrun, r8, g8⟩ := run_copy_text (P := Try.prog) wr 22 9 3 5 (some ⟨G, 20, none⟩) (H - 20) (H - 20) y G 20 (zeroed (A ++ ⟨#[0, 0]⟩ ++ ⟨#[0, 0]⟩) M) Try.underlying22 u8_size R9.out (by omega) (by omega) (by intro h; first | rfl | omega)
              rw [e10] at r8
              have R8 := Lib.hid r8
              have KF8 := Lib.hid (KF.out.grown g8 (by omega))
              have KS8 := Lib.hid (KS.out.grown g8 (by omega))
              have B8 := Lib.hid (below_row B.out g8 B.out.size (Nat.le_of_lt hG0))
              clear r8 g8 e10 l9 R9 KF KS B zD
              go_wp2_with fail
              go_meet
              exact ⟨R8, KF8, KS8, B8⟩
          case rest =>
            obtain ⟨R8, KF8, KS8, B8⟩ := hcut
            clear e10 l9 R9 KF KS B
            have zD10 : (A ++ ⟨#[0, 0]⟩ ++ ⟨#[0, 0]⟩ ++ y : ByteArray).size = H := by rw [ByteArray.size_append]; omega
            clear zD
            have e11 := zeroed_lay (A ++ ⟨#[0, 0]⟩ ++ ⟨#[0, 0]⟩ ++ y) b M H zD10 (by omega)
            have l10 : (zeroed (A ++ ⟨#[0, 0]⟩ ++ ⟨#[0, 0]⟩ ++ y) M).length = M := zeroed_length _ _ (by omega)
            go_upto_region 16 with fail
            go_cut [] (fun wx => Hid (Blk wx G (byteCells (zeroed (A ++ ⟨#[0, 0]⟩ ++ ⟨#[0, 0]⟩ ++ y ++ b) M))) ∧ Hid (HasC wx w5.heap.size (flds G).toList) ∧ Hid (HasC wx w.heap.size [.int .i64 p, .int .i64 d, .int .i64 q, .int .i64 a, .int .i64 g, .int .i64 n, .int .i64 m, .int .i64 c, .bool k, .bool t, .int .i64 v, .int .i64 u, .string b]) ∧ Hid (Below w.heap.size w wx))
            case first =>
              have c12 := KS8.out.at 12 rfl
              have hgS := KS8.out.1
              by_cases hb0 : M = H
              · subst hb0
                go_region_law (refine step_copy_text rfl (.tmp 75) (.tmp 77) 22 9 rfl 5 Try.underlying22 u8_size (some ⟨G, 0, none⟩) 0 0 b rfl rfl G M (zeroed (A ++ ⟨#[0, 0]⟩ ++ ⟨#[0, 0]⟩ ++ y) M) R8.out.drew (by omega) (by omega) (by intro h; first | rfl | omega) ?_; intro w9 r9 g9)
                rw [e11] at r9
                have KF9 := Lib.hid (KF8.out.drew.grown g9.out (by omega))
                have KS9 := Lib.hid (KS8.out.drew.grown g9.out (by omega))
                have B9 := Lib.hid (below_row B8.out.drew g9.out B8.out.drew.size (Nat.le_of_lt hG0))
                clear g9 e11 l10 R8 KF8 KS8 B8 zD10 c12 hgS
                go_wp2_with fail
                go_meet
                exact ⟨r9, KF9, KS9, B9⟩
              · skip
                go_region_law (refine step_copy_text rfl (.tmp 75) (.tmp 77) 22 9 rfl 5 Try.underlying22 u8_size (some ⟨G, H, none⟩) (M - H) (M - H) b rfl rfl G H (zeroed (A ++ ⟨#[0, 0]⟩ ++ ⟨#[0, 0]⟩ ++ y) M) R8.out.drew (by omega) (by omega) (by intro h; first | rfl | omega) ?_; intro w9 r9 g9)
                rw [e11] at r9
                have KF9 := Lib.hid (KF8.out.drew.grown g9.out (by omega))
                have KS9 := Lib.hid (KS8.out.drew.grown g9.out (by omega))
                have B9 := Lib.hid (below_row B8.out.drew g9.out B8.out.drew.size (Nat.le_of_lt hG0))
                clear g9 e11 l10 R8 KF8 KS8 B8 zD10 c12 hgS
                go_wp2_with fail
                go_meet
                exact ⟨r9, KF9, KS9, B9⟩
            case rest =>
              obtain ⟨r9, KF9, _, B9⟩ := hcut
              clear e11 l10 R8 KF8 KS8 B8
              have eD : A ++ ⟨#[0, 0]⟩ ++ ⟨#[0, 0]⟩ ++ y ++ b = A ++ ⟨#[0, 0]⟩ ++ E := by skip; rw [EB.out]; simp only [ByteArray.append_assoc]
              have zM : (A ++ ⟨#[0, 0]⟩ ++ E : ByteArray).size = M := by rw [← eD, ByteArray.size_append]; omega
              have r9 := r9.out
              rw [eD, zeroed_full _ _ zM] at r9
              have R9 := Lib.hid r9
              clear r9 eD zD10
              have zAA : A.size = 16 := by obtain ⟨zy1, zy2, zy3, zy4, zy5, zy6, zy7, zA, zE, z8, s00, s0, hH, hM, zp⟩ := Z.out; exact zA
              have zl : (⟨#[0, 0]⟩ : ByteArray).size = l.size := by obtain ⟨zy1, zy2, zy3, zy4, zy5, zy6, zy7, zA, zE, z8, s00, s0, hH, hM, zp⟩ := Z.out; omega
              have em := lay_mid A ⟨#[0, 0]⟩ l E zl
              rw [zAA] at em
              have hl : 16 + 2 ≤ (A ++ ⟨#[0, 0]⟩ ++ E : ByteArray).data.toList.length := by rw [len_list]; omega
              have zt : ¬ 9223372036854775807 < P.size + (A ++ ⟨#[0, 0]⟩ ++ E : ByteArray).size := by obtain ⟨zy1, zy2, zy3, zy4, zy5, zy6, zy7, zA, zE, z8, s00, s0, hH, hM, zp⟩ := Z.out; omega
              have zM' := Lib.hid zM
              obtain ⟨T, hT⟩ : ∃ T : ByteArray, A ++ ⟨#[0, 0]⟩ ++ E = T := ⟨_, rfl⟩
              rw [hT] at R9 em hl zt zM'
              have SO' : Hid (∀ w, Calls Try.prog 37 #[.string (P ++ T)] w fun e w' => e = .returned (.int .i64 f) ∧ Below w.heap.size w w') := by rw [← hT]; simpa only [ByteArray.append_assoc] using SO
              clear hT SO zM zl zAA
              go_upto_region 17 with fail
              go_cut [] (fun wx => Hid (Blk wx G (byteCells (A ++ l ++ E).data.toList)) ∧ Hid (Below w.heap.size w wx))
              case first =>
                have c7 : wc.drew.cell? ⟨w5.heap.size, 7, none⟩ = some _ := KF9.out.drew.at 7 rfl
                have hgF := KF9.out.1
                have hcv := blk_conv (P := Try.prog) R9.out.drew 22 9 5 M M zM'.out Try.underlying22 Try.underlying5 Try.underlying9
                go_region_with (first | (go_at_call 37; refine (SO'.out _).mono ?_; rintro e w10 ⟨rfl, hb10⟩; have R10 := Lib.hid (R9.out.drew.below hb10); have KF10 := Lib.hid (KF9.out.drew.keep hb10); have B10 := Lib.hid (B9.out.drew.trans (hb10.mono B9.out.drew.size)); have c7' := KF10.out.at 7 rfl; have hgF' := KF10.out.1; clear hb10) | (go_at_call 36; refine (P9.out G 16 _ w10 hl R10.out).mono ?_; rintro e w11 ⟨rfl, r11, g11⟩; rw [em] at r11; have R11 := Lib.hid r11; have B11 := Lib.hid (below_row B10.out g11 B10.out.size (Nat.le_of_lt hG0)); clear r11 g11))
                all_goals (go_wp2_with fail; go_meet; exact ⟨R11, B11⟩)
              case rest =>
                obtain ⟨R11, B11⟩ := hcut
                have zT : (A ++ l ++ E : ByteArray).size = M := by have := zM'.out; obtain ⟨zy1, zy2, zy3, zy4, zy5, zy6, zy7, zA, zE, z8, s00, s0, hH, hM, zp⟩ := Z.out; simp only [ByteArray.size_append] at *; omega
                have hcv := blk_conv (P := Try.prog) R11.out 22 9 5 M M zT Try.underlying22 Try.underlying5 Try.underlying9
                clear zT em R9 KF9 B9 hl
                go_wp2_with fail
                go_ret
                exact ⟨rfl, B11.out⟩
end Go.Proofs.Ytlfbcfhekfmkfaa
