/- Proved here: for every code of at most 1048576 bytes, with the segment and the two addresses that are drawn from it, impl.SegmentText writes what the model writes; it is the empty text only where the segment or an address is not valid; otherwise impl.ReadSegment reads the segment back between these addresses, and reads none where the last byte of the second address is another (a longer code is not asked); the call returns true for every argument, without condition. -/
import Derived.Test.YtlfbcfhekfmkfaaRows
import Derived.Test.YtlfbcfhekfmkfaaDrawSegT
import Derived.Test.YtlfbcfhekfmkfaaSegTxtI
import Derived.Test.YtlfbcfhekfmkfaaSegTxtS
import Derived.Test.YtlfbcfhekfmkfaaSegOk
import Derived.Test.YtlfbcfhekfmkfaaReadSeg
import Derived.Test.YtlfbcfhekfmkfaaSegBack
import Derived.Test.YtlfbcfhekfmkfaaAt0
import Derived.Test.YtlfbcfhekfmkfaaBig
import Derived.Test.YtlfbcfhekfmkfaaOpen
import Derived.ProofKit
import Derived.OpenShut
import Derived.ShutString
import Derived.ChangeOld
import Derived.Below
namespace Go.Proofs.Ytlfbcfhekfmkfaa.fnSegment
open Go.ChangeShapes Go.WideShapes Go.ChangeAt Go.RowKit

theorem step {w w1 w2 : World} (h : Below w.heap.size w w1) (hb : Below w1.heap.size w1 w2) : Below w.heap.size w w2 := h.trans (hb.mono h.size)
theorem stepA {w w1 w2 : World} {o : Obj} (h : Below w.heap.size w w1) (hb : Below (w1.alloc o).heap.size (w1.alloc o) w2) : Below w.heap.size w w2 :=
  step (h.alloc h.size o) hb

theorem notEmpty (s : ByteArray) (h : 0 < s.size) : s.toList.isEmpty = false := by
  rw [ByteArray.toList_eq]
  cases hl : s.data.toList with
  | nil => have e : s.data.toList.length = 0 := by rw [hl]; rfl
           rw [Array.length_toList, ByteArray.size_data] at e; omega
  | cons _ _ => rfl
theorem size_pos (s : ByteArray) (h : s ≠ ⟨#[]⟩) : 0 < s.size := by
  rcases Nat.eq_zero_or_pos s.size with e | e
  · exact absurd (ByteArray.ext (Array.eq_empty_of_size_eq_zero e)) h
  · exact e

set_option maxRecDepth 100000 in
set_option maxHeartbeats 8000000 in
theorem walk (a0 : Option Addr) (len0 cap0 : Nat) (s0 : List UInt8) {w : World} (w0 : IsBytes w a0 len0 s0) :
    Calls Try.prog 3 #[.slice a0 len0 cap0] w fun e w' => e = .returned (.bool true) ∧ Below w.heap.size w w' := by
  obtain ⟨⟨rfl, hm⟩, hrow⟩ := w0
  unfold maxLen at hm
  have HR := Lib.hid hrow
  clear hrow
  by_cases hs : s0.length ≤ 1048576
  · go_enter Try.func3, Try.ntmps3
    go_wp2_with fail
    refine (big_no _ _ _ _ hs).mono ?_
    rintro e w' ⟨rfl, rfl⟩
    go_wp2_with fail
    refine (drawSegmentText a0 s0 cap0 w HR.out hs).mono ?_
    rintro e w1 ⟨p, d, q, a, r, n, m, c, k, t, v, u, b, x, z, rfl, _, hb1⟩
    have B1 := Lib.hid hb1
    clear hb1
    have T1 := segTextI p d q a r n m c k t v u b x z
    have T2 := segTextS p d q a r n m c k t v u b x z
    have hle := segText_le ⟨p, d, q, a, r, n, ⟨m, c, k, t, v, u⟩, b⟩ x z
    by_cases he : segText ⟨p, d, q, a, r, n, ⟨m, c, k, t, v, u⟩, b⟩ x z = ⟨#[]⟩
    · have O1 := segOkS p d q a r n m c k t v u b
      have W1 := wordOkS x 32
      have W2 := wordOkS z 32
      have hx := seg_empty he
      rw [he] at T1 T2
      have T1 := Lib.hid T1
      have T2 := Lib.hid T2
      clear he hle
      generalize segOk ⟨p, d, q, a, r, n, ⟨m, c, k, t, v, u⟩, b⟩ = o1 at O1 hx
      generalize wordOk x 32 = o2 at W1 hx
      generalize wordOk z 32 = o3 at W2 hx
      have O1 := Lib.hid O1
      have W1 := Lib.hid W1
      have W2 := Lib.hid W2
      go_wp2_with fail
      refine (T1.out _).mono ?_
      rintro e w2 ⟨rfl, hb2⟩
      have K2 := Lib.hid ((HasC.new w1 #[.int .i64 p, .int .i64 d, .int .i64 q, .int .i64 a, .int .i64 r, .int .i64 n, .int .i64 m, .int .i64 c, .bool k, .bool t, .int .i64 v, .int .i64 u, .string b] 27).keep hb2)
      have B2 := Lib.hid (stepA B1.out hb2)
      clear hb2 B1
      have c0 := K2.out.at 0 rfl
      have c1 := K2.out.at 1 rfl
      have c2 := K2.out.at 2 rfl
      have c3 := K2.out.at 3 rfl
      have c4 := K2.out.at 4 rfl
      have c5 := K2.out.at 5 rfl
      have c6 := K2.out.at 6 rfl
      have c7 := K2.out.at 7 rfl
      have c8 := K2.out.at 8 rfl
      have c9 := K2.out.at 9 rfl
      have c10 := K2.out.at 10 rfl
      have c11 := K2.out.at 11 rfl
      have c12 := K2.out.at 12 rfl
      have nf := K2.out.1
      go_wp2_with fail
      refine (T2.out _).mono ?_
      rintro e w3 ⟨rfl, hb3⟩
      have K3 := Lib.hid (K2.out.keep hb3)
      have B3 := Lib.hid (step B2.out hb3)
      clear hb3 B2 K2 c0 c1 c2 c3 c4 c5 c6 c7 c8 c9 c10 c11 c12
      have c0 := K3.out.at 0 rfl
      have c1 := K3.out.at 1 rfl
      have c2 := K3.out.at 2 rfl
      have c3 := K3.out.at 3 rfl
      have c4 := K3.out.at 4 rfl
      have c5 := K3.out.at 5 rfl
      have c6 := K3.out.at 6 rfl
      have c7 := K3.out.at 7 rfl
      have c8 := K3.out.at 8 rfl
      have c9 := K3.out.at 9 rfl
      have c10 := K3.out.at 10 rfl
      have c11 := K3.out.at 11 rfl
      have c12 := K3.out.at 12 rfl
      have nf := K3.out.1
      go_wp2_with fail
      refine (O1.out _).mono ?_
      rintro e w4 ⟨rfl, hb4⟩
      have B4 := Lib.hid (step B3.out hb4)
      clear hb4 B3 K3 c0 c1 c2 c3 c4 c5 c6 c7 c8 c9 c10 c11 c12
      cases o1 with
      | false =>
        go_wp2_with fail
        go_ret
        exact ⟨rfl, B4.out⟩
      | true =>
        go_wp2_with fail
        refine (W1.out _).mono ?_
        rintro e w5 ⟨rfl, rfl⟩
        cases o2 with
        | false =>
          go_wp2_with fail
          go_ret
          exact ⟨rfl, B4.out⟩
        | true =>
          obtain rfl : o3 = false := by rcases hx with h | h | h; exact absurd h.symm Bool.false_ne_true; exact absurd h.symm Bool.false_ne_true; exact h
          go_wp2_with fail
          refine (W2.out _).mono ?_
          rintro e w5 ⟨rfl, rfl⟩
          go_wp2_with fail
          go_ret
          exact ⟨rfl, B4.out⟩
    · obtain ⟨ho, hp⟩ := seg_some he
      have h1 := seg_round ho hp
      have h2 := (fun k hk => seg_other ho hp k hk)
      have hpos := size_pos _ he
      obtain ⟨s, hs'⟩ : ∃ s, segText ⟨p, d, q, a, r, n, ⟨m, c, k, t, v, u⟩, b⟩ x z = s := ⟨_, rfl⟩
      rw [hs'] at T1 T2 hle h1 hpos
      simp only [hs'] at h2
      have R1 := (fun w => readSegI s x z w (by omega))
      rw [h1] at R1
      simp only [Seg.cs] at R1
      have R1 := Lib.hid R1
      have h2 := Lib.hid h2
      have T1 := Lib.hid T1
      have T2 := Lib.hid T2
      have se := notEmpty s hpos
      clear he ho hp h1 hs' hpos
      go_wp2_with fail
      refine (T1.out _).mono ?_
      rintro e w2 ⟨rfl, hb2⟩
      have K2 := Lib.hid ((HasC.new w1 #[.int .i64 p, .int .i64 d, .int .i64 q, .int .i64 a, .int .i64 r, .int .i64 n, .int .i64 m, .int .i64 c, .bool k, .bool t, .int .i64 v, .int .i64 u, .string b] 27).keep hb2)
      have B2 := Lib.hid (stepA B1.out hb2)
      clear hb2 B1
      have c0 := K2.out.at 0 rfl
      have c1 := K2.out.at 1 rfl
      have c2 := K2.out.at 2 rfl
      have c3 := K2.out.at 3 rfl
      have c4 := K2.out.at 4 rfl
      have c5 := K2.out.at 5 rfl
      have c6 := K2.out.at 6 rfl
      have c7 := K2.out.at 7 rfl
      have c8 := K2.out.at 8 rfl
      have c9 := K2.out.at 9 rfl
      have c10 := K2.out.at 10 rfl
      have c11 := K2.out.at 11 rfl
      have c12 := K2.out.at 12 rfl
      have nf := K2.out.1
      go_wp2_with fail
      refine (T2.out _).mono ?_
      rintro e w3 ⟨rfl, hb3⟩
      have K3 := Lib.hid (K2.out.keep hb3)
      have B3 := Lib.hid (step B2.out hb3)
      clear hb3 B2 K2 c0 c1 c2 c3 c4 c5 c6 c7 c8 c9 c10 c11 c12
      have c0 := K3.out.at 0 rfl
      have c1 := K3.out.at 1 rfl
      have c2 := K3.out.at 2 rfl
      have c3 := K3.out.at 3 rfl
      have c4 := K3.out.at 4 rfl
      have c5 := K3.out.at 5 rfl
      have c6 := K3.out.at 6 rfl
      have c7 := K3.out.at 7 rfl
      have c8 := K3.out.at 8 rfl
      have c9 := K3.out.at 9 rfl
      have c10 := K3.out.at 10 rfl
      have c11 := K3.out.at 11 rfl
      have c12 := K3.out.at 12 rfl
      have nf := K3.out.1
      go_wp2_with fail
      refine (R1.out _).mono ?_
      rintro e w4 ⟨rfl, hb4⟩
      have K4 := Lib.hid (K3.out.keep hb4)
      have B4 := Lib.hid (step B3.out hb4)
      clear hb4 B3 K3 c0 c1 c2 c3 c4 c5 c6 c7 c8 c9 c10 c11 c12
      have nf := K4.out.1
      go_upto_region 10 with fail
      have K5 := Lib.hid (K4.out.alloc (.cells #[.int .i64 p, .int .i64 d, .int .i64 q, .int .i64 a, .int .i64 r, .int .i64 n, .int .i64 m, .int .i64 c, .bool k, .bool t, .int .i64 v, .int .i64 u, .string b] 27))
      have J5 := Lib.hid (HasC.new w4 #[.int .i64 p, .int .i64 d, .int .i64 q, .int .i64 a, .int .i64 r, .int .i64 n, .int .i64 m, .int .i64 c, .bool k, .bool t, .int .i64 v, .int .i64 u, .string b] 27)
      have B5 := Lib.hid (B4.out.alloc B4.out.size (.cells #[.int .i64 p, .int .i64 d, .int .i64 q, .int .i64 a, .int .i64 r, .int .i64 n, .int .i64 m, .int .i64 c, .bool k, .bool t, .int .i64 v, .int .i64 u, .string b] 27))
      have n5 := J5.out.1
      clear K4 B4
      generalize w4.alloc (.cells #[.int .i64 p, .int .i64 d, .int .i64 q, .int .i64 a, .int .i64 r, .int .i64 n, .int .i64 m, .int .i64 c, .bool k, .bool t, .int .i64 v, .int .i64 u, .string b] 27) = w5 at K5 J5 B5 n5 ⊢
      generalize w4.heap.size = f at *
      generalize hf1 : w1.heap.size = h at *
      go_wp2_with fail
      refine (at0_any a0 s0 cap0 3 (by omega) _ w5 (HR.out.below B5.out) hs).mono ?_
      rintro e w6 ⟨y, rfl, ⟨y0, y1⟩, rfl⟩
      have i0 := Int.emod_nonneg y (show (255 : Int) ≠ 0 by omega)
      have i1 := Int.emod_lt_of_pos y (show (0 : Int) < 255 by omega)
      obtain ⟨g, hg⟩ : ∃ g : Nat, 1 + y % 255 = (g : Int) := ⟨(1 + y % 255).toNat, by omega⟩
      have R2 := (fun w => readSegI s x (bits .xor .i64 z (g : Int)) w (by omega))
      rw [h2.out g (by omega)] at R2
      simp only [Seg.cs, segZ] at R2
      rw [← hg] at R2
      have hwg : IntKind.i64.wrap (1 + y % 255) = 1 + y % 255 := by rw [IntKind.wrap_i64]; omega
      have R2 := Lib.hid R2
      clear hg h2
      go_wp2_with fail
      refine (R2.out _).mono ?_
      rintro e w7 ⟨rfl, hb7⟩
      have K7 := Lib.hid (K5.out.keep hb7)
      have J7 := Lib.hid (J5.out.keep hb7)
      have B7 := Lib.hid (step B5.out hb7)
      clear hb7 K5 J5 B5
      go_upto_region 11 with fail
      have K8 := Lib.hid (K7.out.alloc (.cells #[.int .i64 0, .int .i64 0, .int .i64 0, .int .i64 0, .int .i64 0, .int .i64 0, .int .i64 0, .int .i64 0, .bool false, .bool false, .int .i64 0, .int .i64 0, .string ⟨#[]⟩] 27))
      have J8 := Lib.hid (J7.out.alloc (.cells #[.int .i64 0, .int .i64 0, .int .i64 0, .int .i64 0, .int .i64 0, .int .i64 0, .int .i64 0, .int .i64 0, .bool false, .bool false, .int .i64 0, .int .i64 0, .string ⟨#[]⟩] 27))
      have B8 := Lib.hid (B7.out.alloc B7.out.size (.cells #[.int .i64 0, .int .i64 0, .int .i64 0, .int .i64 0, .int .i64 0, .int .i64 0, .int .i64 0, .int .i64 0, .bool false, .bool false, .int .i64 0, .int .i64 0, .string ⟨#[]⟩] 27))
      clear K7 J7 B7
      generalize w7.alloc (.cells #[.int .i64 0, .int .i64 0, .int .i64 0, .int .i64 0, .int .i64 0, .int .i64 0, .int .i64 0, .int .i64 0, .bool false, .bool false, .int .i64 0, .int .i64 0, .string ⟨#[]⟩] 27) = w8 at K8 J8 B8 ⊢
      have c0 := K8.out.at 0 rfl
      have c1 := K8.out.at 1 rfl
      have c2 := K8.out.at 2 rfl
      have c3 := K8.out.at 3 rfl
      have c4 := K8.out.at 4 rfl
      have c5 := K8.out.at 5 rfl
      have c6 := K8.out.at 6 rfl
      have c7 := K8.out.at 7 rfl
      have c8 := K8.out.at 8 rfl
      have c9 := K8.out.at 9 rfl
      have c10 := K8.out.at 10 rfl
      have c11 := K8.out.at 11 rfl
      have c12 := K8.out.at 12 rfl
      have j0 := J8.out.at 0 rfl
      have j1 := J8.out.at 1 rfl
      have j2 := J8.out.at 2 rfl
      have j3 := J8.out.at 3 rfl
      have j4 := J8.out.at 4 rfl
      have j5 := J8.out.at 5 rfl
      have j6 := J8.out.at 6 rfl
      have j7 := J8.out.at 7 rfl
      have j8 := J8.out.at 8 rfl
      have j9 := J8.out.at 9 rfl
      have j10 := J8.out.at 10 rfl
      have j11 := J8.out.at 11 rfl
      have j12 := J8.out.at 12 rfl
      go_wp2_with fail
      go_ret
      exact ⟨by simp, B8.out⟩
  · go_enter Try.func3, Try.ntmps3
    go_wp2_with fail
    refine (big_yes _ _ _ _ (by omega) (by omega)).mono ?_
    rintro e w' ⟨rfl, rfl⟩
    go_wp2_with fail
    go_ret
    exact ⟨rfl, Below.refl _ _⟩
theorem own : ownKnob Try.prog.godebug = none := by kernel_rfl
theorem laidOut : laidOutB Try.prog = true := by kernel_rfl

set_option maxRecDepth 100000 in
theorem lifted (os : Os) (started : os.Started) (H : Type) (enc : TypeId × Value → H) :
    ReturnsInHanded {} Try.checked os 3 .any (Rows.fnSegmentSpec.pre6 enc Try.prog Try.f3 Rows.fnSegmentRow.domain false) (Rows.fnSegmentSpec.post enc Try.prog Try.f3 false true false false) := by
  refine returnsInHanded_of_change (C := Try.checked) own started (by kernel_rfl) Try.func3
    (ChangeSpec.witness6 (enc := enc) (C := Try.checked) false ⟨#[], #[.slice none 0 0], []⟩ 8 (by kernel_rfl) (by kernel_rfl) (by kernel_rfl) (by kernel_rfl)) ?_
  intro W base args ds gs before hval0 hW _ _
  have hval : ∀ (j : Nat) t v, Try.f3.params[j]? = some t → args[j]? = some v → Value.okWide Try.prog W .any base t v := hval0
  have hW' := hW
  obtain ⟨p, q, hA0, hV, rfl, _, _⟩ := hW
  have hA : DataW.TrodAll enc Try.prog W 0 (fun _ => true) true Try.f3.params.toList args.toList ds p := hA0
  rw [Try.params3] at hA hval
  obtain ⟨v0, vs0, d0, ds0, p0, q0, hargs, rfl, rfl, h0, r0⟩ := trodAll_cons hA
  obtain ⟨rfl, rfl, rfl⟩ := trodAll_nil r0
  obtain rfl : args = #[v0] := by cases args; simp_all
  obtain ⟨rfl, rfl⟩ := trodVars_none hV
  obtain ⟨a0, len0, cap0, rfl⟩ := okWide_slice Try.underlying22 (hval 0 22 v0 rfl rfl)
  have k0 := h0
  have lt0 : ∀ x ∈ p0, x.block < W.heap.size := by obtain ⟨m, hm⟩ := k0; exact DataW.trod_lt m _ _ _ hm
  obtain ⟨s0, w0⟩ : ∃ bs : List UInt8, IsBytes W a0 len0 bs := by obtain ⟨fuel, hf⟩ := h0; exact openBytes Try.underlying22 Try.underlying5 (by kernel_rfl) hf
  clear hA0 hval0
  refine (walk a0 len0 cap0 s0 w0).mono fun e W' ⟨he, bel⟩ => ?_
  subst he
  exact ⟨_, rfl, _, _, _, [], _, [], hW', trodAll_mk1 (shut_bool Try.underlying4 _), (trodAll_cons_mk (Below.trod laidOut (by kernel_rfl) (of_decide_eq_true (by kernel_rfl)) k0 bel lt0) trodAll_mk0), rfl, bel.frame _, fun h => by cases h⟩

theorem over : Rows.fnSegmentRow.holds Try.pinned (OpenSpec.ofChange Rows.fnSegmentSpec) :=
  OpenClaim.holds_of_wide 3 Try.f3 rfl rfl rfl rfl rfl rfl rfl ⟨rfl, rfl, rfl, rfl, rfl⟩ rfl rfl rfl rfl rfl (by kernel_rfl) Try.func3 (by kernel_rfl)
    (of_decide_eq_true (by kernel_rfl)) (by unfold Func.isWrapper; first | (rw [if_pos (by decide +kernel)]; kernel_rfl) | (rw [if_neg (by decide +kernel)]; exact ⟨rfl, rfl⟩))
    (fun os started H enc _ => lifted os started H enc)

theorem proved : Rows.FnSegmentSaid := over
#print axioms proved
end Go.Proofs.Ytlfbcfhekfmkfaa.fnSegment
