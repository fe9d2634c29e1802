/- Proved here: for every code of at most 1048576 bytes, with the text and the two addresses that are drawn from it, impl.ReadSegment reads the segment that the model reads, and says that it is one where the model says so; impl.SegmentLen and the model's SegmentLen of it are the same; and where one is read it is valid by impl.SegmentOk and its length is that of its Body or one or two more (a longer code is not asked); the call returns true for every argument, without condition. -/
import Derived.Test.YtlfbcfhekfmkfaaRows
import Derived.Test.YtlfbcfhekfmkfaaDrawSegR
import Derived.Test.YtlfbcfhekfmkfaaReadSeg
import Derived.Test.YtlfbcfhekfmkfaaSegLen
import Derived.Test.YtlfbcfhekfmkfaaSegOk
import Derived.Test.YtlfbcfhekfmkfaaBig
import Derived.Test.YtlfbcfhekfmkfaaOpen
import Derived.ProofKit
import Derived.OpenShut
import Derived.ShutString
import Derived.ChangeOld
import Derived.Below
namespace Go.Proofs.Ytlfbcfhekfmkfaa.fnSegmentRead
open Go.ChangeShapes Go.WideShapes Go.ChangeAt Go.RowKit

theorem step {w w1 w2 : World} (h : Below w.heap.size w w1) (hb : Below w1.heap.size w1 w2) : Below w.heap.size w w2 := h.trans (hb.mono h.size)
theorem stepA {w w1 w2 : World} {o : Obj} (h : Below w.heap.size w w1) (hb : Below (w1.alloc o).heap.size (w1.alloc o) w2) : Below w.heap.size w w2 :=
  step (h.alloc h.size o) hb

theorem read_ok (s : ByteArray) (x z : Int) (h : (readSeg s x z).2 = true) : segOk (readSeg s x z).1 = true := by
  unfold readSeg at h ⊢
  by_cases hg : segGood s x z = true
  · rw [if_pos hg]
    unfold segGood at hg
    simp only [Bool.and_eq_true] at hg
    exact hg.2.2.2.2.2
  · rw [if_neg hg] at h; exact absurd h Bool.false_ne_true
theorem read_le (s : ByteArray) (x z : Int) : (readSeg s x z).1.b.size ≤ 1420 := by
  cases h : (readSeg s x z).2 with
  | true => exact (segOk_all (read_ok s x z h)).2.2.2.2.2.2.2
  | false =>
    unfold readSeg at h ⊢
    by_cases hg : segGood s x z = true
    · rw [if_pos hg] at h; exact absurd h.symm Bool.false_ne_true
    · rw [if_neg hg]; exact Nat.zero_le _
theorem len_between (g : Int) (b : ByteArray) : (b.size : Int) ≤ segLen g b ∧ segLen g b ≤ b.size + 2 := by
  unfold segLen
  cases hasF g 2 <;> cases hasF g 1 <;> simp <;> omega

set_option maxRecDepth 100000 in
set_option maxHeartbeats 8000000 in
theorem walk (a0 : Option Addr) (len0 cap0 : Nat) (s0 : List UInt8) {w : World} (w0 : IsBytes w a0 len0 s0) :
    Calls Try.prog 4 #[.slice a0 len0 cap0] w fun e w' => e = .returned (.bool true) ∧ Below w.heap.size w w' := by
  obtain ⟨⟨rfl, hm⟩, hrow⟩ := w0
  unfold maxLen at hm
  have HR := Lib.hid hrow
  clear hrow
  by_cases hs : s0.length ≤ 1048576
  · go_enter Try.func4, Try.ntmps4
    go_wp2_with fail
    refine (big_no _ _ _ _ hs).mono ?_
    rintro e w' ⟨rfl, rfl⟩
    go_wp2_with fail
    refine (drawReadSegment a0 s0 cap0 w HR.out hs).mono ?_
    rintro e w1 ⟨s, x, z, rfl, hsz, _, hb1⟩
    have B1 := Lib.hid hb1
    clear hb1
    have R1 := (fun w => readSegI s x z w (by omega))
    have R2 := (fun w => readSegS s x z w (by omega))
    have hv := read_ok s x z
    have hle := read_le s x z
    obtain ⟨⟨⟨p, d, q, a, r, n, ⟨m, c, k, t, v, u⟩, b⟩, o⟩, hr⟩ : ∃ r, readSeg s x z = r := ⟨_, rfl⟩
    rw [hr] at R1 R2 hv hle
    simp only [Seg.cs] at R1 R2
    have hle : b.size ≤ 1420 := hle
    have hv : o = true → segOk ⟨p, d, q, a, r, n, ⟨m, c, k, t, v, u⟩, b⟩ = true := hv
    have R1 := Lib.hid R1
    have R2 := Lib.hid R2
    clear hr hsz
    have L1 := (fun w => segLenI p d q a r n m c k t v u b (by omega) w)
    have L2 := (fun w => segLenS p d q a r n m c k t v u b (by omega) w)
    have O1 := segOkI p d q a r n m c k t v u b
    obtain ⟨l0, l1⟩ := len_between r b
    generalize segLen r b = l at L1 L2 l0 l1
    have L1 := Lib.hid L1
    have L2 := Lib.hid L2
    have hw : IntKind.i64.wrap ((b.size : Int) + 2) = b.size + 2 := by rw [IntKind.wrap_i64]; omega
    go_wp2_with fail
    refine (R1.out _).mono ?_
    rintro e w2 ⟨rfl, hb2⟩
    have B2 := Lib.hid (step B1.out hb2)
    clear hb2 B1
    go_wp2_with fail
    refine (R2.out _).mono ?_
    rintro e w3 ⟨rfl, hb3⟩
    have K3 := Lib.hid ((HasC.new w2 #[.int .i64 p, .int .i64 d, .int .i64 q, .int .i64 a, .int .i64 r, .int .i64 n, .int .i64 m, .int .i64 c, .bool k, .bool t, .int .i64 v, .int .i64 u, .string b] 27).keep hb3)
    have B3 := Lib.hid (stepA B2.out hb3)
    have n3 := K3.out.1
    clear hb3 B2
    have c0 := K3.out.at 0 rfl
    have c1 := K3.out.at 1 rfl
    have c2 := K3.out.at 2 rfl
    have c3 := K3.out.at 3 rfl
    have c4 := K3.out.at 4 rfl
    have c5 := K3.out.at 5 rfl
    have c6 := K3.out.at 6 rfl
    have c7 := K3.out.at 7 rfl
    have c8 := K3.out.at 8 rfl
    have c9 := K3.out.at 9 rfl
    have c10 := K3.out.at 10 rfl
    have c11 := K3.out.at 11 rfl
    have c12 := K3.out.at 12 rfl
    go_upto_region 6 with fail
    have K4 := Lib.hid (K3.out.alloc (.cells #[.int .i64 p, .int .i64 d, .int .i64 q, .int .i64 a, .int .i64 r, .int .i64 n, .int .i64 m, .int .i64 c, .bool k, .bool t, .int .i64 v, .int .i64 u, .string b] 27))
    have J4 := Lib.hid (HasC.new w3 #[.int .i64 p, .int .i64 d, .int .i64 q, .int .i64 a, .int .i64 r, .int .i64 n, .int .i64 m, .int .i64 c, .bool k, .bool t, .int .i64 v, .int .i64 u, .string b] 27)
    have B4 := Lib.hid (B3.out.alloc B3.out.size (.cells #[.int .i64 p, .int .i64 d, .int .i64 q, .int .i64 a, .int .i64 r, .int .i64 n, .int .i64 m, .int .i64 c, .bool k, .bool t, .int .i64 v, .int .i64 u, .string b] 27))
    have n4 := J4.out.1
    clear K3 B3 c0 c1 c2 c3 c4 c5 c6 c7 c8 c9 c10 c11 c12
    generalize w3.alloc (.cells #[.int .i64 p, .int .i64 d, .int .i64 q, .int .i64 a, .int .i64 r, .int .i64 n, .int .i64 m, .int .i64 c, .bool k, .bool t, .int .i64 v, .int .i64 u, .string b] 27) = w4 at K4 J4 B4 n4 ⊢
    generalize w2.heap.size = f at *
    generalize w3.heap.size = h at *
    have c0 := K4.out.at 0 rfl
    have c1 := K4.out.at 1 rfl
    have c2 := K4.out.at 2 rfl
    have c3 := K4.out.at 3 rfl
    have c4 := K4.out.at 4 rfl
    have c5 := K4.out.at 5 rfl
    have c6 := K4.out.at 6 rfl
    have c7 := K4.out.at 7 rfl
    have c8 := K4.out.at 8 rfl
    have c9 := K4.out.at 9 rfl
    have c10 := K4.out.at 10 rfl
    have c11 := K4.out.at 11 rfl
    have c12 := K4.out.at 12 rfl
    have j0 := J4.out.at 0 rfl
    have j1 := J4.out.at 1 rfl
    have j2 := J4.out.at 2 rfl
    have j3 := J4.out.at 3 rfl
    have j4 := J4.out.at 4 rfl
    have j5 := J4.out.at 5 rfl
    have j6 := J4.out.at 6 rfl
    have j7 := J4.out.at 7 rfl
    have j8 := J4.out.at 8 rfl
    have j9 := J4.out.at 9 rfl
    have j10 := J4.out.at 10 rfl
    have j11 := J4.out.at 11 rfl
    have j12 := J4.out.at 12 rfl
    have nf := K4.out.1
    cases o with
    | false =>
      clear hv O1
      go_wp2_with fail
      refine (L1.out _).mono ?_
      rintro e w5 ⟨rfl, hb5⟩
      have K5 := Lib.hid (K4.out.keep hb5)
      have B5 := Lib.hid (step B4.out hb5)
      clear hb5 B4 K4 J4 c0 c1 c2 c3 c4 c5 c6 c7 c8 c9 c10 c11 c12 j0 j1 j2 j3 j4 j5 j6 j7 j8 j9 j10 j11 j12
      have c0 := K5.out.at 0 rfl
      have c1 := K5.out.at 1 rfl
      have c2 := K5.out.at 2 rfl
      have c3 := K5.out.at 3 rfl
      have c4 := K5.out.at 4 rfl
      have c5 := K5.out.at 5 rfl
      have c6 := K5.out.at 6 rfl
      have c7 := K5.out.at 7 rfl
      have c8 := K5.out.at 8 rfl
      have c9 := K5.out.at 9 rfl
      have c10 := K5.out.at 10 rfl
      have c11 := K5.out.at 11 rfl
      have c12 := K5.out.at 12 rfl
      have nf := K5.out.1
      go_wp2_with fail
      refine (L2.out _).mono ?_
      rintro e w6 ⟨rfl, hb6⟩
      have K6 := Lib.hid (K5.out.keep hb6)
      have B6 := Lib.hid (step B5.out hb6)
      clear hb6 B5 K5 c0 c1 c2 c3 c4 c5 c6 c7 c8 c9 c10 c11 c12
      go_wp2_with fail
      go_ret
      exact ⟨by simp, B6.out⟩
    | true =>
      rw [hv rfl] at O1
      have O1 := Lib.hid O1
      clear hv
      go_wp2_with fail
      refine (L1.out _).mono ?_
      rintro e w5 ⟨rfl, hb5⟩
      have K5 := Lib.hid (K4.out.keep hb5)
      have B5 := Lib.hid (step B4.out hb5)
      clear hb5 B4 K4 J4 c0 c1 c2 c3 c4 c5 c6 c7 c8 c9 c10 c11 c12 j0 j1 j2 j3 j4 j5 j6 j7 j8 j9 j10 j11 j12
      have c0 := K5.out.at 0 rfl
      have c1 := K5.out.at 1 rfl
      have c2 := K5.out.at 2 rfl
      have c3 := K5.out.at 3 rfl
      have c4 := K5.out.at 4 rfl
      have c5 := K5.out.at 5 rfl
      have c6 := K5.out.at 6 rfl
      have c7 := K5.out.at 7 rfl
      have c8 := K5.out.at 8 rfl
      have c9 := K5.out.at 9 rfl
      have c10 := K5.out.at 10 rfl
      have c11 := K5.out.at 11 rfl
      have c12 := K5.out.at 12 rfl
      have nf := K5.out.1
      go_wp2_with fail
      refine (L2.out _).mono ?_
      rintro e w6 ⟨rfl, hb6⟩
      have K6 := Lib.hid (K5.out.keep hb6)
      have B6 := Lib.hid (step B5.out hb6)
      clear hb6 B5 K5 c0 c1 c2 c3 c4 c5 c6 c7 c8 c9 c10 c11 c12
      have c0 := K6.out.at 0 rfl
      have c1 := K6.out.at 1 rfl
      have c2 := K6.out.at 2 rfl
      have c3 := K6.out.at 3 rfl
      have c4 := K6.out.at 4 rfl
      have c5 := K6.out.at 5 rfl
      have c6 := K6.out.at 6 rfl
      have c7 := K6.out.at 7 rfl
      have c8 := K6.out.at 8 rfl
      have c9 := K6.out.at 9 rfl
      have c10 := K6.out.at 10 rfl
      have c11 := K6.out.at 11 rfl
      have c12 := K6.out.at 12 rfl
      have nf := K6.out.1
      go_wp2_with fail
      refine (O1.out _).mono ?_
      rintro e w7 ⟨rfl, hb7⟩
      have K7 := Lib.hid (K6.out.keep hb7)
      have B7 := Lib.hid (step B6.out hb7)
      clear hb7 B6 K6 c0 c1 c2 c3 c4 c5 c6 c7 c8 c9 c10 c11 c12
      have c12 := K7.out.at 12 rfl
      have nf := K7.out.1
      go_wp2_with fail
      go_ret
      exact ⟨by simp, B7.out⟩
  · go_enter Try.func4, Try.ntmps4
    go_wp2_with fail
    refine (big_yes _ _ _ _ (by omega) (by omega)).mono ?_
    rintro e w' ⟨rfl, rfl⟩
    go_wp2_with fail
    go_ret
    exact ⟨rfl, Below.refl _ _⟩
theorem own : ownKnob Try.prog.godebug = none := by kernel_rfl
theorem laidOut : laidOutB Try.prog = true := by kernel_rfl

set_option maxRecDepth 100000 in
theorem lifted (os : Os) (started : os.Started) (H : Type) (enc : TypeId × Value → H) :
    ReturnsInHanded {} Try.checked os 4 .any (Rows.fnSegmentReadSpec.pre6 enc Try.prog Try.f4 Rows.fnSegmentReadRow.domain false) (Rows.fnSegmentReadSpec.post enc Try.prog Try.f4 false true false false) := by
  refine returnsInHanded_of_change (C := Try.checked) own started (by kernel_rfl) Try.func4
    (ChangeSpec.witness6 (enc := enc) (C := Try.checked) false ⟨#[], #[.slice none 0 0], []⟩ 8 (by kernel_rfl) (by kernel_rfl) (by kernel_rfl) (by kernel_rfl)) ?_
  intro W base args ds gs before hval0 hW _ _
  have hval : ∀ (j : Nat) t v, Try.f4.params[j]? = some t → args[j]? = some v → Value.okWide Try.prog W .any base t v := hval0
  have hW' := hW
  obtain ⟨p, q, hA0, hV, rfl, _, _⟩ := hW
  have hA : DataW.TrodAll enc Try.prog W 0 (fun _ => true) true Try.f4.params.toList args.toList ds p := hA0
  rw [Try.params4] at hA hval
  obtain ⟨v0, vs0, d0, ds0, p0, q0, hargs, rfl, rfl, h0, r0⟩ := trodAll_cons hA
  obtain ⟨rfl, rfl, rfl⟩ := trodAll_nil r0
  obtain rfl : args = #[v0] := by cases args; simp_all
  obtain ⟨rfl, rfl⟩ := trodVars_none hV
  obtain ⟨a0, len0, cap0, rfl⟩ := okWide_slice Try.underlying22 (hval 0 22 v0 rfl rfl)
  have k0 := h0
  have lt0 : ∀ x ∈ p0, x.block < W.heap.size := by obtain ⟨m, hm⟩ := k0; exact DataW.trod_lt m _ _ _ hm
  obtain ⟨s0, w0⟩ : ∃ bs : List UInt8, IsBytes W a0 len0 bs := by obtain ⟨fuel, hf⟩ := h0; exact openBytes Try.underlying22 Try.underlying5 (by kernel_rfl) hf
  clear hA0 hval0
  refine (walk a0 len0 cap0 s0 w0).mono fun e W' ⟨he, bel⟩ => ?_
  subst he
  exact ⟨_, rfl, _, _, _, [], _, [], hW', trodAll_mk1 (shut_bool Try.underlying4 _), (trodAll_cons_mk (Below.trod laidOut (by kernel_rfl) (of_decide_eq_true (by kernel_rfl)) k0 bel lt0) trodAll_mk0), rfl, bel.frame _, fun h => by cases h⟩

theorem over : Rows.fnSegmentReadRow.holds Try.pinned (OpenSpec.ofChange Rows.fnSegmentReadSpec) :=
  OpenClaim.holds_of_wide 4 Try.f4 rfl rfl rfl rfl rfl rfl rfl ⟨rfl, rfl, rfl, rfl, rfl⟩ rfl rfl rfl rfl rfl (by kernel_rfl) Try.func4 (by kernel_rfl)
    (of_decide_eq_true (by kernel_rfl)) (by unfold Func.isWrapper; first | (rw [if_pos (by decide +kernel)]; kernel_rfl) | (rw [if_neg (by decide +kernel)]; exact ⟨rfl, rfl⟩))
    (fun os started H enc _ => lifted os started H enc)

theorem proved : Rows.FnSegmentReadSaid := over
#print axioms proved
end Go.Proofs.Ytlfbcfhekfmkfaa.fnSegmentRead
