/- Proved here: for every code of at most 1048576 bytes, with the frame and the text that are drawn from it, impl.FrameText writes what the model writes, impl.ReadFrame reads the frame back exactly where impl.FrameOk holds, and of the drawn text impl.ReadFrame says what the model says, and impl.FrameText of what it read is that text (a longer code is not asked); the call returns true for every argument, without condition. -/
import Derived.Test.YtjldfmifccjniaaRows
import Derived.Test.YtjldfmifccjniaaDrawFrm
import Derived.Test.YtjldfmifccjniaaFrameBack
import Derived.Test.YtjldfmifccjniaaBig
import Derived.Test.YtjldfmifccjniaaOpen
import Derived.ProofKit
import Derived.OpenShut
import Derived.ShutString
import Derived.ChangeOld
import Derived.Below
namespace Go.Proofs.Ytjldfmifccjniaa.fnFrame
open Go.ChangeShapes Go.WideShapes Go.ChangeAt Go.RowKit

/-- A contract of a call that makes memory, with the worlds behind it. -/
theorem step {w w1 w2 : World} (h : Below w.heap.size w w1) (hb : Below w1.heap.size w1 w2) : Below w.heap.size w w2 := h.trans (hb.mono h.size)
theorem stepA {w w1 w2 : World} {o : Obj} (h : Below w.heap.size w w1) (hb : Below (w1.alloc o).heap.size (w1.alloc o) w2) : Below w.heap.size w w2 :=
  step (h.alloc h.size o) hb

set_option maxRecDepth 100000 in
set_option maxHeartbeats 8000000 in
theorem walk (a0 : Option Addr) (len0 cap0 : Nat) (s0 : List UInt8) {w : World} (w0 : IsBytes w a0 len0 s0) :
    Calls Try.prog 3 #[.slice a0 len0 cap0] w fun e w' => e = .returned (.bool true) ∧ Below w.heap.size w w' := by
  obtain ⟨⟨rfl, hm⟩, hrow⟩ := w0
  unfold maxLen at hm
  have HR := Lib.hid hrow
  clear hrow
  by_cases hs : s0.length ≤ 1048576
  · go_enter Try.func3, Try.ntmps3
    go_wp2_with fail
    refine (big_no _ _ _ _ hs).mono ?_
    rintro e w' ⟨rfl, rfl⟩
    go_wp2_with fail
    refine (drawFrameText a0 s0 cap0 w HR.out hs).mono ?_
    rintro e w1 ⟨d, s, t, b, rfl, _, hb1⟩
    have B1 := Lib.hid hb1
    clear hb1
    have T1 := Lib.hid (frameTextI d s t b)
    have T2 := Lib.hid (frameTextS d s t b)
    have O1 := Lib.hid (frameOkI d s t b)
    have hle := frameText_le d s t b
    obtain ⟨o, ho⟩ : ∃ o, frameOk d s t b = o := ⟨_, rfl⟩
    cases o with
    | false =>
      obtain ⟨h1, h2⟩ := read_none d s t b ho
      have R1 := Lib.hid (fun w => readFrameI ⟨#[]⟩ w (by decide))
      rw [rfV_no _ h2] at R1
      rw [h1] at T1 T2
      rw [ho] at O1
      clear h1 h2 ho hle
      go_wp2_with fail
      refine (T1.out _).mono ?_
      rintro e w2 ⟨rfl, hb2⟩
      have F2 := Lib.hid ((HasC.new w1 #[.int .i64 d, .int .i64 s, .int .i64 t, .string b] 25).keep hb2)
      have B2 := Lib.hid (stepA B1.out hb2)
      clear hb2
      obtain ⟨c0, c1, c2, c3⟩ := F2.out.four
      go_wp2_with fail
      refine (T2.out _).mono ?_
      rintro e w3 ⟨rfl, hb3⟩
      have F3 := Lib.hid (F2.out.keep hb3)
      have B3 := Lib.hid (step B2.out hb3)
      clear hb3 F2 c0 c1 c2 c3 B2
      go_wp2_with fail
      refine (R1.out _).mono ?_
      rintro e w4 ⟨rfl, hb4⟩
      have F4 := Lib.hid (F3.out.keep hb4)
      have B4 := Lib.hid (step B3.out hb4)
      clear hb4 F3 B3
      have B4' := Lib.hid (B4.out.alloc B4.out.size (.cells #[.int .i64 0, .int .i64 0, .int .i64 0, .string ⟨#[]⟩] 25))
      have D := Lib.hid (drawReadFrame a0 s0 cap0 _ ((HR.out.below B4'.out).mono B4'.out.size) hs)
      have n1 := F4.out.1
      go_wp2_with fail
      refine D.out.mono ?_
      rintro e w5 ⟨y, rfl, hy, hb5⟩
      have F5 := Lib.hid ((F4.out.alloc _).keep hb5)
      have G5 := Lib.hid ((HasC.new w4 #[.int .i64 0, .int .i64 0, .int .i64 0, .string ⟨#[]⟩] 25).keep hb5)
      have B5 := Lib.hid (stepA B4.out hb5)
      clear hb5 F4 B4 B4' D
      have R2 := Lib.hid (fun w => readFrameI y w hy)
      have R3 := Lib.hid (fun w => readFrameS y w hy)
      obtain ⟨p, hp⟩ : ∃ p, rfOk y = p := ⟨_, rfl⟩
      cases p with
      | false =>
        rw [rfV_no y hp] at R2 R3
        clear hp
        go_wp2_with fail
        refine (R2.out _).mono ?_
        rintro e w6 ⟨rfl, hb6⟩
        have F6 := Lib.hid (F5.out.keep hb6)
        have G6 := Lib.hid (G5.out.keep hb6)
        have B6 := Lib.hid (step B5.out hb6)
        clear hb6 F5 G5 B5
        go_wp2_with fail
        refine (R3.out _).mono ?_
        rintro e w7 ⟨rfl, hb7⟩
        have F7 := Lib.hid ((F6.out.alloc _).keep hb7)
        have G7 := Lib.hid ((G6.out.alloc _).keep hb7)
        have H7 := Lib.hid ((HasC.new w6 #[.int .i64 0, .int .i64 0, .int .i64 0, .string ⟨#[]⟩] 25).keep hb7)
        have B7 := Lib.hid (stepA B6.out hb7)
        clear hb7 F6 G6 B6
        obtain ⟨c0, c1, c2, c3⟩ := F7.out.four
        have n2 := F7.out.1
        have n3 : ¬ w7.heap.size = w1.heap.size := by omega
        have n4 : ¬ w1.heap.size = w7.heap.size := by omega
        go_wp2_with fail
        refine (O1.out _).mono ?_
        rintro e w8 ⟨rfl, hb8⟩
        have F8 := Lib.hid ((F7.out.alloc _).keep hb8)
        have G8 := Lib.hid ((G7.out.alloc _).keep hb8)
        have H8 := Lib.hid ((H7.out.alloc _).keep hb8)
        have B8 := Lib.hid (stepA B7.out hb8)
        clear hb8 F7 G7 H7 B7 c0 c1 c2 c3 n2 n3 n4
        obtain ⟨c0, c1, c2, c3⟩ := F8.out.four
        obtain ⟨d0, d1, d2, d3⟩ := G8.out.four
        obtain ⟨e0, e1, e2, e3⟩ := H8.out.four
        go_wp2_with fail
        go_ret
        exact ⟨ret_bool (by simp), B8.out⟩
      | true =>
        have TB := text_back y hp
        unfold rfV at R2 R3
        rw [hp] at R2 R3
        generalize rfD y = u0 at R2 R3 TB
        generalize rfS y = u1 at R2 R3 TB
        generalize rfT y = u2 at R2 R3 TB
        generalize rfB y = ub at R2 R3 TB
        have T3 := Lib.hid (frameTextI u0 u1 u2 ub)
        rw [TB] at T3
        clear TB hp
        go_wp2_with fail
        refine (R2.out _).mono ?_
        rintro e w6 ⟨rfl, hb6⟩
        have F6 := Lib.hid (F5.out.keep hb6)
        have G6 := Lib.hid (G5.out.keep hb6)
        have B6 := Lib.hid (step B5.out hb6)
        clear hb6 F5 G5 B5
        go_wp2_with fail
        refine (R3.out _).mono ?_
        rintro e w7 ⟨rfl, hb7⟩
        have F7 := Lib.hid ((F6.out.alloc _).keep hb7)
        have G7 := Lib.hid ((G6.out.alloc _).keep hb7)
        have H7 := Lib.hid ((HasC.new w6 #[.int .i64 u0, .int .i64 u1, .int .i64 u2, .string ub] 25).keep hb7)
        have B7 := Lib.hid (stepA B6.out hb7)
        clear hb7 F6 G6 B6
        obtain ⟨c0, c1, c2, c3⟩ := F7.out.four
        have n2 := F7.out.1
        have n3 : ¬ w7.heap.size = w1.heap.size := by omega
        have n4 : ¬ w1.heap.size = w7.heap.size := by omega
        go_wp2_with fail
        refine (O1.out _).mono ?_
        rintro e w8 ⟨rfl, hb8⟩
        have F8 := Lib.hid ((F7.out.alloc _).keep hb8)
        have G8 := Lib.hid ((G7.out.alloc _).keep hb8)
        have H8 := Lib.hid ((H7.out.alloc _).keep hb8)
        have B8 := Lib.hid (stepA B7.out hb8)
        clear hb8 F7 G7 H7 B7 c0 c1 c2 c3 n2 n3 n4
        obtain ⟨c0, c1, c2, c3⟩ := F8.out.four
        obtain ⟨d0, d1, d2, d3⟩ := G8.out.four
        obtain ⟨e0, e1, e2, e3⟩ := H8.out.four
        go_wp2_with fail
        refine (T3.out _).mono ?_
        rintro e w9 ⟨rfl, hb9⟩
        have B9 := Lib.hid (step B8.out hb9)
        clear hb9 B8 c0 c1 c2 c3 d0 d1 d2 d3 e0 e1 e2 e3
        go_wp2_with fail
        go_ret
        exact ⟨ret_bool (by simp), B9.out⟩
    | true =>
      obtain ⟨h1, h2, h3, h4, h5⟩ := read_text d s t b ho
      obtain ⟨x, hx⟩ : ∃ x, frameText d s t b = x := ⟨_, rfl⟩
      have hle2 : x.size ≤ 1048576 := by rw [← hx]; omega
      have R1 := Lib.hid (fun w => readFrameI x w hle2)
      unfold rfV at R1
      rw [hx] at h1 h2 h3 h4 h5 T1 T2
      rw [h1, h2, h3, h4, h5] at R1
      rw [ho] at O1
      clear h1 h2 h3 h4 h5 hx ho hle hle2
      go_wp2_with fail
      refine (T1.out _).mono ?_
      rintro e w2 ⟨rfl, hb2⟩
      have F2 := Lib.hid ((HasC.new w1 #[.int .i64 d, .int .i64 s, .int .i64 t, .string b] 25).keep hb2)
      have B2 := Lib.hid (stepA B1.out hb2)
      clear hb2
      obtain ⟨c0, c1, c2, c3⟩ := F2.out.four
      go_wp2_with fail
      refine (T2.out _).mono ?_
      rintro e w3 ⟨rfl, hb3⟩
      have F3 := Lib.hid (F2.out.keep hb3)
      have B3 := Lib.hid (step B2.out hb3)
      clear hb3 F2 c0 c1 c2 c3 B2
      go_wp2_with fail
      refine (R1.out _).mono ?_
      rintro e w4 ⟨rfl, hb4⟩
      have F4 := Lib.hid (F3.out.keep hb4)
      have B4 := Lib.hid (step B3.out hb4)
      clear hb4 F3 B3
      have B4' := Lib.hid (B4.out.alloc B4.out.size (.cells #[.int .i64 d, .int .i64 s, .int .i64 t, .string b] 25))
      have D := Lib.hid (drawReadFrame a0 s0 cap0 _ ((HR.out.below B4'.out).mono B4'.out.size) hs)
      have n1 := F4.out.1
      go_wp2_with fail
      refine D.out.mono ?_
      rintro e w5 ⟨y, rfl, hy, hb5⟩
      have F5 := Lib.hid ((F4.out.alloc _).keep hb5)
      have G5 := Lib.hid ((HasC.new w4 #[.int .i64 d, .int .i64 s, .int .i64 t, .string b] 25).keep hb5)
      have B5 := Lib.hid (stepA B4.out hb5)
      clear hb5 F4 B4 B4' D
      have R2 := Lib.hid (fun w => readFrameI y w hy)
      have R3 := Lib.hid (fun w => readFrameS y w hy)
      obtain ⟨p, hp⟩ : ∃ p, rfOk y = p := ⟨_, rfl⟩
      cases p with
      | false =>
        rw [rfV_no y hp] at R2 R3
        clear hp
        go_wp2_with fail
        refine (R2.out _).mono ?_
        rintro e w6 ⟨rfl, hb6⟩
        have F6 := Lib.hid (F5.out.keep hb6)
        have G6 := Lib.hid (G5.out.keep hb6)
        have B6 := Lib.hid (step B5.out hb6)
        clear hb6 F5 G5 B5
        go_wp2_with fail
        refine (R3.out _).mono ?_
        rintro e w7 ⟨rfl, hb7⟩
        have F7 := Lib.hid ((F6.out.alloc _).keep hb7)
        have G7 := Lib.hid ((G6.out.alloc _).keep hb7)
        have H7 := Lib.hid ((HasC.new w6 #[.int .i64 0, .int .i64 0, .int .i64 0, .string ⟨#[]⟩] 25).keep hb7)
        have B7 := Lib.hid (stepA B6.out hb7)
        clear hb7 F6 G6 B6
        obtain ⟨c0, c1, c2, c3⟩ := F7.out.four
        have n2 := F7.out.1
        have n3 : ¬ w7.heap.size = w1.heap.size := by omega
        have n4 : ¬ w1.heap.size = w7.heap.size := by omega
        go_wp2_with fail
        refine (O1.out _).mono ?_
        rintro e w8 ⟨rfl, hb8⟩
        have F8 := Lib.hid ((F7.out.alloc _).keep hb8)
        have G8 := Lib.hid ((G7.out.alloc _).keep hb8)
        have H8 := Lib.hid ((H7.out.alloc _).keep hb8)
        have B8 := Lib.hid (stepA B7.out hb8)
        clear hb8 F7 G7 H7 B7 c0 c1 c2 c3 n2 n3 n4
        obtain ⟨c0, c1, c2, c3⟩ := F8.out.four
        obtain ⟨d0, d1, d2, d3⟩ := G8.out.four
        obtain ⟨e0, e1, e2, e3⟩ := H8.out.four
        go_wp2_with fail
        go_ret
        exact ⟨ret_bool (by simp), B8.out⟩
      | true =>
        have TB := text_back y hp
        unfold rfV at R2 R3
        rw [hp] at R2 R3
        generalize rfD y = u0 at R2 R3 TB
        generalize rfS y = u1 at R2 R3 TB
        generalize rfT y = u2 at R2 R3 TB
        generalize rfB y = ub at R2 R3 TB
        have T3 := Lib.hid (frameTextI u0 u1 u2 ub)
        rw [TB] at T3
        clear TB hp
        go_wp2_with fail
        refine (R2.out _).mono ?_
        rintro e w6 ⟨rfl, hb6⟩
        have F6 := Lib.hid (F5.out.keep hb6)
        have G6 := Lib.hid (G5.out.keep hb6)
        have B6 := Lib.hid (step B5.out hb6)
        clear hb6 F5 G5 B5
        go_wp2_with fail
        refine (R3.out _).mono ?_
        rintro e w7 ⟨rfl, hb7⟩
        have F7 := Lib.hid ((F6.out.alloc _).keep hb7)
        have G7 := Lib.hid ((G6.out.alloc _).keep hb7)
        have H7 := Lib.hid ((HasC.new w6 #[.int .i64 u0, .int .i64 u1, .int .i64 u2, .string ub] 25).keep hb7)
        have B7 := Lib.hid (stepA B6.out hb7)
        clear hb7 F6 G6 B6
        obtain ⟨c0, c1, c2, c3⟩ := F7.out.four
        have n2 := F7.out.1
        have n3 : ¬ w7.heap.size = w1.heap.size := by omega
        have n4 : ¬ w1.heap.size = w7.heap.size := by omega
        go_wp2_with fail
        refine (O1.out _).mono ?_
        rintro e w8 ⟨rfl, hb8⟩
        have F8 := Lib.hid ((F7.out.alloc _).keep hb8)
        have G8 := Lib.hid ((G7.out.alloc _).keep hb8)
        have H8 := Lib.hid ((H7.out.alloc _).keep hb8)
        have B8 := Lib.hid (stepA B7.out hb8)
        clear hb8 F7 G7 H7 B7 c0 c1 c2 c3 n2 n3 n4
        obtain ⟨c0, c1, c2, c3⟩ := F8.out.four
        obtain ⟨d0, d1, d2, d3⟩ := G8.out.four
        obtain ⟨e0, e1, e2, e3⟩ := H8.out.four
        go_wp2_with fail
        refine (T3.out _).mono ?_
        rintro e w9 ⟨rfl, hb9⟩
        have B9 := Lib.hid (step B8.out hb9)
        clear hb9 B8 c0 c1 c2 c3 d0 d1 d2 d3 e0 e1 e2 e3
        go_wp2_with fail
        go_ret
        exact ⟨ret_bool (by simp), B9.out⟩
  · have h1 : 1048576 < s0.length := by omega
    go_enter Try.func3, Try.ntmps3
    go_wp2_with fail
    refine (big_yes _ _ _ _ h1 hm).mono ?_
    rintro e w' ⟨rfl, rfl⟩
    go_wp2_with fail
    go_ret
    exact ⟨rfl, Below.refl _ _⟩

theorem own : ownKnob Try.prog.godebug = none := by kernel_rfl
theorem laidOut : laidOutB Try.prog = true := by kernel_rfl

set_option maxRecDepth 100000 in
theorem lifted (os : Os) (started : os.Started) (H : Type) (enc : TypeId × Value → H) :
    ReturnsInHanded {} Try.checked os 3 .any (Rows.fnFrameSpec.pre6 enc Try.prog Try.f3 Rows.fnFrameRow.domain false) (Rows.fnFrameSpec.post enc Try.prog Try.f3 false true false false) := by
  refine returnsInHanded_of_change (C := Try.checked) own started (by kernel_rfl) Try.func3
    (ChangeSpec.witness6 (enc := enc) (C := Try.checked) false ⟨#[], #[.slice none 0 0], []⟩ 8 (by kernel_rfl) (by kernel_rfl) (by kernel_rfl) (by kernel_rfl)) ?_
  intro W base args ds gs before hval0 hW _ _
  have hval : ∀ (j : Nat) t v, Try.f3.params[j]? = some t → args[j]? = some v → Value.okWide Try.prog W .any base t v := hval0
  have hW' := hW
  obtain ⟨p, q, hA0, hV, rfl, _, _⟩ := hW
  have hA : DataW.TrodAll enc Try.prog W 0 (fun _ => true) true Try.f3.params.toList args.toList ds p := hA0
  rw [Try.params3] at hA hval
  obtain ⟨v0, vs0, d0, ds0, p0, q0, hargs, rfl, rfl, h0, r0⟩ := trodAll_cons hA
  obtain ⟨rfl, rfl, rfl⟩ := trodAll_nil r0
  obtain rfl : args = #[v0] := by cases args; simp_all
  obtain ⟨rfl, rfl⟩ := trodVars_none hV
  obtain ⟨a0, len0, cap0, rfl⟩ := okWide_slice Try.underlying22 (hval 0 22 v0 rfl rfl)
  have k0 := h0
  have lt0 : ∀ x ∈ p0, x.block < W.heap.size := by obtain ⟨m, hm⟩ := k0; exact DataW.trod_lt m _ _ _ hm
  obtain ⟨s0, w0⟩ : ∃ bs : List UInt8, IsBytes W a0 len0 bs := by obtain ⟨fuel, hf⟩ := h0; exact openBytes Try.underlying22 Try.underlying5 (by kernel_rfl) hf
  clear hA0 hval0
  refine (walk a0 len0 cap0 s0 w0).mono fun e W' ⟨he, bel⟩ => ?_
  subst he
  exact ⟨_, rfl, _, _, _, [], _, [], hW', trodAll_mk1 (shut_bool Try.underlying4 _), (trodAll_cons_mk (Below.trod laidOut (by kernel_rfl) (of_decide_eq_true (by kernel_rfl)) k0 bel lt0) trodAll_mk0), rfl, bel.frame _, fun h => by cases h⟩

theorem over : Rows.fnFrameRow.holds Try.pinned (OpenSpec.ofChange Rows.fnFrameSpec) :=
  OpenClaim.holds_of_wide 3 Try.f3 rfl rfl rfl rfl rfl rfl rfl ⟨rfl, rfl, rfl, rfl, rfl⟩ rfl rfl rfl rfl rfl (by kernel_rfl) Try.func3 (by kernel_rfl)
    (of_decide_eq_true (by kernel_rfl)) (by unfold Func.isWrapper; first | (rw [if_pos (by decide +kernel)]; kernel_rfl) | (rw [if_neg (by decide +kernel)]; exact ⟨rfl, rfl⟩))
    (fun os started H enc _ => lifted os started H enc)

theorem proved : Rows.FnFrameSaid := over
#print axioms proved
end Go.Proofs.Ytjldfmifccjniaa.fnFrame
