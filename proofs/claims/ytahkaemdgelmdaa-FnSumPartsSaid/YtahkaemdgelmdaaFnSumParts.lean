/- Proved here: for every code of at most 1048576 bytes, with the two texts of even length that are drawn from it, the sum of both behind each other is the sum of their sums, in either order, as a word sum and as a checksum, and impl.WordSum answers what the model answers (a longer code is not asked); the call returns true for every argument, without condition. -/
import Derived.Test.YtahkaemdgelmdaaRows
import Derived.Test.YtahkaemdgelmdaaSum2
import Derived.Test.YtahkaemdgelmdaaDrawSum
import Derived.Test.YtahkaemdgelmdaaBig
import Derived.Test.YtahkaemdgelmdaaTail
import Derived.Test.YtahkaemdgelmdaaOpenC
import Derived.ShutString
import Derived.ChangeOld
import Derived.Below
namespace Go.Proofs.Ytahkaemdgelmdaa.fnSumParts
open Go.ChangeShapes Go.WideShapes Go.ChangeAt Go.RowKit

theorem cut_size (s : ByteArray) (h : s.size % 2 = 1) (hs : s.size ≤ 12) : (s.extract 1 s.size).size % 2 = 0 ∧ (s.extract 1 s.size).size ≤ 12 := by
  rw [ByteArray.size_extract]; omega

set_option maxRecDepth 100000 in
set_option maxHeartbeats 4000000 in
theorem walk (a0 : Option Addr) (len0 cap0 : Nat) (s0 : List UInt8) {w : World} (w0 : IsBytesC w a0 len0 cap0 s0) :
    Calls Try.prog 4 #[.slice a0 len0 cap0] w fun e w' => e = .returned (.bool true) ∧ Below w.heap.size w w' := by
  obtain ⟨⟨⟨rfl, hm⟩, hrow⟩, hcap, hmax⟩ := w0
  unfold maxLen at hm hmax
  have HR := Lib.hid hrow
  clear hrow
  by_cases hs : s0.length ≤ 1048576
  · go_enter Try.func4, Try.ntmps4
    go_wp2_with fail
    refine (big_no _ _ _ _ hs).mono ?_
    rintro e w' ⟨rfl, rfl⟩
    go_wp2_with fail
    refine (drawWordSum a0 s0 cap0 w HR.out hs).mono ?_
    rintro e w1 ⟨s, rfl, hs1, hb1⟩
    have B1 := Lib.hid hb1
    have HR1 := Lib.hid ((HR.out.below hb1).mono hb1.size)
    clear hb1
    go_wp2_with fail
    refine (tail_any a0 s0 cap0 hcap hmax _ w1 HR1.out hs).mono ?_
    rintro e w' ⟨a1, s1, cap1, rfl, hr1, hl1, rfl⟩
    have HR2 := Lib.hid hr1
    clear hr1
    go_wp2_with fail
    refine (drawWordSum a1 s1 cap1 w1 HR2.out (by omega)).mono ?_
    rintro e w2 ⟨t, rfl, ht1, hb2⟩
    have B2 := Lib.hid (B1.out.trans (hb2.mono B1.out.size))
    clear hb2
    rcases Nat.mod_two_eq_zero_or_one s.size with es | es
    · have ds : (((s.size : Int) % 2 == 1)) = false := by simp; omega
      rcases Nat.mod_two_eq_zero_or_one t.size with et | et
      · have dt : (((t.size : Int) % 2 == 1)) = false := by simp; omega
        go_wp2_with fail
        clear ds dt
        have e1 := wsum_append s t es
        have e2 := wsum_append t s et
        have C1 := Lib.hid (wordSumI (s ++ t) (by rw [ByteArray.size_append]; omega))
        have C2 := Lib.hid (wordSumI (t ++ s) (by rw [ByteArray.size_append]; omega))
        have C3 := Lib.hid (sumOfI (s ++ t) (by rw [ByteArray.size_append]; omega))
        have C4 := Lib.hid (sumOfI (t ++ s) (by rw [ByteArray.size_append]; omega))
        have C5 := Lib.hid (wordSumI s (by omega))
        have C6 := Lib.hid (wordSumI t (by omega))
        have C7 := Lib.hid (wordSumS s (by omega))
        have es4 : sumOf (t ++ s) = sumOf (s ++ t) := by unfold sumOf; rw [e1, e2, Nat.add_comm]
        rw [es4] at C4
        rw [e1] at C1
        rw [e2, Nat.add_comm] at C2
        have hp := wsum_bd s
        have hq := wsum_bd t
        obtain ⟨p, hp'⟩ : ∃ p, wsum s = p := ⟨_, rfl⟩
        obtain ⟨q, hq'⟩ : ∃ q, wsum t = q := ⟨_, rfl⟩
        obtain ⟨z, hz'⟩ : ∃ z, sumOf (s ++ t) = z := ⟨_, rfl⟩
        rw [hp'] at C1 C2 C5 C7 hp
        rw [hq'] at C1 C2 C6 hq
        rw [hz'] at C3 C4
        clear e1 e2 es4 hp' hq' hz' es et
        refine (C1.out _).mono ?_
        rintro e w3 ⟨rfl, hb3⟩
        have B3 := Lib.hid (B2.out.trans (hb3.mono B2.out.size))
        clear hb3
        go_wp2_with fail
        refine (C2.out _).mono ?_
        rintro e w4 ⟨rfl, hb4⟩
        have B4 := Lib.hid (B3.out.trans (hb4.mono B3.out.size))
        clear hb4
        go_wp2_with fail
        refine (C3.out _).mono ?_
        rintro e w5 ⟨rfl, hb5⟩
        have B5 := Lib.hid (B4.out.trans (hb5.mono B4.out.size))
        clear hb5
        go_wp2_with fail
        refine (C4.out _).mono ?_
        rintro e w6 ⟨rfl, hb6⟩
        have B6 := Lib.hid (B5.out.trans (hb6.mono B5.out.size))
        clear hb6
        go_wp2_with fail
        refine (C1.out _).mono ?_
        rintro e w7 ⟨rfl, hb7⟩
        have B7 := Lib.hid (B6.out.trans (hb7.mono B6.out.size))
        clear hb7
        go_wp2_with fail
        refine (C5.out _).mono ?_
        rintro e w8 ⟨rfl, hb8⟩
        have B8 := Lib.hid (B7.out.trans (hb8.mono B7.out.size))
        clear hb8
        go_wp2_with fail
        refine (C6.out _).mono ?_
        rintro e w9 ⟨rfl, hb9⟩
        have B9 := Lib.hid (B8.out.trans (hb9.mono B8.out.size))
        clear hb9
        go_wp2_with fail
        refine (C5.out _).mono ?_
        rintro e w10 ⟨rfl, hb10⟩
        have B10 := Lib.hid (B9.out.trans (hb10.mono B9.out.size))
        clear hb10
        go_wp2_with fail
        refine (C7.out _).mono ?_
        rintro e w11 ⟨rfl, rfl⟩
        go_wp2_with fail
        go_ret
        exact ⟨rfl, B10.out⟩
      · have dt : (((t.size : Int) % 2 == 1)) = true := by simp; omega
        go_wp2_with fail
        clear ds dt
        have hh := cut_size t et ht1
        clear et
        obtain ⟨et, ct1⟩ := hh
        generalize t.extract 1 t.size = t' at et ct1 ⊢
        have e1 := wsum_append s t' es
        have e2 := wsum_append t' s et
        have C1 := Lib.hid (wordSumI (s ++ t') (by rw [ByteArray.size_append]; omega))
        have C2 := Lib.hid (wordSumI (t' ++ s) (by rw [ByteArray.size_append]; omega))
        have C3 := Lib.hid (sumOfI (s ++ t') (by rw [ByteArray.size_append]; omega))
        have C4 := Lib.hid (sumOfI (t' ++ s) (by rw [ByteArray.size_append]; omega))
        have C5 := Lib.hid (wordSumI s (by omega))
        have C6 := Lib.hid (wordSumI t' (by omega))
        have C7 := Lib.hid (wordSumS s (by omega))
        have es4 : sumOf (t' ++ s) = sumOf (s ++ t') := by unfold sumOf; rw [e1, e2, Nat.add_comm]
        rw [es4] at C4
        rw [e1] at C1
        rw [e2, Nat.add_comm] at C2
        have hp := wsum_bd s
        have hq := wsum_bd t'
        obtain ⟨p, hp'⟩ : ∃ p, wsum s = p := ⟨_, rfl⟩
        obtain ⟨q, hq'⟩ : ∃ q, wsum t' = q := ⟨_, rfl⟩
        obtain ⟨z, hz'⟩ : ∃ z, sumOf (s ++ t') = z := ⟨_, rfl⟩
        rw [hp'] at C1 C2 C5 C7 hp
        rw [hq'] at C1 C2 C6 hq
        rw [hz'] at C3 C4
        clear e1 e2 es4 hp' hq' hz' es et
        refine (C1.out _).mono ?_
        rintro e w3 ⟨rfl, hb3⟩
        have B3 := Lib.hid (B2.out.trans (hb3.mono B2.out.size))
        clear hb3
        go_wp2_with fail
        refine (C2.out _).mono ?_
        rintro e w4 ⟨rfl, hb4⟩
        have B4 := Lib.hid (B3.out.trans (hb4.mono B3.out.size))
        clear hb4
        go_wp2_with fail
        refine (C3.out _).mono ?_
        rintro e w5 ⟨rfl, hb5⟩
        have B5 := Lib.hid (B4.out.trans (hb5.mono B4.out.size))
        clear hb5
        go_wp2_with fail
        refine (C4.out _).mono ?_
        rintro e w6 ⟨rfl, hb6⟩
        have B6 := Lib.hid (B5.out.trans (hb6.mono B5.out.size))
        clear hb6
        go_wp2_with fail
        refine (C1.out _).mono ?_
        rintro e w7 ⟨rfl, hb7⟩
        have B7 := Lib.hid (B6.out.trans (hb7.mono B6.out.size))
        clear hb7
        go_wp2_with fail
        refine (C5.out _).mono ?_
        rintro e w8 ⟨rfl, hb8⟩
        have B8 := Lib.hid (B7.out.trans (hb8.mono B7.out.size))
        clear hb8
        go_wp2_with fail
        refine (C6.out _).mono ?_
        rintro e w9 ⟨rfl, hb9⟩
        have B9 := Lib.hid (B8.out.trans (hb9.mono B8.out.size))
        clear hb9
        go_wp2_with fail
        refine (C5.out _).mono ?_
        rintro e w10 ⟨rfl, hb10⟩
        have B10 := Lib.hid (B9.out.trans (hb10.mono B9.out.size))
        clear hb10
        go_wp2_with fail
        refine (C7.out _).mono ?_
        rintro e w11 ⟨rfl, rfl⟩
        go_wp2_with fail
        go_ret
        exact ⟨rfl, B10.out⟩
    · have ds : (((s.size : Int) % 2 == 1)) = true := by simp; omega
      rcases Nat.mod_two_eq_zero_or_one t.size with et | et
      · have dt : (((t.size : Int) % 2 == 1)) = false := by simp; omega
        go_wp2_with fail
        clear ds dt
        have hh := cut_size s es hs1
        clear es
        obtain ⟨es, cs1⟩ := hh
        generalize s.extract 1 s.size = s' at es cs1 ⊢
        have e1 := wsum_append s' t es
        have e2 := wsum_append t s' et
        have C1 := Lib.hid (wordSumI (s' ++ t) (by rw [ByteArray.size_append]; omega))
        have C2 := Lib.hid (wordSumI (t ++ s') (by rw [ByteArray.size_append]; omega))
        have C3 := Lib.hid (sumOfI (s' ++ t) (by rw [ByteArray.size_append]; omega))
        have C4 := Lib.hid (sumOfI (t ++ s') (by rw [ByteArray.size_append]; omega))
        have C5 := Lib.hid (wordSumI s' (by omega))
        have C6 := Lib.hid (wordSumI t (by omega))
        have C7 := Lib.hid (wordSumS s' (by omega))
        have es4 : sumOf (t ++ s') = sumOf (s' ++ t) := by unfold sumOf; rw [e1, e2, Nat.add_comm]
        rw [es4] at C4
        rw [e1] at C1
        rw [e2, Nat.add_comm] at C2
        have hp := wsum_bd s'
        have hq := wsum_bd t
        obtain ⟨p, hp'⟩ : ∃ p, wsum s' = p := ⟨_, rfl⟩
        obtain ⟨q, hq'⟩ : ∃ q, wsum t = q := ⟨_, rfl⟩
        obtain ⟨z, hz'⟩ : ∃ z, sumOf (s' ++ t) = z := ⟨_, rfl⟩
        rw [hp'] at C1 C2 C5 C7 hp
        rw [hq'] at C1 C2 C6 hq
        rw [hz'] at C3 C4
        clear e1 e2 es4 hp' hq' hz' es et
        refine (C1.out _).mono ?_
        rintro e w3 ⟨rfl, hb3⟩
        have B3 := Lib.hid (B2.out.trans (hb3.mono B2.out.size))
        clear hb3
        go_wp2_with fail
        refine (C2.out _).mono ?_
        rintro e w4 ⟨rfl, hb4⟩
        have B4 := Lib.hid (B3.out.trans (hb4.mono B3.out.size))
        clear hb4
        go_wp2_with fail
        refine (C3.out _).mono ?_
        rintro e w5 ⟨rfl, hb5⟩
        have B5 := Lib.hid (B4.out.trans (hb5.mono B4.out.size))
        clear hb5
        go_wp2_with fail
        refine (C4.out _).mono ?_
        rintro e w6 ⟨rfl, hb6⟩
        have B6 := Lib.hid (B5.out.trans (hb6.mono B5.out.size))
        clear hb6
        go_wp2_with fail
        refine (C1.out _).mono ?_
        rintro e w7 ⟨rfl, hb7⟩
        have B7 := Lib.hid (B6.out.trans (hb7.mono B6.out.size))
        clear hb7
        go_wp2_with fail
        refine (C5.out _).mono ?_
        rintro e w8 ⟨rfl, hb8⟩
        have B8 := Lib.hid (B7.out.trans (hb8.mono B7.out.size))
        clear hb8
        go_wp2_with fail
        refine (C6.out _).mono ?_
        rintro e w9 ⟨rfl, hb9⟩
        have B9 := Lib.hid (B8.out.trans (hb9.mono B8.out.size))
        clear hb9
        go_wp2_with fail
        refine (C5.out _).mono ?_
        rintro e w10 ⟨rfl, hb10⟩
        have B10 := Lib.hid (B9.out.trans (hb10.mono B9.out.size))
        clear hb10
        go_wp2_with fail
        refine (C7.out _).mono ?_
        rintro e w11 ⟨rfl, rfl⟩
        go_wp2_with fail
        go_ret
        exact ⟨rfl, B10.out⟩
      · have dt : (((t.size : Int) % 2 == 1)) = true := by simp; omega
        go_wp2_with fail
        clear ds dt
        have hh := cut_size s es hs1
        clear es
        obtain ⟨es, cs1⟩ := hh
        generalize s.extract 1 s.size = s' at es cs1 ⊢
        have hh := cut_size t et ht1
        clear et
        obtain ⟨et, ct1⟩ := hh
        generalize t.extract 1 t.size = t' at et ct1 ⊢
        have e1 := wsum_append s' t' es
        have e2 := wsum_append t' s' et
        have C1 := Lib.hid (wordSumI (s' ++ t') (by rw [ByteArray.size_append]; omega))
        have C2 := Lib.hid (wordSumI (t' ++ s') (by rw [ByteArray.size_append]; omega))
        have C3 := Lib.hid (sumOfI (s' ++ t') (by rw [ByteArray.size_append]; omega))
        have C4 := Lib.hid (sumOfI (t' ++ s') (by rw [ByteArray.size_append]; omega))
        have C5 := Lib.hid (wordSumI s' (by omega))
        have C6 := Lib.hid (wordSumI t' (by omega))
        have C7 := Lib.hid (wordSumS s' (by omega))
        have es4 : sumOf (t' ++ s') = sumOf (s' ++ t') := by unfold sumOf; rw [e1, e2, Nat.add_comm]
        rw [es4] at C4
        rw [e1] at C1
        rw [e2, Nat.add_comm] at C2
        have hp := wsum_bd s'
        have hq := wsum_bd t'
        obtain ⟨p, hp'⟩ : ∃ p, wsum s' = p := ⟨_, rfl⟩
        obtain ⟨q, hq'⟩ : ∃ q, wsum t' = q := ⟨_, rfl⟩
        obtain ⟨z, hz'⟩ : ∃ z, sumOf (s' ++ t') = z := ⟨_, rfl⟩
        rw [hp'] at C1 C2 C5 C7 hp
        rw [hq'] at C1 C2 C6 hq
        rw [hz'] at C3 C4
        clear e1 e2 es4 hp' hq' hz' es et
        refine (C1.out _).mono ?_
        rintro e w3 ⟨rfl, hb3⟩
        have B3 := Lib.hid (B2.out.trans (hb3.mono B2.out.size))
        clear hb3
        go_wp2_with fail
        refine (C2.out _).mono ?_
        rintro e w4 ⟨rfl, hb4⟩
        have B4 := Lib.hid (B3.out.trans (hb4.mono B3.out.size))
        clear hb4
        go_wp2_with fail
        refine (C3.out _).mono ?_
        rintro e w5 ⟨rfl, hb5⟩
        have B5 := Lib.hid (B4.out.trans (hb5.mono B4.out.size))
        clear hb5
        go_wp2_with fail
        refine (C4.out _).mono ?_
        rintro e w6 ⟨rfl, hb6⟩
        have B6 := Lib.hid (B5.out.trans (hb6.mono B5.out.size))
        clear hb6
        go_wp2_with fail
        refine (C1.out _).mono ?_
        rintro e w7 ⟨rfl, hb7⟩
        have B7 := Lib.hid (B6.out.trans (hb7.mono B6.out.size))
        clear hb7
        go_wp2_with fail
        refine (C5.out _).mono ?_
        rintro e w8 ⟨rfl, hb8⟩
        have B8 := Lib.hid (B7.out.trans (hb8.mono B7.out.size))
        clear hb8
        go_wp2_with fail
        refine (C6.out _).mono ?_
        rintro e w9 ⟨rfl, hb9⟩
        have B9 := Lib.hid (B8.out.trans (hb9.mono B8.out.size))
        clear hb9
        go_wp2_with fail
        refine (C5.out _).mono ?_
        rintro e w10 ⟨rfl, hb10⟩
        have B10 := Lib.hid (B9.out.trans (hb10.mono B9.out.size))
        clear hb10
        go_wp2_with fail
        refine (C7.out _).mono ?_
        rintro e w11 ⟨rfl, rfl⟩
        go_wp2_with fail
        go_ret
        exact ⟨rfl, B10.out⟩
  · have h1 : 1048576 < s0.length := by omega
    go_enter Try.func4, Try.ntmps4
    go_wp2_with fail
    refine (big_yes _ _ _ _ h1 hm).mono ?_
    rintro e w' ⟨rfl, rfl⟩
    go_wp2_with fail
    go_ret
    exact ⟨rfl, Below.refl _ _⟩

theorem own : ownKnob Try.prog.godebug = none := by kernel_rfl
theorem laidOut : laidOutB Try.prog = true := by kernel_rfl

set_option maxRecDepth 100000 in
theorem lifted (os : Os) (started : os.Started) (H : Type) (enc : TypeId × Value → H) :
    ReturnsInHanded {} Try.checked os 4 .any (Rows.fnSumPartsSpec.pre6 enc Try.prog Try.f4 Rows.fnSumPartsRow.domain false) (Rows.fnSumPartsSpec.post enc Try.prog Try.f4 false true false false) := by
  refine returnsInHanded_of_change (C := Try.checked) own started (by kernel_rfl) Try.func4
    (ChangeSpec.witness6 (enc := enc) (C := Try.checked) false ⟨#[], #[.slice none 0 0], []⟩ 8 (by kernel_rfl) (by kernel_rfl) (by kernel_rfl) (by kernel_rfl)) ?_
  intro W base args ds gs before hval0 hW _ _
  have hval : ∀ (j : Nat) t v, Try.f4.params[j]? = some t → args[j]? = some v → Value.okWide Try.prog W .any base t v := hval0
  have hW' := hW
  obtain ⟨p, q, hA0, hV, rfl, _, _⟩ := hW
  have hA : DataW.TrodAll enc Try.prog W 0 (fun _ => true) true Try.f4.params.toList args.toList ds p := hA0
  rw [Try.params4] at hA hval
  obtain ⟨v0, vs0, d0, ds0, p0, q0, hargs, rfl, rfl, h0, r0⟩ := trodAll_cons hA
  obtain ⟨rfl, rfl, rfl⟩ := trodAll_nil r0
  obtain rfl : args = #[v0] := by cases args; simp_all
  obtain ⟨rfl, rfl⟩ := trodVars_none hV
  obtain ⟨a0, len0, cap0, rfl⟩ := okWide_slice Try.underlying22 (hval 0 22 v0 rfl rfl)
  have k0 := h0
  have lt0 : ∀ x ∈ p0, x.block < W.heap.size := by obtain ⟨m, hm⟩ := k0; exact DataW.trod_lt m _ _ _ hm
  obtain ⟨s0, w0⟩ : ∃ bs : List UInt8, IsBytesC W a0 len0 cap0 bs := by obtain ⟨fuel, hf⟩ := h0; exact openBytesC Try.underlying22 Try.underlying5 (by kernel_rfl) hf
  clear hA0 hval0
  refine (walk a0 len0 cap0 s0 w0).mono fun e W' ⟨he, bel⟩ => ?_
  subst he
  exact ⟨_, rfl, _, _, _, [], _, [], hW', trodAll_mk1 (shut_bool Try.underlying4 _), (trodAll_cons_mk (Below.trod laidOut (by kernel_rfl) (of_decide_eq_true (by kernel_rfl)) k0 bel lt0) trodAll_mk0), rfl, bel.frame _, fun h => by cases h⟩

theorem over : Rows.fnSumPartsRow.holds Try.pinned (OpenSpec.ofChange Rows.fnSumPartsSpec) :=
  OpenClaim.holds_of_wide 4 Try.f4 rfl rfl rfl rfl rfl rfl rfl ⟨rfl, rfl, rfl, rfl, rfl⟩ rfl rfl rfl rfl rfl (by kernel_rfl) Try.func4 (by kernel_rfl)
    (of_decide_eq_true (by kernel_rfl)) (by unfold Func.isWrapper; first | (rw [if_pos (by decide +kernel)]; kernel_rfl) | (rw [if_neg (by decide +kernel)]; exact ⟨rfl, rfl⟩))
    (fun os started H enc _ => lifted os started H enc)

theorem proved : Rows.FnSumPartsSaid := over
#print axioms proved
end Go.Proofs.Ytahkaemdgelmdaa.fnSumParts
