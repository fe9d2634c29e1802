/- Proved here: for every code of at most 1048576 bytes, with the text of even length that is drawn from it, the text with its checksum behind it passes impl.SumRight, impl.SumOf answers what the model answers, and the same text with one byte turned fails impl.SumRight (a longer code is not asked); the call returns true for every argument, without condition. -/
import Derived.Test.YtahkaemdgelmdaaRows
import Derived.Test.YtahkaemdgelmdaaSum2
import Derived.Test.YtahkaemdgelmdaaSumLaws
import Derived.Test.YtahkaemdgelmdaaPutI
import Derived.Test.YtahkaemdgelmdaaDrawSum
import Derived.Test.YtahkaemdgelmdaaBig
import Derived.Test.YtahkaemdgelmdaaAt0
import Derived.Test.YtahkaemdgelmdaaBytesOf
import Derived.Test.YtahkaemdgelmdaaOpen
import Derived.ShutString
import Derived.ChangeOld
import Derived.Below
namespace Go.Proofs.Ytahkaemdgelmdaa.fnSum
open Go.ChangeShapes Go.WideShapes Go.ChangeAt Go.RowKit

set_option maxRecDepth 100000 in
set_option maxHeartbeats 4000000 in
theorem walk (a0 : Option Addr) (len0 cap0 : Nat) (s0 : List UInt8) {w : World} (w0 : IsBytes w a0 len0 s0) :
    Calls Try.prog 3 #[.slice a0 len0 cap0] w fun e w' => e = .returned (.bool true) ∧ Below w.heap.size w w' := by
  obtain ⟨⟨rfl, hm⟩, hrow⟩ := w0
  unfold maxLen at hm
  have HR := Lib.hid hrow
  clear hrow
  by_cases hs : s0.length ≤ 1048576
  · go_enter Try.func3, Try.ntmps3
    go_wp2_with fail
    refine (big_no _ _ _ _ hs).mono ?_
    rintro e w' ⟨rfl, rfl⟩
    go_wp2_with fail
    refine (drawSumOf a0 s0 cap0 w HR.out hs).mono ?_
    rintro e w1 ⟨s, rfl, hs1, hb1⟩
    have B1 := Lib.hid hb1
    have HR1 := Lib.hid (HR.out.below hb1)
    clear hb1
    rcases Nat.mod_two_eq_zero_or_one s.size with es | es
    · have ds : (((s.size : Int) % 2 == 1)) = false := by simp; omega
      go_wp2_with fail
      clear ds
      have C1 := Lib.hid (sumOfI s (by omega))
      have C2 := Lib.hid (sumOfS s (by omega))
      have C3 := Lib.hid (putWordI (sumOf s) 2)
      have hr := seal_right s es
      have hz := seal_size s
      obtain ⟨c, hc⟩ : ∃ c, sumOf s = c := ⟨_, rfl⟩
      rw [hc] at C1 C2 C3 hr hz
      obtain ⟨p, hp⟩ : ∃ p, putW c 2 = p := ⟨_, rfl⟩
      rw [hp] at C3 hr hz
      have zp : p.size = 2 := by rw [ByteArray.size_append] at hz; omega
      clear hc hp es
      refine (C1.out _).mono ?_
      rintro e w2 ⟨rfl, hb2⟩
      have B2 := Lib.hid (B1.out.trans (hb2.mono B1.out.size))
      clear hb2
      go_wp2_with fail
      refine (C3.out _).mono ?_
      rintro e w3 ⟨rfl, hb3⟩
      have B3 := Lib.hid (B2.out.trans (hb3.mono B2.out.size))
      clear hb3
      go_wp2_with fail
      generalize s ++ p = t at hr hz ⊢
      have C4 := Lib.hid (sumRightI t (by omega))
      rw [hr] at C4
      refine (C4.out _).mono ?_
      rintro e w4 ⟨rfl, hb4⟩
      have B4 := Lib.hid (B3.out.trans (hb4.mono B3.out.size))
      clear hb4
      go_wp2_with fail
      refine (C1.out _).mono ?_
      rintro e w5 ⟨rfl, hb5⟩
      have B5 := Lib.hid (B4.out.trans (hb5.mono B4.out.size))
      clear hb5
      go_wp2_with fail
      refine (C2.out _).mono ?_
      rintro e w6 ⟨rfl, rfl⟩
      obtain ⟨cap, W, hcv, hlaid, hbW⟩ := bytes_new (P := Try.prog) w5 9 22 5 t Try.underlying9 Try.underlying22 Try.underlying5
      have L := Lib.hid hlaid
      have B6 := Lib.hid (B5.out.trans (hbW.mono B5.out.size))
      have HRW := Lib.hid (HR.out.below B6.out)
      have hg5 : w.heap.size ≤ w5.heap.size := B5.out.size
      clear hlaid hbW
      go_wp2_with fail
      refine (at0_any a0 s0 cap0 1 (by omega) _ W HRW.out hs).mono ?_
      rintro e w7 ⟨n, rfl, ⟨n0, n1⟩, rfl⟩
      go_wp2_with fail
      have hi0 := Int.emod_nonneg n (show (s.size : Int) + 2 ≠ 0 by omega)
      have hi1 := Int.emod_lt_of_pos n (show (0 : Int) < s.size + 2 by omega)
      obtain ⟨i, hi⟩ : ∃ i : Nat, n % ((s.size : Int) + 2) = (i : Int) := ⟨(n % ((s.size : Int) + 2)).toNat, by omega⟩
      rw [hi] at hi0 hi1 ⊢
      have hil : i < t.size := by omega
      refine (at0_any a0 s0 cap0 2 (by omega) _ W HRW.out hs).mono ?_
      rintro e w7 ⟨m, rfl, ⟨m0, m1⟩, rfl⟩
      obtain ⟨y, hy⟩ : ∃ y : UInt8, 1 + m % 255 = (y.toNat : Int) := ⟨UInt8.ofNat (1 + m % 255).toNat, by rw [UInt8.toNat_ofNat']; omega⟩
      have hy0 : y ≠ 0 := by
        intro e
        rw [e] at hy
        have : (0 : UInt8).toNat = 0 := rfl
        omega
      have hlen : t.data.toList.length = t.size := by simp
      have hcell := L.out.1 i (by omega)
      have hfz := L.out.2 i (by omega)
      have he : t.data.toList[i]'(by omega) = t[i] := by simp [ByteArray.getElem_eq_getElem_data]
      rw [he] at hcell
      have hx : bits .xor .u8 (t[i].toNat : Int) (1 + m % 255) = ((t[i] ^^^ y).toNat : Int) := by rw [hy]; exact xor_bits _ _
      have hne := xor_ne t[i] y hy0
      have L2 := L.out.set (i := i) (by omega) (t[i] ^^^ y)
      obtain ⟨z, hz'⟩ : ∃ z, t[i] ^^^ y = z := ⟨_, rfl⟩
      rw [hz'] at hx hne L2
      have hw := turn_wrong t i z hil hr hne
      have hcv2 := run_convert_bytes_back (P := Try.prog) (W.setCell ⟨w5.heap.size, i, none⟩ (.int .u8 (z.toNat : Int))) 22 9 5 ⟨w5.heap.size, 0, none⟩ cap (t.data.toList.set i z) Try.underlying22 Try.underlying5 Try.underlying9 (fun j hj => by
        rw [add_lit, Nat.zero_add]
        exact L2.1 j hj)
      rw [List.length_set, hlen, hz, show (⟨(t.data.toList.set i z).toArray⟩ : ByteArray) = turn t i z from rfl] at hcv2
      have C5 := Lib.hid (sumRightI (turn t i z) (by rw [turn_size]; omega))
      rw [hw] at C5
      generalize turn t i z = t2 at hcv2 C5
      obtain ⟨b, hb⟩ : ∃ b, t[i] = b := ⟨_, rfl⟩
      rw [hb] at hx hcell
      have B7 := Lib.hid (B6.out.setCell (p := ⟨w5.heap.size, i, none⟩) hg5 (.int .u8 (z.toNat : Int)))
      have hb8 := b.toNat_lt
      have hz8 := z.toNat_lt
      clear hne L2 hw hb he hz' hy hy0 hcv hr hi
      go_wp2_with fail
      refine (C5.out _).mono ?_
      rintro e w8 ⟨rfl, hb8⟩
      have B8 := Lib.hid (B7.out.trans (hb8.mono B7.out.size))
      clear hb8
      go_wp2_with fail
      go_ret
      exact ⟨rfl, B8.out⟩
    · have ds : (((s.size : Int) % 2 == 1)) = true := by simp; omega
      have hsx : (s ++ (⟨#[120]⟩ : ByteArray)).size = s.size + 1 := by rw [ByteArray.size_append]; rfl
      go_wp2_with fail
      clear ds
      have hh : (s ++ (⟨#[120]⟩ : ByteArray)).size % 2 = 0 ∧ (s ++ (⟨#[120]⟩ : ByteArray)).size ≤ 13 := by rw [hsx]; omega
      clear es hsx
      obtain ⟨es, hs2⟩ := hh
      generalize s ++ (⟨#[120]⟩ : ByteArray) = s' at es hs2 ⊢
      have C1 := Lib.hid (sumOfI s' (by omega))
      have C2 := Lib.hid (sumOfS s' (by omega))
      have C3 := Lib.hid (putWordI (sumOf s') 2)
      have hr := seal_right s' es
      have hz := seal_size s'
      obtain ⟨c, hc⟩ : ∃ c, sumOf s' = c := ⟨_, rfl⟩
      rw [hc] at C1 C2 C3 hr hz
      obtain ⟨p, hp⟩ : ∃ p, putW c 2 = p := ⟨_, rfl⟩
      rw [hp] at C3 hr hz
      have zp : p.size = 2 := by rw [ByteArray.size_append] at hz; omega
      clear hc hp es
      refine (C1.out _).mono ?_
      rintro e w2 ⟨rfl, hb2⟩
      have B2 := Lib.hid (B1.out.trans (hb2.mono B1.out.size))
      clear hb2
      go_wp2_with fail
      refine (C3.out _).mono ?_
      rintro e w3 ⟨rfl, hb3⟩
      have B3 := Lib.hid (B2.out.trans (hb3.mono B2.out.size))
      clear hb3
      go_wp2_with fail
      generalize s' ++ p = t at hr hz ⊢
      have C4 := Lib.hid (sumRightI t (by omega))
      rw [hr] at C4
      refine (C4.out _).mono ?_
      rintro e w4 ⟨rfl, hb4⟩
      have B4 := Lib.hid (B3.out.trans (hb4.mono B3.out.size))
      clear hb4
      go_wp2_with fail
      refine (C1.out _).mono ?_
      rintro e w5 ⟨rfl, hb5⟩
      have B5 := Lib.hid (B4.out.trans (hb5.mono B4.out.size))
      clear hb5
      go_wp2_with fail
      refine (C2.out _).mono ?_
      rintro e w6 ⟨rfl, rfl⟩
      obtain ⟨cap, W, hcv, hlaid, hbW⟩ := bytes_new (P := Try.prog) w5 9 22 5 t Try.underlying9 Try.underlying22 Try.underlying5
      have L := Lib.hid hlaid
      have B6 := Lib.hid (B5.out.trans (hbW.mono B5.out.size))
      have HRW := Lib.hid (HR.out.below B6.out)
      have hg5 : w.heap.size ≤ w5.heap.size := B5.out.size
      clear hlaid hbW
      go_wp2_with fail
      refine (at0_any a0 s0 cap0 1 (by omega) _ W HRW.out hs).mono ?_
      rintro e w7 ⟨n, rfl, ⟨n0, n1⟩, rfl⟩
      go_wp2_with fail
      have hi0 := Int.emod_nonneg n (show (s'.size : Int) + 2 ≠ 0 by omega)
      have hi1 := Int.emod_lt_of_pos n (show (0 : Int) < s'.size + 2 by omega)
      obtain ⟨i, hi⟩ : ∃ i : Nat, n % ((s'.size : Int) + 2) = (i : Int) := ⟨(n % ((s'.size : Int) + 2)).toNat, by omega⟩
      rw [hi] at hi0 hi1 ⊢
      have hil : i < t.size := by omega
      refine (at0_any a0 s0 cap0 2 (by omega) _ W HRW.out hs).mono ?_
      rintro e w7 ⟨m, rfl, ⟨m0, m1⟩, rfl⟩
      obtain ⟨y, hy⟩ : ∃ y : UInt8, 1 + m % 255 = (y.toNat : Int) := ⟨UInt8.ofNat (1 + m % 255).toNat, by rw [UInt8.toNat_ofNat']; omega⟩
      have hy0 : y ≠ 0 := by
        intro e
        rw [e] at hy
        have : (0 : UInt8).toNat = 0 := rfl
        omega
      have hlen : t.data.toList.length = t.size := by simp
      have hcell := L.out.1 i (by omega)
      have hfz := L.out.2 i (by omega)
      have he : t.data.toList[i]'(by omega) = t[i] := by simp [ByteArray.getElem_eq_getElem_data]
      rw [he] at hcell
      have hx : bits .xor .u8 (t[i].toNat : Int) (1 + m % 255) = ((t[i] ^^^ y).toNat : Int) := by rw [hy]; exact xor_bits _ _
      have hne := xor_ne t[i] y hy0
      have L2 := L.out.set (i := i) (by omega) (t[i] ^^^ y)
      obtain ⟨z, hz'⟩ : ∃ z, t[i] ^^^ y = z := ⟨_, rfl⟩
      rw [hz'] at hx hne L2
      have hw := turn_wrong t i z hil hr hne
      have hcv2 := run_convert_bytes_back (P := Try.prog) (W.setCell ⟨w5.heap.size, i, none⟩ (.int .u8 (z.toNat : Int))) 22 9 5 ⟨w5.heap.size, 0, none⟩ cap (t.data.toList.set i z) Try.underlying22 Try.underlying5 Try.underlying9 (fun j hj => by
        rw [add_lit, Nat.zero_add]
        exact L2.1 j hj)
      rw [List.length_set, hlen, hz, show (⟨(t.data.toList.set i z).toArray⟩ : ByteArray) = turn t i z from rfl] at hcv2
      have C5 := Lib.hid (sumRightI (turn t i z) (by rw [turn_size]; omega))
      rw [hw] at C5
      generalize turn t i z = t2 at hcv2 C5
      obtain ⟨b, hb⟩ : ∃ b, t[i] = b := ⟨_, rfl⟩
      rw [hb] at hx hcell
      have B7 := Lib.hid (B6.out.setCell (p := ⟨w5.heap.size, i, none⟩) hg5 (.int .u8 (z.toNat : Int)))
      have hb8 := b.toNat_lt
      have hz8 := z.toNat_lt
      clear hne L2 hw hb he hz' hy hy0 hcv hr hi
      go_wp2_with fail
      refine (C5.out _).mono ?_
      rintro e w8 ⟨rfl, hb8⟩
      have B8 := Lib.hid (B7.out.trans (hb8.mono B7.out.size))
      clear hb8
      go_wp2_with fail
      go_ret
      exact ⟨rfl, B8.out⟩
  · have h1 : 1048576 < s0.length := by omega
    go_enter Try.func3, Try.ntmps3
    go_wp2_with fail
    refine (big_yes _ _ _ _ h1 hm).mono ?_
    rintro e w' ⟨rfl, rfl⟩
    go_wp2_with fail
    go_ret
    exact ⟨rfl, Below.refl _ _⟩

theorem own : ownKnob Try.prog.godebug = none := by kernel_rfl
theorem laidOut : laidOutB Try.prog = true := by kernel_rfl

set_option maxRecDepth 100000 in
theorem lifted (os : Os) (started : os.Started) (H : Type) (enc : TypeId × Value → H) :
    ReturnsInHanded {} Try.checked os 3 .any (Rows.fnSumSpec.pre6 enc Try.prog Try.f3 Rows.fnSumRow.domain false) (Rows.fnSumSpec.post enc Try.prog Try.f3 false true false false) := by
  refine returnsInHanded_of_change (C := Try.checked) own started (by kernel_rfl) Try.func3
    (ChangeSpec.witness6 (enc := enc) (C := Try.checked) false ⟨#[], #[.slice none 0 0], []⟩ 8 (by kernel_rfl) (by kernel_rfl) (by kernel_rfl) (by kernel_rfl)) ?_
  intro W base args ds gs before hval0 hW _ _
  have hval : ∀ (j : Nat) t v, Try.f3.params[j]? = some t → args[j]? = some v → Value.okWide Try.prog W .any base t v := hval0
  have hW' := hW
  obtain ⟨p, q, hA0, hV, rfl, _, _⟩ := hW
  have hA : DataW.TrodAll enc Try.prog W 0 (fun _ => true) true Try.f3.params.toList args.toList ds p := hA0
  rw [Try.params3] at hA hval
  obtain ⟨v0, vs0, d0, ds0, p0, q0, hargs, rfl, rfl, h0, r0⟩ := trodAll_cons hA
  obtain ⟨rfl, rfl, rfl⟩ := trodAll_nil r0
  obtain rfl : args = #[v0] := by cases args; simp_all
  obtain ⟨rfl, rfl⟩ := trodVars_none hV
  obtain ⟨a0, len0, cap0, rfl⟩ := okWide_slice Try.underlying22 (hval 0 22 v0 rfl rfl)
  have k0 := h0
  have lt0 : ∀ x ∈ p0, x.block < W.heap.size := by obtain ⟨m, hm⟩ := k0; exact DataW.trod_lt m _ _ _ hm
  obtain ⟨s0, w0⟩ : ∃ bs : List UInt8, IsBytes W a0 len0 bs := by obtain ⟨fuel, hf⟩ := h0; exact openBytes Try.underlying22 Try.underlying5 (by kernel_rfl) hf
  clear hA0 hval0
  refine (walk a0 len0 cap0 s0 w0).mono fun e W' ⟨he, bel⟩ => ?_
  subst he
  exact ⟨_, rfl, _, _, _, [], _, [], hW', trodAll_mk1 (shut_bool Try.underlying4 _), (trodAll_cons_mk (Below.trod laidOut (by kernel_rfl) (of_decide_eq_true (by kernel_rfl)) k0 bel lt0) trodAll_mk0), rfl, bel.frame _, fun h => by cases h⟩

theorem over : Rows.fnSumRow.holds Try.pinned (OpenSpec.ofChange Rows.fnSumSpec) :=
  OpenClaim.holds_of_wide 3 Try.f3 rfl rfl rfl rfl rfl rfl rfl ⟨rfl, rfl, rfl, rfl, rfl⟩ rfl rfl rfl rfl rfl (by kernel_rfl) Try.func3 (by kernel_rfl)
    (of_decide_eq_true (by kernel_rfl)) (by unfold Func.isWrapper; first | (rw [if_pos (by decide +kernel)]; kernel_rfl) | (rw [if_neg (by decide +kernel)]; exact ⟨rfl, rfl⟩))
    (fun os started H enc _ => lifted os started H enc)

theorem proved : Rows.FnSumSaid := over
#print axioms proved
end Go.Proofs.Ytahkaemdgelmdaa.fnSum
