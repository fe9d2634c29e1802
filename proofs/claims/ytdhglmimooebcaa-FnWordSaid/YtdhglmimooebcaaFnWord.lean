/- Proved here: for every code of at most 1048576 bytes, with the int n and the size that are drawn from it, impl.PutWord writes what the model writes, impl.GetWord reads n back behind two other bytes, and nothing is written exactly where n is no word of that size (a longer code is not asked); the call returns true for every argument, without condition. -/
import Derived.Test.YtdhglmimooebcaaRows
import Derived.Test.YtdhglmimooebcaaPutI
import Derived.Test.YtdhglmimooebcaaPutS
import Derived.Test.YtdhglmimooebcaaGetI
import Derived.Test.YtdhglmimooebcaaWordLaws
import Derived.Test.YtdhglmimooebcaaDrawWord2
import Derived.Test.YtdhglmimooebcaaBig
import Derived.Test.YtdhglmimooebcaaOpen
import Derived.ShutString
import Derived.ChangeOld
import Derived.Below
namespace Go.Proofs.Ytdhglmimooebcaa.fnWord
open Go.ChangeShapes Go.WideShapes Go.ChangeAt Go.RowKit

/-- GetWord of a text, its answer known. -/
theorem getI (s : ByteArray) (a n m : Int) (b : Bool) (h : getW s a n = (m, b)) (w : World) (hs : s.size ≤ 1048576) (ha : -9223372036854775808 ≤ a ∧ a ≤ 9223372036854775807) :
    Calls Try.prog 12 #[.string s, .int .i64 a, .int .i64 n] w fun e w' => e = .returned (.tuple #[.int .i64 m, .bool b]) ∧ w = w' := by
  have := getWordI s a n w hs ha; rw [h] at this; exact this

set_option maxRecDepth 100000 in
set_option maxHeartbeats 2000000 in
theorem walk (a0 : Option Addr) (len0 cap0 : Nat) (s0 : List UInt8) {w : World} (w0 : IsBytes w a0 len0 s0) :
    Calls Try.prog 3 #[.slice a0 len0 cap0] w fun e w' => e = .returned (.bool true) ∧ Below w.heap.size w w' := by
  obtain ⟨⟨rfl, hm⟩, hrow⟩ := w0
  unfold maxLen at hm
  have HR := Lib.hid hrow
  clear hrow
  by_cases hs : s0.length ≤ 1048576
  · go_enter Try.func3, Try.ntmps3
    go_wp2_with fail
    refine (big_no _ _ _ _ hs).mono ?_
    rintro e w' ⟨rfl, rfl⟩
    go_wp2_with fail
    refine (drawPutWord a0 s0 cap0 w HR.out hs).mono ?_
    rintro e w1 ⟨n, k, rfl, hn, ⟨k0, k1⟩, hb1⟩
    have N := Lib.hid hn
    have B1 := Lib.hid hb1
    clear hn hb1
    have P1 := Lib.hid (putWordI n k)
    have P2 := Lib.hid (putWordS n k)
    have P3 := Lib.hid (wordOkI n (8 * k))
    rcases putW_cases n k with ⟨hp, hq⟩ | ⟨m, k, rfl, rfl, hk, hm, hp, hq⟩
    · rw [hp] at P1 P2
      obtain ⟨ok, hok⟩ : ∃ ok, wordOk n (8 * k) = ok := ⟨_, rfl⟩
      rw [hok] at P3 hq
      obtain ⟨x, y, hxy⟩ : ∃ x y, getW (⟨#[97, 98]⟩ ++ ⟨#[]⟩ ++ ⟨#[99]⟩) 2 k = (x, y) := ⟨_, _, rfl⟩
      have G := Lib.hid (fun w => getI _ 2 k x y hxy w (by decide) (by decide))
      have Q := Lib.hid hq
      clear hp hq hok hxy
      go_wp2_with fail
      refine (P1.out w1).mono ?_
      rintro e w2 ⟨rfl, hb2⟩
      have B2 := Lib.hid (B1.out.trans (hb2.mono B1.out.size))
      clear hb2
      go_wp2_with fail
      refine (P2.out w2).mono ?_
      rintro e w3 ⟨rfl, hb3⟩
      have B3 := Lib.hid (B2.out.trans (hb3.mono B2.out.size))
      clear hb3
      go_wp2_with fail
      refine (G.out w3).mono ?_
      rintro e w4 ⟨rfl, rfl⟩
      go_wp2_with fail
      refine (P3.out w3).mono ?_
      rintro e w4 ⟨rfl, rfl⟩
      cases ok with
      | false =>
        go_wp2_with fail
        go_ret
        exact ⟨rfl, B3.out⟩
      | true =>
        rcases Q.out with h | h | h
        · cases h
        · go_wp2_with fail
          go_ret
          exact ⟨ret_bool (by simp), B3.out⟩
        · go_wp2_with fail
          go_ret
          exact ⟨ret_bool (by simp), B3.out⟩
    · rw [hp] at P1 P2
      rw [hq] at P3
      have hg := get_put m k hk hm ⟨#[97, 98]⟩ ⟨#[99]⟩
      have hsz : (⟨(wb m k).toArray⟩ : ByteArray).size = k := by show (wb m k).toArray.size = k; rw [List.size_toArray, wb_length]
      obtain ⟨t, ht⟩ : ∃ t : ByteArray, (⟨(wb m k).toArray⟩ : ByteArray) = t := ⟨_, rfl⟩
      rw [ht] at P1 P2 hg hsz
      have he : t.toList.isEmpty = false := by
        rw [ByteArray.toList_eq]
        cases hl : t.data.toList with
        | nil => exact absurd (by rw [← ByteArray.size_data, ← Array.length_toList, hl]; rfl) (show t.size ≠ 0 by omega)
        | cons _ _ => rfl
      have G := Lib.hid (fun w => getI _ 2 k m true hg w (by rw [ByteArray.size_append, ByteArray.size_append, hsz, show (⟨#[97, 98]⟩ : ByteArray).size = 2 by rfl, show (⟨#[99]⟩ : ByteArray).size = 1 by rfl]; omega) (by decide))
      obtain ⟨hk1, hk2⟩ := hk
      clear hp hq hm hg ht
      go_wp2_with fail
      refine (P1.out w1).mono ?_
      rintro e w2 ⟨rfl, hb2⟩
      have B2 := Lib.hid (B1.out.trans (hb2.mono B1.out.size))
      clear hb2
      go_wp2_with fail
      refine (P2.out w2).mono ?_
      rintro e w3 ⟨rfl, hb3⟩
      have B3 := Lib.hid (B2.out.trans (hb3.mono B2.out.size))
      clear hb3
      go_wp2_with fail
      refine (G.out w3).mono ?_
      rintro e w4 ⟨rfl, rfl⟩
      go_wp2_with fail
      go_ret
      exact ⟨ret_bool (by simp), B3.out⟩
  · have h1 : 1048576 < s0.length := by omega
    go_enter Try.func3, Try.ntmps3
    go_wp2_with fail
    refine (big_yes _ _ _ _ h1 hm).mono ?_
    rintro e w' ⟨rfl, rfl⟩
    go_wp2_with fail
    go_ret
    exact ⟨rfl, Below.refl _ _⟩

theorem own : ownKnob Try.prog.godebug = none := by kernel_rfl
theorem laidOut : laidOutB Try.prog = true := by kernel_rfl

set_option maxRecDepth 100000 in
theorem lifted (os : Os) (started : os.Started) (H : Type) (enc : TypeId × Value → H) :
    ReturnsInHanded {} Try.checked os 3 .any (Rows.fnWordSpec.pre6 enc Try.prog Try.f3 Rows.fnWordRow.domain false) (Rows.fnWordSpec.post enc Try.prog Try.f3 false true false false) := by
  refine returnsInHanded_of_change (C := Try.checked) own started (by kernel_rfl) Try.func3
    (ChangeSpec.witness6 (enc := enc) (C := Try.checked) false ⟨#[], #[.slice none 0 0], []⟩ 8 (by kernel_rfl) (by kernel_rfl) (by kernel_rfl) (by kernel_rfl)) ?_
  intro W base args ds gs before hval0 hW _ _
  have hval : ∀ (j : Nat) t v, Try.f3.params[j]? = some t → args[j]? = some v → Value.okWide Try.prog W .any base t v := hval0
  have hW' := hW
  obtain ⟨p, q, hA0, hV, rfl, _, _⟩ := hW
  have hA : DataW.TrodAll enc Try.prog W 0 (fun _ => true) true Try.f3.params.toList args.toList ds p := hA0
  rw [Try.params3] at hA hval
  obtain ⟨v0, vs0, d0, ds0, p0, q0, hargs, rfl, rfl, h0, r0⟩ := trodAll_cons hA
  obtain ⟨rfl, rfl, rfl⟩ := trodAll_nil r0
  obtain rfl : args = #[v0] := by cases args; simp_all
  obtain ⟨rfl, rfl⟩ := trodVars_none hV
  obtain ⟨a0, len0, cap0, rfl⟩ := okWide_slice Try.underlying22 (hval 0 22 v0 rfl rfl)
  have k0 := h0
  have lt0 : ∀ x ∈ p0, x.block < W.heap.size := by obtain ⟨m, hm⟩ := k0; exact DataW.trod_lt m _ _ _ hm
  obtain ⟨s0, w0⟩ : ∃ bs : List UInt8, IsBytes W a0 len0 bs := by obtain ⟨fuel, hf⟩ := h0; exact openBytes Try.underlying22 Try.underlying5 (by kernel_rfl) hf
  clear hA0 hval0
  refine (walk a0 len0 cap0 s0 w0).mono fun e W' ⟨he, bel⟩ => ?_
  subst he
  exact ⟨_, rfl, _, _, _, [], _, [], hW', trodAll_mk1 (shut_bool Try.underlying4 _), (trodAll_cons_mk (Below.trod laidOut (by kernel_rfl) (of_decide_eq_true (by kernel_rfl)) k0 bel lt0) trodAll_mk0), rfl, bel.frame _, fun h => by cases h⟩

theorem over : Rows.fnWordRow.holds Try.pinned (OpenSpec.ofChange Rows.fnWordSpec) :=
  OpenClaim.holds_of_wide 3 Try.f3 rfl rfl rfl rfl rfl rfl rfl ⟨rfl, rfl, rfl, rfl, rfl⟩ rfl rfl rfl rfl rfl (by kernel_rfl) Try.func3 (by kernel_rfl)
    (of_decide_eq_true (by kernel_rfl)) (by unfold Func.isWrapper; first | (rw [if_pos (by decide +kernel)]; kernel_rfl) | (rw [if_neg (by decide +kernel)]; exact ⟨rfl, rfl⟩))
    (fun os started H enc _ => lifted os started H enc)

theorem proved : Rows.FnWordSaid := over
#print axioms proved
end Go.Proofs.Ytdhglmimooebcaa.fnWord
