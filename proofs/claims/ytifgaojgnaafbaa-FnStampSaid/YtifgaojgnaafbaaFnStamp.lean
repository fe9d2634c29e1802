/- Proved here: for every code of at most 1048576 bytes, with the clock, scale, sack and stamp that are drawn from it, impl.StampOf answers what the model answers, a 32-bit word, impl.StampIn of it answers the scale (-1 where it is not from 0 to 14), the sack and true, and impl.StampIn of the drawn stamp says whether it is one as the model says (a longer code is not asked); the call returns true for every argument, without condition. -/
import Derived.Test.YtifgaojgnaafbaaRows
import Derived.Test.YtifgaojgnaafbaaStampBack
import Derived.Test.YtifgaojgnaafbaaStampO
import Derived.Test.YtifgaojgnaafbaaStampR
import Derived.Test.YtifgaojgnaafbaaStampS
import Derived.Test.YtifgaojgnaafbaaDraw14
import Derived.Test.YtifgaojgnaafbaaBig
import Derived.Test.YtifgaojgnaafbaaOpen
import Derived.ShutString
import Derived.ChangeOld
import Derived.Below
namespace Go.Proofs.Ytifgaojgnaafbaa.fnStamp
open Go.ChangeShapes Go.WideShapes Go.ChangeAt Go.RowKit Go.Lib

theorem wordOkB (n b : Int) (w : World) : Calls Try.prog 13 #[.int .i64 n, .int .i64 b] w fun e w' => e = .returned (.bool (wordOk n b)) ∧ Below w.heap.size w w' :=
  (wordOkS n b w).mono fun _ _ ⟨a, b⟩ => ⟨a, same_below b⟩

/-- The law's word: true, and what lay before the call lies as it lay. -/
def OkB (w : World) (e : Ending) (w' : World) : Prop := e = .returned (.bool true) ∧ Below w.heap.size w w'

set_option maxRecDepth 100000 in
set_option maxHeartbeats 8000000 in
theorem walk (a0 : Option Addr) (len0 cap0 : Nat) (s0 : List UInt8) {w : World} (w0 : IsBytes w a0 len0 s0) :
    Calls Try.prog 3 #[.slice a0 len0 cap0] w (OkB w) := by
  obtain ⟨⟨rfl, hm⟩, hrow⟩ := w0
  unfold maxLen at hm
  have HR := Lib.hid hrow
  clear hrow
  by_cases hs : s0.length ≤ 1048576
  · go_enter Try.func3, Try.ntmps3
    go_wp2_with fail
    refine (big_no _ _ _ _ hs).mono ?_
    rintro e w' ⟨rfl, rfl⟩
    go_wp2_with fail
    refine (drawStampOf a0 s0 cap0 w HR.out hs).mono ?_
    rintro e w1 ⟨c, s, k, rfl, hb1⟩
    have B1 := Lib.hid hb1
    clear hb1
    obtain ⟨h1, h2, h3, h4⟩ := stamp_back c s k
    have C1 := Lib.hid (stampOfI c s k)
    have C2 := Lib.hid (stampOfS c s k)
    have C3 := Lib.hid (fun w => wordOkB (stampOf c s k) 32 w)
    have C4 := Lib.hid (stampInI (stampOf c s k))
    rw [stampAns_yes h2, h3, h4] at C4
    rw [h1] at C3
    clear h1 h2 h3 h4
    generalize stampOf c s k = y at C1 C2 C3 C4
    have hs3 : s < 0 ∨ (0 ≤ s ∧ s ≤ 14) ∨ 14 < s := by omega
    rcases hs3 with h | ⟨h, h'⟩ | h
    · rw [show stampFit s = -1 from if_neg (by omega)] at C4
      go_wp2_with fail
      refine (C1.out _).mono ?_
      rintro e w2 ⟨rfl, hb⟩
      have B2 := Lib.hid (B1.out.trans (hb.mono B1.out.size))
      clear hb B1
      go_wp2_with fail
      refine (C2.out _).mono ?_
      rintro e w3 ⟨rfl, hb⟩
      have B3 := Lib.hid (B2.out.trans (hb.mono B2.out.size))
      clear hb B2
      go_wp2_with fail
      refine (C3.out _).mono ?_
      rintro e w4 ⟨rfl, hb⟩
      have B4 := Lib.hid (B3.out.trans (hb.mono B3.out.size))
      clear hb B3
      go_wp2_with fail
      refine (C4.out _).mono ?_
      rintro e w5 ⟨rfl, hb⟩
      have B5 := Lib.hid (B4.out.trans (hb.mono B4.out.size))
      clear hb B4
      go_wp2_with fail
      have R := Lib.hid ((HR.out.below B5.out).mono B5.out.size)
      refine (drawStampIn a0 s0 cap0 w5 R.out hs).mono ?_
      rintro e w6 ⟨v, rfl, hb⟩
      have B6 := Lib.hid (B5.out.trans (hb.mono B5.out.size))
      clear hb B5 R
      have C5 := Lib.hid (stampInI v)
      have C6 := Lib.hid (stampInS v)
      obtain ⟨x, y', z, hz⟩ : ∃ (x : Int) (y z : Bool), stampAns v = .tuple #[.int .i64 x, .bool y, .bool z] := by unfold stampAns; cases stampIs v <;> exact ⟨_, _, _, rfl⟩
      rw [hz] at C5 C6
      clear hz
      go_wp2_with fail
      refine (C5.out _).mono ?_
      rintro e w7 ⟨rfl, hb⟩
      have B7 := Lib.hid (B6.out.trans (hb.mono B6.out.size))
      clear hb B6
      go_wp2_with fail
      refine (C6.out _).mono ?_
      rintro e w8 ⟨rfl, hb⟩
      have B8 := Lib.hid (B7.out.trans (hb.mono B7.out.size))
      clear hb B7
      go_wp2_with fail
      go_ret
      exact ⟨rfl, B8.out⟩
    · rw [show stampFit s = s from if_pos ⟨h, h'⟩] at C4
      go_wp2_with fail
      refine (C1.out _).mono ?_
      rintro e w2 ⟨rfl, hb⟩
      have B2 := Lib.hid (B1.out.trans (hb.mono B1.out.size))
      clear hb B1
      go_wp2_with fail
      refine (C2.out _).mono ?_
      rintro e w3 ⟨rfl, hb⟩
      have B3 := Lib.hid (B2.out.trans (hb.mono B2.out.size))
      clear hb B2
      go_wp2_with fail
      refine (C3.out _).mono ?_
      rintro e w4 ⟨rfl, hb⟩
      have B4 := Lib.hid (B3.out.trans (hb.mono B3.out.size))
      clear hb B3
      go_wp2_with fail
      refine (C4.out _).mono ?_
      rintro e w5 ⟨rfl, hb⟩
      have B5 := Lib.hid (B4.out.trans (hb.mono B4.out.size))
      clear hb B4
      go_wp2_with fail
      have R := Lib.hid ((HR.out.below B5.out).mono B5.out.size)
      refine (drawStampIn a0 s0 cap0 w5 R.out hs).mono ?_
      rintro e w6 ⟨v, rfl, hb⟩
      have B6 := Lib.hid (B5.out.trans (hb.mono B5.out.size))
      clear hb B5 R
      have C5 := Lib.hid (stampInI v)
      have C6 := Lib.hid (stampInS v)
      obtain ⟨x, y', z, hz⟩ : ∃ (x : Int) (y z : Bool), stampAns v = .tuple #[.int .i64 x, .bool y, .bool z] := by unfold stampAns; cases stampIs v <;> exact ⟨_, _, _, rfl⟩
      rw [hz] at C5 C6
      clear hz
      go_wp2_with fail
      refine (C5.out _).mono ?_
      rintro e w7 ⟨rfl, hb⟩
      have B7 := Lib.hid (B6.out.trans (hb.mono B6.out.size))
      clear hb B6
      go_wp2_with fail
      refine (C6.out _).mono ?_
      rintro e w8 ⟨rfl, hb⟩
      have B8 := Lib.hid (B7.out.trans (hb.mono B7.out.size))
      clear hb B7
      go_wp2_with fail
      go_ret
      exact ⟨rfl, B8.out⟩
    · rw [show stampFit s = -1 from if_neg (by omega)] at C4
      go_wp2_with fail
      refine (C1.out _).mono ?_
      rintro e w2 ⟨rfl, hb⟩
      have B2 := Lib.hid (B1.out.trans (hb.mono B1.out.size))
      clear hb B1
      go_wp2_with fail
      refine (C2.out _).mono ?_
      rintro e w3 ⟨rfl, hb⟩
      have B3 := Lib.hid (B2.out.trans (hb.mono B2.out.size))
      clear hb B2
      go_wp2_with fail
      refine (C3.out _).mono ?_
      rintro e w4 ⟨rfl, hb⟩
      have B4 := Lib.hid (B3.out.trans (hb.mono B3.out.size))
      clear hb B3
      go_wp2_with fail
      refine (C4.out _).mono ?_
      rintro e w5 ⟨rfl, hb⟩
      have B5 := Lib.hid (B4.out.trans (hb.mono B4.out.size))
      clear hb B4
      go_wp2_with fail
      have R := Lib.hid ((HR.out.below B5.out).mono B5.out.size)
      refine (drawStampIn a0 s0 cap0 w5 R.out hs).mono ?_
      rintro e w6 ⟨v, rfl, hb⟩
      have B6 := Lib.hid (B5.out.trans (hb.mono B5.out.size))
      clear hb B5 R
      have C5 := Lib.hid (stampInI v)
      have C6 := Lib.hid (stampInS v)
      obtain ⟨x, y', z, hz⟩ : ∃ (x : Int) (y z : Bool), stampAns v = .tuple #[.int .i64 x, .bool y, .bool z] := by unfold stampAns; cases stampIs v <;> exact ⟨_, _, _, rfl⟩
      rw [hz] at C5 C6
      clear hz
      go_wp2_with fail
      refine (C5.out _).mono ?_
      rintro e w7 ⟨rfl, hb⟩
      have B7 := Lib.hid (B6.out.trans (hb.mono B6.out.size))
      clear hb B6
      go_wp2_with fail
      refine (C6.out _).mono ?_
      rintro e w8 ⟨rfl, hb⟩
      have B8 := Lib.hid (B7.out.trans (hb.mono B7.out.size))
      clear hb B7
      go_wp2_with fail
      go_ret
      exact ⟨rfl, B8.out⟩
  · have h1 : 1048576 < s0.length := by omega
    go_enter Try.func3, Try.ntmps3
    go_wp2_with fail
    refine (big_yes _ _ _ _ h1 hm).mono ?_
    rintro e w' ⟨rfl, rfl⟩
    go_wp2_with fail
    go_ret
    exact ⟨rfl, Below.refl _ _⟩
theorem own : ownKnob Try.prog.godebug = none := by kernel_rfl
theorem laidOut : laidOutB Try.prog = true := by kernel_rfl

set_option maxRecDepth 100000 in
theorem lifted (os : Os) (started : os.Started) (H : Type) (enc : TypeId × Value → H) :
    ReturnsInHanded {} Try.checked os 3 .any (Rows.fnStampSpec.pre6 enc Try.prog Try.f3 Rows.fnStampRow.domain false) (Rows.fnStampSpec.post enc Try.prog Try.f3 false true false false) := by
  refine returnsInHanded_of_change (C := Try.checked) own started (by kernel_rfl) Try.func3
    (ChangeSpec.witness6 (enc := enc) (C := Try.checked) false ⟨#[], #[.slice none 0 0], []⟩ 8 (by kernel_rfl) (by kernel_rfl) (by kernel_rfl) (by kernel_rfl)) ?_
  intro W base args ds gs before hval0 hW _ _
  have hval : ∀ (j : Nat) t v, Try.f3.params[j]? = some t → args[j]? = some v → Value.okWide Try.prog W .any base t v := hval0
  have hW' := hW
  obtain ⟨p, q, hA0, hV, rfl, _, _⟩ := hW
  have hA : DataW.TrodAll enc Try.prog W 0 (fun _ => true) true Try.f3.params.toList args.toList ds p := hA0
  rw [Try.params3] at hA hval
  obtain ⟨v0, vs0, d0, ds0, p0, q0, hargs, rfl, rfl, h0, r0⟩ := trodAll_cons hA
  obtain ⟨rfl, rfl, rfl⟩ := trodAll_nil r0
  obtain rfl : args = #[v0] := by cases args; simp_all
  obtain ⟨rfl, rfl⟩ := trodVars_none hV
  obtain ⟨a0, len0, cap0, rfl⟩ := okWide_slice Try.underlying22 (hval 0 22 v0 rfl rfl)
  have k0 := h0
  have lt0 : ∀ x ∈ p0, x.block < W.heap.size := by obtain ⟨m, hm⟩ := k0; exact DataW.trod_lt m _ _ _ hm
  obtain ⟨s0, w0⟩ : ∃ bs : List UInt8, IsBytes W a0 len0 bs := by obtain ⟨fuel, hf⟩ := h0; exact openBytes Try.underlying22 Try.underlying5 (by kernel_rfl) hf
  clear hA0 hval0
  refine (walk a0 len0 cap0 s0 w0).mono fun e W' ⟨he, bel⟩ => ?_
  subst he
  exact ⟨_, rfl, _, _, _, [], _, [], hW', trodAll_mk1 (shut_bool Try.underlying4 _), (trodAll_cons_mk (Below.trod laidOut (by kernel_rfl) (of_decide_eq_true (by kernel_rfl)) k0 bel lt0) trodAll_mk0), rfl, bel.frame _, fun h => by cases h⟩

theorem over : Rows.fnStampRow.holds Try.pinned (OpenSpec.ofChange Rows.fnStampSpec) :=
  OpenClaim.holds_of_wide 3 Try.f3 rfl rfl rfl rfl rfl rfl rfl ⟨rfl, rfl, rfl, rfl, rfl⟩ rfl rfl rfl rfl rfl (by kernel_rfl) Try.func3 (by kernel_rfl)
    (of_decide_eq_true (by kernel_rfl)) (by unfold Func.isWrapper; first | (rw [if_pos (by decide +kernel)]; kernel_rfl) | (rw [if_neg (by decide +kernel)]; exact ⟨rfl, rfl⟩))
    (fun os started H enc _ => lifted os started H enc)

theorem proved : Rows.FnStampSaid := over
#print axioms proved
end Go.Proofs.Ytifgaojgnaafbaa.fnStamp
