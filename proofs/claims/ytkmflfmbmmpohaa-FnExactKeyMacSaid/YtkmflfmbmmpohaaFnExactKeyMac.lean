/- The law FnExactKeyMac holds for every two uint64 words: impl's KeyMac answers as the model's, field by field, and what it hands back lies in memory of its own. No condition. -/
import Derived.Test.YtkmflfmbmmpohaaRows
import Derived.Test.YtkmflfmbmmpohaaKeyMac
import Derived.Test.YtkmflfmbmmpohaaMacLaw2
import Derived.Test.YtkmflfmbmmpohaaMarkM
import Derived.ProofKit
import Derived.OpenShut
import Derived.ShutString
import Derived.ChangeSame
namespace Go.Proofs.Ytkmflfmbmmpohaa.fnExactKeyMac
open Go.ChangeShapes Go.WideShapes Go.ChangeAt Go.RowKit Go.Lib

theorem row0 (w : World) (a : Option Addr) : Row w w.heap.size a (mrs []) := Row.nil
theorem held0 (k l : Int) (w : World) : Calls Try.prog 26 #[.agg #[.bool false, .int .u64 k, .int .u64 l, .slice none 0 0], .int .i64 1] w fun e w' => e = .returned (.int .i64 1) ∧ Below w.heap.size w w' :=
  heldMac_any false k l none 0 0 1 w (row0 _ _) (by decide) (by decide) (by decide)
set_option maxRecDepth 100000 in
set_option maxHeartbeats 2000000 in
theorem walk (k l : Int) (_ : (Lit.int .u64 k).wf = true) (_ : (Lit.int .u64 l).wf = true) (w : World) : Calls Try.prog 7 #[.int .u64 k, .int .u64 l] w fun e w' => e = .returned (.bool true) ∧ Below w.heap.size w w' := by
  go_enter Try.func7, Try.ntmps7
  go_wp2_with fail
  refine (keyMacS k l _).mono ?_
  rintro e w1 ⟨rfl, hb⟩
  have E1 := Lib.hid (Blk.new w1 [.bool false, .int .u64 k, .int .u64 l, .slice none 0 0] 27)
  have B1 := Lib.hid (hb.alloc hb.size (.cells #[.bool false, .int .u64 k, .int .u64 l, .slice none 0 0] 27))
  clear hb
  go_wp2_with fail
  generalize w1.heap.size = g1 at E1 ⊢
  change Calls _ _ _ (w1.alloc (.cells #[.bool false, .int .u64 k, .int .u64 l, .slice none 0 0] 27)) _
  generalize w1.alloc (.cells #[.bool false, .int .u64 k, .int .u64 l, .slice none 0 0] 27) = v1 at E1 B1 ⊢
  clear w1
  refine (keyMacI k l _).mono ?_
  rintro e w2 ⟨rfl, hb⟩
  have E2 := Lib.hid (Blk.new w2 [.bool false, .int .u64 k, .int .u64 l, .slice none 0 0] 27)
  have B2 := Lib.hid ((B1.out.trans (hb.mono B1.out.size)).alloc (Nat.le_trans B1.out.size hb.size) (.cells #[.bool false, .int .u64 k, .int .u64 l, .slice none 0 0] 27))
  have D2 := Lib.hid ((E1.out.below hb).alloc (.cells #[.bool false, .int .u64 k, .int .u64 l, .slice none 0 0] 27))
  clear hb B1 E1
  obtain ⟨⟨c0, c1, c2, c3⟩, f0, f1, f2, f3⟩ := D2.out.four
  go_wp2_with fail
  generalize w2.heap.size = g2 at E2 ⊢
  change Calls _ _ _ (w2.alloc (.cells #[.bool false, .int .u64 k, .int .u64 l, .slice none 0 0] 27)) _
  generalize w2.alloc (.cells #[.bool false, .int .u64 k, .int .u64 l, .slice none 0 0] 27) = v2 at E2 B2 D2 c0 c1 c2 c3 f0 f1 f2 f3 ⊢
  clear w2
  obtain ⟨⟨d0, d1, d2, d3⟩, e0, e1, e2, e3⟩ := E2.out.four
  refine (eqMac_self false k l none none 0 0 [] _ (row0 _ _) (row0 _ _) (by decide)).mono ?_
  rintro e v3 ⟨rfl, hb⟩
  have B3 := Lib.hid (B2.out.trans (hb.mono B2.out.size))
  have D3 := Lib.hid (D2.out.below hb)
  have E3 := Lib.hid (E2.out.below hb)
  clear hb B2 D2 E2 c0 c1 c2 c3 f0 f1 f2 f3 d0 d1 d2 d3 e0 e1 e2 e3
  obtain ⟨⟨c0, c1, c2, c3⟩, f0, f1, f2, f3⟩ := D3.out.four
  obtain ⟨⟨d0, d1, d2, d3⟩, e0, e1, e2, e3⟩ := E3.out.four
  go_wp2_with fail
  refine (markMac_nil false k l 1 _).mono ?_
  rintro e v4 ⟨rfl, hb⟩
  have B4 := Lib.hid (B3.out.trans (hb.mono B3.out.size))
  have D4 := Lib.hid (D3.out.below hb)
  have E4 := Lib.hid (E3.out.below hb)
  clear hb B3 D3 E3 c0 c1 c2 c3 f0 f1 f2 f3 d0 d1 d2 d3 e0 e1 e2 e3
  obtain ⟨⟨c0, c1, c2, c3⟩, f0, f1, f2, f3⟩ := D4.out.four
  obtain ⟨⟨d0, d1, d2, d3⟩, e0, e1, e2, e3⟩ := E4.out.four
  go_wp2_with fail
  refine (held0 k l _).mono ?_
  rintro e v5 ⟨rfl, hb⟩
  have B5 := Lib.hid (B4.out.trans (hb.mono B4.out.size))
  have D5 := Lib.hid (D4.out.below hb)
  have E5 := Lib.hid (E4.out.below hb)
  clear hb B4 D4 E4 c0 c1 c2 c3 f0 f1 f2 f3 d0 d1 d2 d3 e0 e1 e2 e3
  obtain ⟨⟨c0, c1, c2, c3⟩, f0, f1, f2, f3⟩ := D5.out.four
  obtain ⟨⟨d0, d1, d2, d3⟩, e0, e1, e2, e3⟩ := E5.out.four
  go_wp2_with fail
  refine (keyMacI k l _).mono ?_
  rintro e v6 ⟨rfl, hb⟩
  have B6 := Lib.hid ((B5.out.trans (hb.mono B5.out.size)).alloc (Nat.le_trans B5.out.size hb.size) (.cells #[.bool false, .int .u64 k, .int .u64 l, .slice none 0 0] 27))
  have D6 := Lib.hid ((D5.out.below hb).alloc (.cells #[.bool false, .int .u64 k, .int .u64 l, .slice none 0 0] 27))
  have E6 := Lib.hid ((E5.out.below hb).alloc (.cells #[.bool false, .int .u64 k, .int .u64 l, .slice none 0 0] 27))
  clear hb B5 D5 E5 c0 c1 c2 c3 f0 f1 f2 f3 d0 d1 d2 d3 e0 e1 e2 e3
  obtain ⟨⟨c0, c1, c2, c3⟩, f0, f1, f2, f3⟩ := D6.out.four
  obtain ⟨⟨d0, d1, d2, d3⟩, e0, e1, e2, e3⟩ := E6.out.four
  go_wp2_with fail
  change Calls _ _ _ (v6.alloc (.cells #[.bool false, .int .u64 k, .int .u64 l, .slice none 0 0] 27)) _
  generalize v6.alloc (.cells #[.bool false, .int .u64 k, .int .u64 l, .slice none 0 0] 27) = v7 at E6 B6 D6 c0 c1 c2 c3 f0 f1 f2 f3 d0 d1 d2 d3 e0 e1 e2 e3 ⊢
  have B7 := B6
  have D7 := D6
  have E7 := E6
  clear B6 D6 E6
  refine (eqMac_self false k l none none 0 0 [] _ (row0 _ _) (row0 _ _) (by decide)).mono ?_
  rintro e v8 ⟨rfl, hb⟩
  have B8 := Lib.hid (B7.out.trans (hb.mono B7.out.size))
  have D8 := Lib.hid (D7.out.below hb)
  have E8 := Lib.hid (E7.out.below hb)
  clear hb B7 D7 E7 c0 c1 c2 c3 f0 f1 f2 f3 d0 d1 d2 d3 e0 e1 e2 e3
  obtain ⟨⟨c0, c1, c2, c3⟩, f0, f1, f2, f3⟩ := D8.out.four
  obtain ⟨⟨d0, d1, d2, d3⟩, e0, e1, e2, e3⟩ := E8.out.four
  go_wp2_with fail
  refine (held0 k l _).mono ?_
  rintro e v9 ⟨rfl, hb⟩
  have B9 := Lib.hid (B8.out.trans (hb.mono B8.out.size))
  have D9 := Lib.hid (D8.out.below hb)
  have E9 := Lib.hid (E8.out.below hb)
  clear hb B8 D8 E8 c0 c1 c2 c3 f0 f1 f2 f3 d0 d1 d2 d3 e0 e1 e2 e3
  obtain ⟨⟨c0, c1, c2, c3⟩, f0, f1, f2, f3⟩ := D9.out.four
  obtain ⟨⟨d0, d1, d2, d3⟩, e0, e1, e2, e3⟩ := E9.out.four
  go_wp2_with fail
  go_ret
  exact ⟨rfl, B9.out⟩

theorem own : ownKnob Try.prog.godebug = none := by kernel_rfl

set_option maxRecDepth 100000 in
theorem lifted (os : Os) (started : os.Started) (H : Type) (enc : TypeId × Value → H) :
    ReturnsInHanded {} Try.checked os 7 .any (Rows.fnExactKeyMacSpec.pre6 enc Try.prog Try.f7 Rows.fnExactKeyMacRow.domain false) (Rows.fnExactKeyMacSpec.post enc Try.prog Try.f7 false true false false) := by
  refine returnsInHanded_of_change (C := Try.checked) own started (by kernel_rfl) Try.func7
    (ChangeSpec.witness6 (enc := enc) (C := Try.checked) false ⟨#[], #[.int .u64 0, .int .u64 0], []⟩ 8 (by kernel_rfl) (by kernel_rfl) (by kernel_rfl) (by kernel_rfl)) ?_
  intro W base args ds gs before hval0 hW _ _
  have hval : ∀ (j : Nat) t v, Try.f7.params[j]? = some t → args[j]? = some v → Value.okWide Try.prog W .any base t v := hval0
  have hW' := hW
  obtain ⟨p, q, hA0, hV, rfl, _, _⟩ := hW
  have hA : DataW.TrodAll enc Try.prog W 0 (fun _ => true) true Try.f7.params.toList args.toList ds p := hA0
  rw [Try.params7] at hA hval
  obtain ⟨v0, vs0, d0, ds0, p0, q0, hargs, rfl, rfl, h0, r0⟩ := trodAll_cons hA
  obtain ⟨v1, vs1, d1, ds1, p1, q1, rfl, rfl, rfl, h1, r1⟩ := trodAll_cons r0
  obtain ⟨rfl, rfl, rfl⟩ := trodAll_nil r1
  obtain rfl : args = #[v0, v1] := by cases args; simp_all
  obtain ⟨rfl, rfl⟩ := trodVars_none hV
  obtain ⟨a0, rfl, rfl, rfl, w0⟩ := open_int Try.underlying24 (hval 0 24 v0 rfl rfl) h0
  obtain ⟨a1, rfl, rfl, rfl, w1⟩ := open_int Try.underlying24 (hval 1 24 v1 rfl rfl) h1
  clear hA0 hval0
  refine (walk a0 a1 w0 w1 W).mono fun e W' ⟨he, bel⟩ => ?_
  subst he
  exact ⟨_, rfl, _, _, _, [], _, [], hW', trodAll_mk1 (shut_bool Try.underlying4 _), (trodAll_cons_mk (shut_int Try.underlying24 w0) (trodAll_cons_mk (shut_int Try.underlying24 w1) trodAll_mk0)), rfl, bel.frame _, fun h => by cases h⟩

theorem over : Rows.fnExactKeyMacRow.holds Try.pinned (OpenSpec.ofChange Rows.fnExactKeyMacSpec) :=
  OpenClaim.holds_of_wide 7 Try.f7 rfl rfl rfl rfl rfl rfl rfl ⟨rfl, rfl, rfl, rfl, rfl⟩ rfl rfl rfl rfl rfl (by kernel_rfl) Try.func7 (by kernel_rfl)
    (of_decide_eq_true (by kernel_rfl)) (by unfold Func.isWrapper; first | (rw [if_pos (by decide +kernel)]; kernel_rfl) | (rw [if_neg (by decide +kernel)]; exact ⟨rfl, rfl⟩))
    (fun os started H enc _ => lifted os started H enc)

theorem proved : Rows.FnExactKeyMacSaid := over
#print axioms proved
end Go.Proofs.Ytkmflfmbmmpohaa.fnExactKeyMac
