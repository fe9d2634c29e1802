/- Proved here: for every two words impl.SipStart and the model's SipStart return the same four words; the call returns true for every argument, without condition. -/
import Derived.Test.YtojkkholopodaaaRows
import Derived.Test.YtojkkholopodaaaSipW
import Derived.Test.YtojkkholopodaaaKit
import Derived.ProofKit
import Derived.OpenShut
import Derived.ShutString
import Derived.ChangeOld
import Derived.Below
namespace Go.Proofs.Ytojkkholopodaaa.fnExactSipStart
open Go.ChangeShapes Go.WideShapes Go.ChangeAt Go.RowKit

set_option maxHeartbeats 2000000 in
theorem go (k l : BitVec 64) (w : World) :
    Calls Try.prog 5 #[.int .u64 (n64 k), .int .u64 (n64 l)] w fun e w' => e = .returned (.bool true) ∧ Below w.heap.size w w' := by
  have C1 := Lib.hid (sipStartS k l)
  have C2 := Lib.hid (sipStartI k l)
  have E := Lib.hid (eqSip_self (S4.start k l))
  obtain ⟨u, hu⟩ : ∃ u, Hid (S4.start k l = u) := ⟨_, rfl⟩
  rw [hu.out] at C1 C2 E
  go_enter Try.func5, Try.ntmps5
  go_wp2_with fail
  refine (C1.out _).mono ?_
  rintro e w2 ⟨rfl, hb2⟩
  have B2 := Lib.hid hb2
  clear hb2
  go_wp2_with fail
  have B3 := Lib.hid (B2.out.alloc (B2.out.size) (.cells #[.int .u64 (n64 u.a), .int .u64 (n64 u.b), .int .u64 (n64 u.c), .int .u64 (n64 u.d)] 26))
  have P3 := Lib.hid (HasC.new w2 #[.int .u64 (n64 u.a), .int .u64 (n64 u.b), .int .u64 (n64 u.c), .int .u64 (n64 u.d)] 26)
  generalize w2.heap.size = g1 at P3 ⊢
  generalize w2.alloc (.cells #[.int .u64 (n64 u.a), .int .u64 (n64 u.b), .int .u64 (n64 u.c), .int .u64 (n64 u.d)] 26) = w3 at B3 P3 ⊢
  clear B2
  refine (C2.out _).mono ?_
  rintro e w5 ⟨rfl, hb5⟩
  have B5 := Lib.hid (B3.out.trans (hb5.mono B3.out.size))
  have P5 := Lib.hid (P3.out.keep hb5)
  clear hb5 B3 P3
  obtain ⟨c0, c1, c2, c3⟩ := P5.out.four
  have hlt := P5.out.1
  have hne : ¬ w5.heap.size = g1 := by omega
  have hne2 : ¬ g1 = w5.heap.size := by omega
  go_wp2_with fail
  clear hlt hne hne2
  refine (E.out _).mono ?_
  rintro e w6 ⟨rfl, hb6⟩
  have B6 := Lib.hid ((B5.out.alloc (B5.out.size) (.cells #[.int .u64 (n64 u.a), .int .u64 (n64 u.b), .int .u64 (n64 u.c), .int .u64 (n64 u.d)] 26)).trans (hb6.mono (Nat.le_trans B5.out.size (by simp))))
  clear hb6 B5 P5 c0 c1 c2 c3
  go_wp2
  go_ret
  exact ⟨rfl, B6.out⟩

theorem walk (a : Int) (b : Int) (ha : (Lit.int .u64 a).wf = true) (hb : (Lit.int .u64 b).wf = true) (w : World) :
    Calls Try.prog 5 #[.int .u64 a, .int .u64 b] w fun e w' => e = .returned (.bool true) ∧ Below w.heap.size w w' := by
  obtain ⟨a, rfl⟩ := word_of ha
  obtain ⟨b, rfl⟩ := word_of hb
  exact go a b w

theorem own : ownKnob Try.prog.godebug = none := by kernel_rfl

set_option maxRecDepth 100000 in
theorem lifted (os : Os) (started : os.Started) (H : Type) (enc : TypeId × Value → H) :
    ReturnsInHanded {} Try.checked os 5 .any (Rows.fnExactSipStartSpec.pre6 enc Try.prog Try.f5 Rows.fnExactSipStartRow.domain false) (Rows.fnExactSipStartSpec.post enc Try.prog Try.f5 false true false false) := by
  refine returnsInHanded_of_change (C := Try.checked) own started (by kernel_rfl) Try.func5
    (ChangeSpec.witness6 (enc := enc) (C := Try.checked) false ⟨#[], #[.int .u64 0, .int .u64 0], []⟩ 8 (by kernel_rfl) (by kernel_rfl) (by kernel_rfl) (by kernel_rfl)) ?_
  intro W base args ds gs before hval0 hW _ _
  have hval : ∀ (j : Nat) t v, Try.f5.params[j]? = some t → args[j]? = some v → Value.okWide Try.prog W .any base t v := hval0
  have hW' := hW
  obtain ⟨p, q, hA0, hV, rfl, _, _⟩ := hW
  have hA : DataW.TrodAll enc Try.prog W 0 (fun _ => true) true Try.f5.params.toList args.toList ds p := hA0
  rw [Try.params5] at hA hval
  obtain ⟨v0, vs0, d0, ds0, p0, q0, hargs, rfl, rfl, h0, r0⟩ := trodAll_cons hA
  obtain ⟨v1, vs1, d1, ds1, p1, q1, rfl, rfl, rfl, h1, r1⟩ := trodAll_cons r0
  obtain ⟨rfl, rfl, rfl⟩ := trodAll_nil r1
  obtain rfl : args = #[v0, v1] := by cases args; simp_all
  obtain ⟨rfl, rfl⟩ := trodVars_none hV
  obtain ⟨a0, rfl, rfl, rfl, w0⟩ := open_int Try.underlying24 (hval 0 24 v0 rfl rfl) h0
  obtain ⟨a1, rfl, rfl, rfl, w1⟩ := open_int Try.underlying24 (hval 1 24 v1 rfl rfl) h1
  clear hA0 hval0
  refine (walk a0 a1 w0 w1 W).mono fun e W' ⟨he, bel⟩ => ?_
  subst he
  exact ⟨_, rfl, _, _, _, [], _, [], hW', trodAll_mk1 (shut_bool Try.underlying4 _), (trodAll_cons_mk (shut_int Try.underlying24 w0) (trodAll_cons_mk (shut_int Try.underlying24 w1) trodAll_mk0)), rfl, bel.frame _, fun h => by cases h⟩

theorem over : Rows.fnExactSipStartRow.holds Try.pinned (OpenSpec.ofChange Rows.fnExactSipStartSpec) :=
  OpenClaim.holds_of_wide 5 Try.f5 rfl rfl rfl rfl rfl rfl rfl ⟨rfl, rfl, rfl, rfl, rfl⟩ rfl rfl rfl rfl rfl (by kernel_rfl) Try.func5 (by kernel_rfl)
    (of_decide_eq_true (by kernel_rfl)) (by unfold Func.isWrapper; first | (rw [if_pos (by decide +kernel)]; kernel_rfl) | (rw [if_neg (by decide +kernel)]; exact ⟨rfl, rfl⟩))
    (fun os started H enc _ => lifted os started H enc)

theorem proved : Rows.FnExactSipStartSaid := over
#print axioms proved
end Go.Proofs.Ytojkkholopodaaa.fnExactSipStart
