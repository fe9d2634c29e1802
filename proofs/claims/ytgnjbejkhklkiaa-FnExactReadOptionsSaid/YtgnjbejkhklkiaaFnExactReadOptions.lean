/- Proved here: for every string of at most 1048576 bytes (a longer one is not asked) impl.ReadOptions and the model's ReadOptions return the same Options value and the same bool; the call returns true for every argument, without condition. -/
import Derived.Test.YtgnjbejkhklkiaaRows
import Derived.Test.YtgnjbejkhklkiaaReadOptI
import Derived.Test.YtgnjbejkhklkiaaReadOptS
import Derived.Test.YtgnjbejkhklkiaaOptionsEq
import Derived.Test.YtgnjbejkhklkiaaCells
import Derived.ProofKit
import Derived.OpenShut
import Derived.ShutString
import Derived.ChangeOld
import Derived.Below
namespace Go.Proofs.Ytgnjbejkhklkiaa.fnExactReadOptions
open Go.ChangeShapes Go.WideShapes Go.ChangeAt Go.RowKit
open Go.ChangeMaps (open_string shut_string)

set_option maxRecDepth 100000 in
set_option maxHeartbeats 2000000 in
theorem walk (s : ByteArray) (hm : s.size ≤ maxLen) (w : World) :
    Calls Try.prog 6 #[.string s] w fun e w' => e = .returned (.bool true) ∧ Below w.heap.size w w' := by
  unfold maxLen at hm
  by_cases h : (s.size : Int) ≤ 1048576
  · have C1 := (fun w => readOptionsS s w (by omega))
    have C2 := (fun w => readOptionsI s w (by omega))
    obtain ⟨⟨⟨m, c, k, t, v, u⟩, y⟩, hy⟩ : ∃ r, optRead s = r := ⟨_, rfl⟩
    rw [hy] at C1 C2
    simp only [Opt.cs] at C1 C2
    have C1 := Lib.hid C1
    have C2 := Lib.hid C2
    clear hy
    have E := Lib.hid (eqOptions_self m c k t v u)
    have h1 : ¬ (1048576 : Int) < s.size := by omega
    clear h
    go_enter Try.func6, Try.ntmps6
    go_wp2_with fail
    refine (C1.out _).mono ?_
    rintro e w1 ⟨rfl, hb1⟩
    have B1 := Lib.hid hb1
    clear hb1
    go_wp2_with fail
    have B1' := Lib.hid (B1.out.alloc B1.out.size (.cells #[.int .i64 m, .int .i64 c, .bool k, .bool t, .int .i64 v, .int .i64 u] 25))
    refine (C2.out _).mono ?_
    rintro e w2 ⟨rfl, hb2⟩
    have B2 := Lib.hid (B1'.out.trans (hb2.mono B1'.out.size))
    have K2 := Lib.hid ((HasC.new w1 #[.int .i64 m, .int .i64 c, .bool k, .bool t, .int .i64 v, .int .i64 u] 25).keep hb2)
    clear hb2 B1 B1'
    have hne := K2.out.1
    have hne2 : ¬ w2.heap.size = w1.heap.size := by omega
    have hne3 : ¬ w1.heap.size = w2.heap.size := by omega
    obtain ⟨c0, c1, c2, c3, c4, c5⟩ := K2.out.of6
    go_wp2_with fail
    refine (E.out _).mono ?_
    rintro e w3 ⟨rfl, hb3⟩
    have B3 := Lib.hid ((B2.out.alloc B2.out.size (.cells #[.int .i64 m, .int .i64 c, .bool k, .bool t, .int .i64 v, .int .i64 u] 25)).trans (hb3.mono (Nat.le_trans B2.out.size (by simp))))
    clear hb3 c0 c1 c2 c3 c4 c5
    go_wp2_with fail
    go_ret
    exact ⟨rfl, B3.out⟩
  · have h1 : (1048576 : Int) < s.size := by omega
    clear h
    go_enter Try.func6, Try.ntmps6
    go_wp2_with fail
    go_ret
    exact ⟨rfl, Below.refl _ _⟩
theorem own : ownKnob Try.prog.godebug = none := by kernel_rfl

set_option maxRecDepth 100000 in
theorem lifted (os : Os) (started : os.Started) (H : Type) (enc : TypeId × Value → H) :
    ReturnsInHanded {} Try.checked os 6 .any (Rows.fnExactReadOptionsSpec.pre6 enc Try.prog Try.f6 Rows.fnExactReadOptionsRow.domain false) (Rows.fnExactReadOptionsSpec.post enc Try.prog Try.f6 false true false false) := by
  refine returnsInHanded_of_change (C := Try.checked) own started (by kernel_rfl) Try.func6
    (ChangeSpec.witness6 (enc := enc) (C := Try.checked) false ⟨#[], #[.string ByteArray.empty], []⟩ 8 (by kernel_rfl) (by kernel_rfl) (by kernel_rfl) (by kernel_rfl)) ?_
  intro W base args ds gs before hval0 hW _ _
  have hval : ∀ (j : Nat) t v, Try.f6.params[j]? = some t → args[j]? = some v → Value.okWide Try.prog W .any base t v := hval0
  have hW' := hW
  obtain ⟨p, q, hA0, hV, rfl, _, _⟩ := hW
  have hA : DataW.TrodAll enc Try.prog W 0 (fun _ => true) true Try.f6.params.toList args.toList ds p := hA0
  rw [Try.params6] at hA hval
  obtain ⟨v0, vs0, d0, ds0, p0, q0, hargs, rfl, rfl, h0, r0⟩ := trodAll_cons hA
  obtain ⟨rfl, rfl, rfl⟩ := trodAll_nil r0
  obtain rfl : args = #[v0] := by cases args; simp_all
  obtain ⟨rfl, rfl⟩ := trodVars_none hV
  obtain ⟨a0, rfl, rfl, rfl, w0⟩ := open_string Try.underlying9 (hval 0 9 v0 rfl rfl) h0
  clear hA0 hval0
  refine (walk a0 w0 W).mono fun e W' ⟨he, bel⟩ => ?_
  subst he
  exact ⟨_, rfl, _, _, _, [], _, [], hW', trodAll_mk1 (shut_bool Try.underlying4 _), (trodAll_cons_mk (shut_string Try.underlying9 w0) trodAll_mk0), rfl, bel.frame _, fun h => by cases h⟩

theorem over : Rows.fnExactReadOptionsRow.holds Try.pinned (OpenSpec.ofChange Rows.fnExactReadOptionsSpec) :=
  OpenClaim.holds_of_wide 6 Try.f6 rfl rfl rfl rfl rfl rfl rfl ⟨rfl, rfl, rfl, rfl, rfl⟩ rfl rfl rfl rfl rfl (by kernel_rfl) Try.func6 (by kernel_rfl)
    (of_decide_eq_true (by kernel_rfl)) (by unfold Func.isWrapper; first | (rw [if_pos (by decide +kernel)]; kernel_rfl) | (rw [if_neg (by decide +kernel)]; exact ⟨rfl, rfl⟩))
    (fun os started H enc _ => lifted os started H enc)

theorem proved : Rows.FnExactReadOptionsSaid := over
#print axioms proved
end Go.Proofs.Ytgnjbejkhklkiaa.fnExactReadOptions
