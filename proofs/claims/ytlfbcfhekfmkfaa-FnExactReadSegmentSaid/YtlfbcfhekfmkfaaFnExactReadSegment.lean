/- Proved here: for every string of at most 1048576 bytes (a longer one is not asked) and every two ints impl.ReadSegment and the model's ReadSegment return the same Segment and the same bool; the call returns true for every argument, without condition. -/
import Derived.Test.YtlfbcfhekfmkfaaRows
import Derived.Test.YtlfbcfhekfmkfaaReadSeg
import Derived.Test.YtlfbcfhekfmkfaaSegmentEq
import Derived.Test.YtlfbcfhekfmkfaaCells
import Derived.ProofKit
import Derived.OpenShut
import Derived.ShutString
import Derived.ChangeOld
import Derived.Below
namespace Go.Proofs.Ytlfbcfhekfmkfaa.fnExactReadSegment
open Go.ChangeShapes Go.WideShapes Go.ChangeAt Go.RowKit
open Go.ChangeMaps (open_string shut_string)

set_option maxRecDepth 100000 in
set_option maxHeartbeats 4000000 in
theorem walk (s : ByteArray) (x z : Int) (hm : s.size ≤ maxLen) (_ : (Lit.int .i64 x).wf = true) (_ : (Lit.int .i64 z).wf = true) (w : World) :
    Calls Try.prog 7 #[.string s, .int .i64 x, .int .i64 z] w fun e w' => e = .returned (.bool true) ∧ Below w.heap.size w w' := by
  unfold maxLen at hm
  by_cases h : (s.size : Int) ≤ 1048576
  · have C1 := (fun w => readSegS s x z w (by omega))
    have C2 := (fun w => readSegI s x z w (by omega))
    obtain ⟨⟨⟨p, d, q, a, g, n, ⟨m, c, k, t, v, u⟩, b⟩, y⟩, hy⟩ : ∃ r, readSeg s x z = r := ⟨_, rfl⟩
    rw [hy] at C1 C2
    simp only [Seg.cs] at C1 C2
    have C1 := Lib.hid C1
    have C2 := Lib.hid C2
    clear hy
    have E := Lib.hid (eqSegment_self p d q a g n m c k t v u b)
    have h1 : ¬ (1048576 : Int) < s.size := by omega
    clear h
    go_enter Try.func7, Try.ntmps7
    go_wp2_with fail
    refine (C1.out _).mono ?_
    rintro e w1 ⟨rfl, hb1⟩
    have B1 := Lib.hid hb1
    clear hb1
    go_wp2_with fail
    have B1' := Lib.hid (B1.out.alloc B1.out.size (.cells #[.int .i64 p, .int .i64 d, .int .i64 q, .int .i64 a, .int .i64 g, .int .i64 n, .int .i64 m, .int .i64 c, .bool k, .bool t, .int .i64 v, .int .i64 u, .string b] 27))
    refine (C2.out _).mono ?_
    rintro e w2 ⟨rfl, hb2⟩
    have B2 := Lib.hid (B1'.out.trans (hb2.mono B1'.out.size))
    have K2 := Lib.hid ((HasC.new w1 #[.int .i64 p, .int .i64 d, .int .i64 q, .int .i64 a, .int .i64 g, .int .i64 n, .int .i64 m, .int .i64 c, .bool k, .bool t, .int .i64 v, .int .i64 u, .string b] 27).keep hb2)
    clear hb2 B1 B1'
    have hne := K2.out.1
    have hne2 : ¬ w2.heap.size = w1.heap.size := by omega
    have hne3 : ¬ w1.heap.size = w2.heap.size := by omega
    have k0 := K2.out.at 0 rfl
    have k1 := K2.out.at 1 rfl
    have k2 := K2.out.at 2 rfl
    have k3 := K2.out.at 3 rfl
    have k4 := K2.out.at 4 rfl
    have k5 := K2.out.at 5 rfl
    have k6 := K2.out.at 6 rfl
    have k7 := K2.out.at 7 rfl
    have k8 := K2.out.at 8 rfl
    have k9 := K2.out.at 9 rfl
    have k10 := K2.out.at 10 rfl
    have k11 := K2.out.at 11 rfl
    have k12 := K2.out.at 12 rfl
    go_wp2_with fail
    refine (E.out _).mono ?_
    rintro e w3 ⟨rfl, hb3⟩
    have B3 := Lib.hid ((B2.out.alloc B2.out.size (.cells #[.int .i64 p, .int .i64 d, .int .i64 q, .int .i64 a, .int .i64 g, .int .i64 n, .int .i64 m, .int .i64 c, .bool k, .bool t, .int .i64 v, .int .i64 u, .string b] 27)).trans (hb3.mono (Nat.le_trans B2.out.size (by simp))))
    clear hb3 k0 k1 k2 k3 k4 k5 k6 k7 k8 k9 k10 k11 k12
    go_wp2_with fail
    go_ret
    exact ⟨rfl, B3.out⟩
  · have h1 : (1048576 : Int) < s.size := by omega
    clear h
    go_enter Try.func7, Try.ntmps7
    go_wp2_with fail
    go_ret
    exact ⟨rfl, Below.refl _ _⟩
theorem own : ownKnob Try.prog.godebug = none := by kernel_rfl

set_option maxRecDepth 100000 in
theorem lifted (os : Os) (started : os.Started) (H : Type) (enc : TypeId × Value → H) :
    ReturnsInHanded {} Try.checked os 7 .any (Rows.fnExactReadSegmentSpec.pre6 enc Try.prog Try.f7 Rows.fnExactReadSegmentRow.domain false) (Rows.fnExactReadSegmentSpec.post enc Try.prog Try.f7 false true false false) := by
  refine returnsInHanded_of_change (C := Try.checked) own started (by kernel_rfl) Try.func7
    (ChangeSpec.witness6 (enc := enc) (C := Try.checked) false ⟨#[], #[.string ByteArray.empty, .int .i64 0, .int .i64 0], []⟩ 8 (by kernel_rfl) (by kernel_rfl) (by kernel_rfl) (by kernel_rfl)) ?_
  intro W base args ds gs before hval0 hW _ _
  have hval : ∀ (j : Nat) t v, Try.f7.params[j]? = some t → args[j]? = some v → Value.okWide Try.prog W .any base t v := hval0
  have hW' := hW
  obtain ⟨p, q, hA0, hV, rfl, _, _⟩ := hW
  have hA : DataW.TrodAll enc Try.prog W 0 (fun _ => true) true Try.f7.params.toList args.toList ds p := hA0
  rw [Try.params7] at hA hval
  obtain ⟨v0, vs0, d0, ds0, p0, q0, hargs, rfl, rfl, h0, r0⟩ := trodAll_cons hA
  obtain ⟨v1, vs1, d1, ds1, p1, q1, rfl, rfl, rfl, h1, r1⟩ := trodAll_cons r0
  obtain ⟨v2, vs2, d2, ds2, p2, q2, rfl, rfl, rfl, h2, r2⟩ := trodAll_cons r1
  obtain ⟨rfl, rfl, rfl⟩ := trodAll_nil r2
  obtain rfl : args = #[v0, v1, v2] := by cases args; simp_all
  obtain ⟨rfl, rfl⟩ := trodVars_none hV
  obtain ⟨a0, rfl, rfl, rfl, w0⟩ := open_string Try.underlying9 (hval 0 9 v0 rfl rfl) h0
  obtain ⟨a1, rfl, rfl, rfl, w1⟩ := open_int Try.underlying3 (hval 1 3 v1 rfl rfl) h1
  obtain ⟨a2, rfl, rfl, rfl, w2⟩ := open_int Try.underlying3 (hval 2 3 v2 rfl rfl) h2
  clear hA0 hval0
  refine (walk a0 a1 a2 w0 w1 w2 W).mono fun e W' ⟨he, bel⟩ => ?_
  subst he
  exact ⟨_, rfl, _, _, _, [], _, [], hW', trodAll_mk1 (shut_bool Try.underlying4 _), (trodAll_cons_mk (shut_string Try.underlying9 w0) (trodAll_cons_mk (shut_int Try.underlying3 w1) (trodAll_cons_mk (shut_int Try.underlying3 w2) trodAll_mk0))), rfl, bel.frame _, fun h => by cases h⟩

theorem over : Rows.fnExactReadSegmentRow.holds Try.pinned (OpenSpec.ofChange Rows.fnExactReadSegmentSpec) :=
  OpenClaim.holds_of_wide 7 Try.f7 rfl rfl rfl rfl rfl rfl rfl ⟨rfl, rfl, rfl, rfl, rfl⟩ rfl rfl rfl rfl rfl (by kernel_rfl) Try.func7 (by kernel_rfl)
    (of_decide_eq_true (by kernel_rfl)) (by unfold Func.isWrapper; first | (rw [if_pos (by decide +kernel)]; kernel_rfl) | (rw [if_neg (by decide +kernel)]; exact ⟨rfl, rfl⟩))
    (fun os started H enc _ => lifted os started H enc)

theorem proved : Rows.FnExactReadSegmentSaid := over
#print axioms proved
end Go.Proofs.Ytlfbcfhekfmkfaa.fnExactReadSegment
