/- The law FnExactRotated holds for any keys and Mac (up to the law's own measure of 1048576 rows and bytes; past it the law itself answers true): impl's Rotated answers as the model's, leaves its arguments, and hands back memory of its own. No condition. -/
import Derived.Test.YtobfgkiccmhgdaaRows
import Derived.Test.YtobfgkiccmhgdaaKeysLaw
import Derived.Test.YtobfgkiccmhgdaaPkFnExactRotated
import Derived.Deep.RegionHeld3
import Derived.ProofKit
import Derived.OpenShut
import Derived.ShutString
import Derived.ChangeSame
import Derived.Test.YtobfgkiccmhgdaaRotYes
import Derived.Test.YtobfgkiccmhgdaaRotNo
namespace Go.Proofs.Ytobfgkiccmhgdaa.fnExactRotated
open Go.ChangeShapes Go.WideShapes Go.ChangeAt Go.RowKit Go.Lib

/-- The law's word: true, and what lay before the call lies as it lay. -/
def OkB (w : World) (e : Ending) (w' : World) : Prop := e = .returned (.bool true) ∧ Below w.heap.size w w'

set_option maxRecDepth 100000 in
set_option maxHeartbeats 8000000 in
theorem go (e : Int) (p q m : M) (t : Bool) (w : World) (hp : LawM w p) (hq : LawM w q) (hm : LawM w m) :
    Calls Try.prog 10 #[.agg #[.int .i64 e, .bool p.u, .int .u64 (n64 p.k), .int .u64 (n64 p.l), .slice p.a p.rs.length p.c, .bool q.u, .int .u64 (n64 q.k), .int .u64 (n64 q.l), .slice q.a q.rs.length q.c, .bool t], .agg #[.bool m.u, .int .u64 (n64 m.k), .int .u64 (n64 m.l), .slice m.a m.rs.length m.c]] w (OkB w) := by

  cases hr : rotOk e p q m t with
  | true => exact rotLawYes e p q m t w hp hq hm (fun g1 g2 g3 c1 c2 c3 w o1 o2 o3 f1 f2 f3 => rotYesS_at e p q m t g1 g2 g3 c1 c2 c3 w o1 o2 o3 f1 f2 f3 hr) (fun g1 g2 g3 c1 c2 c3 w o1 o2 o3 f1 f2 f3 => rotYesI_at e p q m t g1 g2 g3 c1 c2 c3 w o1 o2 o3 f1 f2 f3 hr)
  | false => exact rotLawNo e p q m t w hp hq hm (fun g1 g2 g3 c1 c2 c3 w o1 o2 o3 f1 f2 f3 => rotNoS_at e p q m t g1 g2 g3 c1 c2 c3 w o1 o2 o3 f1 f2 f3 hr) (fun g1 g2 g3 c1 c2 c3 w o1 o2 o3 f1 f2 f3 => rotNoI_at e p q m t g1 g2 g3 c1 c2 c3 w o1 o2 o3 f1 f2 f3 hr)

theorem walk {w : World} (e : Int) (p q : M) (t : Bool) (m : M) (h : (Lit.int .i64 e).wf = true ∧ LawM w p ∧ LawM w q) (hm : LawM w m) :
    Calls Try.prog 10 #[.agg #[.int .i64 e, .bool p.u, .int .u64 (n64 p.k), .int .u64 (n64 p.l), .slice p.a p.rs.length p.c, .bool q.u, .int .u64 (n64 q.k), .int .u64 (n64 q.l), .slice q.a q.rs.length q.c, .bool t], .agg #[.bool m.u, .int .u64 (n64 m.k), .int .u64 (n64 m.l), .slice m.a m.rs.length m.c]] w fun e w' => e = .returned (.bool true) ∧ Below w.heap.size w w' := go e p q m t w h.2.1 h.2.2 hm
theorem own : ownKnob Try.prog.godebug = none := by kernel_rfl
theorem laidOut : laidOutB Try.prog = true := by kernel_rfl

set_option maxRecDepth 100000 in
theorem lifted (os : Os) (started : os.Started) (H : Type) (enc : TypeId × Value → H) :
    ReturnsInHanded {} Try.checked os 10 .any (Rows.fnExactRotatedSpec.pre6 enc Try.prog Try.f10 Rows.fnExactRotatedRow.domain false) (Rows.fnExactRotatedSpec.post enc Try.prog Try.f10 false true false false) := by
  refine returnsInHanded_of_change (C := Try.checked) own started (by kernel_rfl) Try.func10
    (ChangeSpec.witness6 (enc := enc) (C := Try.checked) false ⟨#[], #[.agg #[.int .i64 0, .bool false, .int .u64 0, .int .u64 0, .slice none 0 0, .bool false, .int .u64 0, .int .u64 0, .slice none 0 0, .bool false], .agg #[.bool false, .int .u64 0, .int .u64 0, .slice none 0 0]], []⟩ 8 (by kernel_rfl) (by kernel_rfl) (by kernel_rfl) (by kernel_rfl)) ?_
  intro W base args ds gs before hval0 hW _ _
  have hval : ∀ (j : Nat) t v, Try.f10.params[j]? = some t → args[j]? = some v → Value.okWide Try.prog W .any base t v := hval0
  have hW' := hW
  obtain ⟨p, q, hA0, hV, rfl, _, _⟩ := hW
  have hA : DataW.TrodAll enc Try.prog W 0 (fun _ => true) true Try.f10.params.toList args.toList ds p := hA0
  rw [Try.params10] at hA hval
  obtain ⟨v0, vs0, d0, ds0, p0, q0, hargs, rfl, rfl, h0, r0⟩ := trodAll_cons hA
  obtain ⟨v1, vs1, d1, ds1, p1, q1, rfl, rfl, rfl, h1, r1⟩ := trodAll_cons r0
  obtain ⟨rfl, rfl, rfl⟩ := trodAll_nil r1
  obtain rfl : args = #[v0, v1] := by cases args; simp_all
  obtain ⟨rfl, rfl⟩ := trodVars_none hV
  have k0 := h0
  have lt0 : ∀ x ∈ p0, x.block < W.heap.size := by obtain ⟨m, hm⟩ := k0; exact DataW.trod_lt m _ _ _ hm
  obtain ⟨e0, p0, q0, t0, rfl, w0⟩ := argKeys (hval 0 52 v0 rfl rfl) h0
  have k1 := h1
  have lt1 : ∀ x ∈ p1, x.block < W.heap.size := by obtain ⟨m, hm⟩ := k1; exact DataW.trod_lt m _ _ _ hm
  obtain ⟨m1, rfl, w1⟩ := argMacM (hval 1 50 v1 rfl rfl) h1
  clear hA0 hval0
  refine (walk e0 p0 q0 t0 m1 w0 w1).mono fun e W' ⟨he, bel⟩ => ?_
  subst he
  exact ⟨_, rfl, _, _, _, [], _, [], hW', trodAll_mk1 (shut_bool Try.underlying4 _), (trodAll_cons_mk (Below.trod laidOut (by kernel_rfl) (of_decide_eq_true (by kernel_rfl)) k0 bel lt0) (trodAll_cons_mk (Below.trod laidOut (by kernel_rfl) (of_decide_eq_true (by kernel_rfl)) k1 bel lt1) trodAll_mk0)), rfl, bel.frame _, fun h => by cases h⟩

theorem over : Rows.fnExactRotatedRow.holds Try.pinned (OpenSpec.ofChange Rows.fnExactRotatedSpec) :=
  OpenClaim.holds_of_wide 10 Try.f10 rfl rfl rfl rfl rfl rfl rfl ⟨rfl, rfl, rfl, rfl, rfl⟩ rfl rfl rfl rfl rfl (by kernel_rfl) Try.func10 (by kernel_rfl)
    (of_decide_eq_true (by kernel_rfl)) (by unfold Func.isWrapper; first | (rw [if_pos (by decide +kernel)]; kernel_rfl) | (rw [if_neg (by decide +kernel)]; exact ⟨rfl, rfl⟩))
    (fun os started H enc _ => lifted os started H enc)

theorem proved : Rows.FnExactRotatedSaid := over
#print axioms proved
end Go.Proofs.Ytobfgkiccmhgdaa.fnExactRotated
