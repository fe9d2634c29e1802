/- Proved here: for every index and every Options value impl.LearnedOptions and the model's LearnedOptions return the same Options value; the call returns true for every argument, without condition. -/
import Derived.Test.YtifgaojgnaafbaaRows
import Derived.Test.YtifgaojgnaafbaaLrnOpt
import Derived.Test.YtifgaojgnaafbaaOptionsLaw
import Derived.Test.YtifgaojgnaafbaaOptionsEq
import Derived.Test.YtifgaojgnaafbaaFlat
import Derived.Test.YtifgaojgnaafbaaCurA
import Derived.ProofKit
import Derived.OpenShut
import Derived.ShutString
import Derived.ChangeOld
import Derived.Below
namespace Go.Proofs.Ytifgaojgnaafbaa.fnExactLearnedOptions
open Go.ChangeShapes Go.WideShapes Go.ChangeAt Go.RowKit Go.Lib

/-- The law's word: true, and what lay before the call lies as it lay. -/
def OkB (w : World) (e : Ending) (w' : World) : Prop := e = .returned (.bool true) ∧ Below w.heap.size w w'

set_option maxRecDepth 100000 in
set_option maxHeartbeats 4000000 in
theorem walk (n : Int) (m : Int) (c : Int) (k : Bool) (t : Bool) (v : Int) (u : Int) (hn : (Lit.int .i64 n).wf = true) (_ : (Lit.int .i64 m).wf = true) (_ : (Lit.int .i64 c).wf = true) (_ : True) (_ : True) (_ : (Lit.int .i64 v).wf = true) (_ : (Lit.int .i64 u).wf = true) (w : World) :
    Calls Try.prog 8 #[.int .i64 n, .agg #[.int .i64 m, .int .i64 c, .bool k, .bool t, .int .i64 v, .int .i64 u]] w (OkB w) := by
  have C1 := (lrnOptS n m c k t v u)
  have C2 := (lrnOptI n m c k t v u hn)
  obtain ⟨⟨x0, x1, x2, x3, x4, x5⟩, hy⟩ : ∃ o : Opt, lrnOpt n t v u = o := ⟨_, rfl⟩
  rw [hy] at C1 C2
  simp only [Opt.cs] at C1 C2
  have C1 := Lib.hid C1
  have C2 := Lib.hid C2
  clear hy
  go_enter Try.func8, Try.ntmps8
  have B0 := Lib.hid (show Below w.heap.size w (w.alloc (.cells #[.int .i64 m, .int .i64 c, .bool k, .bool t, .int .i64 v, .int .i64 u] 41)) from ((Below.refl _ w).alloc (by simp) _))
  have Ka0 := Lib.hid (show Blk (w.alloc (.cells #[.int .i64 m, .int .i64 c, .bool k, .bool t, .int .i64 v, .int .i64 u] 41)) (w.heap.size) [.int .i64 m, .int .i64 c, .bool k, .bool t, .int .i64 v, .int .i64 u] from Blk.new w [.int .i64 m, .int .i64 c, .bool k, .bool t, .int .i64 v, .int .i64 u] 41)
  go_wp2_with fail
  change Calls _ _ _ (w.alloc (.cells #[.int .i64 m, .int .i64 c, .bool k, .bool t, .int .i64 v, .int .i64 u] 41)) _
  generalize w.alloc (.cells #[.int .i64 m, .int .i64 c, .bool k, .bool t, .int .i64 v, .int .i64 u] 41) = v0 at B0 Ka0 ⊢
  generalize w.heap.size = g_a at Ka0 ⊢
  refine (toOptions_any m c k t v u _).mono ?_
  rintro e v1 ⟨rfl, hb⟩
  have B1 := Lib.hid (B0.out.trans (hb.mono B0.out.size))
  have Ka1 := Lib.hid (Ka0.out.below hb)
  clear hb B0 Ka0
  obtain ⟨⟨ca0, ca1, ca2, ca3, ca4, ca5⟩, da0, da1, da2, da3, da4, da5⟩ := Ka1.out.of6
  go_wp2_with fail
  clear ca0 ca1 ca2 ca3 ca4 ca5 da0 da1 da2 da3 da4 da5
  refine (C1.out _).mono ?_
  rintro e v2 ⟨rfl, hb⟩
  have B2 := Lib.hid (B1.out.trans (hb.mono B1.out.size))
  have Ka2 := Lib.hid (Ka1.out.below hb)
  clear hb B1 Ka1
  have Kxn := Lib.hid (Blk.new v2 [.int .i64 x0, .int .i64 x1, .bool x2, .bool x3, .int .i64 x4, .int .i64 x5] 32)
  have n_a_x : g_a ≠ v2.heap.size := by have h1 := Ka2.out.lt; omega
  have Bn := Lib.hid (B2.out.alloc B2.out.size (.cells #[.int .i64 x0, .int .i64 x1, .bool x2, .bool x3, .int .i64 x4, .int .i64 x5] 32))
  have Kan := Lib.hid (Ka2.out.alloc (.cells #[.int .i64 x0, .int .i64 x1, .bool x2, .bool x3, .int .i64 x4, .int .i64 x5] 32))
  clear B2 Ka2
  obtain ⟨⟨ca0, ca1, ca2, ca3, ca4, ca5⟩, da0, da1, da2, da3, da4, da5⟩ := Kan.out.of6
  go_wp2_with fail
  clear ca0 ca1 ca2 ca3 ca4 ca5 da0 da1 da2 da3 da4 da5
  change Calls _ _ _ (v2.alloc (.cells #[.int .i64 x0, .int .i64 x1, .bool x2, .bool x3, .int .i64 x4, .int .i64 x5] 32)) _
  generalize v2.alloc (.cells #[.int .i64 x0, .int .i64 x1, .bool x2, .bool x3, .int .i64 x4, .int .i64 x5] 32) = v3 at Kxn Bn Kan ⊢
  generalize v2.heap.size = g_x at Kxn n_a_x ⊢
  clear v2
  have Ka3 := Kan
  clear Kan
  have Kx3 := Kxn
  clear Kxn
  have B3 := Bn
  clear Bn
  refine (toOptions_any m c k t v u _).mono ?_
  rintro e v4 ⟨rfl, hb⟩
  have B4 := Lib.hid (B3.out.trans (hb.mono B3.out.size))
  have Ka4 := Lib.hid (Ka3.out.below hb)
  have Kx4 := Lib.hid (Kx3.out.below hb)
  clear hb B3 Ka3 Kx3
  obtain ⟨⟨ca0, ca1, ca2, ca3, ca4, ca5⟩, da0, da1, da2, da3, da4, da5⟩ := Ka4.out.of6
  obtain ⟨⟨cx0, cx1, cx2, cx3, cx4, cx5⟩, dx0, dx1, dx2, dx3, dx4, dx5⟩ := Kx4.out.of6
  go_wp2_with fail
  clear ca0 ca1 ca2 ca3 ca4 ca5 da0 da1 da2 da3 da4 da5 cx0 cx1 cx2 cx3 cx4 cx5 dx0 dx1 dx2 dx3 dx4 dx5
  refine (C2.out _).mono ?_
  rintro e v5 ⟨rfl, hb⟩
  have B5 := Lib.hid (B4.out.trans (hb.mono B4.out.size))
  have Ka5 := Lib.hid (Ka4.out.below hb)
  have Kx5 := Lib.hid (Kx4.out.below hb)
  clear hb B4 Ka4 Kx4
  have Kyn := Lib.hid (Blk.new v5 [.int .i64 x0, .int .i64 x1, .bool x2, .bool x3, .int .i64 x4, .int .i64 x5] 32)
  have n_a_y : g_a ≠ v5.heap.size := by have h1 := Ka5.out.lt; omega
  have n_x_y : g_x ≠ v5.heap.size := by have h1 := Kx5.out.lt; omega
  have Bn := Lib.hid (B5.out.alloc B5.out.size (.cells #[.int .i64 x0, .int .i64 x1, .bool x2, .bool x3, .int .i64 x4, .int .i64 x5] 32))
  have Kan := Lib.hid (Ka5.out.alloc (.cells #[.int .i64 x0, .int .i64 x1, .bool x2, .bool x3, .int .i64 x4, .int .i64 x5] 32))
  have Kxn := Lib.hid (Kx5.out.alloc (.cells #[.int .i64 x0, .int .i64 x1, .bool x2, .bool x3, .int .i64 x4, .int .i64 x5] 32))
  clear B5 Ka5 Kx5
  obtain ⟨⟨ca0, ca1, ca2, ca3, ca4, ca5⟩, da0, da1, da2, da3, da4, da5⟩ := Kan.out.of6
  obtain ⟨⟨cx0, cx1, cx2, cx3, cx4, cx5⟩, dx0, dx1, dx2, dx3, dx4, dx5⟩ := Kxn.out.of6
  go_wp2_with fail
  clear ca0 ca1 ca2 ca3 ca4 ca5 da0 da1 da2 da3 da4 da5 cx0 cx1 cx2 cx3 cx4 cx5 dx0 dx1 dx2 dx3 dx4 dx5
  change Calls _ _ _ (v5.alloc (.cells #[.int .i64 x0, .int .i64 x1, .bool x2, .bool x3, .int .i64 x4, .int .i64 x5] 32)) _
  generalize v5.alloc (.cells #[.int .i64 x0, .int .i64 x1, .bool x2, .bool x3, .int .i64 x4, .int .i64 x5] 32) = v6 at Kyn Bn Kan Kxn ⊢
  generalize v5.heap.size = g_y at Kyn n_a_y n_x_y ⊢
  clear v5
  have Ka6 := Kan
  clear Kan
  have Kx6 := Kxn
  clear Kxn
  have Ky6 := Kyn
  clear Kyn
  have B6 := Bn
  clear Bn
  refine (eqOptions_self x0 x1 x2 x3 x4 x5 _).mono ?_
  rintro e v7 ⟨rfl, hb⟩
  have B7 := Lib.hid (B6.out.trans (hb.mono B6.out.size))
  have Ka7 := Lib.hid (Ka6.out.below hb)
  have Kx7 := Lib.hid (Kx6.out.below hb)
  have Ky7 := Lib.hid (Ky6.out.below hb)
  clear hb B6 Ka6 Kx6 Ky6
  obtain ⟨⟨ca0, ca1, ca2, ca3, ca4, ca5⟩, da0, da1, da2, da3, da4, da5⟩ := Ka7.out.of6
  obtain ⟨⟨cx0, cx1, cx2, cx3, cx4, cx5⟩, dx0, dx1, dx2, dx3, dx4, dx5⟩ := Kx7.out.of6
  obtain ⟨⟨cy0, cy1, cy2, cy3, cy4, cy5⟩, dy0, dy1, dy2, dy3, dy4, dy5⟩ := Ky7.out.of6
  go_wp2_with fail
  go_ret
  exact ⟨rfl, B7.out⟩
theorem own : ownKnob Try.prog.godebug = none := by kernel_rfl
theorem laidOut : laidOutB Try.prog = true := by kernel_rfl

set_option maxRecDepth 100000 in
theorem opened1 {H : Type} {enc : TypeId × Value → H} {W : World} {base : Nat} {spare : Nat → Bool} {held : Bool} {r : Reach} {b0 : Nat} {v : Value} {d : DataW H} {p : List MemPlace}
    (hv : Value.okWide Try.prog W r b0 41 v) (h : DataW.Trod enc Try.prog W base spare held 41 v d p) : ∃ (x0 : Int) (x1 : Int) (x2 : Bool) (x3 : Bool) (x4 : Int) (x5 : Int), v = .agg #[.int .i64 x0, .int .i64 x1, .bool x2, .bool x3, .int .i64 x4, .int .i64 x5] ∧ (Lit.int .i64 x0).wf = true ∧ (Lit.int .i64 x1).wf = true ∧ True ∧ True ∧ (Lit.int .i64 x4).wf = true ∧ (Lit.int .i64 x5).wf = true := by
  obtain ⟨cs, n, rfl, hl, hf⟩ := open_flat Try.underlying41 (by kernel_rfl) (by kernel_rfl) hv h
  match cs, hl with
  | [c0, c1, c2, c3, c4, c5], _ =>
    obtain ⟨_, t0⟩ := hf 0 _ rfl
    obtain ⟨x0, e0, _, w0⟩ := DataW.trod_int Try.underlying3 t0
    obtain rfl : c0 = .int .i64 x0 := (List.cons.inj e0).1
    obtain ⟨_, t1⟩ := hf 1 _ rfl
    obtain ⟨x1, e1, _, w1⟩ := DataW.trod_int Try.underlying3 t1
    obtain rfl : c1 = .int .i64 x1 := (List.cons.inj e1).1
    obtain ⟨_, t2⟩ := hf 2 _ rfl
    obtain ⟨x2, e2, _⟩ := DataW.trod_bool Try.underlying4 t2
    have w2 := trivial
    obtain rfl : c2 = .bool x2 := (List.cons.inj e2).1
    obtain ⟨_, t3⟩ := hf 3 _ rfl
    obtain ⟨x3, e3, _⟩ := DataW.trod_bool Try.underlying4 t3
    have w3 := trivial
    obtain rfl : c3 = .bool x3 := (List.cons.inj e3).1
    obtain ⟨_, t4⟩ := hf 4 _ rfl
    obtain ⟨x4, e4, _, w4⟩ := DataW.trod_int Try.underlying3 t4
    obtain rfl : c4 = .int .i64 x4 := (List.cons.inj e4).1
    obtain ⟨_, t5⟩ := hf 5 _ rfl
    obtain ⟨x5, e5, _, w5⟩ := DataW.trod_int Try.underlying3 t5
    obtain rfl : c5 = .int .i64 x5 := (List.cons.inj e5).1
    exact ⟨_, _, _, _, _, _, rfl, w0, w1, w2, w3, w4, w5⟩

set_option maxRecDepth 100000 in
theorem lifted (os : Os) (started : os.Started) (H : Type) (enc : TypeId × Value → H) :
    ReturnsInHanded {} Try.checked os 8 .any (Rows.fnExactLearnedOptionsSpec.pre6 enc Try.prog Try.f8 Rows.fnExactLearnedOptionsRow.domain false) (Rows.fnExactLearnedOptionsSpec.post enc Try.prog Try.f8 false true false false) := by
  refine returnsInHanded_of_change (C := Try.checked) own started (by kernel_rfl) Try.func8
    (ChangeSpec.witness6 (enc := enc) (C := Try.checked) false ⟨#[], #[.int .i64 0, .agg #[.int .i64 0, .int .i64 0, .bool false, .bool false, .int .i64 0, .int .i64 0]], []⟩ 8 (by kernel_rfl) (by kernel_rfl) (by kernel_rfl) (by kernel_rfl)) ?_
  intro W base args ds gs before hval0 hW _ _
  have hval : ∀ (j : Nat) t v, Try.f8.params[j]? = some t → args[j]? = some v → Value.okWide Try.prog W .any base t v := hval0
  have hW' := hW
  obtain ⟨p, q, hA0, hV, rfl, _, _⟩ := hW
  have hA : DataW.TrodAll enc Try.prog W 0 (fun _ => true) true Try.f8.params.toList args.toList ds p := hA0
  rw [Try.params8] at hA hval
  obtain ⟨v0, vs0, d0, ds0, p0, q0, hargs, rfl, rfl, h0, r0⟩ := trodAll_cons hA
  obtain ⟨v1, vs1, d1, ds1, p1, q1, rfl, rfl, rfl, h1, r1⟩ := trodAll_cons r0
  obtain ⟨rfl, rfl, rfl⟩ := trodAll_nil r1
  obtain rfl : args = #[v0, v1] := by cases args; simp_all
  obtain ⟨rfl, rfl⟩ := trodVars_none hV
  obtain ⟨a0, rfl, rfl, rfl, w0⟩ := open_int Try.underlying3 (hval 0 3 v0 rfl rfl) h0
  obtain ⟨a1_0, a1_1, a1_2, a1_3, a1_4, a1_5, rfl, w1_0, w1_1, w1_2, w1_3, w1_4, w1_5⟩ := opened1 (hval 1 41 v1 rfl rfl) h1
  have k1 := h1
  have lt1 : ∀ x ∈ p1, x.block < W.heap.size := by obtain ⟨m, hm⟩ := k1; exact DataW.trod_lt m _ _ _ hm
  clear hA0 hval0
  refine (walk a0 a1_0 a1_1 a1_2 a1_3 a1_4 a1_5 w0 w1_0 w1_1 w1_2 w1_3 w1_4 w1_5 W).mono fun e W' ⟨he, bel⟩ => ?_
  subst he
  exact ⟨_, rfl, _, _, _, [], _, [], hW', trodAll_mk1 (shut_bool Try.underlying4 _), (trodAll_cons_mk (shut_int Try.underlying3 w0) (trodAll_cons_mk (Below.trod laidOut (by kernel_rfl) (of_decide_eq_true (by kernel_rfl)) k1 bel lt1) trodAll_mk0)), rfl, bel.frame _, fun h => by cases h⟩

theorem over : Rows.fnExactLearnedOptionsRow.holds Try.pinned (OpenSpec.ofChange Rows.fnExactLearnedOptionsSpec) :=
  OpenClaim.holds_of_wide 8 Try.f8 rfl rfl rfl rfl rfl rfl rfl ⟨rfl, rfl, rfl, rfl, rfl⟩ rfl rfl rfl rfl rfl (by kernel_rfl) Try.func8 (by kernel_rfl)
    (of_decide_eq_true (by kernel_rfl)) (by unfold Func.isWrapper; first | (rw [if_pos (by decide +kernel)]; kernel_rfl) | (rw [if_neg (by decide +kernel)]; exact ⟨rfl, rfl⟩))
    (fun os started H enc _ => lifted os started H enc)

theorem proved : Rows.FnExactLearnedOptionsSaid := over
#print axioms proved
end Go.Proofs.Ytifgaojgnaafbaa.fnExactLearnedOptions
