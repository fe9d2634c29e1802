/- Proved here: for every int and every Segment (a Body longer than 1048576 bytes is not asked) impl.TupleOf and the model's TupleOf return the same Tuple; the call returns true for every argument, without condition. -/
import Derived.Test.YteciihlmoehejaaRows
import Derived.Test.YteciihlmoehejaaTupOf
import Derived.Test.YteciihlmoehejaaTupleEq
import Derived.Test.YteciihlmoehejaaSegmentLaw
import Derived.Test.YteciihlmoehejaaNest
import Derived.Test.YteciihlmoehejaaKit
import Derived.ProofKit
import Derived.OpenShut
import Derived.ShutString
import Derived.ChangeOld
import Derived.Below
namespace Go.Proofs.Yteciihlmoehejaa.fnExactTupleOf
open Go.ChangeShapes Go.WideShapes Go.ChangeAt Go.RowKit

set_option maxRecDepth 100000 in
set_option maxHeartbeats 4000000 in
theorem walk (x : Int) (p d q a g n : Int) (m c : Int) (k t : Bool) (v u : Int) (b : ByteArray) (_ : (Lit.int .i64 x).wf = true) (_ : (Lit.int .i64 p).wf = true) (_ : (Lit.int .i64 d).wf = true) (_ : (Lit.int .i64 q).wf = true) (_ : (Lit.int .i64 a).wf = true) (_ : (Lit.int .i64 g).wf = true) (_ : (Lit.int .i64 n).wf = true) (_ : (Lit.int .i64 m).wf = true) (_ : (Lit.int .i64 c).wf = true) (_ : True) (_ : True) (_ : (Lit.int .i64 v).wf = true) (_ : (Lit.int .i64 u).wf = true) (hb : b.size ≤ maxLen) (w : World) :
    Calls Try.prog 6 #[.int .i64 x, .agg #[.int .i64 p, .int .i64 d, .int .i64 q, .int .i64 a, .int .i64 g, .int .i64 n, .int .i64 m, .int .i64 c, .bool k, .bool t, .int .i64 v, .int .i64 u, .string b]] w fun e w' => e = .returned (.bool true) ∧ Below w.heap.size w w' := by
  by_cases h : (b.size : Int) ≤ 1048576
  · have Z := Lib.hid (fun w => szSegment_yes p d q a g n m c k t v u b 1048576 w (by omega) h)
    have T := Lib.hid (toSegment_any p d q a g n m c k t v u b)
    have C1 := Lib.hid (tupleOfS x p d q a g n m c k t v u b)
    have C2 := Lib.hid (tupleOfI x p d q a g n m c k t v u b)
    have E := Lib.hid (eqTuple_self x p d)
    have hn : (0 : Int) ≤ 1048576 - b.size := by omega
    clear h
    go_enter Try.func6, Try.ntmps6
    go_wp2_with fail
    refine (Z.out _).mono ?_
    rintro e w1 ⟨rfl, hb1⟩
    have B1 := Lib.hid (((Below.refl w.heap.size w).alloc (Nat.le_refl _) _).trans (hb1.mono (by simp)))
    have K1 := Lib.hid ((HasC.new w #[.int .i64 p, .int .i64 d, .int .i64 q, .int .i64 a, .int .i64 g, .int .i64 n, .int .i64 m, .int .i64 c, .bool k, .bool t, .int .i64 v, .int .i64 u, .string b] 39).keep hb1)
    clear hb1
    have k0 := K1.out.at 0 rfl
    have k1 := K1.out.at 1 rfl
    have k2 := K1.out.at 2 rfl
    have k3 := K1.out.at 3 rfl
    have k4 := K1.out.at 4 rfl
    have k5 := K1.out.at 5 rfl
    have k6 := K1.out.at 6 rfl
    have k7 := K1.out.at 7 rfl
    have k8 := K1.out.at 8 rfl
    have k9 := K1.out.at 9 rfl
    have k10 := K1.out.at 10 rfl
    have k11 := K1.out.at 11 rfl
    have k12 := K1.out.at 12 rfl
    have kg := K1.out.1
    go_wp2_with fail
    refine (T.out _).mono ?_
    rintro e w2 ⟨rfl, hb2⟩
    have B2 := Lib.hid (B1.out.trans (hb2.mono B1.out.size))
    have K2 := Lib.hid (K1.out.keep hb2)
    clear hb2 B1 K1 k0 k1 k2 k3 k4 k5 k6 k7 k8 k9 k10 k11 k12 kg
    go_wp2_with fail
    refine (C1.out _).mono ?_
    rintro e w3 ⟨rfl, hb3⟩
    have B3 := Lib.hid (B2.out.trans (hb3.mono B2.out.size))
    have K3 := Lib.hid (K2.out.keep hb3)
    clear hb3 B2 K2
    have k0 := K3.out.at 0 rfl
    have k1 := K3.out.at 1 rfl
    have k2 := K3.out.at 2 rfl
    have k3 := K3.out.at 3 rfl
    have k4 := K3.out.at 4 rfl
    have k5 := K3.out.at 5 rfl
    have k6 := K3.out.at 6 rfl
    have k7 := K3.out.at 7 rfl
    have k8 := K3.out.at 8 rfl
    have k9 := K3.out.at 9 rfl
    have k10 := K3.out.at 10 rfl
    have k11 := K3.out.at 11 rfl
    have k12 := K3.out.at 12 rfl
    have kg := K3.out.1
    have hn1 : ¬ w3.heap.size = w.heap.size := by omega
    have hn2 : ¬ w.heap.size = w3.heap.size := by omega
    go_wp2_with fail
    clear hn1 hn2 k0 k1 k2 k3 k4 k5 k6 k7 k8 k9 k10 k11 k12 kg
    have B3' := Lib.hid (B3.out.alloc B3.out.size (.cells #[.int .i64 x, .int .i64 p, .int .i64 d] 25))
    have K3' := Lib.hid (K3.out.alloc (.cells #[.int .i64 x, .int .i64 p, .int .i64 d] 25))
    have L3 := Lib.hid (HasC.new w3 #[.int .i64 x, .int .i64 p, .int .i64 d] 25)
    have hl := L3.out.1
    have hs3 := B3.out.size
    generalize hw : w3.alloc (.cells #[.int .i64 x, .int .i64 p, .int .i64 d] 25) = w3' at B3' K3' L3 hl ⊢
    generalize w3.heap.size = g at L3 hl hs3 ⊢
    refine (T.out _).mono ?_
    rintro e w4 ⟨rfl, hb4⟩
    have B4 := Lib.hid (B3'.out.trans (hb4.mono B3'.out.size))
    have L4 := Lib.hid (L3.out.keep hb4)
    clear hb4 B3 B3' K3 K3' L3 hw hl
    go_wp2_with fail
    refine (C2.out _).mono ?_
    rintro e w5 ⟨rfl, hb5⟩
    have B5 := Lib.hid (B4.out.trans (hb5.mono B4.out.size))
    have L5 := Lib.hid (L4.out.keep hb5)
    clear hb5 B4 L4
    have hne := L5.out.1
    have hne2 : ¬ w5.heap.size = g := by omega
    have hne3 : ¬ g = w5.heap.size := by omega
    have c0 := L5.out.at 0 rfl
    have c1 := L5.out.at 1 rfl
    have c2 := L5.out.at 2 rfl
    go_wp2_with fail
    refine (E.out _).mono ?_
    rintro e w6 ⟨rfl, hb6⟩
    have B6 := Lib.hid ((B5.out.alloc B5.out.size (.cells #[.int .i64 x, .int .i64 p, .int .i64 d] 25)).trans (hb6.mono (Nat.le_trans B5.out.size (by simp))))
    clear hb6 c0 c1 c2
    go_wp2_with fail
    go_ret
    exact ⟨rfl, B6.out⟩
  · have Z := Lib.hid (fun w => szSegment_no p d q a g n m c k t v u b 1048576 w (by omega) hb (by omega))
    clear h
    go_enter Try.func6, Try.ntmps6
    go_wp2_with fail
    refine (Z.out _).mono ?_
    rintro e w1 ⟨rfl, hb1⟩
    have B1 := Lib.hid (((Below.refl w.heap.size w).alloc (Nat.le_refl _) _).trans (hb1.mono (by simp)))
    clear hb1
    go_wp2
    go_ret
    exact ⟨rfl, B1.out⟩
theorem own : ownKnob Try.prog.godebug = none := by kernel_rfl
theorem laidOut : laidOutB Try.prog = true := by kernel_rfl
theorem cells3 : Try.prog.cellsOf 3 = 1 := by kernel_rfl
theorem cells4 : Try.prog.cellsOf 4 = 1 := by kernel_rfl
theorem cells9 : Try.prog.cellsOf 9 = 1 := by kernel_rfl
theorem cells37 : Try.prog.cellsOf 37 = 6 := by kernel_rfl
theorem cells39 : Try.prog.cellsOf 39 = 13 := by kernel_rfl

theorem opened1 {H : Type} {enc : TypeId × Value → H} {W : World} {base : Nat} {spare : Nat → Bool} {held : Bool} {r : Reach} {b0 : Nat} {v : Value} {d : DataW H} {p : List MemPlace}
    (hv : Value.okWide Try.prog W r b0 39 v) (h : DataW.Trod enc Try.prog W base spare held 39 v d p) : ∃ (x0 : Int) (x1 : Int) (x2 : Int) (x3 : Int) (x4 : Int) (x5 : Int) (x6 : Int) (x7 : Int) (x8 : Bool) (x9 : Bool) (x10 : Int) (x11 : Int) (x12 : ByteArray), v = .agg #[.int .i64 x0, .int .i64 x1, .int .i64 x2, .int .i64 x3, .int .i64 x4, .int .i64 x5, .int .i64 x6, .int .i64 x7, .bool x8, .bool x9, .int .i64 x10, .int .i64 x11, .string x12] ∧ (Lit.int .i64 x0).wf = true ∧ (Lit.int .i64 x1).wf = true ∧ (Lit.int .i64 x2).wf = true ∧ (Lit.int .i64 x3).wf = true ∧ (Lit.int .i64 x4).wf = true ∧ (Lit.int .i64 x5).wf = true ∧ (Lit.int .i64 x6).wf = true ∧ (Lit.int .i64 x7).wf = true ∧ True ∧ True ∧ (Lit.int .i64 x10).wf = true ∧ (Lit.int .i64 x11).wf = true ∧ x12.size ≤ maxLen := by
  obtain ⟨cs, n, rfl, hl, hf⟩ := open_nest Try.underlying39 hv h
  rw [cells39] at hl
  match cs, hl with
  | [c0, c1, c2, c3, c4, c5, c6, c7, c8, c9, c10, c11, c12], _ =>
    obtain ⟨_, t0_0⟩ := hf 0 _ rfl
    replace t0_0 : DataW.trod enc Try.prog W base spare held _ 3 (([c0, c1, c2, c3, c4, c5, c6, c7, c8, c9, c10, c11, c12].drop 0).take (Try.prog.cellsOf 3)) = some _ := t0_0
    rw [cells3] at t0_0
    replace t0_0 : DataW.trod enc Try.prog W base spare held _ 3 [c0] = some _ := t0_0
    obtain ⟨_, t0_1⟩ := hf 1 _ rfl
    replace t0_1 : DataW.trod enc Try.prog W base spare held _ 3 (([c0, c1, c2, c3, c4, c5, c6, c7, c8, c9, c10, c11, c12].drop 1).take (Try.prog.cellsOf 3)) = some _ := t0_1
    rw [cells3] at t0_1
    replace t0_1 : DataW.trod enc Try.prog W base spare held _ 3 [c1] = some _ := t0_1
    obtain ⟨_, t0_2⟩ := hf 2 _ rfl
    replace t0_2 : DataW.trod enc Try.prog W base spare held _ 3 (([c0, c1, c2, c3, c4, c5, c6, c7, c8, c9, c10, c11, c12].drop 2).take (Try.prog.cellsOf 3)) = some _ := t0_2
    rw [cells3] at t0_2
    replace t0_2 : DataW.trod enc Try.prog W base spare held _ 3 [c2] = some _ := t0_2
    obtain ⟨_, t0_3⟩ := hf 3 _ rfl
    replace t0_3 : DataW.trod enc Try.prog W base spare held _ 3 (([c0, c1, c2, c3, c4, c5, c6, c7, c8, c9, c10, c11, c12].drop 3).take (Try.prog.cellsOf 3)) = some _ := t0_3
    rw [cells3] at t0_3
    replace t0_3 : DataW.trod enc Try.prog W base spare held _ 3 [c3] = some _ := t0_3
    obtain ⟨_, t0_4⟩ := hf 4 _ rfl
    replace t0_4 : DataW.trod enc Try.prog W base spare held _ 3 (([c0, c1, c2, c3, c4, c5, c6, c7, c8, c9, c10, c11, c12].drop 4).take (Try.prog.cellsOf 3)) = some _ := t0_4
    rw [cells3] at t0_4
    replace t0_4 : DataW.trod enc Try.prog W base spare held _ 3 [c4] = some _ := t0_4
    obtain ⟨_, t0_5⟩ := hf 5 _ rfl
    replace t0_5 : DataW.trod enc Try.prog W base spare held _ 3 (([c0, c1, c2, c3, c4, c5, c6, c7, c8, c9, c10, c11, c12].drop 5).take (Try.prog.cellsOf 3)) = some _ := t0_5
    rw [cells3] at t0_5
    replace t0_5 : DataW.trod enc Try.prog W base spare held _ 3 [c5] = some _ := t0_5
    obtain ⟨_, t0_6⟩ := hf 6 _ rfl
    replace t0_6 : DataW.trod enc Try.prog W base spare held _ 37 (([c0, c1, c2, c3, c4, c5, c6, c7, c8, c9, c10, c11, c12].drop 6).take (Try.prog.cellsOf 37)) = some _ := t0_6
    rw [cells37] at t0_6
    replace t0_6 : DataW.trod enc Try.prog W base spare held _ 37 [c6, c7, c8, c9, c10, c11] = some _ := t0_6
    obtain ⟨_, _, h1_6⟩ := trod_nest Try.underlying37 t0_6
    obtain ⟨_, t1_6⟩ := h1_6 0 _ rfl
    replace t1_6 : DataW.trod enc Try.prog W base spare held _ 3 (([c6, c7, c8, c9, c10, c11].drop 0).take (Try.prog.cellsOf 3)) = some _ := t1_6
    rw [cells3] at t1_6
    replace t1_6 : DataW.trod enc Try.prog W base spare held _ 3 [c6] = some _ := t1_6
    obtain ⟨_, t1_7⟩ := h1_6 1 _ rfl
    replace t1_7 : DataW.trod enc Try.prog W base spare held _ 3 (([c6, c7, c8, c9, c10, c11].drop 1).take (Try.prog.cellsOf 3)) = some _ := t1_7
    rw [cells3] at t1_7
    replace t1_7 : DataW.trod enc Try.prog W base spare held _ 3 [c7] = some _ := t1_7
    obtain ⟨_, t1_8⟩ := h1_6 2 _ rfl
    replace t1_8 : DataW.trod enc Try.prog W base spare held _ 4 (([c6, c7, c8, c9, c10, c11].drop 2).take (Try.prog.cellsOf 4)) = some _ := t1_8
    rw [cells4] at t1_8
    replace t1_8 : DataW.trod enc Try.prog W base spare held _ 4 [c8] = some _ := t1_8
    obtain ⟨_, t1_9⟩ := h1_6 3 _ rfl
    replace t1_9 : DataW.trod enc Try.prog W base spare held _ 4 (([c6, c7, c8, c9, c10, c11].drop 3).take (Try.prog.cellsOf 4)) = some _ := t1_9
    rw [cells4] at t1_9
    replace t1_9 : DataW.trod enc Try.prog W base spare held _ 4 [c9] = some _ := t1_9
    obtain ⟨_, t1_10⟩ := h1_6 4 _ rfl
    replace t1_10 : DataW.trod enc Try.prog W base spare held _ 3 (([c6, c7, c8, c9, c10, c11].drop 4).take (Try.prog.cellsOf 3)) = some _ := t1_10
    rw [cells3] at t1_10
    replace t1_10 : DataW.trod enc Try.prog W base spare held _ 3 [c10] = some _ := t1_10
    obtain ⟨_, t1_11⟩ := h1_6 5 _ rfl
    replace t1_11 : DataW.trod enc Try.prog W base spare held _ 3 (([c6, c7, c8, c9, c10, c11].drop 5).take (Try.prog.cellsOf 3)) = some _ := t1_11
    rw [cells3] at t1_11
    replace t1_11 : DataW.trod enc Try.prog W base spare held _ 3 [c11] = some _ := t1_11
    obtain ⟨_, t0_12⟩ := hf 7 _ rfl
    replace t0_12 : DataW.trod enc Try.prog W base spare held _ 9 (([c0, c1, c2, c3, c4, c5, c6, c7, c8, c9, c10, c11, c12].drop 12).take (Try.prog.cellsOf 9)) = some _ := t0_12
    rw [cells9] at t0_12
    replace t0_12 : DataW.trod enc Try.prog W base spare held _ 9 [c12] = some _ := t0_12
    obtain ⟨x0, e0, _, w0⟩ := DataW.trod_int Try.underlying3 t0_0
    obtain rfl : c0 = .int .i64 x0 := (List.cons.inj e0).1
    obtain ⟨x1, e1, _, w1⟩ := DataW.trod_int Try.underlying3 t0_1
    obtain rfl : c1 = .int .i64 x1 := (List.cons.inj e1).1
    obtain ⟨x2, e2, _, w2⟩ := DataW.trod_int Try.underlying3 t0_2
    obtain rfl : c2 = .int .i64 x2 := (List.cons.inj e2).1
    obtain ⟨x3, e3, _, w3⟩ := DataW.trod_int Try.underlying3 t0_3
    obtain rfl : c3 = .int .i64 x3 := (List.cons.inj e3).1
    obtain ⟨x4, e4, _, w4⟩ := DataW.trod_int Try.underlying3 t0_4
    obtain rfl : c4 = .int .i64 x4 := (List.cons.inj e4).1
    obtain ⟨x5, e5, _, w5⟩ := DataW.trod_int Try.underlying3 t0_5
    obtain rfl : c5 = .int .i64 x5 := (List.cons.inj e5).1
    obtain ⟨x6, e6, _, w6⟩ := DataW.trod_int Try.underlying3 t1_6
    obtain rfl : c6 = .int .i64 x6 := (List.cons.inj e6).1
    obtain ⟨x7, e7, _, w7⟩ := DataW.trod_int Try.underlying3 t1_7
    obtain rfl : c7 = .int .i64 x7 := (List.cons.inj e7).1
    obtain ⟨x8, e8, _⟩ := DataW.trod_bool Try.underlying4 t1_8
    have w8 := trivial
    obtain rfl : c8 = .bool x8 := (List.cons.inj e8).1
    obtain ⟨x9, e9, _⟩ := DataW.trod_bool Try.underlying4 t1_9
    have w9 := trivial
    obtain rfl : c9 = .bool x9 := (List.cons.inj e9).1
    obtain ⟨x10, e10, _, w10⟩ := DataW.trod_int Try.underlying3 t1_10
    obtain rfl : c10 = .int .i64 x10 := (List.cons.inj e10).1
    obtain ⟨x11, e11, _, w11⟩ := DataW.trod_int Try.underlying3 t1_11
    obtain rfl : c11 = .int .i64 x11 := (List.cons.inj e11).1
    obtain ⟨x12, e12, _, w12⟩ := DataW.trod_string Try.underlying9 t0_12
    obtain rfl : c12 = .string x12 := (List.cons.inj e12).1
    exact ⟨_, _, _, _, _, _, _, _, _, _, _, _, _, rfl, w0, w1, w2, w3, w4, w5, w6, w7, w8, w9, w10, w11, w12⟩

set_option maxRecDepth 100000 in
theorem lifted (os : Os) (started : os.Started) (H : Type) (enc : TypeId × Value → H) :
    ReturnsInHanded {} Try.checked os 6 .any (Rows.fnExactTupleOfSpec.pre6 enc Try.prog Try.f6 Rows.fnExactTupleOfRow.domain false) (Rows.fnExactTupleOfSpec.post enc Try.prog Try.f6 false true false false) := by
  refine returnsInHanded_of_change (C := Try.checked) own started (by kernel_rfl) Try.func6
    (ChangeSpec.witness6 (enc := enc) (C := Try.checked) false ⟨#[], #[.int .i64 0, .agg #[.int .i64 0, .int .i64 0, .int .i64 0, .int .i64 0, .int .i64 0, .int .i64 0, .int .i64 0, .int .i64 0, .bool false, .bool false, .int .i64 0, .int .i64 0, .string ByteArray.empty]], []⟩ 8 (by kernel_rfl) (by kernel_rfl) (by kernel_rfl) (by kernel_rfl)) ?_
  intro W base args ds gs before hval0 hW _ _
  have hval : ∀ (j : Nat) t v, Try.f6.params[j]? = some t → args[j]? = some v → Value.okWide Try.prog W .any base t v := hval0
  have hW' := hW
  obtain ⟨p, q, hA0, hV, rfl, _, _⟩ := hW
  have hA : DataW.TrodAll enc Try.prog W 0 (fun _ => true) true Try.f6.params.toList args.toList ds p := hA0
  rw [Try.params6] at hA hval
  obtain ⟨v0, vs0, d0, ds0, p0, q0, hargs, rfl, rfl, h0, r0⟩ := trodAll_cons hA
  obtain ⟨v1, vs1, d1, ds1, p1, q1, rfl, rfl, rfl, h1, r1⟩ := trodAll_cons r0
  obtain ⟨rfl, rfl, rfl⟩ := trodAll_nil r1
  obtain rfl : args = #[v0, v1] := by cases args; simp_all
  obtain ⟨rfl, rfl⟩ := trodVars_none hV
  obtain ⟨a0, rfl, rfl, rfl, w0⟩ := open_int Try.underlying3 (hval 0 3 v0 rfl rfl) h0
  obtain ⟨a1_0, a1_1, a1_2, a1_3, a1_4, a1_5, a1_6, a1_7, a1_8, a1_9, a1_10, a1_11, a1_12, rfl, w1_0, w1_1, w1_2, w1_3, w1_4, w1_5, w1_6, w1_7, w1_8, w1_9, w1_10, w1_11, w1_12⟩ := opened1 (hval 1 39 v1 rfl rfl) h1
  have k1 := h1
  have lt1 : ∀ x ∈ p1, x.block < W.heap.size := by obtain ⟨m, hm⟩ := k1; exact DataW.trod_lt m _ _ _ hm
  clear hA0 hval0
  refine (walk a0 a1_0 a1_1 a1_2 a1_3 a1_4 a1_5 a1_6 a1_7 a1_8 a1_9 a1_10 a1_11 a1_12 w0 w1_0 w1_1 w1_2 w1_3 w1_4 w1_5 w1_6 w1_7 w1_8 w1_9 w1_10 w1_11 w1_12 W).mono fun e W' ⟨he, bel⟩ => ?_
  subst he
  exact ⟨_, rfl, _, _, _, [], _, [], hW', trodAll_mk1 (shut_bool Try.underlying4 _), (trodAll_cons_mk (shut_int Try.underlying3 w0) (trodAll_cons_mk (Below.trod laidOut (by kernel_rfl) (of_decide_eq_true (by kernel_rfl)) k1 bel lt1) trodAll_mk0)), rfl, bel.frame _, fun h => by cases h⟩

theorem over : Rows.fnExactTupleOfRow.holds Try.pinned (OpenSpec.ofChange Rows.fnExactTupleOfSpec) :=
  OpenClaim.holds_of_wide 6 Try.f6 rfl rfl rfl rfl rfl rfl rfl ⟨rfl, rfl, rfl, rfl, rfl⟩ rfl rfl rfl rfl rfl (by kernel_rfl) Try.func6 (by kernel_rfl)
    (of_decide_eq_true (by kernel_rfl)) (by unfold Func.isWrapper; first | (rw [if_pos (by decide +kernel)]; kernel_rfl) | (rw [if_neg (by decide +kernel)]; exact ⟨rfl, rfl⟩))
    (fun os started H enc _ => lifted os started H enc)

theorem proved : Rows.FnExactTupleOfSaid := over
#print axioms proved
end Go.Proofs.Yteciihlmoehejaa.fnExactTupleOf
