/- Proved here: for every Sender and every string (a Data or a string longer than 1048576 bytes is not asked) impl.Queued and the model's Queued return the same Sender and the same int; the call returns true for every argument, without condition. -/
import Derived.Test.YtkigkfedkjnkeaaRows
import Derived.Test.YtkigkfedkjnkeaaSndQ
import Derived.Test.YtkigkfedkjnkeaaSenderLaw
import Derived.Test.YtkigkfedkjnkeaaSenderEq
import Derived.Test.YtkigkfedkjnkeaaFlat
import Derived.Test.YtkigkfedkjnkeaaCurA
import Derived.Deep.DeepCutAuto
import Derived.Deep.RegionHeld3
import Derived.ProofKit
import Derived.OpenShut
import Derived.ShutString
import Derived.ChangeOld
import Derived.Below
namespace Go.Proofs.Ytkigkfedkjnkeaa.fnExactQueued
open Go.ChangeShapes Go.WideShapes Go.ChangeAt Go.RowKit Go.Lib

open Go.ChangeMaps (open_string shut_string)

/-- The law's word: true, and what lay before the call lies as it lay. -/
def OkB (w : World) (e : Ending) (w' : World) : Prop := e = .returned (.bool true) ∧ Below w.heap.size w w'

set_option maxRecDepth 100000 in
set_option maxHeartbeats 4000000 in
theorem walk (u : Int) (d : ByteArray) (t : Int) (f : Bool) (g : Bool) (h : Bool) (x : ByteArray) (_ : (Lit.int .i64 u).wf = true) (hd : d.size ≤ maxLen) (_ : (Lit.int .i64 t).wf = true) (_ : True) (_ : True) (_ : True) (_ : x.size ≤ maxLen) (w : World) :
    Calls Try.prog 8 #[.agg #[.int .i64 u, .string d, .int .i64 t, .bool f, .bool g, .bool h], .string x] w (OkB w) := by
  by_cases hx2 : 1048576 < (x.size : Int)
  case pos =>
    go_enter Try.func8, Try.ntmps8
    go_wp2_with fail
    go_ret
    exact ⟨rfl, (Below.refl _ _).alloc (Nat.le_refl _) _⟩
  by_cases hsz : (d.size : Int) ≤ 1048576
  case pos =>
    replace hsz := Lib.hid hsz
    have C1 := (fun w => queuedS u d t f g h x (by omega) w)
    have C2 := (fun w => queuedI u d t f g h x (by omega) w)
    unfold EndQ at C1 C2
    generalize qn ⟨u, d, t, f, g, h⟩ x = n at C1 C2
    obtain ⟨⟨x0, x1, x2, x3, x4, x5⟩, ho⟩ : ∃ o : Snd, queued ⟨u, d, t, f, g, h⟩ x = o := ⟨_, rfl⟩
    rw [ho] at C1 C2
    simp only [Snd.cs] at C1 C2
    replace C1 := Lib.hid C1
    replace C2 := Lib.hid C2
    clear ho
    go_enter Try.func8, Try.ntmps8
    have B0 := Lib.hid (show Below w.heap.size w (w.alloc (.cells #[.int .i64 u, .string d, .int .i64 t, .bool f, .bool g, .bool h] 46)) from ((Below.refl _ w).alloc (by simp) _))
    have Ka0 := Lib.hid (show Blk (w.alloc (.cells #[.int .i64 u, .string d, .int .i64 t, .bool f, .bool g, .bool h] 46)) (w.heap.size) [.int .i64 u, .string d, .int .i64 t, .bool f, .bool g, .bool h] from Blk.new w [.int .i64 u, .string d, .int .i64 t, .bool f, .bool g, .bool h] 46)
    go_wp2_with fail
    change Calls _ _ _ (w.alloc (.cells #[.int .i64 u, .string d, .int .i64 t, .bool f, .bool g, .bool h] 46)) _
    generalize w.alloc (.cells #[.int .i64 u, .string d, .int .i64 t, .bool f, .bool g, .bool h] 46) = v0 at B0 Ka0 ⊢
    generalize hh_a : w.heap.size = g_a at Ka0 ⊢
    have l_a : w.heap.size ≤ g_a := by omega
    clear hh_a
    refine (szSender_yes u d t f g h 1048576 _ (by decide) hsz.out).mono ?_
    rintro e v1 ⟨rfl, hb⟩
    have B1 := Lib.hid (B0.out.trans (hb.mono B0.out.size))
    have Ka1 := Lib.hid (Ka0.out.below hb)
    clear hb B0 Ka0
    have hn : ¬ (1048576 : Int) - d.size < 0 := by have := hsz.out; omega
    obtain ⟨⟨ca0, ca1, ca2, ca3, ca4, ca5⟩, da0, da1, da2, da3, da4, da5⟩ := Ka1.out.of6
    go_wp2_with fail
    clear ca0 ca1 ca2 ca3 ca4 ca5 da0 da1 da2 da3 da4 da5
    refine (toSender_any u d t f g h _).mono ?_
    rintro e v2 ⟨rfl, hb⟩
    have B2 := Lib.hid (B1.out.trans (hb.mono B1.out.size))
    have Ka2 := Lib.hid (Ka1.out.below hb)
    clear hb B1 Ka1
    obtain ⟨⟨ca0, ca1, ca2, ca3, ca4, ca5⟩, da0, da1, da2, da3, da4, da5⟩ := Ka2.out.of6
    go_wp2_with fail
    clear ca0 ca1 ca2 ca3 ca4 ca5 da0 da1 da2 da3 da4 da5
    refine (C1.out _).mono ?_
    rintro e v3 ⟨rfl, hb⟩
    have B3 := Lib.hid (B2.out.trans (hb.mono B2.out.size))
    have Ka3 := Lib.hid (Ka2.out.below hb)
    clear hb B2 Ka2
    have Kxn := Lib.hid (Blk.new v3 [.int .i64 x0, .string x1, .int .i64 x2, .bool x3, .bool x4, .bool x5] 25)
    have l_x : w.heap.size ≤ v3.heap.size := B3.out.size
    have n_a_x : g_a ≠ v3.heap.size := by have h1 := Ka3.out.lt; omega
    have Bn := Lib.hid (B3.out.alloc B3.out.size (.cells #[.int .i64 x0, .string x1, .int .i64 x2, .bool x3, .bool x4, .bool x5] 25))
    have Kan := Lib.hid (Ka3.out.alloc (.cells #[.int .i64 x0, .string x1, .int .i64 x2, .bool x3, .bool x4, .bool x5] 25))
    clear B3 Ka3
    obtain ⟨⟨ca0, ca1, ca2, ca3, ca4, ca5⟩, da0, da1, da2, da3, da4, da5⟩ := Kan.out.of6
    go_wp2_with fail
    clear ca0 ca1 ca2 ca3 ca4 ca5 da0 da1 da2 da3 da4 da5
    change Calls _ _ _ (v3.alloc (.cells #[.int .i64 x0, .string x1, .int .i64 x2, .bool x3, .bool x4, .bool x5] 25)) _
    generalize v3.alloc (.cells #[.int .i64 x0, .string x1, .int .i64 x2, .bool x3, .bool x4, .bool x5] 25) = v4 at Kxn Bn Kan ⊢
    generalize v3.heap.size = g_x at Kxn l_x n_a_x ⊢
    clear v3
    have Ka4 := Kan
    clear Kan
    have Kx4 := Kxn
    clear Kxn
    have B4 := Bn
    clear Bn
    refine (toSender_any u d t f g h _).mono ?_
    rintro e v5 ⟨rfl, hb⟩
    have B5 := Lib.hid (B4.out.trans (hb.mono B4.out.size))
    have Ka5 := Lib.hid (Ka4.out.below hb)
    have Kx5 := Lib.hid (Kx4.out.below hb)
    clear hb B4 Ka4 Kx4
    obtain ⟨⟨ca0, ca1, ca2, ca3, ca4, ca5⟩, da0, da1, da2, da3, da4, da5⟩ := Ka5.out.of6
    obtain ⟨⟨cx0, cx1, cx2, cx3, cx4, cx5⟩, dx0, dx1, dx2, dx3, dx4, dx5⟩ := Kx5.out.of6
    go_wp2_with fail
    clear ca0 ca1 ca2 ca3 ca4 ca5 da0 da1 da2 da3 da4 da5 cx0 cx1 cx2 cx3 cx4 cx5 dx0 dx1 dx2 dx3 dx4 dx5
    refine (C2.out _).mono ?_
    rintro e v6 ⟨rfl, hb⟩
    have B6 := Lib.hid (B5.out.trans (hb.mono B5.out.size))
    have Ka6 := Lib.hid (Ka5.out.below hb)
    have Kx6 := Lib.hid (Kx5.out.below hb)
    clear hb B5 Ka5 Kx5
    have Kyn := Lib.hid (Blk.new v6 [.int .i64 x0, .string x1, .int .i64 x2, .bool x3, .bool x4, .bool x5] 25)
    have l_y : w.heap.size ≤ v6.heap.size := B6.out.size
    have n_a_y : g_a ≠ v6.heap.size := by have h1 := Ka6.out.lt; omega
    have n_x_y : g_x ≠ v6.heap.size := by have h1 := Kx6.out.lt; omega
    have Bn := Lib.hid (B6.out.alloc B6.out.size (.cells #[.int .i64 x0, .string x1, .int .i64 x2, .bool x3, .bool x4, .bool x5] 25))
    have Kan := Lib.hid (Ka6.out.alloc (.cells #[.int .i64 x0, .string x1, .int .i64 x2, .bool x3, .bool x4, .bool x5] 25))
    have Kxn := Lib.hid (Kx6.out.alloc (.cells #[.int .i64 x0, .string x1, .int .i64 x2, .bool x3, .bool x4, .bool x5] 25))
    clear B6 Ka6 Kx6
    obtain ⟨⟨ca0, ca1, ca2, ca3, ca4, ca5⟩, da0, da1, da2, da3, da4, da5⟩ := Kan.out.of6
    obtain ⟨⟨cx0, cx1, cx2, cx3, cx4, cx5⟩, dx0, dx1, dx2, dx3, dx4, dx5⟩ := Kxn.out.of6
    go_wp2_with fail
    clear ca0 ca1 ca2 ca3 ca4 ca5 da0 da1 da2 da3 da4 da5 cx0 cx1 cx2 cx3 cx4 cx5 dx0 dx1 dx2 dx3 dx4 dx5
    change Calls _ _ _ (v6.alloc (.cells #[.int .i64 x0, .string x1, .int .i64 x2, .bool x3, .bool x4, .bool x5] 25)) _
    generalize v6.alloc (.cells #[.int .i64 x0, .string x1, .int .i64 x2, .bool x3, .bool x4, .bool x5] 25) = v7 at Kyn Bn Kan Kxn ⊢
    generalize v6.heap.size = g_y at Kyn l_y n_a_y n_x_y ⊢
    clear v6
    have Ka7 := Kan
    clear Kan
    have Kx7 := Kxn
    clear Kxn
    have Ky7 := Kyn
    clear Kyn
    have B7 := Bn
    clear Bn
    refine (eqSender_self x0 x1 x2 x3 x4 x5 _).mono ?_
    rintro e v8 ⟨rfl, hb⟩
    have B8 := Lib.hid (B7.out.trans (hb.mono B7.out.size))
    have Ka8 := Lib.hid (Ka7.out.below hb)
    have Kx8 := Lib.hid (Kx7.out.below hb)
    have Ky8 := Lib.hid (Ky7.out.below hb)
    clear hb B7 Ka7 Kx7 Ky7
    obtain ⟨⟨ca0, ca1, ca2, ca3, ca4, ca5⟩, da0, da1, da2, da3, da4, da5⟩ := Ka8.out.of6
    obtain ⟨⟨cx0, cx1, cx2, cx3, cx4, cx5⟩, dx0, dx1, dx2, dx3, dx4, dx5⟩ := Kx8.out.of6
    obtain ⟨⟨cy0, cy1, cy2, cy3, cy4, cy5⟩, dy0, dy1, dy2, dy3, dy4, dy5⟩ := Ky8.out.of6
    go_wp2_with fail
    go_ret
    exact ⟨rfl, B8.out⟩
  case neg =>
    go_enter Try.func8, Try.ntmps8
    have B0 := Lib.hid (show Below w.heap.size w (w.alloc (.cells #[.int .i64 u, .string d, .int .i64 t, .bool f, .bool g, .bool h] 46)) from ((Below.refl _ w).alloc (by simp) _))
    have Ka0 := Lib.hid (show Blk (w.alloc (.cells #[.int .i64 u, .string d, .int .i64 t, .bool f, .bool g, .bool h] 46)) (w.heap.size) [.int .i64 u, .string d, .int .i64 t, .bool f, .bool g, .bool h] from Blk.new w [.int .i64 u, .string d, .int .i64 t, .bool f, .bool g, .bool h] 46)
    go_wp2_with fail
    change Calls _ _ _ (w.alloc (.cells #[.int .i64 u, .string d, .int .i64 t, .bool f, .bool g, .bool h] 46)) _
    generalize w.alloc (.cells #[.int .i64 u, .string d, .int .i64 t, .bool f, .bool g, .bool h] 46) = v0 at B0 Ka0 ⊢
    generalize hh_a : w.heap.size = g_a at Ka0 ⊢
    have l_a : w.heap.size ≤ g_a := by omega
    clear hh_a
    refine (szSender_no u d t f g h 1048576 _ (by decide) hd (by omega)).mono ?_
    rintro e v1 ⟨rfl, hb⟩
    have B1 := Lib.hid (B0.out.trans (hb.mono B0.out.size))
    have Ka1 := Lib.hid (Ka0.out.below hb)
    clear hb B0 Ka0
    clear hsz
    obtain ⟨⟨ca0, ca1, ca2, ca3, ca4, ca5⟩, da0, da1, da2, da3, da4, da5⟩ := Ka1.out.of6
    go_wp2_with fail
    go_ret
    exact ⟨rfl, B1.out⟩
theorem own : ownKnob Try.prog.godebug = none := by kernel_rfl
theorem laidOut : laidOutB Try.prog = true := by kernel_rfl

set_option maxRecDepth 100000 in
theorem opened0 {H : Type} {enc : TypeId × Value → H} {W : World} {base : Nat} {spare : Nat → Bool} {held : Bool} {r : Reach} {b0 : Nat} {v : Value} {d : DataW H} {p : List MemPlace}
    (hv : Value.okWide Try.prog W r b0 46 v) (h : DataW.Trod enc Try.prog W base spare held 46 v d p) : ∃ (x0 : Int) (x1 : ByteArray) (x2 : Int) (x3 : Bool) (x4 : Bool) (x5 : Bool), v = .agg #[.int .i64 x0, .string x1, .int .i64 x2, .bool x3, .bool x4, .bool x5] ∧ (Lit.int .i64 x0).wf = true ∧ x1.size ≤ maxLen ∧ (Lit.int .i64 x2).wf = true ∧ True ∧ True ∧ True := by
  obtain ⟨cs, n, rfl, hl, hf⟩ := open_flat Try.underlying46 (by kernel_rfl) (by kernel_rfl) hv h
  match cs, hl with
  | [c0, c1, c2, c3, c4, c5], _ =>
    obtain ⟨_, t0⟩ := hf 0 _ rfl
    obtain ⟨x0, e0, _, w0⟩ := DataW.trod_int Try.underlying3 t0
    obtain rfl : c0 = .int .i64 x0 := (List.cons.inj e0).1
    obtain ⟨_, t1⟩ := hf 1 _ rfl
    obtain ⟨x1, e1, _, w1⟩ := DataW.trod_string Try.underlying9 t1
    obtain rfl : c1 = .string x1 := (List.cons.inj e1).1
    obtain ⟨_, t2⟩ := hf 2 _ rfl
    obtain ⟨x2, e2, _, w2⟩ := DataW.trod_int Try.underlying3 t2
    obtain rfl : c2 = .int .i64 x2 := (List.cons.inj e2).1
    obtain ⟨_, t3⟩ := hf 3 _ rfl
    obtain ⟨x3, e3, _⟩ := DataW.trod_bool Try.underlying4 t3
    have w3 := trivial
    obtain rfl : c3 = .bool x3 := (List.cons.inj e3).1
    obtain ⟨_, t4⟩ := hf 4 _ rfl
    obtain ⟨x4, e4, _⟩ := DataW.trod_bool Try.underlying4 t4
    have w4 := trivial
    obtain rfl : c4 = .bool x4 := (List.cons.inj e4).1
    obtain ⟨_, t5⟩ := hf 5 _ rfl
    obtain ⟨x5, e5, _⟩ := DataW.trod_bool Try.underlying4 t5
    have w5 := trivial
    obtain rfl : c5 = .bool x5 := (List.cons.inj e5).1
    exact ⟨_, _, _, _, _, _, rfl, w0, w1, w2, w3, w4, w5⟩

set_option maxRecDepth 100000 in
theorem lifted (os : Os) (started : os.Started) (H : Type) (enc : TypeId × Value → H) :
    ReturnsInHanded {} Try.checked os 8 .any (Rows.fnExactQueuedSpec.pre6 enc Try.prog Try.f8 Rows.fnExactQueuedRow.domain false) (Rows.fnExactQueuedSpec.post enc Try.prog Try.f8 false true false false) := by
  refine returnsInHanded_of_change (C := Try.checked) own started (by kernel_rfl) Try.func8
    (ChangeSpec.witness6 (enc := enc) (C := Try.checked) false ⟨#[], #[.agg #[.int .i64 0, .string ByteArray.empty, .int .i64 0, .bool false, .bool false, .bool false], .string ByteArray.empty], []⟩ 8 (by kernel_rfl) (by kernel_rfl) (by kernel_rfl) (by kernel_rfl)) ?_
  intro W base args ds gs before hval0 hW _ _
  have hval : ∀ (j : Nat) t v, Try.f8.params[j]? = some t → args[j]? = some v → Value.okWide Try.prog W .any base t v := hval0
  have hW' := hW
  obtain ⟨p, q, hA0, hV, rfl, _, _⟩ := hW
  have hA : DataW.TrodAll enc Try.prog W 0 (fun _ => true) true Try.f8.params.toList args.toList ds p := hA0
  rw [Try.params8] at hA hval
  obtain ⟨v0, vs0, d0, ds0, p0, q0, hargs, rfl, rfl, h0, r0⟩ := trodAll_cons hA
  obtain ⟨v1, vs1, d1, ds1, p1, q1, rfl, rfl, rfl, h1, r1⟩ := trodAll_cons r0
  obtain ⟨rfl, rfl, rfl⟩ := trodAll_nil r1
  obtain rfl : args = #[v0, v1] := by cases args; simp_all
  obtain ⟨rfl, rfl⟩ := trodVars_none hV
  obtain ⟨a0_0, a0_1, a0_2, a0_3, a0_4, a0_5, rfl, w0_0, w0_1, w0_2, w0_3, w0_4, w0_5⟩ := opened0 (hval 0 46 v0 rfl rfl) h0
  have k0 := h0
  have lt0 : ∀ x ∈ p0, x.block < W.heap.size := by obtain ⟨m, hm⟩ := k0; exact DataW.trod_lt m _ _ _ hm
  obtain ⟨a1, rfl, rfl, rfl, w1⟩ := open_string Try.underlying9 (hval 1 9 v1 rfl rfl) h1
  clear hA0 hval0
  refine (walk a0_0 a0_1 a0_2 a0_3 a0_4 a0_5 a1 w0_0 w0_1 w0_2 w0_3 w0_4 w0_5 w1 W).mono fun e W' ⟨he, bel⟩ => ?_
  subst he
  exact ⟨_, rfl, _, _, _, [], _, [], hW', trodAll_mk1 (shut_bool Try.underlying4 _), (trodAll_cons_mk (Below.trod laidOut (by kernel_rfl) (of_decide_eq_true (by kernel_rfl)) k0 bel lt0) (trodAll_cons_mk (shut_string Try.underlying9 w1) trodAll_mk0)), rfl, bel.frame _, fun h => by cases h⟩

theorem over : Rows.fnExactQueuedRow.holds Try.pinned (OpenSpec.ofChange Rows.fnExactQueuedSpec) :=
  OpenClaim.holds_of_wide 8 Try.f8 rfl rfl rfl rfl rfl rfl rfl ⟨rfl, rfl, rfl, rfl, rfl⟩ rfl rfl rfl rfl rfl (by kernel_rfl) Try.func8 (by kernel_rfl)
    (of_decide_eq_true (by kernel_rfl)) (by unfold Func.isWrapper; first | (rw [if_pos (by decide +kernel)]; kernel_rfl) | (rw [if_neg (by decide +kernel)]; exact ⟨rfl, rfl⟩))
    (fun os started H enc _ => lifted os started H enc)

theorem proved : Rows.FnExactQueuedSaid := over
#print axioms proved
end Go.Proofs.Ytkigkfedkjnkeaa.fnExactQueued
