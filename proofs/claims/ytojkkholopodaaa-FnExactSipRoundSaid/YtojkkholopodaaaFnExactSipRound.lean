/- Proved here: for every Sip impl.SipRound and the model's SipRound return the same four words; the call returns true for every argument, without condition. -/
import Derived.Test.YtojkkholopodaaaRows
import Derived.Test.YtojkkholopodaaaSipW
import Derived.Test.YtojkkholopodaaaFlat
import Derived.Test.YtojkkholopodaaaKit
import Derived.ProofKit
import Derived.OpenShut
import Derived.ShutString
import Derived.ChangeOld
import Derived.Below
namespace Go.Proofs.Ytojkkholopodaaa.fnExactSipRound
open Go.ChangeShapes Go.WideShapes Go.ChangeAt Go.RowKit

set_option maxHeartbeats 2000000 in
theorem go (s : S4) (w : World) :
    Calls Try.prog 6 #[.agg #[.int .u64 (n64 s.a), .int .u64 (n64 s.b), .int .u64 (n64 s.c), .int .u64 (n64 s.d)]] w fun e w' => e = .returned (.bool true) ∧ Below w.heap.size w w' := by
  have T := Lib.hid (toSip_any s)
  have C1 := Lib.hid (sipRoundS s)
  have C2 := Lib.hid (sipRoundI s)
  have E := Lib.hid (eqSip_self (s.rnds 1))
  obtain ⟨u, hu⟩ : ∃ u, Hid (s.rnds 1 = u) := ⟨_, rfl⟩
  rw [hu.out] at C1 C2 E
  go_enter Try.func6, Try.ntmps6
  go_wp2_with fail
  refine (T.out _).mono ?_
  rintro e w1 ⟨rfl, hb1⟩
  have B1 := Lib.hid (((Below.refl w.heap.size w).alloc (Nat.le_refl _) _).trans (hb1.mono (by simp)))
  have K1 := Lib.hid ((HasC.new w #[.int .u64 (n64 s.a), .int .u64 (n64 s.b), .int .u64 (n64 s.c), .int .u64 (n64 s.d)] 39).keep hb1)
  clear hb1
  go_wp2_with fail
  refine (C1.out _).mono ?_
  rintro e w2 ⟨rfl, hb2⟩
  have B2 := Lib.hid (B1.out.trans (hb2.mono B1.out.size))
  have K2 := Lib.hid (K1.out.keep hb2)
  clear hb2 B1 K1
  obtain ⟨c0, c1, c2, c3⟩ := K2.out.four
  have hlt := K2.out.1
  have hne : ¬ w2.heap.size = w.heap.size := by omega
  have hne2 : ¬ w.heap.size = w2.heap.size := by omega
  go_wp2_with fail
  clear hlt hne hne2
  have B3 := Lib.hid (B2.out.alloc (B2.out.size) (.cells #[.int .u64 (n64 u.a), .int .u64 (n64 u.b), .int .u64 (n64 u.c), .int .u64 (n64 u.d)] 26))
  have K3 := Lib.hid (K2.out.alloc (.cells #[.int .u64 (n64 u.a), .int .u64 (n64 u.b), .int .u64 (n64 u.c), .int .u64 (n64 u.d)] 26))
  have P3 := Lib.hid (HasC.new w2 #[.int .u64 (n64 u.a), .int .u64 (n64 u.b), .int .u64 (n64 u.c), .int .u64 (n64 u.d)] 26)
  generalize w2.heap.size = g1 at P3 ⊢
  generalize w2.alloc (.cells #[.int .u64 (n64 u.a), .int .u64 (n64 u.b), .int .u64 (n64 u.c), .int .u64 (n64 u.d)] 26) = w3 at B3 K3 P3 ⊢
  clear B2 K2 c0 c1 c2 c3
  refine (T.out _).mono ?_
  rintro e w4 ⟨rfl, hb4⟩
  have B4 := Lib.hid (B3.out.trans (hb4.mono B3.out.size))
  have P4 := Lib.hid (P3.out.keep hb4)
  clear hb4 B3 K3 P3
  go_wp2_with fail
  refine (C2.out _).mono ?_
  rintro e w5 ⟨rfl, hb5⟩
  have B5 := Lib.hid (B4.out.trans (hb5.mono B4.out.size))
  have P5 := Lib.hid (P4.out.keep hb5)
  clear hb5 B4 P4
  obtain ⟨c0, c1, c2, c3⟩ := P5.out.four
  have hlt := P5.out.1
  have hne : ¬ w5.heap.size = g1 := by omega
  have hne2 : ¬ g1 = w5.heap.size := by omega
  go_wp2_with fail
  clear hlt hne hne2
  refine (E.out _).mono ?_
  rintro e w6 ⟨rfl, hb6⟩
  have B6 := Lib.hid ((B5.out.alloc (B5.out.size) (.cells #[.int .u64 (n64 u.a), .int .u64 (n64 u.b), .int .u64 (n64 u.c), .int .u64 (n64 u.d)] 26)).trans (hb6.mono (Nat.le_trans B5.out.size (by simp))))
  clear hb6 B5 P5 c0 c1 c2 c3
  go_wp2
  go_ret
  exact ⟨rfl, B6.out⟩

theorem walk (a : Int) (b : Int) (c : Int) (d : Int) (ha : (Lit.int .u64 a).wf = true) (hb : (Lit.int .u64 b).wf = true) (hc : (Lit.int .u64 c).wf = true) (hd : (Lit.int .u64 d).wf = true) (w : World) :
    Calls Try.prog 6 #[.agg #[.int .u64 a, .int .u64 b, .int .u64 c, .int .u64 d]] w fun e w' => e = .returned (.bool true) ∧ Below w.heap.size w w' := by
  obtain ⟨a, rfl⟩ := word_of ha
  obtain ⟨b, rfl⟩ := word_of hb
  obtain ⟨c, rfl⟩ := word_of hc
  obtain ⟨d, rfl⟩ := word_of hd
  exact go ⟨a, b, c, d⟩ w

theorem own : ownKnob Try.prog.godebug = none := by kernel_rfl
theorem laidOut : laidOutB Try.prog = true := by kernel_rfl

theorem opened0 {H : Type} {enc : TypeId × Value → H} {W : World} {base : Nat} {spare : Nat → Bool} {held : Bool} {r : Reach} {b0 : Nat} {v : Value} {d : DataW H} {p : List MemPlace}
    (hv : Value.okWide Try.prog W r b0 39 v) (h : DataW.Trod enc Try.prog W base spare held 39 v d p) : ∃ (x0 : Int) (x1 : Int) (x2 : Int) (x3 : Int), v = .agg #[.int .u64 x0, .int .u64 x1, .int .u64 x2, .int .u64 x3] ∧ (Lit.int .u64 x0).wf = true ∧ (Lit.int .u64 x1).wf = true ∧ (Lit.int .u64 x2).wf = true ∧ (Lit.int .u64 x3).wf = true := by
  obtain ⟨cs, n, rfl, hl, hf⟩ := open_flat Try.underlying39 (by kernel_rfl) (by kernel_rfl) hv h
  match cs, hl with
  | [c0, c1, c2, c3], _ =>
    obtain ⟨_, t0⟩ := hf 0 _ rfl
    obtain ⟨x0, e0, _, w0⟩ := DataW.trod_int Try.underlying24 t0
    obtain rfl : c0 = .int .u64 x0 := (List.cons.inj e0).1
    obtain ⟨_, t1⟩ := hf 1 _ rfl
    obtain ⟨x1, e1, _, w1⟩ := DataW.trod_int Try.underlying24 t1
    obtain rfl : c1 = .int .u64 x1 := (List.cons.inj e1).1
    obtain ⟨_, t2⟩ := hf 2 _ rfl
    obtain ⟨x2, e2, _, w2⟩ := DataW.trod_int Try.underlying24 t2
    obtain rfl : c2 = .int .u64 x2 := (List.cons.inj e2).1
    obtain ⟨_, t3⟩ := hf 3 _ rfl
    obtain ⟨x3, e3, _, w3⟩ := DataW.trod_int Try.underlying24 t3
    obtain rfl : c3 = .int .u64 x3 := (List.cons.inj e3).1
    exact ⟨_, _, _, _, rfl, w0, w1, w2, w3⟩

set_option maxRecDepth 100000 in
theorem lifted (os : Os) (started : os.Started) (H : Type) (enc : TypeId × Value → H) :
    ReturnsInHanded {} Try.checked os 6 .any (Rows.fnExactSipRoundSpec.pre6 enc Try.prog Try.f6 Rows.fnExactSipRoundRow.domain false) (Rows.fnExactSipRoundSpec.post enc Try.prog Try.f6 false true false false) := by
  refine returnsInHanded_of_change (C := Try.checked) own started (by kernel_rfl) Try.func6
    (ChangeSpec.witness6 (enc := enc) (C := Try.checked) false ⟨#[], #[.agg #[.int .u64 0, .int .u64 0, .int .u64 0, .int .u64 0]], []⟩ 8 (by kernel_rfl) (by kernel_rfl) (by kernel_rfl) (by kernel_rfl)) ?_
  intro W base args ds gs before hval0 hW _ _
  have hval : ∀ (j : Nat) t v, Try.f6.params[j]? = some t → args[j]? = some v → Value.okWide Try.prog W .any base t v := hval0
  have hW' := hW
  obtain ⟨p, q, hA0, hV, rfl, _, _⟩ := hW
  have hA : DataW.TrodAll enc Try.prog W 0 (fun _ => true) true Try.f6.params.toList args.toList ds p := hA0
  rw [Try.params6] at hA hval
  obtain ⟨v0, vs0, d0, ds0, p0, q0, hargs, rfl, rfl, h0, r0⟩ := trodAll_cons hA
  obtain ⟨rfl, rfl, rfl⟩ := trodAll_nil r0
  obtain rfl : args = #[v0] := by cases args; simp_all
  obtain ⟨rfl, rfl⟩ := trodVars_none hV
  obtain ⟨a0_0, a0_1, a0_2, a0_3, rfl, w0_0, w0_1, w0_2, w0_3⟩ := opened0 (hval 0 39 v0 rfl rfl) h0
  have k0 := h0
  have lt0 : ∀ x ∈ p0, x.block < W.heap.size := by obtain ⟨m, hm⟩ := k0; exact DataW.trod_lt m _ _ _ hm
  clear hA0 hval0
  refine (walk a0_0 a0_1 a0_2 a0_3 w0_0 w0_1 w0_2 w0_3 W).mono fun e W' ⟨he, bel⟩ => ?_
  subst he
  exact ⟨_, rfl, _, _, _, [], _, [], hW', trodAll_mk1 (shut_bool Try.underlying4 _), (trodAll_cons_mk (Below.trod laidOut (by kernel_rfl) (of_decide_eq_true (by kernel_rfl)) k0 bel lt0) trodAll_mk0), rfl, bel.frame _, fun h => by cases h⟩

theorem over : Rows.fnExactSipRoundRow.holds Try.pinned (OpenSpec.ofChange Rows.fnExactSipRoundSpec) :=
  OpenClaim.holds_of_wide 6 Try.f6 rfl rfl rfl rfl rfl rfl rfl ⟨rfl, rfl, rfl, rfl, rfl⟩ rfl rfl rfl rfl rfl (by kernel_rfl) Try.func6 (by kernel_rfl)
    (of_decide_eq_true (by kernel_rfl)) (by unfold Func.isWrapper; first | (rw [if_pos (by decide +kernel)]; kernel_rfl) | (rw [if_neg (by decide +kernel)]; exact ⟨rfl, rfl⟩))
    (fun os started H enc _ => lifted os started H enc)

theorem proved : Rows.FnExactSipRoundSaid := over
#print axioms proved
end Go.Proofs.Ytojkkholopodaaa.fnExactSipRound
