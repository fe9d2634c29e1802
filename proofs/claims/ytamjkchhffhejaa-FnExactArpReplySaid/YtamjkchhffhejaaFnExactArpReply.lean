/- Proved here: for every Arp and every two ints impl.ArpReply and the model's ArpReply return the same Arp and the same bool; the call returns true for every argument, without condition. -/
import Derived.Test.YtamjkchhffhejaaRows
import Derived.Test.YtamjkchhffhejaaArpRep2
import Derived.Test.YtamjkchhffhejaaArpLaw
import Derived.Test.YtamjkchhffhejaaFlat
import Derived.Test.YtamjkchhffhejaaCells5
import Derived.Test.YtamjkchhffhejaaBlk5
import Derived.ProofKit
import Derived.OpenShut
import Derived.ShutString
import Derived.ChangeOld
import Derived.Below
namespace Go.Proofs.Ytamjkchhffhejaa.fnExactArpReply
open Go.ChangeShapes Go.WideShapes Go.ChangeAt Go.RowKit
open Go.ChangeMaps (open_string shut_string)

set_option maxRecDepth 100000 in
set_option maxHeartbeats 2000000 in
theorem walk (k a b c d m ip : Int) (_ : (Lit.int .i64 k).wf = true) (_ : (Lit.int .i64 a).wf = true) (_ : (Lit.int .i64 b).wf = true) (_ : (Lit.int .i64 c).wf = true) (_ : (Lit.int .i64 d).wf = true) (_ : (Lit.int .i64 m).wf = true) (_ : (Lit.int .i64 ip).wf = true) (w : World) :
    Calls Try.prog 7 #[.agg #[.int .i64 k, .int .i64 a, .int .i64 b, .int .i64 c, .int .i64 d], .int .i64 m, .int .i64 ip] w fun e w' => e = .returned (.bool true) ∧ Below w.heap.size w w' := by
  have T := Lib.hid (toArp_any k a b c d)
  have C1 := Lib.hid (arpReplyS k a b c d m ip)
  have C2 := Lib.hid (arpReplyI k a b c d m ip)
  unfold rpV at C1 C2
  generalize rpF k a b d m ip 2 = x0 at C1 C2
  generalize rpF k a b d m ip m = x1 at C1 C2
  generalize rpF k a b d m ip ip = x2 at C1 C2
  generalize rpF k a b d m ip a = x3 at C1 C2
  generalize rpF k a b d m ip b = x4 at C1 C2
  generalize rpOk k a b d m ip = o at C1 C2
  have E := Lib.hid (eqArp_self x0 x1 x2 x3 x4)
  go_enter Try.func7, Try.ntmps7
  go_wp2_with fail
  refine (T.out _).mono ?_
  rintro e w2 ⟨rfl, hb2⟩
  have B2 := Lib.hid (((Below.refl w.heap.size w).alloc (Nat.le_refl _) _).trans (hb2.mono (by simp)))
  have K2 := Lib.hid ((HasC.new w #[.int .i64 k, .int .i64 a, .int .i64 b, .int .i64 c, .int .i64 d] 33).keep hb2)
  clear hb2
  go_wp2_with fail
  refine (C1.out _).mono ?_
  rintro e w3 ⟨rfl, hb3⟩
  have B3 := Lib.hid (B2.out.trans (hb3.mono B2.out.size))
  have K3 := Lib.hid (K2.out.keep hb3)
  clear hb3 B2 K2
  obtain ⟨c0, c1, c2, c3, c4⟩ := K3.out.of5
  have hn1 := K3.out.1
  have hn2 : ¬ w3.heap.size = w.heap.size := by omega
  have hn3 : ¬ w.heap.size = w3.heap.size := by omega
  go_wp2_with fail
  clear c0 c1 c2 c3 c4 hn1 hn2 hn3
  have B3' := Lib.hid (B3.out.alloc B3.out.size (.cells #[.int .i64 x0, .int .i64 x1, .int .i64 x2, .int .i64 x3, .int .i64 x4] 25))
  have L3 := Lib.hid (Blk.new w3 [.int .i64 x0, .int .i64 x1, .int .i64 x2, .int .i64 x3, .int .i64 x4] 25)
  have hl := L3.out.lt
  have hs3 := B3.out.size
  generalize hw : w3.alloc (.cells #[.int .i64 x0, .int .i64 x1, .int .i64 x2, .int .i64 x3, .int .i64 x4] 25) = w3' at B3' L3 hl ⊢
  generalize w3.heap.size = g at L3 hl hs3 ⊢
  refine (T.out _).mono ?_
  rintro e w4 ⟨rfl, hb4⟩
  have B4 := Lib.hid (B3'.out.trans (hb4.mono B3'.out.size))
  have L4 := Lib.hid (L3.out.below hb4)
  clear hb4 B3 B3' K3 L3 hw hl
  go_wp2_with fail
  refine (C2.out _).mono ?_
  rintro e w5 ⟨rfl, hb5⟩
  have B5 := Lib.hid (B4.out.trans (hb5.mono B4.out.size))
  have L5 := Lib.hid (L4.out.below hb5)
  clear hb5 B4 L4
  have hne := L5.out.lt
  have hne2 : ¬ w5.heap.size = g := by omega
  have hne3 : ¬ g = w5.heap.size := by omega
  obtain ⟨⟨c0, c1, c2, c3, c4⟩, _, _, _, _, _⟩ := L5.out.of5
  go_wp2_with fail
  refine (E.out _).mono ?_
  rintro e w6 ⟨rfl, hb6⟩
  have B6 := Lib.hid ((B5.out.alloc B5.out.size (.cells #[.int .i64 x0, .int .i64 x1, .int .i64 x2, .int .i64 x3, .int .i64 x4] 25)).trans (hb6.mono (Nat.le_trans B5.out.size (by simp))))
  clear hb6 c0 c1 c2 c3 c4
  go_wp2_with fail
  go_ret
  exact ⟨rfl, B6.out⟩

theorem own : ownKnob Try.prog.godebug = none := by kernel_rfl
theorem laidOut : laidOutB Try.prog = true := by kernel_rfl

theorem opened0 {H : Type} {enc : TypeId × Value → H} {W : World} {base : Nat} {spare : Nat → Bool} {held : Bool} {r : Reach} {b0 : Nat} {v : Value} {d : DataW H} {p : List MemPlace}
    (hv : Value.okWide Try.prog W r b0 33 v) (h : DataW.Trod enc Try.prog W base spare held 33 v d p) : ∃ (x0 : Int) (x1 : Int) (x2 : Int) (x3 : Int) (x4 : Int), v = .agg #[.int .i64 x0, .int .i64 x1, .int .i64 x2, .int .i64 x3, .int .i64 x4] ∧ (Lit.int .i64 x0).wf = true ∧ (Lit.int .i64 x1).wf = true ∧ (Lit.int .i64 x2).wf = true ∧ (Lit.int .i64 x3).wf = true ∧ (Lit.int .i64 x4).wf = true := by
  obtain ⟨cs, n, rfl, hl, hf⟩ := open_flat Try.underlying33 (by kernel_rfl) (by kernel_rfl) hv h
  match cs, hl with
  | [c0, c1, c2, c3, c4], _ =>
    obtain ⟨_, t0⟩ := hf 0 _ rfl
    obtain ⟨x0, e0, _, w0⟩ := DataW.trod_int Try.underlying3 t0
    obtain rfl : c0 = .int .i64 x0 := (List.cons.inj e0).1
    obtain ⟨_, t1⟩ := hf 1 _ rfl
    obtain ⟨x1, e1, _, w1⟩ := DataW.trod_int Try.underlying3 t1
    obtain rfl : c1 = .int .i64 x1 := (List.cons.inj e1).1
    obtain ⟨_, t2⟩ := hf 2 _ rfl
    obtain ⟨x2, e2, _, w2⟩ := DataW.trod_int Try.underlying3 t2
    obtain rfl : c2 = .int .i64 x2 := (List.cons.inj e2).1
    obtain ⟨_, t3⟩ := hf 3 _ rfl
    obtain ⟨x3, e3, _, w3⟩ := DataW.trod_int Try.underlying3 t3
    obtain rfl : c3 = .int .i64 x3 := (List.cons.inj e3).1
    obtain ⟨_, t4⟩ := hf 4 _ rfl
    obtain ⟨x4, e4, _, w4⟩ := DataW.trod_int Try.underlying3 t4
    obtain rfl : c4 = .int .i64 x4 := (List.cons.inj e4).1
    exact ⟨_, _, _, _, _, rfl, w0, w1, w2, w3, w4⟩

set_option maxRecDepth 100000 in
theorem lifted (os : Os) (started : os.Started) (H : Type) (enc : TypeId × Value → H) :
    ReturnsInHanded {} Try.checked os 7 .any (Rows.fnExactArpReplySpec.pre6 enc Try.prog Try.f7 Rows.fnExactArpReplyRow.domain false) (Rows.fnExactArpReplySpec.post enc Try.prog Try.f7 false true false false) := by
  refine returnsInHanded_of_change (C := Try.checked) own started (by kernel_rfl) Try.func7
    (ChangeSpec.witness6 (enc := enc) (C := Try.checked) false ⟨#[], #[.agg #[.int .i64 0, .int .i64 0, .int .i64 0, .int .i64 0, .int .i64 0], .int .i64 0, .int .i64 0], []⟩ 8 (by kernel_rfl) (by kernel_rfl) (by kernel_rfl) (by kernel_rfl)) ?_
  intro W base args ds gs before hval0 hW _ _
  have hval : ∀ (j : Nat) t v, Try.f7.params[j]? = some t → args[j]? = some v → Value.okWide Try.prog W .any base t v := hval0
  have hW' := hW
  obtain ⟨p, q, hA0, hV, rfl, _, _⟩ := hW
  have hA : DataW.TrodAll enc Try.prog W 0 (fun _ => true) true Try.f7.params.toList args.toList ds p := hA0
  rw [Try.params7] at hA hval
  obtain ⟨v0, vs0, d0, ds0, p0, q0, hargs, rfl, rfl, h0, r0⟩ := trodAll_cons hA
  obtain ⟨v1, vs1, d1, ds1, p1, q1, rfl, rfl, rfl, h1, r1⟩ := trodAll_cons r0
  obtain ⟨v2, vs2, d2, ds2, p2, q2, rfl, rfl, rfl, h2, r2⟩ := trodAll_cons r1
  obtain ⟨rfl, rfl, rfl⟩ := trodAll_nil r2
  obtain rfl : args = #[v0, v1, v2] := by cases args; simp_all
  obtain ⟨rfl, rfl⟩ := trodVars_none hV
  obtain ⟨a0_0, a0_1, a0_2, a0_3, a0_4, rfl, w0_0, w0_1, w0_2, w0_3, w0_4⟩ := opened0 (hval 0 33 v0 rfl rfl) h0
  have k0 := h0
  have lt0 : ∀ x ∈ p0, x.block < W.heap.size := by obtain ⟨m, hm⟩ := k0; exact DataW.trod_lt m _ _ _ hm
  obtain ⟨a1, rfl, rfl, rfl, w1⟩ := open_int Try.underlying3 (hval 1 3 v1 rfl rfl) h1
  obtain ⟨a2, rfl, rfl, rfl, w2⟩ := open_int Try.underlying3 (hval 2 3 v2 rfl rfl) h2
  clear hA0 hval0
  refine (walk a0_0 a0_1 a0_2 a0_3 a0_4 a1 a2 w0_0 w0_1 w0_2 w0_3 w0_4 w1 w2 W).mono fun e W' ⟨he, bel⟩ => ?_
  subst he
  exact ⟨_, rfl, _, _, _, [], _, [], hW', trodAll_mk1 (shut_bool Try.underlying4 _), (trodAll_cons_mk (Below.trod laidOut (by kernel_rfl) (of_decide_eq_true (by kernel_rfl)) k0 bel lt0) (trodAll_cons_mk (shut_int Try.underlying3 w1) (trodAll_cons_mk (shut_int Try.underlying3 w2) trodAll_mk0))), rfl, bel.frame _, fun h => by cases h⟩

theorem over : Rows.fnExactArpReplyRow.holds Try.pinned (OpenSpec.ofChange Rows.fnExactArpReplySpec) :=
  OpenClaim.holds_of_wide 7 Try.f7 rfl rfl rfl rfl rfl rfl rfl ⟨rfl, rfl, rfl, rfl, rfl⟩ rfl rfl rfl rfl rfl (by kernel_rfl) Try.func7 (by kernel_rfl)
    (of_decide_eq_true (by kernel_rfl)) (by unfold Func.isWrapper; first | (rw [if_pos (by decide +kernel)]; kernel_rfl) | (rw [if_neg (by decide +kernel)]; exact ⟨rfl, rfl⟩))
    (fun os started H enc _ => lifted os started H enc)

theorem proved : Rows.FnExactArpReplySaid := over
#print axioms proved
end Go.Proofs.Ytamjkchhffhejaa.fnExactArpReply
