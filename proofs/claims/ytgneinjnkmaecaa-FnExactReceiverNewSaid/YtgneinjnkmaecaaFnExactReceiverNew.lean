/- The law FnExactReceiverNew holds for every argument (up to the law's own measure of 1048576 pieces and bytes; past it the law itself answers true): impl's ReceiverNew answers as the model's, anew each time. No condition. -/
import Derived.Test.YtgneinjnkmaecaaRows
import Derived.Test.YtgneinjnkmaecaaRcvNew
import Derived.Test.YtgneinjnkmaecaaRcvLaw2
import Derived.Test.YtgneinjnkmaecaaFlat
import Derived.Deep.RegionHeld3
import Derived.ProofKit
import Derived.OpenShut
import Derived.ShutString
import Derived.ChangeSame
namespace Go.Proofs.Ytgneinjnkmaecaa.fnExactReceiverNew
open Go.ChangeShapes Go.WideShapes Go.ChangeAt Go.RowKit Go.Lib
open Go.ChangeMaps (open_string shut_string)

/-- The law's word: true, and what lay before the call lies as it lay. -/
def OkB (w : World) (e : Ending) (w' : World) : Prop := e = .returned (.bool true) ∧ Below w.heap.size w w'

set_option maxRecDepth 100000 in
set_option maxHeartbeats 8000000 in
theorem walk (y : Int) (_ : (Lit.int .i64 y).wf = true) (w : World) :
    Calls Try.prog 12 #[.int .i64 y] w (OkB w) := by
  go_enter Try.func12, Try.ntmps12
  have B0 := Lib.hid (Below.refl w.heap.size w)
  go_wp2_with fail
  refine (rcvNewS y _).mono ?_
  rintro e v1 ⟨rfl, hb⟩
  have B1 := Lib.hid (B0.out.trans (hb.mono B0.out.size))
  clear hb B0
  have KWn := Lib.hid (Blk.new v1 [.int .i64 (pl y), .string ⟨#[]⟩, .slice none 0 0, .int .i64 (-1), .bool false] 26)
  have l_W : w.heap.size ≤ v1.heap.size := B1.out.size
  have Bn := Lib.hid (B1.out.alloc B1.out.size (.cells #[.int .i64 (pl y), .string ⟨#[]⟩, .slice none 0 0, .int .i64 (-1), .bool false] 26))
  clear B1
  go_wp2_with fail
  change Calls _ _ _ (v1.alloc (.cells #[.int .i64 (pl y), .string ⟨#[]⟩, .slice none 0 0, .int .i64 (-1), .bool false] 26)) _
  generalize v1.alloc (.cells #[.int .i64 (pl y), .string ⟨#[]⟩, .slice none 0 0, .int .i64 (-1), .bool false] 26) = v2 at KWn Bn ⊢
  generalize v1.heap.size = g_W at KWn l_W ⊢
  clear v1
  have KW2 := KWn
  clear KWn
  have B2 := Bn
  clear Bn
  refine (rcvNewI y _).mono ?_
  rintro e v3 ⟨rfl, hb⟩
  have B3 := Lib.hid (B2.out.trans (hb.mono B2.out.size))
  have KW3 := Lib.hid (KW2.out.below hb)
  clear hb B2 KW2
  have KGn := Lib.hid (Blk.new v3 [.int .i64 (pl y), .string ⟨#[]⟩, .slice none 0 0, .int .i64 (-1), .bool false] 26)
  have l_G : w.heap.size ≤ v3.heap.size := B3.out.size
  have n_W_G : g_W ≠ v3.heap.size := by have h1 := KW3.out.lt; omega
  have Bn := Lib.hid (B3.out.alloc B3.out.size (.cells #[.int .i64 (pl y), .string ⟨#[]⟩, .slice none 0 0, .int .i64 (-1), .bool false] 26))
  have KWn := Lib.hid (KW3.out.alloc (.cells #[.int .i64 (pl y), .string ⟨#[]⟩, .slice none 0 0, .int .i64 (-1), .bool false] 26))
  clear B3 KW3
  obtain ⟨⟨cW0, cW1, cW2, cW3, cW4⟩, dW0, dW1, dW2, dW3, dW4⟩ := KWn.out.of5
  go_wp2_with fail
  clear cW0 cW1 cW2 cW3 cW4 dW0 dW1 dW2 dW3 dW4
  change Calls _ _ _ (v3.alloc (.cells #[.int .i64 (pl y), .string ⟨#[]⟩, .slice none 0 0, .int .i64 (-1), .bool false] 26)) _
  generalize v3.alloc (.cells #[.int .i64 (pl y), .string ⟨#[]⟩, .slice none 0 0, .int .i64 (-1), .bool false] 26) = v4 at KGn Bn KWn ⊢
  generalize v3.heap.size = g_G at KGn l_G n_W_G ⊢
  clear v3
  have KW4 := KWn
  clear KWn
  have KG4 := KGn
  clear KGn
  have B4 := Bn
  clear Bn
  refine (eqReceiver_self (pl y) (-1) false ⟨#[]⟩ none none 0 0 [] _ Row.nil Row.nil (by simp)).mono ?_
  rintro e v5 ⟨rfl, hb⟩
  have B5 := Lib.hid (B4.out.trans (hb.mono B4.out.size))
  have KW5 := Lib.hid (KW4.out.below hb)
  have KG5 := Lib.hid (KG4.out.below hb)
  clear hb B4 KW4 KG4
  obtain ⟨⟨cW0, cW1, cW2, cW3, cW4⟩, dW0, dW1, dW2, dW3, dW4⟩ := KW5.out.of5
  obtain ⟨⟨cG0, cG1, cG2, cG3, cG4⟩, dG0, dG1, dG2, dG3, dG4⟩ := KG5.out.of5
  go_wp2_with fail
  clear cW0 cW1 cW2 cW3 cW4 dW0 dW1 dW2 dW3 dW4 cG0 cG1 cG2 cG3 cG4 dG0 dG1 dG2 dG3 dG4
  refine (markReceiver_none (pl y) (-1) false ⟨#[]⟩ none 0 1 _).mono ?_
  rintro e v6 ⟨rfl, hb⟩
  have B6 := Lib.hid (B5.out.trans (hb.mono B5.out.size))
  have KW6 := Lib.hid (KW5.out.below hb)
  have KG6 := Lib.hid (KG5.out.below hb)
  clear hb B5 KW5 KG5
  obtain ⟨⟨cW0, cW1, cW2, cW3, cW4⟩, dW0, dW1, dW2, dW3, dW4⟩ := KW6.out.of5
  obtain ⟨⟨cG0, cG1, cG2, cG3, cG4⟩, dG0, dG1, dG2, dG3, dG4⟩ := KG6.out.of5
  go_wp2_with fail
  clear cW0 cW1 cW2 cW3 cW4 dW0 dW1 dW2 dW3 dW4 cG0 cG1 cG2 cG3 cG4 dG0 dG1 dG2 dG3 dG4
  refine (heldReceiver_any (pl y) (-1) false ⟨#[]⟩ none 0 0 1 _ Row.nil (by decide) (by decide) (by omega)).mono ?_
  rintro e v7 ⟨rfl, hb⟩
  have B7 := Lib.hid (B6.out.trans (hb.mono B6.out.size))
  have KW7 := Lib.hid (KW6.out.below hb)
  have KG7 := Lib.hid (KG6.out.below hb)
  clear hb B6 KW6 KG6
  obtain ⟨⟨cW0, cW1, cW2, cW3, cW4⟩, dW0, dW1, dW2, dW3, dW4⟩ := KW7.out.of5
  obtain ⟨⟨cG0, cG1, cG2, cG3, cG4⟩, dG0, dG1, dG2, dG3, dG4⟩ := KG7.out.of5
  go_wp2_with fail
  clear cW0 cW1 cW2 cW3 cW4 dW0 dW1 dW2 dW3 dW4 cG0 cG1 cG2 cG3 cG4 dG0 dG1 dG2 dG3 dG4
  refine (rcvNewI y _).mono ?_
  rintro e v8 ⟨rfl, hb⟩
  have B8 := Lib.hid (B7.out.trans (hb.mono B7.out.size))
  have KW8 := Lib.hid (KW7.out.below hb)
  have KG8 := Lib.hid (KG7.out.below hb)
  clear hb B7 KW7 KG7
  have KHn := Lib.hid (Blk.new v8 [.int .i64 (pl y), .string ⟨#[]⟩, .slice none 0 0, .int .i64 (-1), .bool false] 26)
  have l_H : w.heap.size ≤ v8.heap.size := B8.out.size
  have n_W_H : g_W ≠ v8.heap.size := by have h1 := KW8.out.lt; omega
  have n_G_H : g_G ≠ v8.heap.size := by have h1 := KG8.out.lt; omega
  have Bn := Lib.hid (B8.out.alloc B8.out.size (.cells #[.int .i64 (pl y), .string ⟨#[]⟩, .slice none 0 0, .int .i64 (-1), .bool false] 26))
  have KWn := Lib.hid (KW8.out.alloc (.cells #[.int .i64 (pl y), .string ⟨#[]⟩, .slice none 0 0, .int .i64 (-1), .bool false] 26))
  have KGn := Lib.hid (KG8.out.alloc (.cells #[.int .i64 (pl y), .string ⟨#[]⟩, .slice none 0 0, .int .i64 (-1), .bool false] 26))
  clear B8 KW8 KG8
  obtain ⟨⟨cW0, cW1, cW2, cW3, cW4⟩, dW0, dW1, dW2, dW3, dW4⟩ := KWn.out.of5
  obtain ⟨⟨cG0, cG1, cG2, cG3, cG4⟩, dG0, dG1, dG2, dG3, dG4⟩ := KGn.out.of5
  go_wp2_with fail
  clear cW0 cW1 cW2 cW3 cW4 dW0 dW1 dW2 dW3 dW4 cG0 cG1 cG2 cG3 cG4 dG0 dG1 dG2 dG3 dG4
  change Calls _ _ _ (v8.alloc (.cells #[.int .i64 (pl y), .string ⟨#[]⟩, .slice none 0 0, .int .i64 (-1), .bool false] 26)) _
  generalize v8.alloc (.cells #[.int .i64 (pl y), .string ⟨#[]⟩, .slice none 0 0, .int .i64 (-1), .bool false] 26) = v9 at KHn Bn KWn KGn ⊢
  generalize v8.heap.size = g_H at KHn l_H n_W_H n_G_H ⊢
  clear v8
  have KW9 := KWn
  clear KWn
  have KG9 := KGn
  clear KGn
  have KH9 := KHn
  clear KHn
  have B9 := Bn
  clear Bn
  refine (eqReceiver_self (pl y) (-1) false ⟨#[]⟩ none none 0 0 [] _ Row.nil Row.nil (by simp)).mono ?_
  rintro e v10 ⟨rfl, hb⟩
  have B10 := Lib.hid (B9.out.trans (hb.mono B9.out.size))
  have KW10 := Lib.hid (KW9.out.below hb)
  have KG10 := Lib.hid (KG9.out.below hb)
  have KH10 := Lib.hid (KH9.out.below hb)
  clear hb B9 KW9 KG9 KH9
  obtain ⟨⟨cW0, cW1, cW2, cW3, cW4⟩, dW0, dW1, dW2, dW3, dW4⟩ := KW10.out.of5
  obtain ⟨⟨cG0, cG1, cG2, cG3, cG4⟩, dG0, dG1, dG2, dG3, dG4⟩ := KG10.out.of5
  obtain ⟨⟨cH0, cH1, cH2, cH3, cH4⟩, dH0, dH1, dH2, dH3, dH4⟩ := KH10.out.of5
  go_wp2_with fail
  clear cW0 cW1 cW2 cW3 cW4 dW0 dW1 dW2 dW3 dW4 cG0 cG1 cG2 cG3 cG4 dG0 dG1 dG2 dG3 dG4 cH0 cH1 cH2 cH3 cH4 dH0 dH1 dH2 dH3 dH4
  refine (heldReceiver_any (pl y) (-1) false ⟨#[]⟩ none 0 0 1 _ Row.nil (by decide) (by decide) (by omega)).mono ?_
  rintro e v11 ⟨rfl, hb⟩
  have B11 := Lib.hid (B10.out.trans (hb.mono B10.out.size))
  have KW11 := Lib.hid (KW10.out.below hb)
  have KG11 := Lib.hid (KG10.out.below hb)
  have KH11 := Lib.hid (KH10.out.below hb)
  clear hb B10 KW10 KG10 KH10
  obtain ⟨⟨cW0, cW1, cW2, cW3, cW4⟩, dW0, dW1, dW2, dW3, dW4⟩ := KW11.out.of5
  obtain ⟨⟨cG0, cG1, cG2, cG3, cG4⟩, dG0, dG1, dG2, dG3, dG4⟩ := KG11.out.of5
  obtain ⟨⟨cH0, cH1, cH2, cH3, cH4⟩, dH0, dH1, dH2, dH3, dH4⟩ := KH11.out.of5
  go_wp2_with fail
  go_ret
  exact ⟨rfl, B11.out⟩
theorem own : ownKnob Try.prog.godebug = none := by kernel_rfl

set_option maxRecDepth 100000 in
theorem lifted (os : Os) (started : os.Started) (H : Type) (enc : TypeId × Value → H) :
    ReturnsInHanded {} Try.checked os 12 .any (Rows.fnExactReceiverNewSpec.pre6 enc Try.prog Try.f12 Rows.fnExactReceiverNewRow.domain false) (Rows.fnExactReceiverNewSpec.post enc Try.prog Try.f12 false true false false) := by
  refine returnsInHanded_of_change (C := Try.checked) own started (by kernel_rfl) Try.func12
    (ChangeSpec.witness6 (enc := enc) (C := Try.checked) false ⟨#[], #[.int .i64 0], []⟩ 8 (by kernel_rfl) (by kernel_rfl) (by kernel_rfl) (by kernel_rfl)) ?_
  intro W base args ds gs before hval0 hW _ _
  have hval : ∀ (j : Nat) t v, Try.f12.params[j]? = some t → args[j]? = some v → Value.okWide Try.prog W .any base t v := hval0
  have hW' := hW
  obtain ⟨p, q, hA0, hV, rfl, _, _⟩ := hW
  have hA : DataW.TrodAll enc Try.prog W 0 (fun _ => true) true Try.f12.params.toList args.toList ds p := hA0
  rw [Try.params12] at hA hval
  obtain ⟨v0, vs0, d0, ds0, p0, q0, hargs, rfl, rfl, h0, r0⟩ := trodAll_cons hA
  obtain ⟨rfl, rfl, rfl⟩ := trodAll_nil r0
  obtain rfl : args = #[v0] := by cases args; simp_all
  obtain ⟨rfl, rfl⟩ := trodVars_none hV
  obtain ⟨a0, rfl, rfl, rfl, w0⟩ := open_int Try.underlying3 (hval 0 3 v0 rfl rfl) h0
  clear hA0 hval0
  refine (walk a0 w0 W).mono fun e W' ⟨he, bel⟩ => ?_
  subst he
  exact ⟨_, rfl, _, _, _, [], _, [], hW', trodAll_mk1 (shut_bool Try.underlying4 _), (trodAll_cons_mk (shut_int Try.underlying3 w0) trodAll_mk0), rfl, bel.frame _, fun h => by cases h⟩

theorem over : Rows.fnExactReceiverNewRow.holds Try.pinned (OpenSpec.ofChange Rows.fnExactReceiverNewSpec) :=
  OpenClaim.holds_of_wide 12 Try.f12 rfl rfl rfl rfl rfl rfl rfl ⟨rfl, rfl, rfl, rfl, rfl⟩ rfl rfl rfl rfl rfl (by kernel_rfl) Try.func12 (by kernel_rfl)
    (of_decide_eq_true (by kernel_rfl)) (by unfold Func.isWrapper; first | (rw [if_pos (by decide +kernel)]; kernel_rfl) | (rw [if_neg (by decide +kernel)]; exact ⟨rfl, rfl⟩))
    (fun os started H enc _ => lifted os started H enc)

theorem proved : Rows.FnExactReceiverNewSaid := over
#print axioms proved
end Go.Proofs.Ytgneinjnkmaecaa.fnExactReceiverNew
