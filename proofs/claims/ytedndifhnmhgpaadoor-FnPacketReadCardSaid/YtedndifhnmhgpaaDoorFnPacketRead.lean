/- Proved here: for every code of at most 1048576 bytes, with the text that is drawn from it, impl.ReadPacket says of the text what the model says; a packet that it reads is valid and no longer than the text, and where it reads none impl.WhyWord names the model's reason and the packet is the zero one (a longer code is not asked); the only condition is that the library's variable errors.errorType holds what the program's own text lays (the card ties it). -/
import Derived.Test.YtedndifhnmhgpaaDoorRows
import Derived.Test.YtedndifhnmhgpaaDoorCards
import Derived.Test.YtedndifhnmhgpaaDoorTie
import Derived.Test.YtedndifhnmhgpaaDoorDrawPk
import Derived.Test.YtedndifhnmhgpaaDoorPkRound
import Derived.Test.YtedndifhnmhgpaaDoorWhy
import Derived.Test.YtedndifhnmhgpaaDoorBig
import Derived.Test.YtedndifhnmhgpaaDoorOpen
import Derived.ProofKit
import Derived.OpenShut
import Derived.ShutString
import Derived.ChangeOld
import Derived.Below
import Derived.LaidHandle
import Derived.LaidLaws
import Derived.Stop.Joined
import Derived.SevenTiedAt
namespace Go.Proofs.YtedndifhnmhgpaaDoor.fnPacketRead
open Go.ChangeShapes Go.WideShapes Go.ChangeAt Go.RowKit

/-- A contract of a call that makes memory, with the worlds behind it. -/
theorem step {w w1 w2 : World} (h : Below w.heap.size w w1) (hb : Below w1.heap.size w1 w2) : Below w.heap.size w w2 := h.trans (hb.mono h.size)
theorem stepA {w w1 w2 : World} {o : Obj} (h : Below w.heap.size w w1) (hb : Below (w1.alloc o).heap.size (w1.alloc o) w2) : Below w.heap.size w w2 :=
  step (h.alloc h.size o) hb

set_option maxRecDepth 100000 in
set_option maxHeartbeats 4000000 in
theorem walk (a0 : Option Addr) (len0 cap0 : Nat) (s0 : List UInt8) {w : World} (w0 : IsBytes w a0 len0 s0) (hg : ErrTy w) :
    Calls Tryd.prog 4 #[.slice a0 len0 cap0] w fun e w' => e = .returned (.bool true) ∧ Below w.heap.size w w' := by
  obtain ⟨⟨rfl, hm⟩, hrow⟩ := w0
  unfold maxLen at hm
  have HR := Lib.hid hrow
  have HL := Lib.hid hg.lt
  have HG := Lib.hid hg
  clear hrow hg
  by_cases hs : s0.length ≤ 1048576
  · go_enter Tryd.func4, Tryd.ntmps4
    go_wp2_with fail
    refine (big_no _ _ _ _ hs).mono ?_
    rintro e w' ⟨rfl, rfl⟩
    go_wp2_with fail
    refine (drawReadPacket a0 s0 cap0 w HR.out hs).mono ?_
    rintro e w1 ⟨s, rfl, hz, hb1⟩
    have B1 := Lib.hid hb1
    have I := Lib.hid (readPkI s w1 (HG.out.below hb1 HL.out) hz)
    have S := Lib.hid (fun w => readPkS s w hz)
    clear hb1
    by_cases hk : pkWhy s = 0
    · have e := rkV_yes s hk
      have O := Lib.hid (packOkI (gw s 12 4 : Nat) (gw s 16 4 : Nat) (at8 s 8).toNat (at8 s 9).toNat (gw s 4 2 : Nat) (s.extract 20 (gw s 2 2)))
      rw [read_ok s hk] at O
      have hsz := read_size s hk
      rw [e] at I S
      clear e hk
      generalize ((gw s 12 4 : Nat) : Int) = x0 at I S O
      generalize ((gw s 16 4 : Nat) : Int) = x1 at I S O
      generalize ((at8 s 8).toNat : Int) = x2 at I S O
      generalize ((at8 s 9).toNat : Int) = x3 at I S O
      generalize ((gw s 4 2 : Nat) : Int) = x4 at I S O
      generalize s.extract 20 (gw s 2 2) = x5 at I S O hsz
      go_wp2_with fail
      refine I.out.mono ?_
      rintro e w2 ⟨rfl, hb2⟩
      have B2 := Lib.hid (step B1.out hb2)
      clear hb2 I B1
      go_wp2_with fail
      refine (S.out _).mono ?_
      rintro e w3 ⟨rfl, hb3⟩
      have K3 := Lib.hid ((HasC.new w2 #[.int .i64 x0, .int .i64 x1, .int .i64 x2, .int .i64 x3, .int .i64 x4, .string x5] 25).keep hb3)
      have B3 := Lib.hid (stepA B2.out hb3)
      clear hb3 B2
      have n3 := K3.out.1
      have ne1 : ¬ w3.heap.size = w2.heap.size := by omega
      have ne2 : ¬ w2.heap.size = w3.heap.size := by omega
      obtain ⟨c0, c1, c2, c3, c4, c5⟩ := K3.out.of6
      go_wp2_with fail
      refine (O.out _).mono ?_
      rintro e w4 ⟨rfl, hb4⟩
      have K4 := Lib.hid ((K3.out.alloc _).keep hb4)
      have B4 := Lib.hid (stepA B3.out hb4)
      clear hb4 B3 K3 c0 c1 c2 c3 c4 c5 O
      obtain ⟨c0, c1, c2, c3, c4, c5⟩ := K4.out.of6
      have hi : (x5.size : Int) + 20 ≤ s.size := by omega
      have h5 : x5.size ≤ 1048576 := by omega
      go_wp2_with fail
      go_ret
      exact ⟨rfl, B4.out⟩
    · have e := rkV_no s _ rfl hk
      have hle := pkWhy_le s
      obtain ⟨k, hk'⟩ : ∃ k, pkWhy s = k := ⟨_, rfl⟩
      rw [hk'] at e hk hle
      rw [e] at I S
      clear e hk'
      have W1 := Lib.hid (whyWordI (k : Int))
      have W2 := Lib.hid (whyWordS (k : Int))
      obtain ⟨t, ht⟩ : ∃ t : ByteArray, whyB (k : Int) = t := ⟨_, rfl⟩
      rw [ht] at W1 W2
      clear ht
      have k0 : ((k : Int) == 0) = false := by simp; omega
      have k1 : (0 : Int) < k := by omega
      clear hk
      go_wp2_with fail
      refine I.out.mono ?_
      rintro e w2 ⟨rfl, hb2⟩
      have B2 := Lib.hid (step B1.out hb2)
      clear hb2 I B1
      go_wp2_with fail
      refine (S.out _).mono ?_
      rintro e w3 ⟨rfl, hb3⟩
      have K3 := Lib.hid ((HasC.new w2 #[.int .i64 0, .int .i64 0, .int .i64 0, .int .i64 0, .int .i64 0, .string ⟨#[]⟩] 25).keep hb3)
      have B3 := Lib.hid (stepA B2.out hb3)
      clear hb3 B2
      have n3 := K3.out.1
      have ne1 : ¬ w3.heap.size = w2.heap.size := by omega
      have ne2 : ¬ w2.heap.size = w3.heap.size := by omega
      obtain ⟨c0, c1, c2, c3, c4, c5⟩ := K3.out.of6
      go_wp2_with fail
      refine (W1.out _).mono ?_
      rintro e w4 ⟨rfl, rfl⟩
      go_wp2_with fail
      refine (W2.out _).mono ?_
      rintro e w5 ⟨rfl, hb5⟩
      have K5 := Lib.hid ((K3.out.alloc _).keep hb5)
      have B5 := Lib.hid (stepA B3.out hb5)
      clear hb5 B3 K3 c0 c1 c2 c3 c4 c5
      obtain ⟨c0, c1, c2, c3, c4, c5⟩ := K5.out.of6
      go_wp2_with fail
      go_ret
      exact ⟨rfl, B5.out⟩
  · go_enter Tryd.func4, Tryd.ntmps4
    go_wp2_with fail
    refine (big_yes _ _ _ _ (by omega) (by omega)).mono ?_
    rintro e w' ⟨rfl, rfl⟩
    go_wp2_with fail
    go_ret
    exact ⟨rfl, Below.refl _ _⟩

theorem own : ownKnob Tryd.prog.godebug = none := by kernel_rfl
theorem laidOut : laidOutB Tryd.prog = true := by kernel_rfl
/-- The list of the row. -/
abbrev laidL : List (String × DataW Unit) := [("errors.errorType", Rows.laid_errors_errorType)]
theorem hEt : Tryd.prog.globalNamed "errors.errorType" = some 0 := by kernel_rfl
theorem hRt : (Tryd.prog.cutTypes.find? (·.1 == "internal/reflectlite.rtype")).map (·.2) = some 82 := by kernel_rfl
theorem hOne : ((List.range 125).filter fun t => Tryd.prog.rowNamed t [101, 114, 114, 111, 114]) = [45] := by kernel_rfl
theorem hSize : Tryd.prog.types.size = 125 := by kernel_rfl
/-- What the list gives the walk: the variable's one cell. -/
theorem of_laid {W : World} (h : laidMetH Tryd.prog laidL W) : ErrTy W := by
  have h' : laidMet Tryd.prog [] W ∧ handlesMet Tryd.prog laidL W := h
  obtain ⟨name, u, ty, e1, e2, e3, e4, e5⟩ := h'.2 _ (List.mem_singleton.2 rfl)
  have en : name = [101, 114, 114, 111, 114] := (Option.some.inj e1).symm
  subst en
  obtain rfl := Option.some.inj (hRt.symm.trans e2)
  have hm : ty ∈ (List.range 125).filter fun t => Tryd.prog.rowNamed t [101, 114, 114, 111, 114] := List.mem_filter.2 ⟨List.mem_range.2 (by rw [← hSize]; exact e3), e4⟩
  rw [hOne] at hm
  obtain rfl := List.mem_singleton.1 hm
  have hh : typeHandle Tryd.prog 45 = .pointer (some ⟨1, 45, none⟩) := by kernel_rfl
  rw [hh] at e5
  simpa [ErrTy] using World.var?_cell hEt e5 0
/-- A world in which the variable is laid. -/
noncomputable def laidWorld (os : Os) : World :=
  let w0 := World.holding Tryd.prog os ⟨#[], #[], []⟩
  { w0 with heap := w0.heap.modify 0 fun
      | .cells _ t frozen => .cells #[.iface 82 (.agg #[.pointer (some ⟨1, 45, none⟩)])] t frozen
      | o => o }
theorem door_met (os : Os) (args : Array Value) : laidMetH Tryd.prog laidL ((laidWorld os).forCall (fun _ _ => 0) ⟨#[], args, []⟩).memory :=
  laidMetH_of_parts (laidMet_nil _ _) (by kernel_rfl)

set_option maxRecDepth 100000 in
theorem lifted (os : Os) (started : os.Started) (H : Type) (enc : TypeId × Value → H) :
    ReturnsInHanded {} Tryd.checked os 4 .any (fun w args => (Rows.fnPacketReadSpec.pre enc Tryd.prog Tryd.f4 [] false w args ∧ laidMetH Tryd.prog laidL w) ∧ sizedMet enc Tryd.prog Tryd.f4 (OpenSpec.ofChange Rows.fnPacketReadSpec) false w args)
      (Rows.fnPacketReadSpec.post enc Tryd.prog Tryd.f4 false true false false) := by
  refine returnsInHanded_of_change_and (C := Tryd.checked) (X := fun w _ => laidMetH Tryd.prog laidL w) (fun _ _ _ hh h => h.of_heap hh) own started (by kernel_rfl) Tryd.func4
    (ChangeSpec.witness_at (enc := enc) (C := Tryd.checked) (os := os) (X := fun w _ => laidMetH Tryd.prog laidL w) false (laidWorld os) #[.slice none 0 0] 8 rfl (by kernel_rfl) (by kernel_rfl) (by kernel_rfl) (by kernel_rfl) (by kernel_rfl) (door_met os _)) ?_
  intro W base args ds gs before hval0 hW _ _ hL _
  have hval : ∀ (j : Nat) t v, Tryd.f4.params[j]? = some t → args[j]? = some v → Value.okWide Tryd.prog W .any base t v := hval0
  have hW' := hW
  obtain ⟨p, q, hA0, hV, rfl, _, _⟩ := hW
  have hA : DataW.TrodAll enc Tryd.prog W 0 (fun _ => true) true Tryd.f4.params.toList args.toList ds p := hA0
  rw [Tryd.params4] at hA hval
  obtain ⟨v0, vs0, d0, ds0, p0, q0, hargs, rfl, rfl, h0, r0⟩ := trodAll_cons hA
  obtain ⟨rfl, rfl, rfl⟩ := trodAll_nil r0
  obtain rfl : args = #[v0] := by cases args; simp_all
  obtain ⟨rfl, rfl⟩ := trodVars_none hV
  obtain ⟨a0, len0, cap0, rfl⟩ := okWide_slice Tryd.underlying22 (hval 0 22 v0 rfl rfl)
  have k0 := h0
  have lt0 : ∀ x ∈ p0, x.block < W.heap.size := by obtain ⟨m, hm⟩ := k0; exact DataW.trod_lt m _ _ _ hm
  obtain ⟨s0, w0⟩ : ∃ bs : List UInt8, IsBytes W a0 len0 bs := by obtain ⟨fuel, hf⟩ := h0; exact openBytes Tryd.underlying22 Tryd.underlying5 (by kernel_rfl) hf
  have hT := of_laid hL
  clear hA0 hval0
  refine (walk (w := W) a0 len0 cap0 s0 w0 hT).mono fun e W' ⟨he, bel⟩ => ?_
  subst he
  exact ⟨_, rfl, _, _, _, [], _, [], hW', trodAll_mk1 (shut_bool Tryd.underlying4 _), (trodAll_cons_mk (Below.trod laidOut (by kernel_rfl) (of_decide_eq_true (by kernel_rfl)) k0 bel lt0) trodAll_mk0), rfl, bel.frame _, fun h => by cases h⟩

theorem row_holds : Rows.FnPacketReadSaid :=
  OpenClaim.holds_of_wide 4 Tryd.f4 rfl rfl rfl rfl rfl rfl rfl ⟨rfl, rfl, rfl, rfl, rfl⟩ rfl rfl rfl rfl rfl (by kernel_rfl) Tryd.func4 (by kernel_rfl)
    (of_decide_eq_true (by kernel_rfl)) (by unfold Func.isWrapper; first | (rw [if_pos (by decide +kernel)]; kernel_rfl) | (rw [if_neg (by decide +kernel)]; exact ⟨rfl, rfl⟩))
    (fun os started H enc _ => lifted os started H enc)

theorem proved : Rows.FnPacketReadCardSaid :=
  Claim7.holds_tied_plain_at .later [] [.handle] true (true, "6636e2859afa5243bb5d3e1edfb1797d545c4e05478ba18afd9f32e618507f06") true
    row_holds (fun _ h => by cases h) (by kernel_rfl) (fun _ h => by cases h) fnPacketRead_row_tie rfl ⟨rfl, rfl⟩ (by kernel_rfl) rfl
    (fun f fn hf hfn => by
      obtain rfl : f = 4 := Option.some.inj ((show Tryd.prog.funcNamed Rows.fnPacketReadRow.func = some 4 by kernel_rfl).symm.trans hf) |>.symm
      obtain rfl : fn = Tryd.f4 := (Option.some.inj (Tryd.func4.symm.trans hfn)).symm
      exact ⟨by kernel_rfl, fun j t ht => by
        rw [Tryd.params4] at ht
        have hm : t ∈ [22] := by simpa using Array.mem_of_getElem? ht
        have hall : ([22].all fun u => !Tryd.prog.wantsStandIn u) = true := by kernel_rfl
        exact (show Tryd.prog.wantsStandIn t = false by simpa using List.all_eq_true.1 hall t hm)⟩)
    (by kernel_rfl)
#print axioms proved

end Go.Proofs.YtedndifhnmhgpaaDoor.fnPacketRead
