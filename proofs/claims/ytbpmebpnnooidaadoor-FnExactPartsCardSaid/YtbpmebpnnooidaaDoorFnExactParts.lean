/- Proved here: for every string aS of at most 1048576 bytes and every byte aBy, impl.Parts and the model's Parts return the same list, in new memory of its own each time (a longer string is not asked); the only condition is that the library's two listed tables hold what the program's own text lays (the card ties them). -/
import Derived.Test.YtbpmebpnnooidaaDoorRows
import Derived.Test.YtbpmebpnnooidaaDoorCards
import Derived.Test.YtbpmebpnnooidaaDoorTie
import Derived.Test.YtbpmebpnnooidaaDoorPartsA
import Derived.Test.YtbpmebpnnooidaaDoorJoinEq
import Derived.Test.YtbpmebpnnooidaaDoorMark
import Derived.Test.YtbpmebpnnooidaaDoorShape
import Derived.ProofKit
import Derived.OpenShut
import Derived.ShutString
import Derived.ChangeOld
import Derived.Below
import Derived.Lay
import Derived.LaidMore
import Derived.Stop.Joined
import Derived.SevenTiedAt
namespace Go.Proofs.YtbpmebpnnooidaaDoor.fnExactParts
open Go.ChangeShapes Go.WideShapes Go.ChangeAt Go.RowKit
open Go.ChangeMaps (open_string shut_string)

theorem row_of {w : World} {base g n cap : Nat} {ss : List ByteArray} (h : w.ownsRow base 9 1 (.slice (some ⟨g, 0, none⟩) n cap) n (strVals ss)) : Row w w.heap.size (some ⟨g, 0, none⟩) (strVals ss) := Row.own h

set_option maxRecDepth 100000 in
set_option maxHeartbeats 1000000 in
theorem walk {w : World} (a0 : ByteArray) (a1 : Int) (w0 : a0.size ≤ maxLen) (w1 : (Lit.int .u8 a1).wf = true) (hm : ∃ m, w.cell? ⟨0, 0, none⟩ = some (.int .i64 m)) :
    Calls Tryd.prog 6 #[.string a0, .int .u8 a1] w fun e w' => e = .returned (.bool true) ∧ Below w.heap.size w w' := by
  obtain ⟨c, rfl⟩ : ∃ c : UInt8, a1 = (c.toNat : Int) := ⟨UInt8.ofNat a1.toNat, by have := bounds_u8 w1; rw [UInt8.toNat_ofNat']; omega⟩
  obtain ⟨m, hm⟩ := hm
  have hlt := World.block_lt_of_cell? w _ hm
  have HM := Lib.hid hm
  clear hm w1
  unfold maxLen at w0
  by_cases hs : a0.size ≤ 1048576
  · have hpl := pieces_length a0 c
    obtain ⟨ss, hss⟩ : ∃ ss, pieces a0 c = ss := ⟨_, rfl⟩
    rw [hss] at hpl
    have cI : ∀ w' : World, Below w.heap.size w w' → Calls Tryd.prog 18 #[.string a0, .int .u8 c.toNat] w' fun e w'' => ∃ g cap, e = .returned (.slice (some ⟨g, 0, none⟩) ss.length cap) ∧ w''.ownsRow w'.heap.size 9 1 (.slice (some ⟨g, 0, none⟩) ss.length cap) ss.length (strVals ss) ∧ Below w'.heap.size w' w'' := fun w' hb => by
      refine (partsI a0 c m w' hs ((hb.cell (p := ⟨0, 0, none⟩) hlt).trans HM.out)).mono fun e w'' h => ?_
      obtain ⟨g, cap, h1, h2, h3, _⟩ := h
      rw [hss] at h1 h2
      exact ⟨g, cap, h1, h2, h3⟩
    have cS : Calls Tryd.prog 20 #[.string a0, .int .u8 c.toNat] w fun e w'' => ∃ g cap, e = .returned (.slice (some ⟨g, 0, none⟩) ss.length cap) ∧ w''.ownsRow w.heap.size 9 1 (.slice (some ⟨g, 0, none⟩) ss.length cap) ss.length (strVals ss) ∧ Below w.heap.size w w'' := by
      refine (partsS a0 c w hs).mono fun e w'' h => ?_
      obtain ⟨g, cap, h1, h2, h3, _⟩ := h
      rw [hss] at h1 h2
      exact ⟨g, cap, h1, h2, h3⟩
    have CI := Lib.hid cI
    have CS := Lib.hid cS
    clear cI cS hss
    have hn : ss.length ≤ 1048577 := by omega
    go_enter Tryd.func6, Tryd.ntmps6
    go_wp2_with fail
    refine CS.out.mono ?_
    rintro e w1 ⟨g1, cap1, rfl, hown1, hb1⟩
    have O1 := Lib.hid hown1
    have B1 := Lib.hid hb1
    clear hown1 hb1
    go_wp2_with fail
    refine (CI.out w1 B1.out).mono ?_
    rintro e w2 ⟨g2, cap2, rfl, hown2, hb2⟩
    have O2 := Lib.hid hown2
    have hg2 := (hown2.lt g2 rfl)
    have B2 := Lib.hid (B1.out.trans (hb2.mono B1.out.size))
    have R1 := Lib.hid ((row_of O1.out).below hb2)
    have hw12 := hb2.size
    clear hown2 hb2
    go_wp2_with fail
    refine (eqStr' _ _ _ _ ss w2 (row_of O2.out) (R1.out.mono hw12) hn).mono ?_
    rintro e w3 ⟨rfl, hb3⟩
    have O3 := Lib.hid (O2.out.kept (below_any (row := none) hb3) (.inr (by simp [Value.ownBlock])))
    have B3 := Lib.hid (B2.out.trans (hb3.mono B2.out.size))
    have R3 := Lib.hid (R1.out.below (hb3.mono hw12))
    have hw13 := Nat.le_trans hw12 hb3.size
    clear hb3
    go_wp2_with fail
    refine (markStr _ g2 ss.length cap2 1 ss w3 rfl O3.out (by omega) (by omega) hn).mono ?_
    rintro e w4 ⟨rfl, hown4, hg4⟩
    have O4 := Lib.hid hown4
    have B4 := Lib.hid (B3.out.trans (grown_below hg4 (Nat.le_trans B1.out.size hg2.1) B3.out.size))
    have R4 := Lib.hid (R3.out.below (grown_below hg4 hg2.1 hw13))
    have hw14 := Nat.le_trans hw13 hg4.size
    clear hown4 hg4
    go_wp2_with fail
    refine (heldStr _ ss.length cap2 1 w4 (row_of O4.out) (by omega) (by omega) hn).mono ?_
    rintro e w5 ⟨rfl, hb5⟩
    have O5 := Lib.hid (O4.out.kept (below_any (row := none) hb5) (.inr (by simp [Value.ownBlock])))
    have B5 := Lib.hid (B4.out.trans (hb5.mono B4.out.size))
    have R5 := Lib.hid (R4.out.below (hb5.mono hw14))
    have hw15 := Nat.le_trans hw14 hb5.size
    clear hb5
    go_wp2_with fail
    refine (CI.out w5 B5.out).mono ?_
    rintro e w6 ⟨g6, cap6, rfl, hown6, hb6⟩
    have O6 := Lib.hid hown6
    have OG := Lib.hid (O5.out.kept (below_any (row := none) hb6) (.inr (by simp [Value.ownBlock])))
    have B6 := Lib.hid (B5.out.trans (hb6.mono B5.out.size))
    have R6 := Lib.hid (R5.out.below (hb6.mono hw15))
    have hw16 := Nat.le_trans hw15 hb6.size
    clear hown6 hb6
    go_wp2_with fail
    refine (eqStr' _ _ _ _ ss w6 (row_of O6.out) (R6.out.mono hw16) hn).mono ?_
    rintro e w7 ⟨rfl, hb7⟩
    have O7 := Lib.hid (OG.out.kept (below_any (row := none) hb7) (.inr (by simp [Value.ownBlock])))
    have B7 := Lib.hid (B6.out.trans (hb7.mono B6.out.size))
    clear hb7
    go_wp2_with fail
    refine (heldStr _ ss.length cap2 1 w7 (row_of O7.out) (by omega) (by omega) hn).mono ?_
    rintro e w8 ⟨rfl, hb8⟩
    have B8 := Lib.hid (B7.out.trans (hb8.mono B7.out.size))
    clear hb8
    go_wp2_with fail
    go_ret
    exact ⟨rfl, B8.out⟩
  · have h1 : 1048576 < a0.size := by omega
    go_enter Tryd.func6, Tryd.ntmps6
    go_wp2_with fail
    go_ret
    exact ⟨rfl, Below.refl _ _⟩

theorem own : ownKnob Tryd.prog.godebug = none := by kernel_rfl

/-- The list of the row. -/
abbrev laidL : List (String × DataW Unit) := [("unicode/utf8.acceptRanges", Rows.laid_unicode_utf8_acceptRanges), ("unicode/utf8.first", Rows.laid_unicode_utf8_first)]
/-- A heap in which the listed tables are laid meets the list. -/
theorem door_met (os : Os) (args : Array Value) : laidMetH Tryd.prog laidL ((World.laidAll Tryd.prog os laidL).forCall (fun _ _ => 0) ⟨#[], args, []⟩).memory := by
  rw [MakeChecks.laidMetH_plain _ _ _ (by kernel_rfl)]; exact laidMet_laidAll _ (by kernel_rfl) (by kernel_rfl)

set_option maxRecDepth 100000 in
theorem lifted (os : Os) (started : os.Started) (H : Type) (enc : TypeId × Value → H) :
    ReturnsInHanded {} Tryd.checked os 6 .any (fun w args => (Rows.fnExactPartsSpec.pre enc Tryd.prog Tryd.f6 [] false w args ∧ laidMetH Tryd.prog laidL w) ∧ sizedMet enc Tryd.prog Tryd.f6 (OpenSpec.ofChange Rows.fnExactPartsSpec) false w args)
      (Rows.fnExactPartsSpec.post enc Tryd.prog Tryd.f6 false true false false) := by
  refine returns_shaped (C := Tryd.checked) (X := fun w _ => laidMetH Tryd.prog laidL w) (fun _ _ _ hh h => h.of_heap hh) own started (by kernel_rfl) Tryd.func6
    (ChangeSpec.witness_shaped (enc := enc) (C := Tryd.checked) (os := os) (X := fun w _ => laidMetH Tryd.prog laidL w) false (World.laidAll Tryd.prog os laidL) #[.string ByteArray.empty, .int .u8 0] 8 (World.laidAll_os _ _ _) (World.shaped_of_ZipB (by kernel_rfl) (by kernel_rfl)) (by kernel_rfl) (by kernel_rfl) (by kernel_rfl) (door_met os _)) ?_
  intro W base args ds gs before hval0 hW _ hsh
  have hval : ∀ (j : Nat) t v, Tryd.f6.params[j]? = some t → args[j]? = some v → Value.okWide Tryd.prog W .any base t v := hval0
  have hW' := hW
  obtain ⟨p, q, hA0, hV, rfl, _, _⟩ := hW
  have hA : DataW.TrodAll enc Tryd.prog W 0 (fun _ => true) true Tryd.f6.params.toList args.toList ds p := hA0
  rw [Tryd.params6] at hA hval
  obtain ⟨v0, vs0, d0, ds0, p0, q0, hargs, rfl, rfl, h0, r0⟩ := trodAll_cons hA
  obtain ⟨v1, vs1, d1, ds1, p1, q1, rfl, rfl, rfl, h1, r1⟩ := trodAll_cons r0
  obtain ⟨rfl, rfl, rfl⟩ := trodAll_nil r1
  obtain rfl : args = #[v0, v1] := by cases args; simp_all
  obtain ⟨rfl, rfl⟩ := trodVars_none hV
  obtain ⟨a0, rfl, rfl, rfl, w0⟩ := open_string Tryd.underlying9 (hval 0 9 v0 rfl rfl) h0
  obtain ⟨a1, rfl, rfl, rfl, w1⟩ := open_int Tryd.underlying5 (hval 1 5 v1 rfl rfl) h1
  have hT := maxLen_cell hsh
  clear hA0 hval0
  refine (walk (w := W) a0 a1 w0 w1 hT).mono fun e W' ⟨he, bel⟩ => ?_
  subst he
  exact ⟨_, rfl, _, _, _, [], _, [], hW', trodAll_mk1 (shut_bool Tryd.underlying4 _), (trodAll_cons_mk (shut_string Tryd.underlying9 w0) (trodAll_cons_mk (shut_int Tryd.underlying5 w1) trodAll_mk0)), rfl, bel.frame _, fun h => by cases h⟩

theorem row_holds : Rows.FnExactPartsSaid :=
  OpenClaim.holds_of_wide 6 Tryd.f6 rfl rfl rfl rfl rfl rfl rfl ⟨rfl, rfl, rfl, rfl, rfl⟩ rfl rfl rfl rfl rfl (by kernel_rfl) Tryd.func6 (by kernel_rfl)
    (of_decide_eq_true (by kernel_rfl)) (by unfold Func.isWrapper; first | (rw [if_pos (by decide +kernel)]; kernel_rfl) | (rw [if_neg (by decide +kernel)]; exact ⟨rfl, rfl⟩))
    (fun os started H enc _ => lifted os started H enc)

theorem proved : Rows.FnExactPartsCardSaid :=
  Claim7.holds_tied_plain_at .later [] [.data, .pinned] true (true, "ca97fc34d6b01d97925f5a745f9e7ec18e5658b93275e269d15352d3608ccb4f") false
    row_holds (fun _ h => by cases h) (by kernel_rfl) (fun _ h => by cases h) fnExactParts_row_tie rfl ⟨rfl, rfl⟩ (by kernel_rfl) rfl
    (fun f fn hf hfn => by
      obtain rfl : f = 6 := Option.some.inj ((show Tryd.prog.funcNamed Rows.fnExactPartsRow.func = some 6 by kernel_rfl).symm.trans hf) |>.symm
      obtain rfl : fn = Tryd.f6 := (Option.some.inj (Tryd.func6.symm.trans hfn)).symm
      exact ⟨by kernel_rfl, fun j t ht => by
        rw [Tryd.params6] at ht
        have hm : t ∈ [9, 5] := by simpa using Array.mem_of_getElem? ht
        have hall : ([9, 5].all fun u => !Tryd.prog.wantsStandIn u) = true := by kernel_rfl
        exact (show Tryd.prog.wantsStandIn t = false by simpa using List.all_eq_true.1 hall t hm)⟩)
    (by kernel_rfl)
#print axioms proved

end Go.Proofs.YtbpmebpnnooidaaDoor.fnExactParts
