/- Proved here: for every code of at most 1048576 bytes, with the int n and the text s that are drawn from it, Number reads n from Digits(n) exactly from 0 to 999999999999, and reads a number from s exactly where the model does, whose Digits are s (a longer code is not asked); the only condition is that the library's three listed tables hold what the program's own text lays (the card ties them). -/
import Derived.Test.YtbpmebpnnooidaaDoorRows
import Derived.Test.YtbpmebpnnooidaaDoorCards
import Derived.Test.YtbpmebpnnooidaaDoorTie
import Derived.Test.YtbpmebpnnooidaaDoorDrawNum2
import Derived.Test.YtbpmebpnnooidaaDoorDigB
import Derived.Test.YtbpmebpnnooidaaDoorBig
import Derived.Test.YtbpmebpnnooidaaDoorOpen
import Derived.ShutString
import Derived.ChangeOld
import Derived.Below
import Derived.LaidMore
import Derived.Stop.Joined
import Derived.Stop.LaidErr
import Derived.SevenTiedAt
namespace Go.Proofs.YtbpmebpnnooidaaDoor.fnNum
open Go.ChangeShapes Go.WideShapes Go.ChangeAt Go.RowKit
open Go.ChangeMaps (open_string shut_string)

/-- Number of a text, its answer known. -/
theorem numI (s : ByteArray) (m : Int) (b : Bool) (h : numOut s = (m, b)) (w : World) (hs : s.size ≤ 1048576) : Calls Tryd.prog 9 #[.string s] w fun e w' => e = .returned (.tuple #[.int .i64 m, .bool b]) ∧ Below w.heap.size w w' := by
  have := numberI s w hs; rw [h] at this; exact this
theorem numS (s : ByteArray) (m : Int) (b : Bool) (h : numOut s = (m, b)) (w : World) (hs : s.size ≤ 1048576) : Calls Tryd.prog 12 #[.string s] w fun e w' => e = .returned (.tuple #[.int .i64 m, .bool b]) ∧ Below w.heap.size w w' := by
  have := numberS s w hs; rw [h] at this; exact this

set_option maxRecDepth 100000 in
set_option maxHeartbeats 2000000 in
theorem walk {w : World} (a0 : Option Addr) (len0 cap0 : Nat) (s0 : List UInt8) (w0 : IsBytes w a0 len0 s0) (htab : Lib.TabIs Tryd.prog w "internal/strconv.uint64pow10" .u64 Lib.pow10Tab) :
    Calls Tryd.prog 3 #[.slice a0 len0 cap0] w fun e w' => e = .returned (.bool true) ∧ Below w.heap.size w w' := by
  obtain ⟨⟨rfl, hm⟩, hrow⟩ := w0
  unfold maxLen at hm
  have HR := Lib.hid hrow
  have HT := Lib.hid htab
  clear hrow htab
  by_cases hs : s0.length ≤ 1048576
  · go_enter Tryd.func3, Tryd.ntmps3
    go_wp2_with fail
    refine (big_no _ _ _ _ hs).mono ?_
    rintro e w' ⟨rfl, rfl⟩
    go_wp2_with fail
    refine (drawDigits a0 s0 cap0 w HR.out hs).mono ?_
    rintro e w1 ⟨n, rfl, hn, hb1⟩
    have N := Lib.hid hn
    have B1 := Lib.hid hb1
    clear hn hb1
    go_wp2_with fail
    refine (digitsI n w1 N.out.1 N.out.2 (tab_below HT.out B1.out)).mono ?_
    rintro e w2 ⟨rfl, hb2⟩
    have B2 := Lib.hid (B1.out.trans (hb2.mono B1.out.size))
    clear hb2
    obtain ⟨m, ok, hmo, hcase⟩ : ∃ m ok, numOut ⟨(Lib.itoa n).toArray⟩ = (m, ok) ∧ ((0 ≤ n ∧ n ≤ 999999999999 ∧ m = n ∧ ok = true) ∨ ((n < 0 ∨ 999999999999 < n) ∧ m = 0 ∧ ok = false)) := by
      by_cases h : n < 0 ∨ 999999999999 < n
      · exact ⟨0, false, num_itoa_out n h, .inr ⟨h, rfl, rfl⟩⟩
      · exact ⟨n, true, num_itoa_in n (by omega) (by omega), .inl ⟨by omega, by omega, rfl, rfl⟩⟩
    have HM := Lib.hid hmo
    have HC := Lib.hid hcase
    clear hmo hcase
    go_wp2_with fail
    refine (numI _ m ok HM.out w2 (itoa_size n N.out)).mono ?_
    rintro e w3 ⟨rfl, hb3⟩
    have B3 := Lib.hid (B2.out.trans (hb3.mono B2.out.size))
    clear hb3
    go_wp2_with fail
    refine (drawNumber a0 s0 cap0 w3 ((HR.out.below B3.out).mono B3.out.size) hs).mono ?_
    rintro e w4 ⟨s, rfl, hsz, hb4⟩
    have B4 := Lib.hid (B3.out.trans (hb4.mono B3.out.size))
    clear hb4
    obtain ⟨x, r, hx, hxc⟩ : ∃ x r, numOut s = (x, r) ∧ ((r = true ∧ (⟨(Lib.itoa x).toArray⟩ : ByteArray) = s ∧ I64 x) ∨ (r = false ∧ x = 0)) := by
      rcases numOut_cases s with ⟨x, hx⟩ | hx
      · exact ⟨x, true, hx, .inl ⟨rfl, num_back s x hx⟩⟩
      · exact ⟨0, false, hx, .inr ⟨rfl, rfl⟩⟩
    have HX := Lib.hid hx
    have HXC := Lib.hid hxc
    clear hx hxc
    go_wp2_with fail
    refine (numI _ x r HX.out w4 hsz).mono ?_
    rintro e w5 ⟨rfl, hb5⟩
    have B5 := Lib.hid (B4.out.trans (hb5.mono B4.out.size))
    clear hb5
    go_wp2_with fail
    refine (numS _ x r HX.out w5 hsz).mono ?_
    rintro e w6 ⟨rfl, hb6⟩
    have B6 := Lib.hid (B5.out.trans (hb6.mono B5.out.size))
    clear hb6
    rcases HXC.out with ⟨rfl, hxs, hxi⟩ | ⟨rfl, rfl⟩
    · have XS := Lib.hid hxs
      have XI := Lib.hid hxi
      clear hxs hxi
      go_wp2_with fail
      refine (digitsI x w6 XI.out.1 XI.out.2 (tab_below HT.out B6.out)).mono ?_
      rintro e w7 ⟨rfl, hb7⟩
      rw [XS.out]
      have B7 := Lib.hid (B6.out.trans (hb7.mono B6.out.size))
      clear hb7
      rcases HC.out with ⟨n0, n1, rfl, rfl⟩ | ⟨h, rfl, rfl⟩
      · go_wp2_with fail
        go_ret
        exact ⟨by simp, B7.out⟩
      · rcases h with h | h
        · go_wp2_with fail
          go_ret
          exact ⟨by simp, B7.out⟩
        · go_wp2_with fail
          go_ret
          exact ⟨by simp, B7.out⟩
    · rcases HC.out with ⟨n0, n1, rfl, rfl⟩ | ⟨h, rfl, rfl⟩
      · go_wp2_with fail
        go_ret
        exact ⟨by simp, B6.out⟩
      · rcases h with h | h
        · go_wp2_with fail
          go_ret
          exact ⟨by simp, B6.out⟩
        · go_wp2_with fail
          go_ret
          exact ⟨by simp, B6.out⟩
  · go_enter Tryd.func3, Tryd.ntmps3
    go_wp2_with fail
    refine (big_yes _ _ _ _ (by omega) (by omega)).mono ?_
    rintro e w' ⟨rfl, rfl⟩
    go_wp2_with fail
    go_ret
    exact ⟨rfl, Below.refl _ _⟩

theorem gPow : Tryd.prog.globalNamed "internal/strconv.uint64pow10" = some 1 := by kernel_rfl
theorem tPow : (Tryd.prog.globals[1]?).map (·.type) = some 84 := by kernel_rfl
theorem datumPow : (Rows.laid_internal_strconv_uint64pow10 : DataW Unit) = Lib.tabData .u64 Lib.pow10Tab := by rfl

theorem own : ownKnob Tryd.prog.godebug = none := by kernel_rfl
theorem laidOut : laidOutB Tryd.prog = true := by kernel_rfl
/-- The list of the row. -/
abbrev laidL : List (String × DataW Unit) := [("math/bits.deBruijn32tab", Rows.laid_math_bits_deBruijn32tab), ("math/bits.deBruijn64tab", Rows.laid_math_bits_deBruijn64tab), ("internal/strconv.uint64pow10", Rows.laid_internal_strconv_uint64pow10)]
/-- WHAT THE LIST GIVES THE WALK: the table of powers of ten. -/
theorem of_laid {W : World} (h : laidMetH Tryd.prog laidL W) : Lib.TabIs Tryd.prog W "internal/strconv.uint64pow10" .u64 Lib.pow10Tab := by
  rw [MakeChecks.laidMetH_plain _ _ _ (by kernel_rfl)] at h
  have h2 := h.tail.tail
  rw [datumPow] at h2
  exact Lib.tabIs_of_head gPow tPow Tryd.underlying84 Tryd.underlying72 (by kernel_rfl) (by kernel_rfl) h2
/-- The heap that the variables' own initialisers leave meets the list. -/
theorem door_met (os : Os) (args : Array Value) : laidMetH Tryd.prog laidL ((World.doorLaid Tryd.prog 34 os).forCall (fun _ _ => 0) ⟨#[], args, []⟩).memory :=
  laidMetH_of_parts3 (fuel := 8) (laidMet_of_run' 8 (by kernel_rfl) (by kernel_rfl)) (by kernel_rfl) (by kernel_rfl)

set_option maxRecDepth 100000 in
theorem lifted (os : Os) (started : os.Started) (H : Type) (enc : TypeId × Value → H) :
    ReturnsInHanded {} Tryd.checked os 3 .any (fun w args => (Rows.fnNumSpec.pre enc Tryd.prog Tryd.f3 [] false w args ∧ laidMetH Tryd.prog laidL w) ∧ sizedMet enc Tryd.prog Tryd.f3 (OpenSpec.ofChange Rows.fnNumSpec) false w args)
      (Rows.fnNumSpec.post enc Tryd.prog Tryd.f3 false true false false) := by
  refine returnsInHanded_of_change_and (C := Tryd.checked) (X := fun w _ => laidMetH Tryd.prog laidL w) (fun _ _ _ hh h => h.of_heap hh) own started (by kernel_rfl) Tryd.func3
    (ChangeSpec.witness_shaped (enc := enc) (C := Tryd.checked) (os := os) (X := fun w _ => laidMetH Tryd.prog laidL w) false (World.doorLaid Tryd.prog 34 os) #[.slice none 0 0] 8 rfl (World.shaped_of_RefB (by kernel_rfl) (by kernel_rfl)) (by kernel_rfl) (by kernel_rfl) (by kernel_rfl) (door_met os _)) ?_
  intro W base args ds gs before hval0 hW _ _ hL _
  have hval : ∀ (j : Nat) t v, Tryd.f3.params[j]? = some t → args[j]? = some v → Value.okWide Tryd.prog W .any base t v := hval0
  have hW' := hW
  obtain ⟨p, q, hA0, hV, rfl, _, _⟩ := hW
  have hA : DataW.TrodAll enc Tryd.prog W 0 (fun _ => true) true Tryd.f3.params.toList args.toList ds p := hA0
  rw [Tryd.params3] at hA hval
  obtain ⟨v0, vs0, d0, ds0, p0, q0, hargs, rfl, rfl, h0, r0⟩ := trodAll_cons hA
  obtain ⟨rfl, rfl, rfl⟩ := trodAll_nil r0
  obtain rfl : args = #[v0] := by cases args; simp_all
  obtain ⟨rfl, rfl⟩ := trodVars_none hV
  obtain ⟨a0, len0, cap0, rfl⟩ := okWide_slice Tryd.underlying22 (hval 0 22 v0 rfl rfl)
  have k0 := h0
  have lt0 : ∀ x ∈ p0, x.block < W.heap.size := by obtain ⟨m, hm⟩ := k0; exact DataW.trod_lt m _ _ _ hm
  obtain ⟨s0, w0⟩ : ∃ bs : List UInt8, IsBytes W a0 len0 bs := by obtain ⟨fuel, hf⟩ := h0; exact openBytes Tryd.underlying22 Tryd.underlying5 (by kernel_rfl) hf
  have hT := of_laid hL
  clear hA0 hval0
  refine (walk (w := W) a0 len0 cap0 s0 w0 hT).mono fun e W' ⟨he, bel⟩ => ?_
  subst he
  exact ⟨_, rfl, _, _, _, [], _, [], hW', trodAll_mk1 (shut_bool Tryd.underlying4 _), (trodAll_cons_mk (Below.trod laidOut (by kernel_rfl) (of_decide_eq_true (by kernel_rfl)) k0 bel lt0) trodAll_mk0), rfl, bel.frame _, fun h => by cases h⟩

theorem row_holds : Rows.FnNumSaid :=
  OpenClaim.holds_of_wide 3 Tryd.f3 rfl rfl rfl rfl rfl rfl rfl ⟨rfl, rfl, rfl, rfl, rfl⟩ rfl rfl rfl rfl rfl (by kernel_rfl) Tryd.func3 (by kernel_rfl)
    (of_decide_eq_true (by kernel_rfl)) (by unfold Func.isWrapper; first | (rw [if_pos (by decide +kernel)]; kernel_rfl) | (rw [if_neg (by decide +kernel)]; exact ⟨rfl, rfl⟩))
    (fun os started H enc _ => lifted os started H enc)

theorem proved : Rows.FnNumCardSaid :=
  Claim7.holds_tied_plain_at .later [] [.data, .data, .data] true (true, "ca97fc34d6b01d97925f5a745f9e7ec18e5658b93275e269d15352d3608ccb4f") false
    row_holds (fun _ h => by cases h) (by kernel_rfl) (fun _ h => by cases h) fnNum_row_tie rfl ⟨rfl, rfl⟩ (by kernel_rfl) rfl
    (fun f fn hf hfn => by
      obtain rfl : f = 3 := Option.some.inj ((show Tryd.prog.funcNamed Rows.fnNumRow.func = some 3 by kernel_rfl).symm.trans hf) |>.symm
      obtain rfl : fn = Tryd.f3 := (Option.some.inj (Tryd.func3.symm.trans hfn)).symm
      exact ⟨by kernel_rfl, fun j t ht => by
        rw [Tryd.params3] at ht
        have hm : t ∈ [22] := by simpa using Array.mem_of_getElem? ht
        have hall : ([22].all fun u => !Tryd.prog.wantsStandIn u) = true := by kernel_rfl
        exact (show Tryd.prog.wantsStandIn t = false by simpa using List.all_eq_true.1 hall t hm)⟩)
    (by kernel_rfl)
#print axioms proved

end Go.Proofs.YtbpmebpnnooidaaDoor.fnNum
