/- Proved here: for every code of at most 1048576 bytes, with the int n and the text t that are drawn from it, impl.Address reads n from impl.AddressText of n, if n is a word of 32 bits, and nothing else, and reads t exactly where the model reads it, and then impl.AddressText writes t again (a longer code is not asked); the only condition is that the library's five listed tables hold what the program's own text and the form's constant lay (the card ties them). -/
import Derived.Test.YtahkaemdgelmdaaDoorRows
import Derived.Test.YtahkaemdgelmdaaDoorCards
import Derived.Test.YtahkaemdgelmdaaDoorTie
import Derived.Test.YtahkaemdgelmdaaDoorAdrI
import Derived.Test.YtahkaemdgelmdaaDoorAdrBack
import Derived.Test.YtahkaemdgelmdaaDoorReadI
import Derived.Test.YtahkaemdgelmdaaDoorReadS
import Derived.Test.YtahkaemdgelmdaaDoorDrawAdr
import Derived.Test.YtahkaemdgelmdaaDoorBig
import Derived.Test.YtahkaemdgelmdaaDoorOpen
import Derived.Test.YtahkaemdgelmdaaDoorShape
import Derived.ProofKit
import Derived.OpenShut
import Derived.ShutString
import Derived.ChangeOld
import Derived.Below
import Derived.Lay
import Derived.LaidMore
import Derived.Stop.Joined
import Derived.Stop.LaidErr
import Derived.SevenTiedAt
namespace Go.Proofs.YtahkaemdgelmdaaDoor.fnAddress
open Go.ChangeShapes Go.WideShapes Go.ChangeAt Go.RowKit

set_option maxRecDepth 100000 in
set_option maxHeartbeats 2000000 in
theorem walk {w : World} (a0 : Option Addr) (len0 cap0 : Nat) (s0 : List UInt8) (w0 : IsBytes w a0 len0 s0) (hcell : ∃ m, w.cell? ⟨1, 0, none⟩ = some (.int .i64 m)) (htab : Lib.TabIs Tryd.prog w "internal/strconv.uint64pow10" .u64 Lib.pow10Tab) :
    Calls Tryd.prog 3 #[.slice a0 len0 cap0] w fun e w' => e = .returned (.bool true) ∧ Below w.heap.size w w' := by
  obtain ⟨⟨rfl, hm⟩, hrow⟩ := w0
  unfold maxLen at hm
  obtain ⟨m, hcell⟩ := hcell
  have HL := Lib.hid (World.block_lt_of_cell? w _ hcell)
  have HM := Lib.hid hcell
  have TAB := Lib.hid htab
  have HR := Lib.hid hrow
  clear hrow hcell htab
  by_cases hs : s0.length ≤ 1048576
  · go_enter Tryd.func3, Tryd.ntmps3
    go_wp2_with fail
    refine (big_no _ _ _ _ hs).mono ?_
    rintro e w' ⟨rfl, rfl⟩
    go_wp2_with fail
    refine (drawAddressText a0 s0 cap0 w HR.out hs).mono ?_
    rintro e w1 ⟨n, rfl, hn, hb1⟩
    have B1 := Lib.hid hb1
    have P1 := Lib.hid (fun w' (h : Below w.heap.size w w') => addressTextI n w' (tab_below TAB.out h))
    have P2 := Lib.hid (fun w' (h : Below w.heap.size w w') => addressI (adrText n) m w' (Nat.le_trans (adrText_small n) (by decide)) ((h.cell (p := ⟨1, 0, none⟩) HL.out).trans HM.out))
    have P3 := Lib.hid (wordOkS n 32)
    obtain ⟨x, ok, h1, h2, h3⟩ := adr_cases n
    rw [h1] at P2
    rw [h2] at P3
    obtain ⟨u, hu⟩ : ∃ u, adrText n = u := ⟨_, rfl⟩
    rw [hu] at P1 P2
    clear hb1 hn h1 h2 hu
    cases ok with
    | true =>
      obtain rfl := h3 rfl
      clear h3
      go_wp2_with fail
      refine (P1.out w1 B1.out).mono ?_
      rintro e w2 ⟨rfl, hb2⟩
      have B2 := Lib.hid (B1.out.trans (hb2.mono B1.out.size))
      clear hb2
      go_wp2_with fail
      refine (P2.out w2 B2.out).mono ?_
      rintro e w3 ⟨rfl, hb3⟩
      have B3 := Lib.hid (B2.out.trans (hb3.mono B2.out.size))
      have HR3 := Lib.hid ((HR.out.below B3.out).mono B3.out.size)
      clear hb3
      go_wp2_with fail
      refine (drawAddress a0 s0 cap0 w3 HR3.out hs).mono ?_
      rintro e w4 ⟨t, rfl, ht, hb4⟩
      have B4 := Lib.hid (B3.out.trans (hb4.mono B3.out.size))
      have P4 := Lib.hid (fun w' (h : Below w.heap.size w w') => addressI t m w' ht ((h.cell (p := ⟨1, 0, none⟩) HL.out).trans HM.out))
      have P5 := Lib.hid (fun w' => addressS t w' ht)
      obtain ⟨y, right, hy⟩ : ∃ y right, adrOut t = (y, right) := ⟨_, _, rfl⟩
      have Q := Lib.hid (fun (h : right = true) => adr_back t y (by rw [hy, h]))
      rw [hy] at P4 P5
      clear hb4 ht hy
      cases right with
      | true =>
        have P6 := Lib.hid (fun w' (h : Below w.heap.size w w') => addressTextI y w' (tab_below TAB.out h))
        rw [Q.out rfl] at P6
        clear Q
        go_wp2_with fail
        refine (P4.out w4 B4.out).mono ?_
        rintro e w5 ⟨rfl, hb5⟩
        have B5 := Lib.hid (B4.out.trans (hb5.mono B4.out.size))
        clear hb5
        go_wp2_with fail
        refine (P5.out w5).mono ?_
        rintro e w6 ⟨rfl, hb6⟩
        have B6 := Lib.hid (B5.out.trans (hb6.mono B5.out.size))
        clear hb6
        go_wp2_with fail
        refine (P3.out w6).mono ?_
        rintro e w7 ⟨rfl, rfl⟩
        go_wp2_with fail
        refine (P6.out w6 B6.out).mono ?_
        rintro e w7 ⟨rfl, hb7⟩
        have B7 := Lib.hid (B6.out.trans (hb7.mono B6.out.size))
        clear hb7
        go_wp2_with fail
        go_ret
        exact ⟨ret_bool (by simp), B7.out⟩
      | false =>
        clear Q
        go_wp2_with fail
        refine (P4.out w4 B4.out).mono ?_
        rintro e w5 ⟨rfl, hb5⟩
        have B5 := Lib.hid (B4.out.trans (hb5.mono B4.out.size))
        clear hb5
        go_wp2_with fail
        refine (P5.out w5).mono ?_
        rintro e w6 ⟨rfl, hb6⟩
        have B6 := Lib.hid (B5.out.trans (hb6.mono B5.out.size))
        clear hb6
        go_wp2_with fail
        refine (P3.out w6).mono ?_
        rintro e w7 ⟨rfl, rfl⟩
        go_wp2_with fail
        go_ret
        exact ⟨ret_bool (by simp), B6.out⟩
    | false =>
      clear h3
      go_wp2_with fail
      refine (P1.out w1 B1.out).mono ?_
      rintro e w2 ⟨rfl, hb2⟩
      have B2 := Lib.hid (B1.out.trans (hb2.mono B1.out.size))
      clear hb2
      go_wp2_with fail
      refine (P2.out w2 B2.out).mono ?_
      rintro e w3 ⟨rfl, hb3⟩
      have B3 := Lib.hid (B2.out.trans (hb3.mono B2.out.size))
      have HR3 := Lib.hid ((HR.out.below B3.out).mono B3.out.size)
      clear hb3
      go_wp2_with fail
      refine (drawAddress a0 s0 cap0 w3 HR3.out hs).mono ?_
      rintro e w4 ⟨t, rfl, ht, hb4⟩
      have B4 := Lib.hid (B3.out.trans (hb4.mono B3.out.size))
      have P4 := Lib.hid (fun w' (h : Below w.heap.size w w') => addressI t m w' ht ((h.cell (p := ⟨1, 0, none⟩) HL.out).trans HM.out))
      have P5 := Lib.hid (fun w' => addressS t w' ht)
      obtain ⟨y, right, hy⟩ : ∃ y right, adrOut t = (y, right) := ⟨_, _, rfl⟩
      have Q := Lib.hid (fun (h : right = true) => adr_back t y (by rw [hy, h]))
      rw [hy] at P4 P5
      clear hb4 ht hy
      cases right with
      | true =>
        have P6 := Lib.hid (fun w' (h : Below w.heap.size w w') => addressTextI y w' (tab_below TAB.out h))
        rw [Q.out rfl] at P6
        clear Q
        go_wp2_with fail
        refine (P4.out w4 B4.out).mono ?_
        rintro e w5 ⟨rfl, hb5⟩
        have B5 := Lib.hid (B4.out.trans (hb5.mono B4.out.size))
        clear hb5
        go_wp2_with fail
        refine (P5.out w5).mono ?_
        rintro e w6 ⟨rfl, hb6⟩
        have B6 := Lib.hid (B5.out.trans (hb6.mono B5.out.size))
        clear hb6
        go_wp2_with fail
        refine (P3.out w6).mono ?_
        rintro e w7 ⟨rfl, rfl⟩
        go_wp2_with fail
        refine (P6.out w6 B6.out).mono ?_
        rintro e w7 ⟨rfl, hb7⟩
        have B7 := Lib.hid (B6.out.trans (hb7.mono B6.out.size))
        clear hb7
        go_wp2_with fail
        go_ret
        exact ⟨ret_bool (by simp), B7.out⟩
      | false =>
        clear Q
        go_wp2_with fail
        refine (P4.out w4 B4.out).mono ?_
        rintro e w5 ⟨rfl, hb5⟩
        have B5 := Lib.hid (B4.out.trans (hb5.mono B4.out.size))
        clear hb5
        go_wp2_with fail
        refine (P5.out w5).mono ?_
        rintro e w6 ⟨rfl, hb6⟩
        have B6 := Lib.hid (B5.out.trans (hb6.mono B5.out.size))
        clear hb6
        go_wp2_with fail
        refine (P3.out w6).mono ?_
        rintro e w7 ⟨rfl, rfl⟩
        go_wp2_with fail
        go_ret
        exact ⟨ret_bool (by simp), B6.out⟩
  · have h1 : 1048576 < s0.length := by omega
    go_enter Tryd.func3, Tryd.ntmps3
    go_wp2_with fail
    refine (big_yes _ _ _ _ h1 hm).mono ?_
    rintro e w' ⟨rfl, rfl⟩
    go_wp2_with fail
    go_ret
    exact ⟨rfl, Below.refl _ _⟩

theorem gPow : Tryd.prog.globalNamed "internal/strconv.uint64pow10" = some 0 := by kernel_rfl
theorem tPow : (Tryd.prog.globals[0]?).map (·.type) = some 79 := by kernel_rfl
theorem datumPow : (Rows.laid_internal_strconv_uint64pow10 : DataW Unit) = Lib.tabData .u64 Lib.pow10Tab := by rfl

theorem own : ownKnob Tryd.prog.godebug = none := by kernel_rfl
theorem laidOut : laidOutB Tryd.prog = true := by kernel_rfl
/-- The list of the row. -/
abbrev laidL : List (String × DataW Unit) := [("math/bits.deBruijn32tab", Rows.laid_math_bits_deBruijn32tab), ("math/bits.deBruijn64tab", Rows.laid_math_bits_deBruijn64tab), ("internal/strconv.uint64pow10", Rows.laid_internal_strconv_uint64pow10), ("unicode/utf8.acceptRanges", Rows.laid_unicode_utf8_acceptRanges), ("unicode/utf8.first", Rows.laid_unicode_utf8_first)]
/-- WHAT THE LIST GIVES THE WALK: the table of powers of ten. -/
theorem of_laid {W : World} (h : laidMetH Tryd.prog laidL W) : Lib.TabIs Tryd.prog W "internal/strconv.uint64pow10" .u64 Lib.pow10Tab := by
  rw [MakeChecks.laidMetH_plain _ _ _ (by kernel_rfl)] at h
  have h2 := h.tail.tail
  rw [datumPow] at h2
  exact Lib.tabIs_of_head gPow tPow Tryd.underlying79 Tryd.underlying66 (by kernel_rfl) (by kernel_rfl) h2
/-- A heap in which the listed tables are laid meets the list. -/
theorem door_met (os : Os) (args : Array Value) : laidMetH Tryd.prog laidL ((World.laidAll Tryd.prog os laidL).forCall (fun _ _ => 0) ⟨#[], args, []⟩).memory := by
  rw [MakeChecks.laidMetH_plain _ _ _ (by kernel_rfl)]; exact laidMet_laidAll _ (by kernel_rfl) (by kernel_rfl)

set_option maxRecDepth 100000 in
theorem lifted (os : Os) (started : os.Started) (H : Type) (enc : TypeId × Value → H) :
    ReturnsInHanded {} Tryd.checked os 3 .any (fun w args => (Rows.fnAddressSpec.pre enc Tryd.prog Tryd.f3 [] false w args ∧ laidMetH Tryd.prog laidL w) ∧ sizedMet enc Tryd.prog Tryd.f3 (OpenSpec.ofChange Rows.fnAddressSpec) false w args)
      (Rows.fnAddressSpec.post enc Tryd.prog Tryd.f3 false true false false) := by
  refine returns_shaped (C := Tryd.checked) (X := fun w _ => laidMetH Tryd.prog laidL w) (fun _ _ _ hh h => h.of_heap hh) own started (by kernel_rfl) Tryd.func3
    (ChangeSpec.witness_shaped (enc := enc) (C := Tryd.checked) (os := os) (X := fun w _ => laidMetH Tryd.prog laidL w) false (World.laidAll Tryd.prog os laidL) #[.slice none 0 0] 8 (World.laidAll_os _ _ _) (World.shaped_of_ZipB (by kernel_rfl) (by kernel_rfl)) (by kernel_rfl) (by kernel_rfl) (by kernel_rfl) (door_met os _)) ?_
  intro W base args ds gs before hval0 hW hL hsh
  have hval : ∀ (j : Nat) t v, Tryd.f3.params[j]? = some t → args[j]? = some v → Value.okWide Tryd.prog W .any base t v := hval0
  have hW' := hW
  obtain ⟨p, q, hA0, hV, rfl, _, _⟩ := hW
  have hA : DataW.TrodAll enc Tryd.prog W 0 (fun _ => true) true Tryd.f3.params.toList args.toList ds p := hA0
  rw [Tryd.params3] at hA hval
  obtain ⟨v0, vs0, d0, ds0, p0, q0, hargs, rfl, rfl, h0, r0⟩ := trodAll_cons hA
  obtain ⟨rfl, rfl, rfl⟩ := trodAll_nil r0
  obtain rfl : args = #[v0] := by cases args; simp_all
  obtain ⟨rfl, rfl⟩ := trodVars_none hV
  obtain ⟨a0, len0, cap0, rfl⟩ := okWide_slice Tryd.underlying22 (hval 0 22 v0 rfl rfl)
  have k0 := h0
  have lt0 : ∀ x ∈ p0, x.block < W.heap.size := by obtain ⟨m, hm⟩ := k0; exact DataW.trod_lt m _ _ _ hm
  obtain ⟨s0, w0⟩ : ∃ bs : List UInt8, IsBytes W a0 len0 bs := by obtain ⟨fuel, hf⟩ := h0; exact openBytes Tryd.underlying22 Tryd.underlying5 (by kernel_rfl) hf
  have hT := maxLen_cell hsh
  have hT2 := of_laid hL
  clear hA0 hval0
  refine (walk (w := W) a0 len0 cap0 s0 w0 hT hT2).mono fun e W' ⟨he, bel⟩ => ?_
  subst he
  exact ⟨_, rfl, _, _, _, [], _, [], hW', trodAll_mk1 (shut_bool Tryd.underlying4 _), (trodAll_cons_mk (Below.trod laidOut (by kernel_rfl) (of_decide_eq_true (by kernel_rfl)) k0 bel lt0) trodAll_mk0), rfl, bel.frame _, fun h => by cases h⟩

theorem row_holds : Rows.FnAddressSaid :=
  OpenClaim.holds_of_wide 3 Tryd.f3 rfl rfl rfl rfl rfl rfl rfl ⟨rfl, rfl, rfl, rfl, rfl⟩ rfl rfl rfl rfl rfl (by kernel_rfl) Tryd.func3 (by kernel_rfl)
    (of_decide_eq_true (by kernel_rfl)) (by unfold Func.isWrapper; first | (rw [if_pos (by decide +kernel)]; kernel_rfl) | (rw [if_neg (by decide +kernel)]; exact ⟨rfl, rfl⟩))
    (fun os started H enc _ => lifted os started H enc)

theorem proved : Rows.FnAddressCardSaid :=
  Claim7.holds_tied_plain_at .later [] [.data, .data, .data, .data, .pinned] true (true, "e0c49f7dd9a8e74ea3f7d77d9910f6acaf2e9e187b856a4c2c4724ed30bd6a16") false
    row_holds (fun _ h => by cases h) (by kernel_rfl) (fun _ h => by cases h) fnAddress_row_tie rfl ⟨rfl, rfl⟩ (by kernel_rfl) rfl
    (fun f fn hf hfn => by
      obtain rfl : f = 3 := Option.some.inj ((show Tryd.prog.funcNamed Rows.fnAddressRow.func = some 3 by kernel_rfl).symm.trans hf) |>.symm
      obtain rfl : fn = Tryd.f3 := (Option.some.inj (Tryd.func3.symm.trans hfn)).symm
      exact ⟨by kernel_rfl, fun j t ht => by
        rw [Tryd.params3] at ht
        have hm : t ∈ [22] := by simpa using Array.mem_of_getElem? ht
        have hall : ([22].all fun u => !Tryd.prog.wantsStandIn u) = true := by kernel_rfl
        exact (show Tryd.prog.wantsStandIn t = false by simpa using List.all_eq_true.1 hall t hm)⟩)
    (by kernel_rfl)
#print axioms proved

end Go.Proofs.YtahkaemdgelmdaaDoor.fnAddress
