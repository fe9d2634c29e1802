/- The law FnAged holds at every code: the program's Aged answers as the model's; ten steps leave no entry of a valid cache, and each cache between is valid; the call returns true for every argument, without condition. -/
import Derived.Test.YthckbabcmmkljaaRows
import Derived.Test.YthckbabcmmkljaaDraw15
import Derived.Test.YthckbabcmmkljaaEntP
import Derived.Test.YthckbabcmmkljaaEntLaw
import Derived.Test.YthckbabcmmkljaaBig
import Derived.Test.YthckbabcmmkljaaOpen
import Derived.ShutString
import Derived.ChangeOld
import Derived.Below
namespace Go.Proofs.Ythckbabcmmkljaa.fnAged
open Go.ChangeShapes Go.WideShapes Go.ChangeAt Go.RowKit Go.Lib

/-- The law's word: true, and what lay before the call lies as it lay. -/
def OkB (w : World) (e : Ending) (w' : World) : Prop := e = .returned (.bool true) ∧ Below w.heap.size w w'

set_option maxRecDepth 100000 in
set_option maxHeartbeats 8000000 in
theorem walk (a0 : Option Addr) (len0 cap0 : Nat) (s0 : List UInt8) {w : World} (w0 : IsBytes w a0 len0 s0) :
    Calls Try.prog 4 #[.slice a0 len0 cap0] w (OkB w) := by
  obtain ⟨⟨rfl, hm⟩, hrow⟩ := w0
  unfold maxLen at hm
  have HR := Lib.hid hrow
  clear hrow
  by_cases hs : s0.length ≤ 1048576
  · go_enter Try.func4, Try.ntmps4
    go_wp2_with fail
    refine (big_no _ _ _ _ hs).mono ?_
    rintro e w' ⟨rfl, rfl⟩
    go_wp2_with fail
    refine (drawAged _ _ _ _ HR.out hs).mono ?_
    rintro e v0 ⟨rs, b, c, rfl, ⟨hl6, hgd⟩, hc, hr, hb⟩
    have HG := Lib.hid hgd
    have B0 := Lib.hid hb
    have Rl0 := Lib.hid hr
    clear hgd hr hb HR
    have CI := Lib.hid (fun w h => agedI (some ⟨b, 0, none⟩) c rs w h (by omega) HG.out)
    have CS := Lib.hid (fun w h => agedN (some ⟨b, 0, none⟩) c rs w h (by omega) HG.out)
    have KS := Lib.hid (fun w h => cacheOkS (some ⟨b, 0, none⟩) c rs w h (by omega) hc)
    have hll := agedE_length rs
    have hgo := goodE_aged HG.out
    cases hx1 : cacheOk rs with
    | false =>
      obtain ⟨LL, hLL⟩ : ∃ LL, agedE rs = LL := ⟨_, rfl⟩
      rw [hLL] at CI CS hll hgo
      rw [hx1] at KS
      clear hx1 hLL hgo
      go_wp2_with fail
      refine (CI.out _ Rl0.out).mono ?_
      rintro e v1 ⟨a1, c1, rfl, ho, hb⟩
      have Rl1 := Lib.hid ((Rl0.out.below hb).mono hb.size)
      have B1 := Lib.hid (B0.out.trans (hb.mono B0.out.size))
      have Ro1 := Lib.hid (Row.ownV ho)
      clear hb Rl0 B0 ho
      go_wp2_with fail
      refine (CS.out _ Rl1.out).mono ?_
      rintro e v2 ⟨g2, c2, rfl, ho, hb⟩
      have Rl2 := Lib.hid ((Rl1.out.below hb).mono hb.size)
      have Ro2 := Lib.hid ((Ro1.out.below hb).mono hb.size)
      have B2 := Lib.hid (B1.out.trans (hb.mono B1.out.size))
      have Rs2 := Lib.hid (Row.ownV ho)
      clear hb Rl1 Ro1 B1 ho
      go_wp2_with fail
      refine (sameEntries_self a1 (some ⟨g2, 0, none⟩) _ c1 c2 LL _ rfl Ro2.out Rs2.out (by omega)).mono ?_
      rintro e v3 ⟨rfl, hb⟩
      have Rl3 := Lib.hid ((Rl2.out.below hb).mono hb.size)
      have Ro3 := Lib.hid ((Ro2.out.below hb).mono hb.size)
      have Rs3 := Lib.hid ((Rs2.out.below hb).mono hb.size)
      have B3 := Lib.hid (B2.out.trans (hb.mono B2.out.size))
      clear hb Rl2 Ro2 Rs2 B2
      go_wp2_with fail
      refine (KS.out _ Rl3.out).mono ?_
      rintro e v4 ⟨rfl, hb⟩
      have Rl4 := Lib.hid ((Rl3.out.below hb).mono hb.size)
      have Ro4 := Lib.hid ((Ro3.out.below hb).mono hb.size)
      have B4 := Lib.hid (B3.out.trans (hb.mono B3.out.size))
      clear hb Rl3 Ro3 B3
      go_wp2_with fail
      go_ret
      exact ⟨rfl, B4.out⟩
    | true =>
      have p := aged_ok hx1 (k := 0) (fun r hr => (((cacheOk_pw rs).1 hx1).2.1 r hr).2.2.1)
      obtain ⟨LL, hLL⟩ : ∃ LL, agedE rs = LL := ⟨_, rfl⟩
      rw [hLL] at CI CS hll hgo
      rw [hLL] at p
      rw [hx1] at KS
      have HX := Lib.hid (show cacheOk LL = true ∧ (∀ r ∈ LL, ((0 : Nat) : Int) + 1 ≤ r.age) ∧ ∀ r ∈ LL, goodE r from ⟨p.1, fun r hr => by have := p.2 r hr; omega, hgo⟩)
      clear hx1 hLL hgo p
      go_wp2_with fail
      refine (CI.out _ Rl0.out).mono ?_
      rintro e v1 ⟨a1, c1, rfl, ho, hb⟩
      have Rl1 := Lib.hid ((Rl0.out.below hb).mono hb.size)
      have B1 := Lib.hid (B0.out.trans (hb.mono B0.out.size))
      have Ro1 := Lib.hid (Row.ownV ho)
      clear hb Rl0 B0 ho
      go_wp2_with fail
      refine (CS.out _ Rl1.out).mono ?_
      rintro e v2 ⟨g2, c2, rfl, ho, hb⟩
      have Rl2 := Lib.hid ((Rl1.out.below hb).mono hb.size)
      have Ro2 := Lib.hid ((Ro1.out.below hb).mono hb.size)
      have B2 := Lib.hid (B1.out.trans (hb.mono B1.out.size))
      have Rs2 := Lib.hid (Row.ownV ho)
      clear hb Rl1 Ro1 B1 ho
      go_wp2_with fail
      refine (sameEntries_self a1 (some ⟨g2, 0, none⟩) _ c1 c2 LL _ rfl Ro2.out Rs2.out (by omega)).mono ?_
      rintro e v3 ⟨rfl, hb⟩
      have Rl3 := Lib.hid ((Rl2.out.below hb).mono hb.size)
      have Ro3 := Lib.hid ((Ro2.out.below hb).mono hb.size)
      have Rs3 := Lib.hid ((Rs2.out.below hb).mono hb.size)
      have B3 := Lib.hid (B2.out.trans (hb.mono B2.out.size))
      clear hb Rl2 Ro2 Rs2 B2
      go_wp2_with fail
      refine (KS.out _ Rl3.out).mono ?_
      rintro e v4 ⟨rfl, hb⟩
      have Rl4 := Lib.hid ((Rl3.out.below hb).mono hb.size)
      have Ro4 := Lib.hid ((Ro3.out.below hb).mono hb.size)
      have B4 := Lib.hid (B3.out.trans (hb.mono B3.out.size))
      clear hb Rl3 Ro3 B3
      go_wp2_with fail
      go_loopw [4, 5] (fun v i wr => ∃ k : Nat, k ≤ 9 ∧ i = .int .i64 k ∧ ∃ (ss : List ER) (a' : Option Addr) (c' : Nat), v = .slice a' ss.length c' ∧ Hid (cacheOk ss = true ∧ (∀ r ∈ ss, (k : Int) + 1 ≤ r.age) ∧ ∀ r ∈ ss, goodE r) ∧ Hid (Row wr wr.heap.size a' (ers ss)) ∧ Hid (Below w.heap.size w wr)) (fun _ i _ => 9 - (RowKit.intOf i).toNat)
      case atStart => exact ⟨0, by omega, rfl, LL, a1, c1, rfl, HX, Ro4, B4⟩
      case round =>
        obtain ⟨k, hk, rfl, ss, a', c', rfl, HS, HRow, HB⟩ := hrel
        have h4 := cacheOk_le HS.out.1
        by_cases hlt : k < 9
        · have C1 := Lib.hid (fun w h => agedI a' c' ss w h (by omega) HS.out.2.2)
          have p := aged_ok HS.out.1 HS.out.2.1
          have pl := agedE_length ss
          have HP := Lib.hid (And.intro p.1 (And.intro p.2 (goodE_aged HS.out.2.2)))
          obtain ⟨tt, htt⟩ : ∃ tt, agedE ss = tt := ⟨_, rfl⟩
          rw [htt] at C1 HP pl
          clear p htt
          have K1 := Lib.hid (fun a c w h => cacheOkI a c tt w h (by omega))
          rw [HP.out.1] at K1
          go_wp2_with fail
          refine (C1.out _ HRow.out).mono ?_
          rintro e v5 ⟨a3, c3, rfl, ho, hb⟩
          have Rq5 := Lib.hid ((HRow.out.below hb).mono hb.size)
          have B5 := Lib.hid (HB.out.trans (hb.mono HB.out.size))
          have Rt5 := Lib.hid (Row.ownV ho)
          clear hb HRow HB ho
          go_wp2_with fail
          refine (K1.out a3 c3 _ Rt5.out).mono ?_
          rintro e v6 ⟨rfl, hb⟩
          have Rq6 := Lib.hid ((Rq5.out.below hb).mono hb.size)
          have Rt6 := Lib.hid ((Rt5.out.below hb).mono hb.size)
          have B6 := Lib.hid (B5.out.trans (hb.mono B5.out.size))
          clear hb Rq5 Rt5 B5
          go_wp2_with fail
          go_roundw
          case rel => exact ⟨k + 1, by omega, by go_num, tt, a3, c3, rfl, ⟨HP.out.1, fun r hr => by have := HP.out.2.1 r hr; push_cast; omega, HP.out.2.2⟩, Rt6, B6⟩
          case measure => simp [RowKit.intOf]; omega
        · obtain rfl : k = 9 := by omega
          have hss : ss = [] := aged_out HS.out.1 (fun r hr => by have := HS.out.2.1 r hr; omega)
          subst hss
          go_wp2_with fail
          go_ret
          exact ⟨rfl, HB.out⟩
  · have h1 : 1048576 < s0.length := by omega
    go_enter Try.func4, Try.ntmps4
    go_wp2_with fail
    refine (big_yes _ _ _ _ h1 hm).mono ?_
    rintro e w' ⟨rfl, rfl⟩
    go_wp2_with fail
    go_ret
    exact ⟨rfl, Below.refl _ _⟩
theorem own : ownKnob Try.prog.godebug = none := by kernel_rfl
theorem laidOut : laidOutB Try.prog = true := by kernel_rfl

set_option maxRecDepth 100000 in
theorem lifted (os : Os) (started : os.Started) (H : Type) (enc : TypeId × Value → H) :
    ReturnsInHanded {} Try.checked os 4 .any (Rows.fnAgedSpec.pre6 enc Try.prog Try.f4 Rows.fnAgedRow.domain false) (Rows.fnAgedSpec.post enc Try.prog Try.f4 false true false false) := by
  refine returnsInHanded_of_change (C := Try.checked) own started (by kernel_rfl) Try.func4
    (ChangeSpec.witness6 (enc := enc) (C := Try.checked) false ⟨#[], #[.slice none 0 0], []⟩ 8 (by kernel_rfl) (by kernel_rfl) (by kernel_rfl) (by kernel_rfl)) ?_
  intro W base args ds gs before hval0 hW _ _
  have hval : ∀ (j : Nat) t v, Try.f4.params[j]? = some t → args[j]? = some v → Value.okWide Try.prog W .any base t v := hval0
  have hW' := hW
  obtain ⟨p, q, hA0, hV, rfl, _, _⟩ := hW
  have hA : DataW.TrodAll enc Try.prog W 0 (fun _ => true) true Try.f4.params.toList args.toList ds p := hA0
  rw [Try.params4] at hA hval
  obtain ⟨v0, vs0, d0, ds0, p0, q0, hargs, rfl, rfl, h0, r0⟩ := trodAll_cons hA
  obtain ⟨rfl, rfl, rfl⟩ := trodAll_nil r0
  obtain rfl : args = #[v0] := by cases args; simp_all
  obtain ⟨rfl, rfl⟩ := trodVars_none hV
  obtain ⟨a0, len0, cap0, rfl⟩ := okWide_slice Try.underlying22 (hval 0 22 v0 rfl rfl)
  have k0 := h0
  have lt0 : ∀ x ∈ p0, x.block < W.heap.size := by obtain ⟨m, hm⟩ := k0; exact DataW.trod_lt m _ _ _ hm
  obtain ⟨s0, w0⟩ : ∃ bs : List UInt8, IsBytes W a0 len0 bs := by obtain ⟨fuel, hf⟩ := h0; exact openBytes Try.underlying22 Try.underlying5 (by kernel_rfl) hf
  clear hA0 hval0
  refine (walk a0 len0 cap0 s0 w0).mono fun e W' ⟨he, bel⟩ => ?_
  subst he
  exact ⟨_, rfl, _, _, _, [], _, [], hW', trodAll_mk1 (shut_bool Try.underlying4 _), (trodAll_cons_mk (Below.trod laidOut (by kernel_rfl) (of_decide_eq_true (by kernel_rfl)) k0 bel lt0) trodAll_mk0), rfl, bel.frame _, fun h => by cases h⟩

theorem over : Rows.fnAgedRow.holds Try.pinned (OpenSpec.ofChange Rows.fnAgedSpec) :=
  OpenClaim.holds_of_wide 4 Try.f4 rfl rfl rfl rfl rfl rfl rfl ⟨rfl, rfl, rfl, rfl, rfl⟩ rfl rfl rfl rfl rfl (by kernel_rfl) Try.func4 (by kernel_rfl)
    (of_decide_eq_true (by kernel_rfl)) (by unfold Func.isWrapper; first | (rw [if_pos (by decide +kernel)]; kernel_rfl) | (rw [if_neg (by decide +kernel)]; exact ⟨rfl, rfl⟩))
    (fun os started H enc _ => lifted os started H enc)

theorem proved : Rows.FnAgedSaid := over
#print axioms proved
end Go.Proofs.Ythckbabcmmkljaa.fnAged
