/- Proved here: for every code of at most 1048576 bytes, with the Sip and the word that are drawn from it, impl.SipRound and impl.SipWord answer what the model answers, and the laws' own steps back give the Sip as it was (a longer code is not asked); the call returns true for every argument, without condition. -/
import Derived.Test.YtojkkholopodaaaRows
import Derived.Test.YtojkkholopodaaaSipBack
import Derived.Test.YtojkkholopodaaaDrawSipW
import Derived.Test.YtojkkholopodaaaBig
import Derived.Test.YtojkkholopodaaaOpen
import Derived.Deep.RegionHeld3
import Derived.ShutString
import Derived.ChangeOld
import Derived.Below
namespace Go.Proofs.Ytojkkholopodaaa.fnSip
open Go.ChangeShapes Go.WideShapes Go.ChangeAt Go.RowKit

/-- Two structs of four words each, kept over a call that makes memory of its own. -/
theorem keepSS {w w' : World} {g f : Nat} {a0 a1 a2 a3 b0 b1 b2 b3 : Value}
    (h : g < w.heap.size ∧ f < w.heap.size ∧ w.cell? ⟨g, 0, none⟩ = some a0 ∧ w.cell? ⟨g, 1, none⟩ = some a1 ∧ w.cell? ⟨g, 2, none⟩ = some a2 ∧ w.cell? ⟨g, 3, none⟩ = some a3 ∧ w.cell? ⟨f, 0, none⟩ = some b0 ∧ w.cell? ⟨f, 1, none⟩ = some b1 ∧ w.cell? ⟨f, 2, none⟩ = some b2 ∧ w.cell? ⟨f, 3, none⟩ = some b3) (hb : Below w.heap.size w w') :
    g < w'.heap.size ∧ f < w'.heap.size ∧ w'.cell? ⟨g, 0, none⟩ = some a0 ∧ w'.cell? ⟨g, 1, none⟩ = some a1 ∧ w'.cell? ⟨g, 2, none⟩ = some a2 ∧ w'.cell? ⟨g, 3, none⟩ = some a3 ∧ w'.cell? ⟨f, 0, none⟩ = some b0 ∧ w'.cell? ⟨f, 1, none⟩ = some b1 ∧ w'.cell? ⟨f, 2, none⟩ = some b2 ∧ w'.cell? ⟨f, 3, none⟩ = some b3 := by
  obtain ⟨hg, hf, c0, c1, c2, c3, d0, d1, d2, d3⟩ := h
  have n := hb.size
  exact ⟨by omega, by omega, (hb.cell (p := ⟨g, 0, none⟩) hg).trans c0, (hb.cell (p := ⟨g, 1, none⟩) hg).trans c1, (hb.cell (p := ⟨g, 2, none⟩) hg).trans c2, (hb.cell (p := ⟨g, 3, none⟩) hg).trans c3,
    (hb.cell (p := ⟨f, 0, none⟩) hf).trans d0, (hb.cell (p := ⟨f, 1, none⟩) hf).trans d1, (hb.cell (p := ⟨f, 2, none⟩) hf).trans d2, (hb.cell (p := ⟨f, 3, none⟩) hf).trans d3⟩
/-- Three of them. -/
theorem keep3S {w w' : World} {g f k : Nat} {a0 a1 a2 a3 b0 b1 b2 b3 x0 x1 x2 x3 : Value}
    (h : g < w.heap.size ∧ f < w.heap.size ∧ k < w.heap.size ∧ (w.cell? ⟨g, 0, none⟩ = some a0 ∧ w.cell? ⟨g, 1, none⟩ = some a1 ∧ w.cell? ⟨g, 2, none⟩ = some a2 ∧ w.cell? ⟨g, 3, none⟩ = some a3) ∧ (w.cell? ⟨f, 0, none⟩ = some b0 ∧ w.cell? ⟨f, 1, none⟩ = some b1 ∧ w.cell? ⟨f, 2, none⟩ = some b2 ∧ w.cell? ⟨f, 3, none⟩ = some b3) ∧ w.cell? ⟨k, 0, none⟩ = some x0 ∧ w.cell? ⟨k, 1, none⟩ = some x1 ∧ w.cell? ⟨k, 2, none⟩ = some x2 ∧ w.cell? ⟨k, 3, none⟩ = some x3) (hb : Below w.heap.size w w') :
    g < w'.heap.size ∧ f < w'.heap.size ∧ k < w'.heap.size ∧ (w'.cell? ⟨g, 0, none⟩ = some a0 ∧ w'.cell? ⟨g, 1, none⟩ = some a1 ∧ w'.cell? ⟨g, 2, none⟩ = some a2 ∧ w'.cell? ⟨g, 3, none⟩ = some a3) ∧ (w'.cell? ⟨f, 0, none⟩ = some b0 ∧ w'.cell? ⟨f, 1, none⟩ = some b1 ∧ w'.cell? ⟨f, 2, none⟩ = some b2 ∧ w'.cell? ⟨f, 3, none⟩ = some b3) ∧ w'.cell? ⟨k, 0, none⟩ = some x0 ∧ w'.cell? ⟨k, 1, none⟩ = some x1 ∧ w'.cell? ⟨k, 2, none⟩ = some x2 ∧ w'.cell? ⟨k, 3, none⟩ = some x3 := by
  obtain ⟨hg, hf, hk, ⟨c0, c1, c2, c3⟩, ⟨d0, d1, d2, d3⟩, e0, e1, e2, e3⟩ := h
  have n := hb.size
  exact ⟨by omega, by omega, by omega, ⟨(hb.cell (p := ⟨g, 0, none⟩) hg).trans c0, (hb.cell (p := ⟨g, 1, none⟩) hg).trans c1, (hb.cell (p := ⟨g, 2, none⟩) hg).trans c2, (hb.cell (p := ⟨g, 3, none⟩) hg).trans c3⟩,
    ⟨(hb.cell (p := ⟨f, 0, none⟩) hf).trans d0, (hb.cell (p := ⟨f, 1, none⟩) hf).trans d1, (hb.cell (p := ⟨f, 2, none⟩) hf).trans d2, (hb.cell (p := ⟨f, 3, none⟩) hf).trans d3⟩,
    (hb.cell (p := ⟨k, 0, none⟩) hk).trans e0, (hb.cell (p := ⟨k, 1, none⟩) hk).trans e1, (hb.cell (p := ⟨k, 2, none⟩) hk).trans e2, (hb.cell (p := ⟨k, 3, none⟩) hk).trans e3⟩
/-- What the walk needs of the drawn words: u behind a round, q behind a word, r, p on the way back. -/
theorem words (s : S4) (m : BitVec 64) : ∃ (ua ub uc ud ra rb rc rd pa pb pc pd td qa : BitVec 64),
    s.rnds 1 = ⟨ua, ub, uc, ud⟩ ∧ s.wrd m = ⟨qa, rb, rc, rd⟩ ∧ qa ^^^ m = ra ∧ S4.back ⟨ua, ub, uc, ud⟩ = s ∧ S4.back ⟨ra, rb, rc, rd⟩ = ⟨pa, pb, pc, pd⟩ ∧ S4.back ⟨pa, pb, pc, pd⟩ = ⟨s.a, s.b, s.c, td⟩ ∧ td ^^^ m = s.d := by
  refine ⟨(s.rnds 1).a, (s.rnds 1).b, (s.rnds 1).c, (s.rnds 1).d, ((s.inD m).rnds 2).a, ((s.inD m).rnds 2).b, ((s.inD m).rnds 2).c, ((s.inD m).rnds 2).d, ((s.inD m).rnds 1).a, ((s.inD m).rnds 1).b, ((s.inD m).rnds 1).c, ((s.inD m).rnds 1).d, s.d ^^^ m, ((s.inD m).rnds 2).a ^^^ m, rfl, rfl, xor_back _ _, ?_, ?_, ?_, xor_back _ _⟩
  · exact S4.back_rnd s
  · exact S4.back_rnd ((s.inD m).rnds 1)
  · exact S4.back_rnd (s.inD m)

set_option maxRecDepth 100000 in
set_option maxHeartbeats 4000000 in
theorem walk (a0 : Option Addr) (len0 cap0 : Nat) (s0 : List UInt8) {w : World} (w0 : IsBytes w a0 len0 s0) :
    Calls Try.prog 3 #[.slice a0 len0 cap0] w fun e w' => e = .returned (.bool true) ∧ Below w.heap.size w w' := by
  obtain ⟨⟨rfl, hm⟩, hrow⟩ := w0
  unfold maxLen at hm
  have HR := Lib.hid hrow
  clear hrow
  by_cases hs : s0.length ≤ 1048576
  · go_enter Try.func3, Try.ntmps3
    go_wp2_with fail
    refine (big_no _ _ _ _ hs).mono ?_
    rintro e w' ⟨rfl, rfl⟩
    go_wp2_with fail
    refine (drawSipWord a0 s0 cap0 w HR.out hs).mono ?_
    rintro e w1 ⟨s, m, rfl, hb1⟩
    have B1 := Lib.hid hb1
    have g1 := hb1.size
    clear hb1 HR
    obtain ⟨ua, ub, uc, ud, ra, rb, rc, rd, pa, pb, pc, pd, td, qa, hu, hq, hra, hbu, hbr, hbp, htd⟩ := words s m
    have CI : Hid (∀ w, Calls Try.prog 12 #[.agg #[.int .u64 (n64 s.a), .int .u64 (n64 s.b), .int .u64 (n64 s.c), .int .u64 (n64 s.d)]] w fun e w' => e = .returned (.agg #[.int .u64 (n64 ua), .int .u64 (n64 ub), .int .u64 (n64 uc), .int .u64 (n64 ud)]) ∧ Below w.heap.size w w') := by
      show ∀ _, _
      intro w
      have := sipRoundI s w
      rwa [hu] at this
    have CS : Hid (∀ w, Calls Try.prog 13 #[.agg #[.int .u64 (n64 s.a), .int .u64 (n64 s.b), .int .u64 (n64 s.c), .int .u64 (n64 s.d)]] w fun e w' => e = .returned (.agg #[.int .u64 (n64 ua), .int .u64 (n64 ub), .int .u64 (n64 uc), .int .u64 (n64 ud)]) ∧ Below w.heap.size w w') := by
      show ∀ _, _
      intro w
      have := sipRoundS s w
      rwa [hu] at this
    have CU : Hid (∀ w, Calls Try.prog 14 #[.agg #[.int .u64 (n64 ua), .int .u64 (n64 ub), .int .u64 (n64 uc), .int .u64 (n64 ud)]] w fun e w' => e = .returned (.agg #[.int .u64 (n64 s.a), .int .u64 (n64 s.b), .int .u64 (n64 s.c), .int .u64 (n64 s.d)]) ∧ Below w.heap.size w w') := by
      show ∀ _, _
      intro w
      have := unroundL ⟨ua, ub, uc, ud⟩ w
      rwa [hbu] at this
    have WI : Hid (∀ w, Calls Try.prog 15 #[.agg #[.int .u64 (n64 s.a), .int .u64 (n64 s.b), .int .u64 (n64 s.c), .int .u64 (n64 s.d)], .int .u64 (n64 m)] w fun e w' => e = .returned (.agg #[.int .u64 (n64 qa), .int .u64 (n64 rb), .int .u64 (n64 rc), .int .u64 (n64 rd)]) ∧ Below w.heap.size w w') := by
      show ∀ _, _
      intro w
      have := sipWordI s m w
      rwa [hq] at this
    have WS : Hid (∀ w, Calls Try.prog 16 #[.agg #[.int .u64 (n64 s.a), .int .u64 (n64 s.b), .int .u64 (n64 s.c), .int .u64 (n64 s.d)], .int .u64 (n64 m)] w fun e w' => e = .returned (.agg #[.int .u64 (n64 qa), .int .u64 (n64 rb), .int .u64 (n64 rc), .int .u64 (n64 rd)]) ∧ Below w.heap.size w w') := by
      show ∀ _, _
      intro w
      have := sipWordS s m w
      rwa [hq] at this
    have U2 : Hid (∀ w, Calls Try.prog 14 #[.agg #[.int .u64 (n64 ra), .int .u64 (n64 rb), .int .u64 (n64 rc), .int .u64 (n64 rd)]] w fun e w' => e = .returned (.agg #[.int .u64 (n64 pa), .int .u64 (n64 pb), .int .u64 (n64 pc), .int .u64 (n64 pd)]) ∧ Below w.heap.size w w') := by
      show ∀ _, _
      intro w
      have := unroundL ⟨ra, rb, rc, rd⟩ w
      rwa [hbr] at this
    have U1 : Hid (∀ w, Calls Try.prog 14 #[.agg #[.int .u64 (n64 pa), .int .u64 (n64 pb), .int .u64 (n64 pc), .int .u64 (n64 pd)]] w fun e w' => e = .returned (.agg #[.int .u64 (n64 s.a), .int .u64 (n64 s.b), .int .u64 (n64 s.c), .int .u64 (n64 td)]) ∧ Below w.heap.size w w') := by
      show ∀ _, _
      intro w
      have := unroundL ⟨pa, pb, pc, pd⟩ w
      rwa [hbp] at this
    have hA : bits .xor .u64 (n64 qa) (n64 m) = n64 ra := by rw [xor64, hra]
    have hD : bits .xor .u64 (n64 td) (n64 m) = n64 s.d := by rw [xor64, htd]
    clear hu hq hra hbu hbr hbp htd
    obtain ⟨sa, sb, sc, sd⟩ := s
    simp only at CI CS CU WI WS U1 hD ⊢
    go_wp2_with fail
    have B2 := Lib.hid (B1.out.alloc g1 (.cells #[.int .u64 (n64 sa), .int .u64 (n64 sb), .int .u64 (n64 sc), .int .u64 (n64 sd)] 26))
    have P2 := Lib.hid (Blk.new w1 [.int .u64 (n64 sa), .int .u64 (n64 sb), .int .u64 (n64 sc), .int .u64 (n64 sd)] 26)
    clear B1
    generalize w1.alloc (.cells #[.int .u64 (n64 sa), .int .u64 (n64 sb), .int .u64 (n64 sc), .int .u64 (n64 sd)] 26) = w2 at B2 P2 ⊢
    generalize w1.heap.size = gs at g1 P2 ⊢
    refine (CI.out w2).mono ?_
    rintro e w3 ⟨rfl, hb3⟩
    have B3 := Lib.hid (B2.out.trans (hb3.mono B2.out.size))
    have P3 := Lib.hid (P2.out.below hb3)
    clear hb3 B2 P2
    go_wp2_with fail
    have B4 := Lib.hid (B3.out.alloc B3.out.size (.cells #[.int .u64 (n64 ua), .int .u64 (n64 ub), .int .u64 (n64 uc), .int .u64 (n64 ud)] 26))
    have P4 := Lib.hid (P3.out.alloc (.cells #[.int .u64 (n64 ua), .int .u64 (n64 ub), .int .u64 (n64 uc), .int .u64 (n64 ud)] 26))
    have X4 := Lib.hid (Blk.new w3 [.int .u64 (n64 ua), .int .u64 (n64 ub), .int .u64 (n64 uc), .int .u64 (n64 ud)] 26)
    have g3 := B3.out.size
    clear B3 P3
    generalize w3.alloc (.cells #[.int .u64 (n64 ua), .int .u64 (n64 ub), .int .u64 (n64 uc), .int .u64 (n64 ud)] 26) = w4 at B4 P4 X4 ⊢
    generalize w3.heap.size = gx at g3 X4 ⊢
    have hgs := P4.out.lt
    have hgx := X4.out.lt
    obtain ⟨⟨c0, c1, c2, c3⟩, _, _, _, _⟩ := P4.out.four
    obtain ⟨⟨d0, d1, d2, d3⟩, _, _, _, _⟩ := X4.out.four
    go_region_held3 (fun w' => gs < w'.heap.size ∧ gx < w'.heap.size ∧ w'.cell? ⟨gs, 0, none⟩ = some (.int .u64 (n64 sa)) ∧ w'.cell? ⟨gs, 1, none⟩ = some (.int .u64 (n64 sb)) ∧ w'.cell? ⟨gs, 2, none⟩ = some (.int .u64 (n64 sc)) ∧ w'.cell? ⟨gs, 3, none⟩ = some (.int .u64 (n64 sd)) ∧ w'.cell? ⟨gx, 0, none⟩ = some (.int .u64 (n64 ua)) ∧ w'.cell? ⟨gx, 1, none⟩ = some (.int .u64 (n64 ub)) ∧ w'.cell? ⟨gx, 2, none⟩ = some (.int .u64 (n64 uc)) ∧ w'.cell? ⟨gx, 3, none⟩ = some (.int .u64 (n64 ud)))
      (first | (exact keepSS (by assumption) hb6) | (exact keepSS (by assumption) hb5) | go_keep)
      ((first | (go_at_call 13; (with_reducible refine (CS.out _).mono ?_); rintro e w5 ⟨rfl, hb5⟩) | (go_at_call 14; (with_reducible refine (CU.out _).mono ?_); rintro e w6 ⟨rfl, hb6⟩)))
    have B5 := Lib.hid (B4.out.drew.trans (hb5.mono B4.out.size))
    have P5 := Lib.hid (P4.out.drew.below hb5)
    have B6 := Lib.hid (B5.out.trans (hb6.mono B5.out.size))
    have P6 := Lib.hid (P5.out.below hb6)
    clear hb5 hb6 B4 B5 P4 P5 X4 c0 c1 c2 c3 d0 d1 d2 d3 hgs hgx g3
    obtain ⟨⟨c0, c1, c2, c3⟩, _, _, _, _⟩ := P6.out.four
    go_wp2_with fail
    refine (WI.out w6).mono ?_
    rintro e w7 ⟨rfl, hb7⟩
    have B7 := Lib.hid (B6.out.trans (hb7.mono B6.out.size))
    have P7 := Lib.hid (P6.out.below hb7)
    clear hb7 B6 P6 c0 c1 c2 c3
    go_wp2_with fail
    have B8 := Lib.hid ((B7.out.alloc B7.out.size (.cells #[.int .u64 (n64 qa), .int .u64 (n64 rb), .int .u64 (n64 rc), .int .u64 (n64 rd)] 26)).alloc (Nat.le_trans B7.out.size (by simp)) (.cells #[.int .u64 (n64 ra), .int .u64 (n64 rb), .int .u64 (n64 rc), .int .u64 (n64 rd)] 26))
    have P8 := Lib.hid ((P7.out.alloc (.cells #[.int .u64 (n64 qa), .int .u64 (n64 rb), .int .u64 (n64 rc), .int .u64 (n64 rd)] 26)).alloc (.cells #[.int .u64 (n64 ra), .int .u64 (n64 rb), .int .u64 (n64 rc), .int .u64 (n64 rd)] 26))
    have U8 := Lib.hid ((Blk.new w7 [.int .u64 (n64 qa), .int .u64 (n64 rb), .int .u64 (n64 rc), .int .u64 (n64 rd)] 26).alloc (.cells #[.int .u64 (n64 ra), .int .u64 (n64 rb), .int .u64 (n64 rc), .int .u64 (n64 rd)] 26))
    have V8 := Lib.hid (Blk.new (w7.alloc (.cells #[.int .u64 (n64 qa), .int .u64 (n64 rb), .int .u64 (n64 rc), .int .u64 (n64 rd)] 26)) [.int .u64 (n64 ra), .int .u64 (n64 rb), .int .u64 (n64 rc), .int .u64 (n64 rd)] 26)
    rw [show (w7.alloc (.cells #[.int .u64 (n64 qa), .int .u64 (n64 rb), .int .u64 (n64 rc), .int .u64 (n64 rd)] 26)).heap.size = w7.heap.size + 1 by simp] at V8
    have g7 := B7.out.size
    have hgu := P7.out.lt
    clear B7 P7
    generalize (w7.alloc (.cells #[.int .u64 (n64 qa), .int .u64 (n64 rb), .int .u64 (n64 rc), .int .u64 (n64 rd)] 26)).alloc (.cells #[.int .u64 (n64 ra), .int .u64 (n64 rb), .int .u64 (n64 rc), .int .u64 (n64 rd)] 26) = w8 at B8 P8 U8 V8 ⊢
    generalize w7.heap.size = gu at g7 hgu U8 V8 ⊢
    refine (U2.out w8).mono ?_
    rintro e w9 ⟨rfl, hb9⟩
    have B9 := Lib.hid (B8.out.trans (hb9.mono B8.out.size))
    have P9 := Lib.hid (P8.out.below hb9)
    have U9 := Lib.hid (U8.out.below hb9)
    have V9 := Lib.hid (V8.out.below hb9)
    clear hb9 B8 P8 U8 V8
    go_wp2_with fail
    refine (U1.out w9).mono ?_
    rintro e w10 ⟨rfl, hb10⟩
    have B10 := Lib.hid (B9.out.trans (hb10.mono B9.out.size))
    have P10 := Lib.hid (P9.out.below hb10)
    have U10 := Lib.hid (U9.out.below hb10)
    have V10 := Lib.hid (V9.out.below hb10)
    clear hb10 B9 P9 U9 V9
    obtain ⟨⟨c0, c1, c2, c3⟩, f0, f1, f2, f3⟩ := V10.out.four
    go_wp2_with fail
    have n1 : gs ≠ gu + 1 := by omega
    have n2 : gu ≠ gu + 1 := by omega
    have le1 : w.heap.size ≤ gu + 1 := by omega
    obtain ⟨w11, hw, B11, P11, U11, V11⟩ : ∃ w11, Hid (w11 = (((((w10.setCell ⟨gu + 1, 0, none⟩ (.int .u64 (n64 sa))).setCell ⟨gu + 1, 1, none⟩ (.int .u64 (n64 sb))).setCell ⟨gu + 1, 2, none⟩ (.int .u64 (n64 sc))).setCell ⟨gu + 1, 3, none⟩ (.int .u64 (n64 td))).setCell ⟨gu + 1, 3, none⟩ (.int .u64 (n64 sd)))) ∧ Hid (Below w.heap.size w w11) ∧ Hid (Blk w11 gs [.int .u64 (n64 sa), .int .u64 (n64 sb), .int .u64 (n64 sc), .int .u64 (n64 sd)]) ∧ Hid (Blk w11 gu [.int .u64 (n64 qa), .int .u64 (n64 rb), .int .u64 (n64 rc), .int .u64 (n64 rd)]) ∧ Hid (Blk w11 (gu + 1) [.int .u64 (n64 sa), .int .u64 (n64 sb), .int .u64 (n64 sc), .int .u64 (n64 sd)]) :=
      ⟨_, rfl, ((((B10.out.setCell le1 _).setCell le1 _).setCell le1 _).setCell le1 _).setCell le1 _, ((((P10.out.setOther _ _ n1).setOther _ _ n1).setOther _ _ n1).setOther _ _ n1).setOther _ _ n1, ((((U10.out.setOther _ _ n2).setOther _ _ n2).setOther _ _ n2).setOther _ _ n2).setOther _ _ n2, ((((V10.out.set 0 _).set 1 _).set 2 _).set 3 _).set 3 _⟩
    rw [← hw.out]
    clear hw B10 P10 U10 V10 c0 c1 c2 c3 f0 f1 f2 f3 n1 n2
    have l1 := P11.out.lt
    have l2 := U11.out.lt
    have l3 := V11.out.lt
    obtain ⟨⟨c0, c1, c2, c3⟩, _, _, _, _⟩ := P11.out.four
    obtain ⟨⟨d0, d1, d2, d3⟩, _, _, _, _⟩ := U11.out.four
    obtain ⟨⟨e0, e1, e2, e3⟩, _, _, _, _⟩ := V11.out.four
    go_region_held3 (fun w' => gs < w'.heap.size ∧ gu < w'.heap.size ∧ gu + 1 < w'.heap.size ∧ (w'.cell? ⟨gs, 0, none⟩ = some (.int .u64 (n64 sa)) ∧ w'.cell? ⟨gs, 1, none⟩ = some (.int .u64 (n64 sb)) ∧ w'.cell? ⟨gs, 2, none⟩ = some (.int .u64 (n64 sc)) ∧ w'.cell? ⟨gs, 3, none⟩ = some (.int .u64 (n64 sd))) ∧ (w'.cell? ⟨gu, 0, none⟩ = some (.int .u64 (n64 qa)) ∧ w'.cell? ⟨gu, 1, none⟩ = some (.int .u64 (n64 rb)) ∧ w'.cell? ⟨gu, 2, none⟩ = some (.int .u64 (n64 rc)) ∧ w'.cell? ⟨gu, 3, none⟩ = some (.int .u64 (n64 rd))) ∧ w'.cell? ⟨gu + 1, 0, none⟩ = some (.int .u64 (n64 sa)) ∧ w'.cell? ⟨gu + 1, 1, none⟩ = some (.int .u64 (n64 sb)) ∧ w'.cell? ⟨gu + 1, 2, none⟩ = some (.int .u64 (n64 sc)) ∧ w'.cell? ⟨gu + 1, 3, none⟩ = some (.int .u64 (n64 sd)))
      (first | (exact keep3S (by assumption) hb12) | go_keep)
      ((go_at_call 16; (with_reducible refine (WS.out _).mono ?_); rintro e w12 ⟨rfl, hb12⟩))
    have B12 := Lib.hid (B11.out.drew.trans (hb12.mono B11.out.size))
    go_wp2_with fail
    go_ret
    exact ⟨rfl, B12.out⟩
  · go_enter Try.func3, Try.ntmps3
    go_wp2_with fail
    refine (big_yes _ _ _ _ (by omega) (by omega)).mono ?_
    rintro e w' ⟨rfl, rfl⟩
    go_wp2_with fail
    go_ret
    exact ⟨rfl, Below.refl _ _⟩
theorem own : ownKnob Try.prog.godebug = none := by kernel_rfl
theorem laidOut : laidOutB Try.prog = true := by kernel_rfl

set_option maxRecDepth 100000 in
theorem lifted (os : Os) (started : os.Started) (H : Type) (enc : TypeId × Value → H) :
    ReturnsInHanded {} Try.checked os 3 .any (Rows.fnSipSpec.pre6 enc Try.prog Try.f3 Rows.fnSipRow.domain false) (Rows.fnSipSpec.post enc Try.prog Try.f3 false true false false) := by
  refine returnsInHanded_of_change (C := Try.checked) own started (by kernel_rfl) Try.func3
    (ChangeSpec.witness6 (enc := enc) (C := Try.checked) false ⟨#[], #[.slice none 0 0], []⟩ 8 (by kernel_rfl) (by kernel_rfl) (by kernel_rfl) (by kernel_rfl)) ?_
  intro W base args ds gs before hval0 hW _ _
  have hval : ∀ (j : Nat) t v, Try.f3.params[j]? = some t → args[j]? = some v → Value.okWide Try.prog W .any base t v := hval0
  have hW' := hW
  obtain ⟨p, q, hA0, hV, rfl, _, _⟩ := hW
  have hA : DataW.TrodAll enc Try.prog W 0 (fun _ => true) true Try.f3.params.toList args.toList ds p := hA0
  rw [Try.params3] at hA hval
  obtain ⟨v0, vs0, d0, ds0, p0, q0, hargs, rfl, rfl, h0, r0⟩ := trodAll_cons hA
  obtain ⟨rfl, rfl, rfl⟩ := trodAll_nil r0
  obtain rfl : args = #[v0] := by cases args; simp_all
  obtain ⟨rfl, rfl⟩ := trodVars_none hV
  obtain ⟨a0, len0, cap0, rfl⟩ := okWide_slice Try.underlying22 (hval 0 22 v0 rfl rfl)
  have k0 := h0
  have lt0 : ∀ x ∈ p0, x.block < W.heap.size := by obtain ⟨m, hm⟩ := k0; exact DataW.trod_lt m _ _ _ hm
  obtain ⟨s0, w0⟩ : ∃ bs : List UInt8, IsBytes W a0 len0 bs := by obtain ⟨fuel, hf⟩ := h0; exact openBytes Try.underlying22 Try.underlying5 (by kernel_rfl) hf
  clear hA0 hval0
  refine (walk a0 len0 cap0 s0 w0).mono fun e W' ⟨he, bel⟩ => ?_
  subst he
  exact ⟨_, rfl, _, _, _, [], _, [], hW', trodAll_mk1 (shut_bool Try.underlying4 _), (trodAll_cons_mk (Below.trod laidOut (by kernel_rfl) (of_decide_eq_true (by kernel_rfl)) k0 bel lt0) trodAll_mk0), rfl, bel.frame _, fun h => by cases h⟩

theorem over : Rows.fnSipRow.holds Try.pinned (OpenSpec.ofChange Rows.fnSipSpec) :=
  OpenClaim.holds_of_wide 3 Try.f3 rfl rfl rfl rfl rfl rfl rfl ⟨rfl, rfl, rfl, rfl, rfl⟩ rfl rfl rfl rfl rfl (by kernel_rfl) Try.func3 (by kernel_rfl)
    (of_decide_eq_true (by kernel_rfl)) (by unfold Func.isWrapper; first | (rw [if_pos (by decide +kernel)]; kernel_rfl) | (rw [if_neg (by decide +kernel)]; exact ⟨rfl, rfl⟩))
    (fun os started H enc _ => lifted os started H enc)

theorem proved : Rows.FnSipSaid := over
#print axioms proved
end Go.Proofs.Ytojkkholopodaaa.fnSip
