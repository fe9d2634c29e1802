/- Proved here: for every code of at most 1048576 bytes, with the Options value and the clock that are drawn from it, impl.AnswerOptions answers what the model answers, and, if the value is valid, impl.LearnedOptions of the index of its Mss and of an ACK that echoes the answer's stamp answers what the model answers, with the segment size of the index, both are valid, and Scale and Sack are those of the value where it has a stamp, else none; the answer echoes the value's Val (a longer code is not asked); the call returns true for every argument, without condition. -/
import Derived.Test.YtifgaojgnaafbaaRows
import Derived.Test.YtifgaojgnaafbaaStampBack
import Derived.Test.YtifgaojgnaafbaaAnsOpt
import Derived.Test.YtifgaojgnaafbaaLrnOpt
import Derived.Test.YtifgaojgnaafbaaMssIdx
import Derived.Test.YtifgaojgnaafbaaDraw14
import Derived.Deep.RegionHeld3
import Derived.Test.YtifgaojgnaafbaaBig
import Derived.Test.YtifgaojgnaafbaaOpen
import Derived.ShutString
import Derived.ChangeOld
import Derived.Below
namespace Go.Proofs.Ytifgaojgnaafbaa.fnLearned
open Go.ChangeShapes Go.WideShapes Go.ChangeAt Go.RowKit Go.Lib

theorem wf_small {i : Int} (h : 0 ≤ i ∧ i ≤ 8) : (Lit.int .i64 i).wf = true := by
  have h8 : i = 0 ∨ i = 1 ∨ i = 2 ∨ i = 3 ∨ i = 4 ∨ i = 5 ∨ i = 6 ∨ i = 7 ∨ i = 8 := by omega
  rcases h8 with rfl | rfl | rfl | rfl | rfl | rfl | rfl | rfl | rfl <;> decide
theorem mss_word {i : Int} (h : 0 ≤ i ∧ i ≤ 7) : wordOk (mssAt i) 16 = true := by
  have h8 : i = 0 ∨ i = 1 ∨ i = 2 ∨ i = 3 ∨ i = 4 ∨ i = 5 ∨ i = 6 ∨ i = 7 := by omega
  rcases h8 with rfl | rfl | rfl | rfl | rfl | rfl | rfl | rfl <;> decide +kernel
/-- What is known of a valid Options value with a stamp. -/
theorem ok_yes {m c : Int} {k : Bool} {v u : Int} (h : optOk ⟨m, c, k, true, v, u⟩ = true) : (-1 ≤ c ∧ c ≤ 14) ∧ wordOk v 32 = true := by
  unfold optOk at h
  simp only [Bool.and_eq_true, decide_eq_true_eq, cond_true] at h
  exact ⟨h.1.2, h.2.1⟩
/-- A value with a stamp is valid if its parts are. -/
theorem ok_mk {m c : Int} {k : Bool} {v u : Int} (h1 : wordOk m 16 = true) (h2 : -1 ≤ c ∧ c ≤ 14) (h3 : wordOk v 32 = true) (h4 : wordOk u 32 = true) : optOk ⟨m, c, k, true, v, u⟩ = true := by
  unfold optOk
  simp only [h1, h3, h4, decide_eq_true h2, cond_true, Bool.and_true]
theorem ok_no {m : Int} (h1 : wordOk m 16 = true) : optOk ⟨m, -1, false, false, 0, 0⟩ = true := by
  unfold optOk
  rw [h1]
  rfl
theorem fit_self {c : Int} (h : -1 ≤ c ∧ c ≤ 14) : stampFit c = c := by
  unfold stampFit
  by_cases h2 : 0 ≤ c ∧ c ≤ 14
  · rw [if_pos h2]
  · rw [if_neg h2]; omega

/-- The law's word: true, and what lay before the call lies as it lay. -/
def OkB (w : World) (e : Ending) (w' : World) : Prop := e = .returned (.bool true) ∧ Below w.heap.size w w'

set_option maxRecDepth 100000 in
set_option maxHeartbeats 8000000 in
theorem walk (a0 : Option Addr) (len0 cap0 : Nat) (s0 : List UInt8) {w : World} (w0 : IsBytes w a0 len0 s0) :
    Calls Try.prog 4 #[.slice a0 len0 cap0] w (OkB w) := by
  obtain ⟨⟨rfl, hm⟩, hrow⟩ := w0
  unfold maxLen at hm
  have HR := Lib.hid hrow
  clear hrow
  by_cases hs : s0.length ≤ 1048576
  · go_enter Try.func4, Try.ntmps4
    go_wp2_with fail
    refine (big_no _ _ _ _ hs).mono ?_
    rintro e w' ⟨rfl, rfl⟩
    go_wp2_with fail
    have B0 := Lib.hid (Below.refl w.heap.size w)
    refine (drawAns a0 s0 cap0 w HR.out hs).mono ?_
    rintro e v1 ⟨m, c, k, t, v, u, n, rfl, hb⟩
    have B1 := Lib.hid (B0.out.trans (hb.mono B0.out.size))
    clear hb B0
    clear HR hs hm
    have OK := (optionsOkS m c k t v u)
    have A1 := (ansOptI m c k t v u n)
    have A2 := (ansOptS m c k t v u n)
    cases hok : optOk ⟨m, c, k, t, v, u⟩ with
    | false =>
      rw [hok] at OK
      clear hok
      obtain ⟨⟨x0, x1, x2, x3, x4, x5⟩, hy⟩ : ∃ o : Opt, ansOpt c k t v n = o := ⟨_, rfl⟩
      rw [hy] at A1 A2
      simp only [Opt.cs] at A1 A2
      clear hy
      have OK := Lib.hid OK
      have A1 := Lib.hid A1
      have A2 := Lib.hid A2
      have Kon := Lib.hid (Blk.new v1 [.int .i64 m, .int .i64 c, .bool k, .bool t, .int .i64 v, .int .i64 u] 32)
      have Bn := Lib.hid (B1.out.alloc B1.out.size (.cells #[.int .i64 m, .int .i64 c, .bool k, .bool t, .int .i64 v, .int .i64 u] 32))
      clear B1
      go_wp2_with fail
      change Calls _ _ _ (v1.alloc (.cells #[.int .i64 m, .int .i64 c, .bool k, .bool t, .int .i64 v, .int .i64 u] 32)) _
      generalize v1.alloc (.cells #[.int .i64 m, .int .i64 c, .bool k, .bool t, .int .i64 v, .int .i64 u] 32) = v2 at Kon Bn ⊢
      generalize v1.heap.size = g_o at Kon ⊢
      clear v1
      have Ko2 := Kon
      clear Kon
      have B2 := Bn
      clear Bn
      refine (A1.out _).mono ?_
      rintro e v3 ⟨rfl, hb⟩
      have B3 := Lib.hid (B2.out.trans (hb.mono B2.out.size))
      have Ko3 := Lib.hid (Ko2.out.below hb)
      clear hb B2 Ko2
      have Kan := Lib.hid (Blk.new v3 [.int .i64 x0, .int .i64 x1, .bool x2, .bool x3, .int .i64 x4, .int .i64 x5] 32)
      have n_o_a : g_o ≠ v3.heap.size := by have h1 := Ko3.out.lt; omega
      have Bn := Lib.hid (B3.out.alloc B3.out.size (.cells #[.int .i64 x0, .int .i64 x1, .bool x2, .bool x3, .int .i64 x4, .int .i64 x5] 32))
      have Kon := Lib.hid (Ko3.out.alloc (.cells #[.int .i64 x0, .int .i64 x1, .bool x2, .bool x3, .int .i64 x4, .int .i64 x5] 32))
      clear B3 Ko3
      obtain ⟨⟨co0, co1, co2, co3, co4, co5⟩, do0, do1, do2, do3, do4, do5⟩ := Kon.out.of6
      go_upto_region 5 with fail
      clear co0 co1 co2 co3 co4 co5 do0 do1 do2 do3 do4 do5
      generalize v3.alloc (.cells #[.int .i64 x0, .int .i64 x1, .bool x2, .bool x3, .int .i64 x4, .int .i64 x5] 32) = v4 at Kan Bn Kon ⊢
      generalize v3.heap.size = g_a at Kan n_o_a ⊢
      clear v3
      have Ko4 := Kon
      clear Kon
      have Ka4 := Kan
      clear Kan
      have B4 := Bn
      clear Bn
      obtain ⟨⟨co0, co1, co2, co3, co4, co5⟩, do0, do1, do2, do3, do4, do5⟩ := Ko4.out.of6
      obtain ⟨⟨ca0, ca1, ca2, ca3, ca4, ca5⟩, da0, da1, da2, da3, da4, da5⟩ := Ka4.out.of6
      have P4_0 : True := trivial
      go_region_held3 (fun w' => (w'.cell? ⟨g_a, 0, none⟩ = some (.int .i64 x0) ∧ w'.cell? ⟨g_a, 1, none⟩ = some (.int .i64 x1) ∧ w'.cell? ⟨g_a, 2, none⟩ = some (.bool x2) ∧ w'.cell? ⟨g_a, 3, none⟩ = some (.bool x3) ∧ w'.cell? ⟨g_a, 4, none⟩ = some (.int .i64 x4) ∧ w'.cell? ⟨g_a, 5, none⟩ = some (.int .i64 x5)) ∧ (w'.cell? ⟨g_o, 0, none⟩ = some (.int .i64 m) ∧ w'.cell? ⟨g_o, 1, none⟩ = some (.int .i64 c) ∧ w'.cell? ⟨g_o, 2, none⟩ = some (.bool k) ∧ w'.cell? ⟨g_o, 3, none⟩ = some (.bool t) ∧ w'.cell? ⟨g_o, 4, none⟩ = some (.int .i64 v) ∧ w'.cell? ⟨g_o, 5, none⟩ = some (.int .i64 u)))
        (first | go_keep | (exact ⟨Ka5.out.of6.1, Ko5.out.of6.1⟩))
        ((have q := P4_0; go_at_call 19; clear q P4_0; refine (A2.out _).mono ?_; rintro e v5 ⟨rfl, hb⟩; replace hb := (Below.refl _ v4).drew.trans hb; have B5 := Lib.hid (B4.out.trans (hb.mono B4.out.size)); have Ko5 := Lib.hid (Ko4.out.below hb); have Ka5 := Lib.hid (Ka4.out.below hb); clear hb B4 Ko4 Ka4))
      try clear co0 co1 co2 co3 co4 co5 do0 do1 do2 do3 do4 do5 ca0 ca1 ca2 ca3 ca4 ca5 da0 da1 da2 da3 da4 da5
      obtain ⟨⟨co0, co1, co2, co3, co4, co5⟩, do0, do1, do2, do3, do4, do5⟩ := Ko5.out.of6
      obtain ⟨⟨ca0, ca1, ca2, ca3, ca4, ca5⟩, da0, da1, da2, da3, da4, da5⟩ := Ka5.out.of6
      go_wp2_with fail
      clear co0 co1 co2 co3 co4 co5 do0 do1 do2 do3 do4 do5 ca0 ca1 ca2 ca3 ca4 ca5 da0 da1 da2 da3 da4 da5
      refine (OK.out _).mono ?_
      rintro e v6 ⟨rfl, hb⟩
      have B6 := Lib.hid (B5.out.trans (hb.mono B5.out.size))
      have Ko6 := Lib.hid (Ko5.out.below hb)
      have Ka6 := Lib.hid (Ka5.out.below hb)
      clear hb B5 Ko5 Ka5
      obtain ⟨⟨co0, co1, co2, co3, co4, co5⟩, do0, do1, do2, do3, do4, do5⟩ := Ko6.out.of6
      obtain ⟨⟨ca0, ca1, ca2, ca3, ca4, ca5⟩, da0, da1, da2, da3, da4, da5⟩ := Ka6.out.of6
      go_wp2_with fail
      go_ret
      exact ⟨rfl, B6.out⟩
    | true =>
      cases t with
      | false =>
        obtain ⟨i0, i7⟩ := mssTo_bd m 8 (Nat.le_refl _)
        have MI := mssIndexS m
        generalize mssTo m 8 = i at MI i0 i7
        have MI := Lib.hid MI
        have hw := mss_word ⟨i0, i7⟩
        rw [hok] at OK
        clear hok
        rw [show ansOpt c k false v n = ⟨1460, -1, false, false, 0, 0⟩ from rfl] at A1 A2
        simp only [Opt.cs] at A1 A2
        have L1 := (lrnOptI i 0 (-1) false false 0 0 (wf_small ⟨i0, by omega⟩))
        have L2 := (lrnOptS i 0 (-1) false false 0 0)
        rw [show lrnOpt i false 0 0 = ⟨mssAt i, -1, false, false, 0, 0⟩ from rfl] at L1 L2
        simp only [Opt.cs] at L1 L2
        have OA := optionsOkI 1460 (-1) false false 0 0
        rw [show optOk ⟨1460, -1, false, false, 0, 0⟩ = true from by decide +kernel] at OA
        have OL := optionsOkI (mssAt i) (-1) false false 0 0
        rw [ok_no hw] at OL
        clear hw
        have MO := (mssOfS i)
        generalize mssAt i = q at MO L1 L2 OL
        have MO := Lib.hid MO
        have OA := Lib.hid OA
        have OL := Lib.hid OL
        have L1 := Lib.hid L1
        have L2 := Lib.hid L2
        clear i0 i7
        have OK := Lib.hid OK
        have A1 := Lib.hid A1
        have A2 := Lib.hid A2
        have Kon := Lib.hid (Blk.new v1 [.int .i64 m, .int .i64 c, .bool k, .bool false, .int .i64 v, .int .i64 u] 32)
        have Bn := Lib.hid (B1.out.alloc B1.out.size (.cells #[.int .i64 m, .int .i64 c, .bool k, .bool false, .int .i64 v, .int .i64 u] 32))
        clear B1
        go_wp2_with fail
        change Calls _ _ _ (v1.alloc (.cells #[.int .i64 m, .int .i64 c, .bool k, .bool false, .int .i64 v, .int .i64 u] 32)) _
        generalize v1.alloc (.cells #[.int .i64 m, .int .i64 c, .bool k, .bool false, .int .i64 v, .int .i64 u] 32) = v2 at Kon Bn ⊢
        generalize v1.heap.size = g_o at Kon ⊢
        clear v1
        have Ko2 := Kon
        clear Kon
        have B2 := Bn
        clear Bn
        refine (A1.out _).mono ?_
        rintro e v3 ⟨rfl, hb⟩
        have B3 := Lib.hid (B2.out.trans (hb.mono B2.out.size))
        have Ko3 := Lib.hid (Ko2.out.below hb)
        clear hb B2 Ko2
        have Kan := Lib.hid (Blk.new v3 [.int .i64 1460, .int .i64 (-1), .bool false, .bool false, .int .i64 0, .int .i64 0] 32)
        have n_o_a : g_o ≠ v3.heap.size := by have h1 := Ko3.out.lt; omega
        have Bn := Lib.hid (B3.out.alloc B3.out.size (.cells #[.int .i64 1460, .int .i64 (-1), .bool false, .bool false, .int .i64 0, .int .i64 0] 32))
        have Kon := Lib.hid (Ko3.out.alloc (.cells #[.int .i64 1460, .int .i64 (-1), .bool false, .bool false, .int .i64 0, .int .i64 0] 32))
        clear B3 Ko3
        obtain ⟨⟨co0, co1, co2, co3, co4, co5⟩, do0, do1, do2, do3, do4, do5⟩ := Kon.out.of6
        go_upto_region 5 with fail
        clear co0 co1 co2 co3 co4 co5 do0 do1 do2 do3 do4 do5
        generalize v3.alloc (.cells #[.int .i64 1460, .int .i64 (-1), .bool false, .bool false, .int .i64 0, .int .i64 0] 32) = v4 at Kan Bn Kon ⊢
        generalize v3.heap.size = g_a at Kan n_o_a ⊢
        clear v3
        have Ko4 := Kon
        clear Kon
        have Ka4 := Kan
        clear Kan
        have B4 := Bn
        clear Bn
        obtain ⟨⟨co0, co1, co2, co3, co4, co5⟩, do0, do1, do2, do3, do4, do5⟩ := Ko4.out.of6
        obtain ⟨⟨ca0, ca1, ca2, ca3, ca4, ca5⟩, da0, da1, da2, da3, da4, da5⟩ := Ka4.out.of6
        have P4_0 : True := trivial
        go_region_held3 (fun w' => (w'.cell? ⟨g_a, 0, none⟩ = some (.int .i64 1460) ∧ w'.cell? ⟨g_a, 1, none⟩ = some (.int .i64 (-1)) ∧ w'.cell? ⟨g_a, 2, none⟩ = some (.bool false) ∧ w'.cell? ⟨g_a, 3, none⟩ = some (.bool false) ∧ w'.cell? ⟨g_a, 4, none⟩ = some (.int .i64 0) ∧ w'.cell? ⟨g_a, 5, none⟩ = some (.int .i64 0)) ∧ (w'.cell? ⟨g_o, 0, none⟩ = some (.int .i64 m) ∧ w'.cell? ⟨g_o, 1, none⟩ = some (.int .i64 c) ∧ w'.cell? ⟨g_o, 2, none⟩ = some (.bool k) ∧ w'.cell? ⟨g_o, 3, none⟩ = some (.bool false) ∧ w'.cell? ⟨g_o, 4, none⟩ = some (.int .i64 v) ∧ w'.cell? ⟨g_o, 5, none⟩ = some (.int .i64 u)))
          (first | go_keep | (exact ⟨Ka5.out.of6.1, Ko5.out.of6.1⟩))
          ((have q := P4_0; go_at_call 19; clear q P4_0; refine (A2.out _).mono ?_; rintro e v5 ⟨rfl, hb⟩; replace hb := (Below.refl _ v4).drew.trans hb; have B5 := Lib.hid (B4.out.trans (hb.mono B4.out.size)); have Ko5 := Lib.hid (Ko4.out.below hb); have Ka5 := Lib.hid (Ka4.out.below hb); clear hb B4 Ko4 Ka4))
        try clear co0 co1 co2 co3 co4 co5 do0 do1 do2 do3 do4 do5 ca0 ca1 ca2 ca3 ca4 ca5 da0 da1 da2 da3 da4 da5
        obtain ⟨⟨co0, co1, co2, co3, co4, co5⟩, do0, do1, do2, do3, do4, do5⟩ := Ko5.out.of6
        obtain ⟨⟨ca0, ca1, ca2, ca3, ca4, ca5⟩, da0, da1, da2, da3, da4, da5⟩ := Ka5.out.of6
        go_wp2_with fail
        clear co0 co1 co2 co3 co4 co5 do0 do1 do2 do3 do4 do5 ca0 ca1 ca2 ca3 ca4 ca5 da0 da1 da2 da3 da4 da5
        refine (OK.out _).mono ?_
        rintro e v6 ⟨rfl, hb⟩
        have B6 := Lib.hid (B5.out.trans (hb.mono B5.out.size))
        have Ko6 := Lib.hid (Ko5.out.below hb)
        have Ka6 := Lib.hid (Ka5.out.below hb)
        clear hb B5 Ko5 Ka5
        obtain ⟨⟨co0, co1, co2, co3, co4, co5⟩, do0, do1, do2, do3, do4, do5⟩ := Ko6.out.of6
        obtain ⟨⟨ca0, ca1, ca2, ca3, ca4, ca5⟩, da0, da1, da2, da3, da4, da5⟩ := Ka6.out.of6
        go_wp2_with fail
        clear co0 co1 co2 co3 co4 co5 do0 do1 do2 do3 do4 do5 ca0 ca1 ca2 ca3 ca4 ca5 da0 da1 da2 da3 da4 da5
        refine (MI.out _).mono ?_
        rintro e v7 ⟨rfl, hb⟩
        have B7 := Lib.hid (B6.out.trans (hb.mono B6.out.size))
        have Ko7 := Lib.hid (Ko6.out.below hb)
        have Ka7 := Lib.hid (Ka6.out.below hb)
        clear hb B6 Ko6 Ka6
        obtain ⟨eo0, eo1, eo2, eo3, eo4, eo5⟩ := Ko7.out.of6.1
        obtain ⟨ea0, ea1, ea2, ea3, ea4, ea5⟩ := Ka7.out.of6.1
        have ho := Ko7.out.lt
        have po : ¬ v7.heap.size = g_o := by omega
        have qo : ¬ g_o = v7.heap.size := by omega
        have ha := Ka7.out.lt
        have pa : ¬ v7.heap.size = g_a := by omega
        have qa : ¬ g_a = v7.heap.size := by omega
        have Kbn := Lib.hid (Blk.new v7 [.int .i64 0, .int .i64 (-1), .bool false, .bool false, .int .i64 0, .int .i64 0] 32)
        have n_o_b : g_o ≠ v7.heap.size := by have h1 := Ko7.out.lt; omega
        have n_a_b : g_a ≠ v7.heap.size := by have h1 := Ka7.out.lt; omega
        have Bn := Lib.hid (B7.out.alloc B7.out.size (.cells #[.int .i64 0, .int .i64 (-1), .bool false, .bool false, .int .i64 0, .int .i64 0] 32))
        have Kon := Lib.hid (Ko7.out.alloc (.cells #[.int .i64 0, .int .i64 (-1), .bool false, .bool false, .int .i64 0, .int .i64 0] 32))
        have Kan := Lib.hid (Ka7.out.alloc (.cells #[.int .i64 0, .int .i64 (-1), .bool false, .bool false, .int .i64 0, .int .i64 0] 32))
        clear B7 Ko7 Ka7
        obtain ⟨⟨co0, co1, co2, co3, co4, co5⟩, do0, do1, do2, do3, do4, do5⟩ := Kon.out.of6
        obtain ⟨⟨ca0, ca1, ca2, ca3, ca4, ca5⟩, da0, da1, da2, da3, da4, da5⟩ := Kan.out.of6
        go_wp2_with fail
        clear eo0 eo1 eo2 eo3 eo4 eo5 ea0 ea1 ea2 ea3 ea4 ea5 ho po qo ha pa qa
        clear co0 co1 co2 co3 co4 co5 do0 do1 do2 do3 do4 do5 ca0 ca1 ca2 ca3 ca4 ca5 da0 da1 da2 da3 da4 da5
        change Calls _ _ _ (v7.alloc (.cells #[.int .i64 0, .int .i64 (-1), .bool false, .bool false, .int .i64 0, .int .i64 0] 32)) _
        generalize v7.alloc (.cells #[.int .i64 0, .int .i64 (-1), .bool false, .bool false, .int .i64 0, .int .i64 0] 32) = v8 at Kbn Bn Kon Kan ⊢
        generalize v7.heap.size = g_b at Kbn n_o_b n_a_b ⊢
        clear v7
        have Ko8 := Kon
        clear Kon
        have Ka8 := Kan
        clear Kan
        have Kb8 := Kbn
        clear Kbn
        have B8 := Bn
        clear Bn
        refine (L1.out _).mono ?_
        rintro e v9 ⟨rfl, hb⟩
        have B9 := Lib.hid (B8.out.trans (hb.mono B8.out.size))
        have Ko9 := Lib.hid (Ko8.out.below hb)
        have Ka9 := Lib.hid (Ka8.out.below hb)
        have Kb9 := Lib.hid (Kb8.out.below hb)
        clear hb B8 Ko8 Ka8 Kb8
        have Kln := Lib.hid (Blk.new v9 [.int .i64 q, .int .i64 (-1), .bool false, .bool false, .int .i64 0, .int .i64 0] 32)
        have n_o_l : g_o ≠ v9.heap.size := by have h1 := Ko9.out.lt; omega
        have n_a_l : g_a ≠ v9.heap.size := by have h1 := Ka9.out.lt; omega
        have n_b_l : g_b ≠ v9.heap.size := by have h1 := Kb9.out.lt; omega
        have Bn := Lib.hid (B9.out.alloc B9.out.size (.cells #[.int .i64 q, .int .i64 (-1), .bool false, .bool false, .int .i64 0, .int .i64 0] 32))
        have Kon := Lib.hid (Ko9.out.alloc (.cells #[.int .i64 q, .int .i64 (-1), .bool false, .bool false, .int .i64 0, .int .i64 0] 32))
        have Kan := Lib.hid (Ka9.out.alloc (.cells #[.int .i64 q, .int .i64 (-1), .bool false, .bool false, .int .i64 0, .int .i64 0] 32))
        have Kbn := Lib.hid (Kb9.out.alloc (.cells #[.int .i64 q, .int .i64 (-1), .bool false, .bool false, .int .i64 0, .int .i64 0] 32))
        clear B9 Ko9 Ka9 Kb9
        obtain ⟨⟨co0, co1, co2, co3, co4, co5⟩, do0, do1, do2, do3, do4, do5⟩ := Kon.out.of6
        obtain ⟨⟨ca0, ca1, ca2, ca3, ca4, ca5⟩, da0, da1, da2, da3, da4, da5⟩ := Kan.out.of6
        obtain ⟨⟨cb0, cb1, cb2, cb3, cb4, cb5⟩, db0, db1, db2, db3, db4, db5⟩ := Kbn.out.of6
        go_upto_region 16 with fail
        clear co0 co1 co2 co3 co4 co5 do0 do1 do2 do3 do4 do5 ca0 ca1 ca2 ca3 ca4 ca5 da0 da1 da2 da3 da4 da5 cb0 cb1 cb2 cb3 cb4 cb5 db0 db1 db2 db3 db4 db5
        generalize v9.alloc (.cells #[.int .i64 q, .int .i64 (-1), .bool false, .bool false, .int .i64 0, .int .i64 0] 32) = v10 at Kln Bn Kon Kan Kbn ⊢
        generalize v9.heap.size = g_l at Kln n_o_l n_a_l n_b_l ⊢
        clear v9
        have Ko10 := Kon
        clear Kon
        have Ka10 := Kan
        clear Kan
        have Kb10 := Kbn
        clear Kbn
        have Kl10 := Kln
        clear Kln
        have B10 := Bn
        clear Bn
        obtain ⟨⟨ca0, ca1, ca2, ca3, ca4, ca5⟩, da0, da1, da2, da3, da4, da5⟩ := Ka10.out.of6
        obtain ⟨⟨cb0, cb1, cb2, cb3, cb4, cb5⟩, db0, db1, db2, db3, db4, db5⟩ := Kb10.out.of6
        obtain ⟨⟨cl0, cl1, cl2, cl3, cl4, cl5⟩, dl0, dl1, dl2, dl3, dl4, dl5⟩ := Kl10.out.of6
        have P10_0 : True := trivial
        have P10_1 : True := trivial
        have P10_2 : True := trivial
        have P10_3 : True := trivial
        go_region_held3 (fun w' => (w'.cell? ⟨g_a, 0, none⟩ = some (.int .i64 1460) ∧ w'.cell? ⟨g_a, 1, none⟩ = some (.int .i64 (-1)) ∧ w'.cell? ⟨g_a, 2, none⟩ = some (.bool false) ∧ w'.cell? ⟨g_a, 3, none⟩ = some (.bool false) ∧ w'.cell? ⟨g_a, 4, none⟩ = some (.int .i64 0) ∧ w'.cell? ⟨g_a, 5, none⟩ = some (.int .i64 0)) ∧ (w'.cell? ⟨g_b, 0, none⟩ = some (.int .i64 0) ∧ w'.cell? ⟨g_b, 1, none⟩ = some (.int .i64 (-1)) ∧ w'.cell? ⟨g_b, 2, none⟩ = some (.bool false) ∧ w'.cell? ⟨g_b, 3, none⟩ = some (.bool false) ∧ w'.cell? ⟨g_b, 4, none⟩ = some (.int .i64 0) ∧ w'.cell? ⟨g_b, 5, none⟩ = some (.int .i64 0)) ∧ (w'.cell? ⟨g_l, 0, none⟩ = some (.int .i64 q) ∧ w'.cell? ⟨g_l, 1, none⟩ = some (.int .i64 (-1)) ∧ w'.cell? ⟨g_l, 2, none⟩ = some (.bool false) ∧ w'.cell? ⟨g_l, 3, none⟩ = some (.bool false) ∧ w'.cell? ⟨g_l, 4, none⟩ = some (.int .i64 0) ∧ w'.cell? ⟨g_l, 5, none⟩ = some (.int .i64 0)))
          (first | go_keep | (exact ⟨Ka11.out.of6.1, Kb11.out.of6.1, Kl11.out.of6.1⟩) | (exact ⟨Ka12.out.of6.1, Kb12.out.of6.1, Kl12.out.of6.1⟩) | (exact ⟨Ka13.out.of6.1, Kb13.out.of6.1, Kl13.out.of6.1⟩) | (exact ⟨Ka14.out.of6.1, Kb14.out.of6.1, Kl14.out.of6.1⟩))
          (first | (have q := P10_0; go_at_call 23; clear q P10_0; refine (L2.out _).mono ?_; rintro e v11 ⟨rfl, hb⟩; replace hb := (Below.refl _ v10).drew.trans hb; have B11 := Lib.hid (B10.out.trans (hb.mono B10.out.size)); have Ko11 := Lib.hid (Ko10.out.below hb); have Ka11 := Lib.hid (Ka10.out.below hb); have Kb11 := Lib.hid (Kb10.out.below hb); have Kl11 := Lib.hid (Kl10.out.below hb); clear hb B10 Ko10 Ka10 Kb10 Kl10) | (have q := P10_1; go_at_call 24; clear q P10_1; refine (MO.out _).mono ?_; rintro e v12 ⟨rfl, hb⟩; have B12 := Lib.hid (B11.out.trans (hb.mono B11.out.size)); have Ko12 := Lib.hid (Ko11.out.below hb); have Ka12 := Lib.hid (Ka11.out.below hb); have Kb12 := Lib.hid (Kb11.out.below hb); have Kl12 := Lib.hid (Kl11.out.below hb); clear hb B11 Ko11 Ka11 Kb11 Kl11) | (have q := P10_2; go_at_call 25; clear q P10_2; refine (OA.out _).mono ?_; rintro e v13 ⟨rfl, hb⟩; have B13 := Lib.hid (B12.out.trans (hb.mono B12.out.size)); have Ko13 := Lib.hid (Ko12.out.below hb); have Ka13 := Lib.hid (Ka12.out.below hb); have Kb13 := Lib.hid (Kb12.out.below hb); have Kl13 := Lib.hid (Kl12.out.below hb); clear hb B12 Ko12 Ka12 Kb12 Kl12) | (have q := P10_3; go_at_call 25; clear q P10_3; refine (OL.out _).mono ?_; rintro e v14 ⟨rfl, hb⟩; have B14 := Lib.hid (B13.out.trans (hb.mono B13.out.size)); have Ko14 := Lib.hid (Ko13.out.below hb); have Ka14 := Lib.hid (Ka13.out.below hb); have Kb14 := Lib.hid (Kb13.out.below hb); have Kl14 := Lib.hid (Kl13.out.below hb); clear hb B13 Ko13 Ka13 Kb13 Kl13))
        try clear ca0 ca1 ca2 ca3 ca4 ca5 da0 da1 da2 da3 da4 da5 cb0 cb1 cb2 cb3 cb4 cb5 db0 db1 db2 db3 db4 db5 cl0 cl1 cl2 cl3 cl4 cl5 dl0 dl1 dl2 dl3 dl4 dl5
        obtain ⟨⟨co0, co1, co2, co3, co4, co5⟩, do0, do1, do2, do3, do4, do5⟩ := Ko14.out.of6
        obtain ⟨⟨ca0, ca1, ca2, ca3, ca4, ca5⟩, da0, da1, da2, da3, da4, da5⟩ := Ka14.out.of6
        obtain ⟨⟨cb0, cb1, cb2, cb3, cb4, cb5⟩, db0, db1, db2, db3, db4, db5⟩ := Kb14.out.of6
        obtain ⟨⟨cl0, cl1, cl2, cl3, cl4, cl5⟩, dl0, dl1, dl2, dl3, dl4, dl5⟩ := Kl14.out.of6
        go_wp2_with fail
        go_ret
        exact ⟨rfl, B14.out⟩
      | true =>
        obtain ⟨i0, i7⟩ := mssTo_bd m 8 (Nat.le_refl _)
        have MI := mssIndexS m
        generalize mssTo m 8 = i at MI i0 i7
        have MI := Lib.hid MI
        have hw := mss_word ⟨i0, i7⟩
        obtain ⟨hc, hv⟩ := ok_yes hok
        rw [hok] at OK
        clear hok
        obtain ⟨hy1, hy2, hy3, hy4⟩ := stamp_back n c k
        rw [fit_self hc] at hy3
        have hr : ∃ r : Int, (if 0 ≤ c ∧ c ≤ 14 then (0 : Int) else -1) = r ∧ -1 ≤ r ∧ r ≤ 14 := ⟨_, rfl, by split <;> omega, by split <;> omega⟩
        obtain ⟨r, hr, hr1⟩ := hr
        rw [show ansOpt c k true v n = ⟨1460, if 0 ≤ c ∧ c ≤ 14 then (0 : Int) else -1, k, true, stampOf n c k, v⟩ from rfl, hr] at A1 A2
        clear hr
        generalize stampOf n c k = y at A1 A2 hy1 hy2 hy3 hy4
        simp only [Opt.cs] at A1 A2
        have L1 := (lrnOptI i 0 (-1) false true 77 y (wf_small ⟨i0, by omega⟩))
        have L2 := (lrnOptS i 0 (-1) false true 77 y)
        rw [show lrnOpt i true 77 y = ⟨mssAt i, c, k, true, 77, 0⟩ from by unfold lrnOpt; rw [hy2, hy3, hy4]; rfl] at L1 L2
        simp only [Opt.cs] at L1 L2
        have OA := optionsOkI 1460 r k true y v
        rw [ok_mk (by decide +kernel) hr1 hy1 hv] at OA
        have OL := optionsOkI (mssAt i) c k true 77 0
        rw [ok_mk hw hc (by decide +kernel) (by decide +kernel)] at OL
        clear hy1 hy2 hy3 hy4 hr1 hc hv
        clear hw
        have MO := (mssOfS i)
        generalize mssAt i = q at MO L1 L2 OL
        have MO := Lib.hid MO
        have OA := Lib.hid OA
        have OL := Lib.hid OL
        have L1 := Lib.hid L1
        have L2 := Lib.hid L2
        clear i0 i7
        have OK := Lib.hid OK
        have A1 := Lib.hid A1
        have A2 := Lib.hid A2
        have Kon := Lib.hid (Blk.new v1 [.int .i64 m, .int .i64 c, .bool k, .bool true, .int .i64 v, .int .i64 u] 32)
        have Bn := Lib.hid (B1.out.alloc B1.out.size (.cells #[.int .i64 m, .int .i64 c, .bool k, .bool true, .int .i64 v, .int .i64 u] 32))
        clear B1
        go_wp2_with fail
        change Calls _ _ _ (v1.alloc (.cells #[.int .i64 m, .int .i64 c, .bool k, .bool true, .int .i64 v, .int .i64 u] 32)) _
        generalize v1.alloc (.cells #[.int .i64 m, .int .i64 c, .bool k, .bool true, .int .i64 v, .int .i64 u] 32) = v2 at Kon Bn ⊢
        generalize v1.heap.size = g_o at Kon ⊢
        clear v1
        have Ko2 := Kon
        clear Kon
        have B2 := Bn
        clear Bn
        refine (A1.out _).mono ?_
        rintro e v3 ⟨rfl, hb⟩
        have B3 := Lib.hid (B2.out.trans (hb.mono B2.out.size))
        have Ko3 := Lib.hid (Ko2.out.below hb)
        clear hb B2 Ko2
        have Kan := Lib.hid (Blk.new v3 [.int .i64 1460, .int .i64 r, .bool k, .bool true, .int .i64 y, .int .i64 v] 32)
        have n_o_a : g_o ≠ v3.heap.size := by have h1 := Ko3.out.lt; omega
        have Bn := Lib.hid (B3.out.alloc B3.out.size (.cells #[.int .i64 1460, .int .i64 r, .bool k, .bool true, .int .i64 y, .int .i64 v] 32))
        have Kon := Lib.hid (Ko3.out.alloc (.cells #[.int .i64 1460, .int .i64 r, .bool k, .bool true, .int .i64 y, .int .i64 v] 32))
        clear B3 Ko3
        obtain ⟨⟨co0, co1, co2, co3, co4, co5⟩, do0, do1, do2, do3, do4, do5⟩ := Kon.out.of6
        go_upto_region 5 with fail
        clear co0 co1 co2 co3 co4 co5 do0 do1 do2 do3 do4 do5
        generalize v3.alloc (.cells #[.int .i64 1460, .int .i64 r, .bool k, .bool true, .int .i64 y, .int .i64 v] 32) = v4 at Kan Bn Kon ⊢
        generalize v3.heap.size = g_a at Kan n_o_a ⊢
        clear v3
        have Ko4 := Kon
        clear Kon
        have Ka4 := Kan
        clear Kan
        have B4 := Bn
        clear Bn
        obtain ⟨⟨co0, co1, co2, co3, co4, co5⟩, do0, do1, do2, do3, do4, do5⟩ := Ko4.out.of6
        obtain ⟨⟨ca0, ca1, ca2, ca3, ca4, ca5⟩, da0, da1, da2, da3, da4, da5⟩ := Ka4.out.of6
        have P4_0 : True := trivial
        go_region_held3 (fun w' => (w'.cell? ⟨g_a, 0, none⟩ = some (.int .i64 1460) ∧ w'.cell? ⟨g_a, 1, none⟩ = some (.int .i64 r) ∧ w'.cell? ⟨g_a, 2, none⟩ = some (.bool k) ∧ w'.cell? ⟨g_a, 3, none⟩ = some (.bool true) ∧ w'.cell? ⟨g_a, 4, none⟩ = some (.int .i64 y) ∧ w'.cell? ⟨g_a, 5, none⟩ = some (.int .i64 v)) ∧ (w'.cell? ⟨g_o, 0, none⟩ = some (.int .i64 m) ∧ w'.cell? ⟨g_o, 1, none⟩ = some (.int .i64 c) ∧ w'.cell? ⟨g_o, 2, none⟩ = some (.bool k) ∧ w'.cell? ⟨g_o, 3, none⟩ = some (.bool true) ∧ w'.cell? ⟨g_o, 4, none⟩ = some (.int .i64 v) ∧ w'.cell? ⟨g_o, 5, none⟩ = some (.int .i64 u)))
          (first | go_keep | (exact ⟨Ka5.out.of6.1, Ko5.out.of6.1⟩))
          ((have q := P4_0; go_at_call 19; clear q P4_0; refine (A2.out _).mono ?_; rintro e v5 ⟨rfl, hb⟩; replace hb := (Below.refl _ v4).drew.trans hb; have B5 := Lib.hid (B4.out.trans (hb.mono B4.out.size)); have Ko5 := Lib.hid (Ko4.out.below hb); have Ka5 := Lib.hid (Ka4.out.below hb); clear hb B4 Ko4 Ka4))
        try clear co0 co1 co2 co3 co4 co5 do0 do1 do2 do3 do4 do5 ca0 ca1 ca2 ca3 ca4 ca5 da0 da1 da2 da3 da4 da5
        obtain ⟨⟨co0, co1, co2, co3, co4, co5⟩, do0, do1, do2, do3, do4, do5⟩ := Ko5.out.of6
        obtain ⟨⟨ca0, ca1, ca2, ca3, ca4, ca5⟩, da0, da1, da2, da3, da4, da5⟩ := Ka5.out.of6
        go_wp2_with fail
        clear co0 co1 co2 co3 co4 co5 do0 do1 do2 do3 do4 do5 ca0 ca1 ca2 ca3 ca4 ca5 da0 da1 da2 da3 da4 da5
        refine (OK.out _).mono ?_
        rintro e v6 ⟨rfl, hb⟩
        have B6 := Lib.hid (B5.out.trans (hb.mono B5.out.size))
        have Ko6 := Lib.hid (Ko5.out.below hb)
        have Ka6 := Lib.hid (Ka5.out.below hb)
        clear hb B5 Ko5 Ka5
        obtain ⟨⟨co0, co1, co2, co3, co4, co5⟩, do0, do1, do2, do3, do4, do5⟩ := Ko6.out.of6
        obtain ⟨⟨ca0, ca1, ca2, ca3, ca4, ca5⟩, da0, da1, da2, da3, da4, da5⟩ := Ka6.out.of6
        go_wp2_with fail
        clear co0 co1 co2 co3 co4 co5 do0 do1 do2 do3 do4 do5 ca0 ca1 ca2 ca3 ca4 ca5 da0 da1 da2 da3 da4 da5
        refine (MI.out _).mono ?_
        rintro e v7 ⟨rfl, hb⟩
        have B7 := Lib.hid (B6.out.trans (hb.mono B6.out.size))
        have Ko7 := Lib.hid (Ko6.out.below hb)
        have Ka7 := Lib.hid (Ka6.out.below hb)
        clear hb B6 Ko6 Ka6
        obtain ⟨eo0, eo1, eo2, eo3, eo4, eo5⟩ := Ko7.out.of6.1
        obtain ⟨ea0, ea1, ea2, ea3, ea4, ea5⟩ := Ka7.out.of6.1
        have ho := Ko7.out.lt
        have po : ¬ v7.heap.size = g_o := by omega
        have qo : ¬ g_o = v7.heap.size := by omega
        have ha := Ka7.out.lt
        have pa : ¬ v7.heap.size = g_a := by omega
        have qa : ¬ g_a = v7.heap.size := by omega
        have Kbn := Lib.hid (Blk.new v7 [.int .i64 0, .int .i64 (-1), .bool false, .bool true, .int .i64 77, .int .i64 y] 32)
        have n_o_b : g_o ≠ v7.heap.size := by have h1 := Ko7.out.lt; omega
        have n_a_b : g_a ≠ v7.heap.size := by have h1 := Ka7.out.lt; omega
        have Bn := Lib.hid (B7.out.alloc B7.out.size (.cells #[.int .i64 0, .int .i64 (-1), .bool false, .bool true, .int .i64 77, .int .i64 y] 32))
        have Kon := Lib.hid (Ko7.out.alloc (.cells #[.int .i64 0, .int .i64 (-1), .bool false, .bool true, .int .i64 77, .int .i64 y] 32))
        have Kan := Lib.hid (Ka7.out.alloc (.cells #[.int .i64 0, .int .i64 (-1), .bool false, .bool true, .int .i64 77, .int .i64 y] 32))
        clear B7 Ko7 Ka7
        obtain ⟨⟨co0, co1, co2, co3, co4, co5⟩, do0, do1, do2, do3, do4, do5⟩ := Kon.out.of6
        obtain ⟨⟨ca0, ca1, ca2, ca3, ca4, ca5⟩, da0, da1, da2, da3, da4, da5⟩ := Kan.out.of6
        go_wp2_with fail
        clear eo0 eo1 eo2 eo3 eo4 eo5 ea0 ea1 ea2 ea3 ea4 ea5 ho po qo ha pa qa
        clear co0 co1 co2 co3 co4 co5 do0 do1 do2 do3 do4 do5 ca0 ca1 ca2 ca3 ca4 ca5 da0 da1 da2 da3 da4 da5
        change Calls _ _ _ (v7.alloc (.cells #[.int .i64 0, .int .i64 (-1), .bool false, .bool true, .int .i64 77, .int .i64 y] 32)) _
        generalize v7.alloc (.cells #[.int .i64 0, .int .i64 (-1), .bool false, .bool true, .int .i64 77, .int .i64 y] 32) = v8 at Kbn Bn Kon Kan ⊢
        generalize v7.heap.size = g_b at Kbn n_o_b n_a_b ⊢
        clear v7
        have Ko8 := Kon
        clear Kon
        have Ka8 := Kan
        clear Kan
        have Kb8 := Kbn
        clear Kbn
        have B8 := Bn
        clear Bn
        refine (L1.out _).mono ?_
        rintro e v9 ⟨rfl, hb⟩
        have B9 := Lib.hid (B8.out.trans (hb.mono B8.out.size))
        have Ko9 := Lib.hid (Ko8.out.below hb)
        have Ka9 := Lib.hid (Ka8.out.below hb)
        have Kb9 := Lib.hid (Kb8.out.below hb)
        clear hb B8 Ko8 Ka8 Kb8
        have Kln := Lib.hid (Blk.new v9 [.int .i64 q, .int .i64 c, .bool k, .bool true, .int .i64 77, .int .i64 0] 32)
        have n_o_l : g_o ≠ v9.heap.size := by have h1 := Ko9.out.lt; omega
        have n_a_l : g_a ≠ v9.heap.size := by have h1 := Ka9.out.lt; omega
        have n_b_l : g_b ≠ v9.heap.size := by have h1 := Kb9.out.lt; omega
        have Bn := Lib.hid (B9.out.alloc B9.out.size (.cells #[.int .i64 q, .int .i64 c, .bool k, .bool true, .int .i64 77, .int .i64 0] 32))
        have Kon := Lib.hid (Ko9.out.alloc (.cells #[.int .i64 q, .int .i64 c, .bool k, .bool true, .int .i64 77, .int .i64 0] 32))
        have Kan := Lib.hid (Ka9.out.alloc (.cells #[.int .i64 q, .int .i64 c, .bool k, .bool true, .int .i64 77, .int .i64 0] 32))
        have Kbn := Lib.hid (Kb9.out.alloc (.cells #[.int .i64 q, .int .i64 c, .bool k, .bool true, .int .i64 77, .int .i64 0] 32))
        clear B9 Ko9 Ka9 Kb9
        obtain ⟨⟨co0, co1, co2, co3, co4, co5⟩, do0, do1, do2, do3, do4, do5⟩ := Kon.out.of6
        obtain ⟨⟨ca0, ca1, ca2, ca3, ca4, ca5⟩, da0, da1, da2, da3, da4, da5⟩ := Kan.out.of6
        obtain ⟨⟨cb0, cb1, cb2, cb3, cb4, cb5⟩, db0, db1, db2, db3, db4, db5⟩ := Kbn.out.of6
        go_upto_region 16 with fail
        clear co0 co1 co2 co3 co4 co5 do0 do1 do2 do3 do4 do5 ca0 ca1 ca2 ca3 ca4 ca5 da0 da1 da2 da3 da4 da5 cb0 cb1 cb2 cb3 cb4 cb5 db0 db1 db2 db3 db4 db5
        generalize v9.alloc (.cells #[.int .i64 q, .int .i64 c, .bool k, .bool true, .int .i64 77, .int .i64 0] 32) = v10 at Kln Bn Kon Kan Kbn ⊢
        generalize v9.heap.size = g_l at Kln n_o_l n_a_l n_b_l ⊢
        clear v9
        have Ko10 := Kon
        clear Kon
        have Ka10 := Kan
        clear Kan
        have Kb10 := Kbn
        clear Kbn
        have Kl10 := Kln
        clear Kln
        have B10 := Bn
        clear Bn
        obtain ⟨⟨ca0, ca1, ca2, ca3, ca4, ca5⟩, da0, da1, da2, da3, da4, da5⟩ := Ka10.out.of6
        obtain ⟨⟨cb0, cb1, cb2, cb3, cb4, cb5⟩, db0, db1, db2, db3, db4, db5⟩ := Kb10.out.of6
        obtain ⟨⟨cl0, cl1, cl2, cl3, cl4, cl5⟩, dl0, dl1, dl2, dl3, dl4, dl5⟩ := Kl10.out.of6
        have P10_0 : True := trivial
        have P10_1 : True := trivial
        have P10_2 : True := trivial
        have P10_3 : True := trivial
        go_region_held3 (fun w' => (w'.cell? ⟨g_a, 0, none⟩ = some (.int .i64 1460) ∧ w'.cell? ⟨g_a, 1, none⟩ = some (.int .i64 r) ∧ w'.cell? ⟨g_a, 2, none⟩ = some (.bool k) ∧ w'.cell? ⟨g_a, 3, none⟩ = some (.bool true) ∧ w'.cell? ⟨g_a, 4, none⟩ = some (.int .i64 y) ∧ w'.cell? ⟨g_a, 5, none⟩ = some (.int .i64 v)) ∧ (w'.cell? ⟨g_b, 0, none⟩ = some (.int .i64 0) ∧ w'.cell? ⟨g_b, 1, none⟩ = some (.int .i64 (-1)) ∧ w'.cell? ⟨g_b, 2, none⟩ = some (.bool false) ∧ w'.cell? ⟨g_b, 3, none⟩ = some (.bool true) ∧ w'.cell? ⟨g_b, 4, none⟩ = some (.int .i64 77) ∧ w'.cell? ⟨g_b, 5, none⟩ = some (.int .i64 y)) ∧ (w'.cell? ⟨g_l, 0, none⟩ = some (.int .i64 q) ∧ w'.cell? ⟨g_l, 1, none⟩ = some (.int .i64 c) ∧ w'.cell? ⟨g_l, 2, none⟩ = some (.bool k) ∧ w'.cell? ⟨g_l, 3, none⟩ = some (.bool true) ∧ w'.cell? ⟨g_l, 4, none⟩ = some (.int .i64 77) ∧ w'.cell? ⟨g_l, 5, none⟩ = some (.int .i64 0)))
          (first | go_keep | (exact ⟨Ka11.out.of6.1, Kb11.out.of6.1, Kl11.out.of6.1⟩) | (exact ⟨Ka12.out.of6.1, Kb12.out.of6.1, Kl12.out.of6.1⟩) | (exact ⟨Ka13.out.of6.1, Kb13.out.of6.1, Kl13.out.of6.1⟩) | (exact ⟨Ka14.out.of6.1, Kb14.out.of6.1, Kl14.out.of6.1⟩))
          (first | (have q := P10_0; go_at_call 23; clear q P10_0; refine (L2.out _).mono ?_; rintro e v11 ⟨rfl, hb⟩; replace hb := (Below.refl _ v10).drew.trans hb; have B11 := Lib.hid (B10.out.trans (hb.mono B10.out.size)); have Ko11 := Lib.hid (Ko10.out.below hb); have Ka11 := Lib.hid (Ka10.out.below hb); have Kb11 := Lib.hid (Kb10.out.below hb); have Kl11 := Lib.hid (Kl10.out.below hb); clear hb B10 Ko10 Ka10 Kb10 Kl10) | (have q := P10_1; go_at_call 24; clear q P10_1; refine (MO.out _).mono ?_; rintro e v12 ⟨rfl, hb⟩; have B12 := Lib.hid (B11.out.trans (hb.mono B11.out.size)); have Ko12 := Lib.hid (Ko11.out.below hb); have Ka12 := Lib.hid (Ka11.out.below hb); have Kb12 := Lib.hid (Kb11.out.below hb); have Kl12 := Lib.hid (Kl11.out.below hb); clear hb B11 Ko11 Ka11 Kb11 Kl11) | (have q := P10_2; go_at_call 25; clear q P10_2; refine (OA.out _).mono ?_; rintro e v13 ⟨rfl, hb⟩; have B13 := Lib.hid (B12.out.trans (hb.mono B12.out.size)); have Ko13 := Lib.hid (Ko12.out.below hb); have Ka13 := Lib.hid (Ka12.out.below hb); have Kb13 := Lib.hid (Kb12.out.below hb); have Kl13 := Lib.hid (Kl12.out.below hb); clear hb B12 Ko12 Ka12 Kb12 Kl12) | (have q := P10_3; go_at_call 25; clear q P10_3; refine (OL.out _).mono ?_; rintro e v14 ⟨rfl, hb⟩; have B14 := Lib.hid (B13.out.trans (hb.mono B13.out.size)); have Ko14 := Lib.hid (Ko13.out.below hb); have Ka14 := Lib.hid (Ka13.out.below hb); have Kb14 := Lib.hid (Kb13.out.below hb); have Kl14 := Lib.hid (Kl13.out.below hb); clear hb B13 Ko13 Ka13 Kb13 Kl13))
        try clear ca0 ca1 ca2 ca3 ca4 ca5 da0 da1 da2 da3 da4 da5 cb0 cb1 cb2 cb3 cb4 cb5 db0 db1 db2 db3 db4 db5 cl0 cl1 cl2 cl3 cl4 cl5 dl0 dl1 dl2 dl3 dl4 dl5
        obtain ⟨⟨co0, co1, co2, co3, co4, co5⟩, do0, do1, do2, do3, do4, do5⟩ := Ko14.out.of6
        obtain ⟨⟨ca0, ca1, ca2, ca3, ca4, ca5⟩, da0, da1, da2, da3, da4, da5⟩ := Ka14.out.of6
        obtain ⟨⟨cb0, cb1, cb2, cb3, cb4, cb5⟩, db0, db1, db2, db3, db4, db5⟩ := Kb14.out.of6
        obtain ⟨⟨cl0, cl1, cl2, cl3, cl4, cl5⟩, dl0, dl1, dl2, dl3, dl4, dl5⟩ := Kl14.out.of6
        go_wp2_with fail
        go_ret
        exact ⟨rfl, B14.out⟩
  · have h1 : 1048576 < s0.length := by omega
    go_enter Try.func4, Try.ntmps4
    go_wp2_with fail
    refine (big_yes _ _ _ _ h1 hm).mono ?_
    rintro e w' ⟨rfl, rfl⟩
    go_wp2_with fail
    go_ret
    exact ⟨rfl, Below.refl _ _⟩
theorem own : ownKnob Try.prog.godebug = none := by kernel_rfl
theorem laidOut : laidOutB Try.prog = true := by kernel_rfl

set_option maxRecDepth 100000 in
theorem lifted (os : Os) (started : os.Started) (H : Type) (enc : TypeId × Value → H) :
    ReturnsInHanded {} Try.checked os 4 .any (Rows.fnLearnedSpec.pre6 enc Try.prog Try.f4 Rows.fnLearnedRow.domain false) (Rows.fnLearnedSpec.post enc Try.prog Try.f4 false true false false) := by
  refine returnsInHanded_of_change (C := Try.checked) own started (by kernel_rfl) Try.func4
    (ChangeSpec.witness6 (enc := enc) (C := Try.checked) false ⟨#[], #[.slice none 0 0], []⟩ 8 (by kernel_rfl) (by kernel_rfl) (by kernel_rfl) (by kernel_rfl)) ?_
  intro W base args ds gs before hval0 hW _ _
  have hval : ∀ (j : Nat) t v, Try.f4.params[j]? = some t → args[j]? = some v → Value.okWide Try.prog W .any base t v := hval0
  have hW' := hW
  obtain ⟨p, q, hA0, hV, rfl, _, _⟩ := hW
  have hA : DataW.TrodAll enc Try.prog W 0 (fun _ => true) true Try.f4.params.toList args.toList ds p := hA0
  rw [Try.params4] at hA hval
  obtain ⟨v0, vs0, d0, ds0, p0, q0, hargs, rfl, rfl, h0, r0⟩ := trodAll_cons hA
  obtain ⟨rfl, rfl, rfl⟩ := trodAll_nil r0
  obtain rfl : args = #[v0] := by cases args; simp_all
  obtain ⟨rfl, rfl⟩ := trodVars_none hV
  obtain ⟨a0, len0, cap0, rfl⟩ := okWide_slice Try.underlying22 (hval 0 22 v0 rfl rfl)
  have k0 := h0
  have lt0 : ∀ x ∈ p0, x.block < W.heap.size := by obtain ⟨m, hm⟩ := k0; exact DataW.trod_lt m _ _ _ hm
  obtain ⟨s0, w0⟩ : ∃ bs : List UInt8, IsBytes W a0 len0 bs := by obtain ⟨fuel, hf⟩ := h0; exact openBytes Try.underlying22 Try.underlying5 (by kernel_rfl) hf
  clear hA0 hval0
  refine (walk a0 len0 cap0 s0 w0).mono fun e W' ⟨he, bel⟩ => ?_
  subst he
  exact ⟨_, rfl, _, _, _, [], _, [], hW', trodAll_mk1 (shut_bool Try.underlying4 _), (trodAll_cons_mk (Below.trod laidOut (by kernel_rfl) (of_decide_eq_true (by kernel_rfl)) k0 bel lt0) trodAll_mk0), rfl, bel.frame _, fun h => by cases h⟩

theorem over : Rows.fnLearnedRow.holds Try.pinned (OpenSpec.ofChange Rows.fnLearnedSpec) :=
  OpenClaim.holds_of_wide 4 Try.f4 rfl rfl rfl rfl rfl rfl rfl ⟨rfl, rfl, rfl, rfl, rfl⟩ rfl rfl rfl rfl rfl (by kernel_rfl) Try.func4 (by kernel_rfl)
    (of_decide_eq_true (by kernel_rfl)) (by unfold Func.isWrapper; first | (rw [if_pos (by decide +kernel)]; kernel_rfl) | (rw [if_neg (by decide +kernel)]; exact ⟨rfl, rfl⟩))
    (fun os started H enc _ => lifted os started H enc)

theorem proved : Rows.FnLearnedSaid := over
#print axioms proved
end Go.Proofs.Ytifgaojgnaafbaa.fnLearned
