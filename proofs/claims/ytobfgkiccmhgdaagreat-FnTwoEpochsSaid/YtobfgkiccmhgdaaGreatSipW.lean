/- The model's SipWord, SipEnd; the laws' toSip, eqSip. Nothing here is a claim. -/
import Derived.Test.YtobfgkiccmhgdaaGreatSipS
namespace Go.Proofs.YtobfgkiccmhgdaaGreat
open Go.RowKit Go.Lib

/-- A word as the row's integer. -/
theorem word_of {n : Int} (h : (Lit.int .u64 n).wf = true) : ∃ x, n = n64 x := n64_of n (by
  simp only [Lit.wf, Bool.and_eq_true, decide_eq_true_eq] at h
  have h1 : IntKind.u64.min = 0 := rfl
  have h2 : IntKind.u64.max = 18446744073709551615 := rfl
  omega)
set_option maxRecDepth 100000 in
set_option maxHeartbeats 1000000 in
theorem sipWordS (s : S4) (m : BitVec 64) (w : World) : Calls Tryz.prog 67 #[.agg #[.int .u64 (n64 s.a), .int .u64 (n64 s.b), .int .u64 (n64 s.c), .int .u64 (n64 s.d)], .int .u64 (n64 m)] w fun e w' => e = .returned (.agg #[.int .u64 (n64 (s.wrd m).a), .int .u64 (n64 (s.wrd m).b), .int .u64 (n64 (s.wrd m).c), .int .u64 (n64 (s.wrd m).d)]) ∧ Below w.heap.size w w' := by
  obtain ⟨t, ht⟩ : ∃ t, Hid (s.inD m = t) := ⟨_, rfl⟩
  obtain ⟨u, hu⟩ : ∃ u, Hid (t.rnds 2 = u) := ⟨_, rfl⟩
  have hw : s.wrd m = u.inA m := by unfold S4.wrd; rw [ht.out, hu.out]
  rw [hw]
  clear hw
  have h0 : n64 s.a = n64 t.a ∧ n64 s.b = n64 t.b ∧ n64 s.c = n64 t.c ∧ n64 (s.d ^^^ m) = n64 t.d := by rw [← ht.out]; exact ⟨rfl, rfl, rfl, rfl⟩
  go_enter Tryz.func67, Tryz.ntmps67
  go_wp2_with fail
  rw [xor64, h0.1, h0.2.1, h0.2.2.1, h0.2.2.2]
  have B0 := Lib.hid (show Blk ((w.alloc (.cells #[.int .u64 (n64 t.a), .int .u64 (n64 t.b), .int .u64 (n64 t.c), .int .u64 (n64 t.d)] 91)).alloc (.cells #[.int .u64 0, .int .u64 0, .int .u64 0, .int .u64 0] 91)) w.heap.size t.vs from (Blk.new w t.vs 91).alloc _)
  have R0 := Lib.hid (Blk.new (w.alloc (.cells #[.int .u64 (n64 t.a), .int .u64 (n64 t.b), .int .u64 (n64 t.c), .int .u64 (n64 t.d)] 91)) [.int .u64 0, .int .u64 0, .int .u64 0, .int .u64 0] 91)
  have W0 := Lib.hid (((Below.refl w.heap.size w).alloc (Nat.le_refl _) (.cells #[.int .u64 (n64 t.a), .int .u64 (n64 t.b), .int .u64 (n64 t.c), .int .u64 (n64 t.d)] 91)).alloc (by simp) (.cells #[.int .u64 0, .int .u64 0, .int .u64 0, .int .u64 0] 91))
  rw [show (w.alloc (.cells #[.int .u64 (n64 t.a), .int .u64 (n64 t.b), .int .u64 (n64 t.c), .int .u64 (n64 t.d)] 91)).heap.size = w.heap.size + 1 by simp] at R0
  have N0 : w.heap.size + 1 < ((w.alloc (.cells #[.int .u64 (n64 t.a), .int .u64 (n64 t.b), .int .u64 (n64 t.c), .int .u64 (n64 t.d)] 91)).alloc (.cells #[.int .u64 0, .int .u64 0, .int .u64 0, .int .u64 0] 91)).heap.size := by simp
  generalize (w.alloc (.cells #[.int .u64 (n64 t.a), .int .u64 (n64 t.b), .int .u64 (n64 t.c), .int .u64 (n64 t.d)] 91)).alloc (.cells #[.int .u64 0, .int .u64 0, .int .u64 0, .int .u64 0] 91) = w0 at B0 R0 W0 N0 ⊢
  refine (sipRoundS t w0).mono ?_
  rintro e w1 ⟨rfl, hb⟩
  have B1 := Lib.hid (B0.out.below hb)
  have R1 := Lib.hid (R0.out.below hb)
  have W1 := Lib.hid (W0.out.trans (hb.mono W0.out.size))
  clear hb B0 R0 W0
  go_wp2_with fail
  refine (sipRoundS (t.rnds 1) w1).mono ?_
  rintro e w2 ⟨rfl, hb⟩
  have B2 := Lib.hid (B1.out.below hb)
  have R2 := Lib.hid (R1.out.below hb)
  have W2 := Lib.hid (W1.out.trans (hb.mono W1.out.size))
  clear hb B1 R1 W1
  rw [show (t.rnds 1).rnds 1 = u from hu.out]
  obtain ⟨⟨c0, c1, c2, c3⟩, f0, f1, f2, f3⟩ := B2.out.sip
  obtain ⟨⟨d0, d1, d2, d3⟩, e0, e1, e2, e3⟩ := R2.out.four
  go_wp2_with fail
  rw [xor64]
  exact bodyPost_ret (v := .agg #[.int .u64 (n64 (u.inA m).a), .int .u64 (n64 (u.inA m).b), .int .u64 (n64 (u.inA m).c), .int .u64 (n64 (u.inA m).d)]) (by simp [results, Tryz.results67, go_sem, d0, d1, d2, d3, S4.inA]) rfl ⟨rfl, (((((((((W2.out.setCell (Nat.le_refl _) _).setCell (Nat.le_refl _) _).setCell (Nat.le_refl _) _).setCell (Nat.le_refl _) _).setCell (Nat.le_refl _) _).setCell (Nat.le_succ _) _).setCell (Nat.le_succ _) _).setCell (Nat.le_succ _) _).setCell (Nat.le_succ _) _)⟩
set_option maxRecDepth 100000 in
set_option maxHeartbeats 1000000 in
theorem sipEndS (s : S4) (w : World) : Calls Tryz.prog 69 #[.agg #[.int .u64 (n64 s.a), .int .u64 (n64 s.b), .int .u64 (n64 s.c), .int .u64 (n64 s.d)]] w fun e w' => e = .returned (.int .u64 (n64 s.fin)) ∧ Below w.heap.size w w' := by
  obtain ⟨t, ht⟩ : ∃ t, Hid (s.mark = t) := ⟨_, rfl⟩
  obtain ⟨u, hu⟩ : ∃ u, Hid (t.rnds 4 = u) := ⟨_, rfl⟩
  have hw : s.fin = u.fold := by unfold S4.fin; rw [ht.out, hu.out]
  rw [hw]
  clear hw
  have h0 : n64 s.a = n64 t.a ∧ n64 s.b = n64 t.b ∧ n64 (s.c ^^^ 255) = n64 t.c ∧ n64 s.d = n64 t.d := by rw [← ht.out]; exact ⟨rfl, rfl, rfl, rfl⟩
  go_enter Tryz.func69, Tryz.ntmps69
  go_wp2_with fail
  rw [xor255, h0.1, h0.2.1, h0.2.2.1, h0.2.2.2]
  have B0 := Lib.hid (Blk.new w t.vs 91)
  have W0 := Lib.hid ((Below.refl w.heap.size w).alloc (Nat.le_refl _) (.cells t.vs.toArray 91))
  change Calls _ _ _ (w.alloc (.cells t.vs.toArray 91)) _
  generalize w.alloc (.cells t.vs.toArray 91) = w0 at B0 W0 ⊢
  refine (sipRoundS t w0).mono ?_
  rintro e w1 ⟨rfl, hb⟩
  have B1 := Lib.hid (B0.out.below hb)
  have W1 := Lib.hid (W0.out.trans (hb.mono W0.out.size))
  clear hb B0 W0
  go_wp2_with fail
  refine (sipRoundS (t.rnds 1) w1).mono ?_
  rintro e w2 ⟨rfl, hb⟩
  have B2 := Lib.hid (B1.out.below hb)
  have W2 := Lib.hid (W1.out.trans (hb.mono W1.out.size))
  clear hb B1 W1
  go_wp2_with fail
  refine (sipRoundS ((t.rnds 1).rnds 1) w2).mono ?_
  rintro e w3 ⟨rfl, hb⟩
  have B3 := Lib.hid (B2.out.below hb)
  have W3 := Lib.hid (W2.out.trans (hb.mono W2.out.size))
  clear hb B2 W2
  go_wp2_with fail
  refine (sipRoundS (((t.rnds 1).rnds 1).rnds 1) w3).mono ?_
  rintro e w4 ⟨rfl, hb⟩
  have B4 := Lib.hid (B3.out.below hb)
  have W4 := Lib.hid (W3.out.trans (hb.mono W3.out.size))
  clear hb B3 W3
  rw [show (((t.rnds 1).rnds 1).rnds 1).rnds 1 = u from hu.out]
  obtain ⟨⟨c0, c1, c2, c3⟩, f0, f1, f2, f3⟩ := B4.out.sip
  go_wp2_with fail
  rw [xor64, xor64, xor64]
  go_ret
  exact ⟨rfl, ((((W4.out.setCell (Nat.le_refl _) _).setCell (Nat.le_refl _) _).setCell (Nat.le_refl _) _).setCell (Nat.le_refl _) _)⟩
end Go.Proofs.YtobfgkiccmhgdaaGreat
