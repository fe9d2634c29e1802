/- The model's SipStart, SipRound, SipWord, SipEnd; the laws' toSip, eqSip, unround. Nothing here is a claim. -/
import Derived.Test.YtobfgkiccmhgdaaGreatSipI
namespace Go.Proofs.YtobfgkiccmhgdaaGreat
open Go.RowKit Go.Lib

theorem Blk.setFar {w : World} {r : Nat} {vs : List Value} (h : Blk w r vs) (g k : Nat) (v : Value) (hne : r ≠ g) : Blk (w.setCell ⟨g, k, none⟩ v) r vs := h.setOther _ _ hne
set_option maxRecDepth 100000 in
set_option maxHeartbeats 1000000 in
theorem sipStartS (k l : BitVec 64) (w : World) : Calls Tryz.prog 66 #[.int .u64 (n64 k), .int .u64 (n64 l)] w fun e w' => e = .returned (.agg #[.int .u64 (n64 (S4.start k l).a), .int .u64 (n64 (S4.start k l).b), .int .u64 (n64 (S4.start k l).c), .int .u64 (n64 (S4.start k l).d)]) ∧ Below w.heap.size w w' := by
  go_enter Tryz.func66, Tryz.ntmps66
  go_wp2_with fail
  rw [xorA, xorB, xorC, xorD]
  exact bodyPost_ret (v := .agg #[.int .u64 (n64 (S4.start k l).a), .int .u64 (n64 (S4.start k l).b), .int .u64 (n64 (S4.start k l).c), .int .u64 (n64 (S4.start k l).d)]) (by simp [results, Tryz.results66, go_sem, S4.start]) rfl ⟨rfl, (Below.refl _ _).alloc (Nat.le_refl _) _⟩
set_option maxRecDepth 100000 in
set_option maxHeartbeats 1000000 in
theorem sipRoundS (s : S4) (w : World) : Calls Tryz.prog 73 #[.agg #[.int .u64 (n64 s.a), .int .u64 (n64 s.b), .int .u64 (n64 s.c), .int .u64 (n64 s.d)]] w fun e w' => e = .returned (.agg #[.int .u64 (n64 (s.rnds 1).a), .int .u64 (n64 (s.rnds 1).b), .int .u64 (n64 (s.rnds 1).c), .int .u64 (n64 (s.rnds 1).d)]) ∧ Below w.heap.size w w' := by
  go_enter Tryz.func73, Tryz.ntmps73
  go_wp2_with fail
  rw [add64]
  obtain ⟨t0, T0⟩ : ∃ t0, Hid (t0 = S4.mk (s.a + s.b) s.b s.c s.d) := ⟨_, rfl⟩
  have E0 : (w.alloc (.cells #[.int .u64 (n64 (s.a + s.b)), .int .u64 (n64 s.b), .int .u64 (n64 s.c), .int .u64 (n64 s.d)] 91)) = w.alloc (.cells t0.vs.toArray 91) := by rw [T0.out]; rfl
  rw [E0]
  obtain ⟨w0, B0, R0, W0⟩ : ∃ w0, Hid (True ∧ w0 = (w.alloc (.cells t0.vs.toArray 91)).alloc (.cells #[.int .u64 0, .int .u64 0, .int .u64 0, .int .u64 0] 91) ∧ Blk w0 w.heap.size t0.vs) ∧ Hid (Blk w0 (w.heap.size + 1) [.int .u64 0, .int .u64 0, .int .u64 0, .int .u64 0]) ∧ Hid (Below w.heap.size w w0) := by
    refine ⟨_, ⟨trivial, rfl, (Blk.new w t0.vs 91).alloc _⟩, ?_, ((Below.refl w.heap.size w).alloc (Nat.le_refl _) _).alloc (by simp) _⟩
    have := Blk.new (w.alloc (.cells t0.vs.toArray 91)) [.int .u64 0, .int .u64 0, .int .u64 0, .int .u64 0] 91
    rwa [show (w.alloc (.cells t0.vs.toArray 91)).heap.size = w.heap.size + 1 by simp] at this
  rw [← B0.out.2.1]
  obtain ⟨⟨c0, c1, c2, c3⟩, f0, f1, f2, f3⟩ := B0.out.2.2.sip
  go_still_tail 7, (by kernel_rfl)
  still_call (rotS t0.b 13 (by decide) _)
  repeat still_step
  refine wpStill_nil ?_
  rw [xor64]
  change wpList _ _ _ _ _ w0.drew
  obtain ⟨t1, w1, B1, R1, W1⟩ : ∃ t1 w1, Hid (t1 = t0 ∧ w1 = w0.drew ∧ Blk w1 w.heap.size t1.vs) ∧ Hid (Blk w1 (w.heap.size + 1) [.int .u64 0, .int .u64 0, .int .u64 0, .int .u64 0]) ∧ Hid (Below w.heap.size w w1) :=
    ⟨_, _, ⟨rfl, rfl, B0.out.2.2.drew⟩, R0.out.drew, W0.out.trans ⟨rfl, rfl, rfl, Nat.le_refl _, fun _ _ => rfl⟩⟩
  rw [← B1.out.2.1, ← B1.out.1]
  clear c0 c1 c2 c3 f0 f1 f2 f3
  obtain ⟨⟨c0, c1, c2, c3⟩, f0, f1, f2, f3⟩ := B1.out.2.2.sip
  go_wp2_with fail
  obtain ⟨t2, w2, B2, R2, W2⟩ : ∃ t2 w2, Hid (t2 = S4.mk t1.a (t1.b.rotateLeft 13 ^^^ t1.a) t1.c t1.d ∧ w2 = (w1.setCell ⟨w.heap.size, 1, none⟩ (.int .u64 (n64 (t1.b.rotateLeft 13 ^^^ t1.a)))) ∧ Blk w2 w.heap.size t2.vs) ∧ Hid (Blk w2 (w.heap.size + 1) [.int .u64 0, .int .u64 0, .int .u64 0, .int .u64 0]) ∧ Hid (Below w.heap.size w w2) :=
    ⟨_, _, ⟨rfl, rfl, (B1.out.2.2.set 1 _)⟩, (R1.out.setFar w.heap.size 1 _ (by omega)), (W1.out.setCell (Nat.le_refl _) _)⟩
  rw [← B2.out.2.1]
  clear c0 c1 c2 c3 f0 f1 f2 f3
  obtain ⟨⟨c0, c1, c2, c3⟩, f0, f1, f2, f3⟩ := B2.out.2.2.sip
  rw [show n64 t1.a = n64 t2.a by rw [B2.out.1]]
  refine (rotS t2.a 32 (by decide) _).mono ?_
  rintro e wx ⟨rfl, hwx⟩
  rw [hwx]
  clear hwx
  go_wp2_with fail
  rw [add64]
  obtain ⟨t3, w3, B3, R3, W3⟩ : ∃ t3 w3, Hid (t3 = S4.mk (t2.a.rotateLeft 32) t2.b (t2.c + t2.d) t2.d ∧ w3 = ((w2.setCell ⟨w.heap.size, 0, none⟩ (.int .u64 (n64 (t2.a.rotateLeft 32)))).setCell ⟨w.heap.size, 2, none⟩ (.int .u64 (n64 (t2.c + t2.d)))) ∧ Blk w3 w.heap.size t3.vs) ∧ Hid (Blk w3 (w.heap.size + 1) [.int .u64 0, .int .u64 0, .int .u64 0, .int .u64 0]) ∧ Hid (Below w.heap.size w w3) :=
    ⟨_, _, ⟨rfl, rfl, ((B2.out.2.2.set 0 _).set 2 _)⟩, ((R2.out.setFar w.heap.size 0 _ (by omega)).setFar w.heap.size 2 _ (by omega)), ((W2.out.setCell (Nat.le_refl _) _).setCell (Nat.le_refl _) _)⟩
  rw [← B3.out.2.1]
  clear c0 c1 c2 c3 f0 f1 f2 f3
  obtain ⟨⟨c0, c1, c2, c3⟩, f0, f1, f2, f3⟩ := B3.out.2.2.sip
  go_still_tail 7, (by kernel_rfl)
  still_call (rotS t3.d 16 (by decide) _)
  repeat still_step
  refine wpStill_nil ?_
  rw [xor64]
  change wpList _ _ _ _ _ w3.drew
  obtain ⟨t4, w4, B4, R4, W4⟩ : ∃ t4 w4, Hid (t4 = t3 ∧ w4 = w3.drew ∧ Blk w4 w.heap.size t4.vs) ∧ Hid (Blk w4 (w.heap.size + 1) [.int .u64 0, .int .u64 0, .int .u64 0, .int .u64 0]) ∧ Hid (Below w.heap.size w w4) :=
    ⟨_, _, ⟨rfl, rfl, B3.out.2.2.drew⟩, R3.out.drew, W3.out.trans ⟨rfl, rfl, rfl, Nat.le_refl _, fun _ _ => rfl⟩⟩
  rw [← B4.out.2.1, ← B4.out.1]
  clear c0 c1 c2 c3 f0 f1 f2 f3
  obtain ⟨⟨c0, c1, c2, c3⟩, f0, f1, f2, f3⟩ := B4.out.2.2.sip
  go_wp2_with fail
  rw [add64]
  obtain ⟨t5, w5, B5, R5, W5⟩ : ∃ t5 w5, Hid (t5 = S4.mk (t4.a + (t4.d.rotateLeft 16 ^^^ t4.c)) t4.b t4.c (t4.d.rotateLeft 16 ^^^ t4.c) ∧ w5 = ((w4.setCell ⟨w.heap.size, 3, none⟩ (.int .u64 (n64 (t4.d.rotateLeft 16 ^^^ t4.c)))).setCell ⟨w.heap.size, 0, none⟩ (.int .u64 (n64 (t4.a + (t4.d.rotateLeft 16 ^^^ t4.c))))) ∧ Blk w5 w.heap.size t5.vs) ∧ Hid (Blk w5 (w.heap.size + 1) [.int .u64 0, .int .u64 0, .int .u64 0, .int .u64 0]) ∧ Hid (Below w.heap.size w w5) :=
    ⟨_, _, ⟨rfl, rfl, ((B4.out.2.2.set 3 _).set 0 _)⟩, ((R4.out.setFar w.heap.size 3 _ (by omega)).setFar w.heap.size 0 _ (by omega)), ((W4.out.setCell (Nat.le_refl _) _).setCell (Nat.le_refl _) _)⟩
  rw [← B5.out.2.1]
  clear c0 c1 c2 c3 f0 f1 f2 f3
  obtain ⟨⟨c0, c1, c2, c3⟩, f0, f1, f2, f3⟩ := B5.out.2.2.sip
  go_still_tail 7, (by kernel_rfl)
  still_call (rotS t5.d 21 (by decide) _)
  repeat still_step
  refine wpStill_nil ?_
  rw [xor64]
  change wpList _ _ _ _ _ w5.drew
  obtain ⟨t6, w6, B6, R6, W6⟩ : ∃ t6 w6, Hid (t6 = t5 ∧ w6 = w5.drew ∧ Blk w6 w.heap.size t6.vs) ∧ Hid (Blk w6 (w.heap.size + 1) [.int .u64 0, .int .u64 0, .int .u64 0, .int .u64 0]) ∧ Hid (Below w.heap.size w w6) :=
    ⟨_, _, ⟨rfl, rfl, B5.out.2.2.drew⟩, R5.out.drew, W5.out.trans ⟨rfl, rfl, rfl, Nat.le_refl _, fun _ _ => rfl⟩⟩
  rw [← B6.out.2.1, ← B6.out.1]
  clear c0 c1 c2 c3 f0 f1 f2 f3
  obtain ⟨⟨c0, c1, c2, c3⟩, f0, f1, f2, f3⟩ := B6.out.2.2.sip
  go_wp2_with fail
  rw [add64]
  obtain ⟨t7, w7, B7, R7, W7⟩ : ∃ t7 w7, Hid (t7 = S4.mk t6.a t6.b (t6.c + t6.b) (t6.d.rotateLeft 21 ^^^ t6.a) ∧ w7 = ((w6.setCell ⟨w.heap.size, 3, none⟩ (.int .u64 (n64 (t6.d.rotateLeft 21 ^^^ t6.a)))).setCell ⟨w.heap.size, 2, none⟩ (.int .u64 (n64 (t6.c + t6.b)))) ∧ Blk w7 w.heap.size t7.vs) ∧ Hid (Blk w7 (w.heap.size + 1) [.int .u64 0, .int .u64 0, .int .u64 0, .int .u64 0]) ∧ Hid (Below w.heap.size w w7) :=
    ⟨_, _, ⟨rfl, rfl, ((B6.out.2.2.set 3 _).set 2 _)⟩, ((R6.out.setFar w.heap.size 3 _ (by omega)).setFar w.heap.size 2 _ (by omega)), ((W6.out.setCell (Nat.le_refl _) _).setCell (Nat.le_refl _) _)⟩
  rw [← B7.out.2.1]
  clear c0 c1 c2 c3 f0 f1 f2 f3
  obtain ⟨⟨c0, c1, c2, c3⟩, f0, f1, f2, f3⟩ := B7.out.2.2.sip
  go_still_tail 7, (by kernel_rfl)
  still_call (rotS t7.b 17 (by decide) _)
  repeat still_step
  refine wpStill_nil ?_
  rw [xor64]
  change wpList _ _ _ _ _ w7.drew
  obtain ⟨t8, w8, B8, R8, W8⟩ : ∃ t8 w8, Hid (t8 = t7 ∧ w8 = w7.drew ∧ Blk w8 w.heap.size t8.vs) ∧ Hid (Blk w8 (w.heap.size + 1) [.int .u64 0, .int .u64 0, .int .u64 0, .int .u64 0]) ∧ Hid (Below w.heap.size w w8) :=
    ⟨_, _, ⟨rfl, rfl, B7.out.2.2.drew⟩, R7.out.drew, W7.out.trans ⟨rfl, rfl, rfl, Nat.le_refl _, fun _ _ => rfl⟩⟩
  rw [← B8.out.2.1, ← B8.out.1]
  clear c0 c1 c2 c3 f0 f1 f2 f3
  obtain ⟨⟨c0, c1, c2, c3⟩, f0, f1, f2, f3⟩ := B8.out.2.2.sip
  go_wp2_with fail
  obtain ⟨t9, w9, B9, R9, W9⟩ : ∃ t9 w9, Hid (t9 = S4.mk t8.a (t8.b.rotateLeft 17 ^^^ t8.c) t8.c t8.d ∧ w9 = (w8.setCell ⟨w.heap.size, 1, none⟩ (.int .u64 (n64 (t8.b.rotateLeft 17 ^^^ t8.c)))) ∧ Blk w9 w.heap.size t9.vs) ∧ Hid (Blk w9 (w.heap.size + 1) [.int .u64 0, .int .u64 0, .int .u64 0, .int .u64 0]) ∧ Hid (Below w.heap.size w w9) :=
    ⟨_, _, ⟨rfl, rfl, (B8.out.2.2.set 1 _)⟩, (R8.out.setFar w.heap.size 1 _ (by omega)), (W8.out.setCell (Nat.le_refl _) _)⟩
  rw [← B9.out.2.1]
  clear c0 c1 c2 c3 f0 f1 f2 f3
  obtain ⟨⟨c0, c1, c2, c3⟩, f0, f1, f2, f3⟩ := B9.out.2.2.sip
  rw [show n64 t8.c = n64 t9.c by rw [B9.out.1]]
  refine (rotS t9.c 32 (by decide) _).mono ?_
  rintro e wx ⟨rfl, hwx⟩
  rw [hwx]
  clear hwx
  obtain ⟨⟨d0, d1, d2, d3⟩, e0, e1, e2, e3⟩ := R9.out.four
  go_wp2_with fail
  have E : s.rnds 1 = S4.mk t9.a t9.b (t9.c.rotateLeft 32) t9.d := by rw [B9.out.1, B8.out.1, B7.out.1, B6.out.1, B5.out.1, B4.out.1, B3.out.1, B2.out.1, B1.out.1, T0.out]; rfl
  rw [E]
  exact bodyPost_ret (v := .agg #[.int .u64 (n64 t9.a), .int .u64 (n64 t9.b), .int .u64 (n64 (t9.c.rotateLeft 32)), .int .u64 (n64 t9.d)]) (by simp [results, Tryz.results73, go_sem, d0, d1, d2, d3]) rfl ⟨rfl, (((((W9.out.setCell (Nat.le_refl _) _).setCell (Nat.le_succ _) _).setCell (Nat.le_succ _) _).setCell (Nat.le_succ _) _).setCell (Nat.le_succ _) _)⟩
end Go.Proofs.YtobfgkiccmhgdaaGreat
