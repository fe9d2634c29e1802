/- SameKeys, of the model and of the program. Nothing here is a claim. -/
import Derived.Test.YtobfgkiccmhgdaaKeysA
namespace Go.Proofs.Ytobfgkiccmhgdaa
open Go.RowKit Go.Lib

/-- Whether two keys are the same. -/
noncomputable def sameK (e1 e2 : Int) (p1 q1 p2 q2 : M) (t1 t2 : Bool) : Bool := (e1 == e2) && ((t1 == t2) && (p1.same p2 && q1.same q2))

set_option maxRecDepth 100000 in
set_option maxHeartbeats 4000000 in
theorem sameKeysI (e1 e2 : Int) (p1 q1 p2 q2 : M) (t1 t2 : Bool) (w : World) (hp1 : p1.On w) (hq1 : q1.On w) (hp2 : p2.On w) (hq2 : q2.On w) (fp1 : p1.Fit) (fq1 : q1.Fit) :
    Calls Try.prog 43 #[.agg #[.int .i64 e1, .bool p1.u, .int .u64 (n64 p1.k), .int .u64 (n64 p1.l), .slice p1.a p1.rs.length p1.c, .bool q1.u, .int .u64 (n64 q1.k), .int .u64 (n64 q1.l), .slice q1.a q1.rs.length q1.c, .bool t1], .agg #[.int .i64 e2, .bool p2.u, .int .u64 (n64 p2.k), .int .u64 (n64 p2.l), .slice p2.a p2.rs.length p2.c, .bool q2.u, .int .u64 (n64 q2.k), .int .u64 (n64 q2.l), .slice q2.a q2.rs.length q2.c, .bool t2]] w (EndB (sameK e1 e2 p1 q1 p2 q2 t1 t2) w) := by
  have HP1 := Lib.hid hp1
  have HQ1 := Lib.hid hq1
  have HP2 := Lib.hid hp2
  have HQ2 := Lib.hid hq2
  clear hp1 hq1 hp2 hq2
  have C1 := Lib.hid (fun w h h' => M.sameI p1 p2 w h h' fp1)
  have C2 := Lib.hid (fun w h h' => M.sameI q1 q2 w h h' fq1)
  clear fp1 fq1
  have D : Hid (sameK e1 e2 p1 q1 p2 q2 t1 t2 = ((e1 == e2) && ((t1 == t2) && (p1.same p2 && q1.same q2)))) := rfl
  rw [D.out]
  clear D
  obtain ⟨x1, hx1⟩ : ∃ x, p1.same p2 = x := ⟨_, rfl⟩
  rw [hx1] at C1 ⊢
  clear hx1
  obtain ⟨x2, hx2⟩ : ∃ x, q1.same q2 = x := ⟨_, rfl⟩
  rw [hx2] at C2 ⊢
  clear hx2
  by_cases he : (e1 == e2) = false
  · rw [he]
    go_enter Try.func43, Try.ntmps43
    go_wp2_with fail
    go_ret
    exact ⟨rfl, ((Below.refl _ _).alloc (Nat.le_refl _) _).alloc (by simp) _⟩
  obtain rfl : e1 = e2 := by simpa using he
  clear he
  by_cases ht : (t1 == t2) = false
  · rw [ht]
    go_enter Try.func43, Try.ntmps43
    go_wp2_with fail
    go_ret
    exact ⟨ret_bool (by simp), ((Below.refl _ _).alloc (Nat.le_refl _) _).alloc (by simp) _⟩
  obtain rfl : t1 = t2 := by simpa using ht
  clear ht
  cases x1 with
  | false =>
    go_enter Try.func43, Try.ntmps43
    have B0 := Lib.hid (show Below w.heap.size w ((w.alloc (.cells #[.int .i64 e1, .bool p1.u, .int .u64 (n64 p1.k), .int .u64 (n64 p1.l), .slice p1.a p1.rs.length p1.c, .bool q1.u, .int .u64 (n64 q1.k), .int .u64 (n64 q1.l), .slice q1.a q1.rs.length q1.c, .bool t1] 29)).alloc (.cells #[.int .i64 e1, .bool p2.u, .int .u64 (n64 p2.k), .int .u64 (n64 p2.l), .slice p2.a p2.rs.length p2.c, .bool q2.u, .int .u64 (n64 q2.k), .int .u64 (n64 q2.l), .slice q2.a q2.rs.length q2.c, .bool t1] 29)) from (((Below.refl _ w).alloc (by simp) _).alloc (by simp) _))
    have KA0 := Lib.hid (show Blk ((w.alloc (.cells #[.int .i64 e1, .bool p1.u, .int .u64 (n64 p1.k), .int .u64 (n64 p1.l), .slice p1.a p1.rs.length p1.c, .bool q1.u, .int .u64 (n64 q1.k), .int .u64 (n64 q1.l), .slice q1.a q1.rs.length q1.c, .bool t1] 29)).alloc (.cells #[.int .i64 e1, .bool p2.u, .int .u64 (n64 p2.k), .int .u64 (n64 p2.l), .slice p2.a p2.rs.length p2.c, .bool q2.u, .int .u64 (n64 q2.k), .int .u64 (n64 q2.l), .slice q2.a q2.rs.length q2.c, .bool t1] 29)) (w.heap.size) [.int .i64 e1, .bool p1.u, .int .u64 (n64 p1.k), .int .u64 (n64 p1.l), .slice p1.a p1.rs.length p1.c, .bool q1.u, .int .u64 (n64 q1.k), .int .u64 (n64 q1.l), .slice q1.a q1.rs.length q1.c, .bool t1] from (Blk.new w [.int .i64 e1, .bool p1.u, .int .u64 (n64 p1.k), .int .u64 (n64 p1.l), .slice p1.a p1.rs.length p1.c, .bool q1.u, .int .u64 (n64 q1.k), .int .u64 (n64 q1.l), .slice q1.a q1.rs.length q1.c, .bool t1] 29).alloc (.cells #[.int .i64 e1, .bool p2.u, .int .u64 (n64 p2.k), .int .u64 (n64 p2.l), .slice p2.a p2.rs.length p2.c, .bool q2.u, .int .u64 (n64 q2.k), .int .u64 (n64 q2.l), .slice q2.a q2.rs.length q2.c, .bool t1] 29))
    have s1 : (w.alloc (.cells #[.int .i64 e1, .bool p1.u, .int .u64 (n64 p1.k), .int .u64 (n64 p1.l), .slice p1.a p1.rs.length p1.c, .bool q1.u, .int .u64 (n64 q1.k), .int .u64 (n64 q1.l), .slice q1.a q1.rs.length q1.c, .bool t1] 29)).heap.size = w.heap.size + 1 := by simp
    have KB0 := Lib.hid (show Blk ((w.alloc (.cells #[.int .i64 e1, .bool p1.u, .int .u64 (n64 p1.k), .int .u64 (n64 p1.l), .slice p1.a p1.rs.length p1.c, .bool q1.u, .int .u64 (n64 q1.k), .int .u64 (n64 q1.l), .slice q1.a q1.rs.length q1.c, .bool t1] 29)).alloc (.cells #[.int .i64 e1, .bool p2.u, .int .u64 (n64 p2.k), .int .u64 (n64 p2.l), .slice p2.a p2.rs.length p2.c, .bool q2.u, .int .u64 (n64 q2.k), .int .u64 (n64 q2.l), .slice q2.a q2.rs.length q2.c, .bool t1] 29)) (w.heap.size + 1) [.int .i64 e1, .bool p2.u, .int .u64 (n64 p2.k), .int .u64 (n64 p2.l), .slice p2.a p2.rs.length p2.c, .bool q2.u, .int .u64 (n64 q2.k), .int .u64 (n64 q2.l), .slice q2.a q2.rs.length q2.c, .bool t1] by have h0 := Blk.new (w.alloc (.cells #[.int .i64 e1, .bool p1.u, .int .u64 (n64 p1.k), .int .u64 (n64 p1.l), .slice p1.a p1.rs.length p1.c, .bool q1.u, .int .u64 (n64 q1.k), .int .u64 (n64 q1.l), .slice q1.a q1.rs.length q1.c, .bool t1] 29)) [.int .i64 e1, .bool p2.u, .int .u64 (n64 p2.k), .int .u64 (n64 p2.l), .slice p2.a p2.rs.length p2.c, .bool q2.u, .int .u64 (n64 q2.k), .int .u64 (n64 q2.l), .slice q2.a q2.rs.length q2.c, .bool t1] 29; rwa [s1] at h0)
    have n_A_B : w.heap.size ≠ w.heap.size + 1 := by omega
    clear s1
    have Hp10 := Lib.hid (show p1.On ((w.alloc (.cells #[.int .i64 e1, .bool p1.u, .int .u64 (n64 p1.k), .int .u64 (n64 p1.l), .slice p1.a p1.rs.length p1.c, .bool q1.u, .int .u64 (n64 q1.k), .int .u64 (n64 q1.l), .slice q1.a q1.rs.length q1.c, .bool t1] 29)).alloc (.cells #[.int .i64 e1, .bool p2.u, .int .u64 (n64 p2.k), .int .u64 (n64 p2.l), .slice p2.a p2.rs.length p2.c, .bool q2.u, .int .u64 (n64 q2.k), .int .u64 (n64 q2.l), .slice q2.a q2.rs.length q2.c, .bool t1] 29)) from HP1.out.below B0.out)
    clear HP1
    have Hq10 := Lib.hid (show q1.On ((w.alloc (.cells #[.int .i64 e1, .bool p1.u, .int .u64 (n64 p1.k), .int .u64 (n64 p1.l), .slice p1.a p1.rs.length p1.c, .bool q1.u, .int .u64 (n64 q1.k), .int .u64 (n64 q1.l), .slice q1.a q1.rs.length q1.c, .bool t1] 29)).alloc (.cells #[.int .i64 e1, .bool p2.u, .int .u64 (n64 p2.k), .int .u64 (n64 p2.l), .slice p2.a p2.rs.length p2.c, .bool q2.u, .int .u64 (n64 q2.k), .int .u64 (n64 q2.l), .slice q2.a q2.rs.length q2.c, .bool t1] 29)) from HQ1.out.below B0.out)
    clear HQ1
    have Hp20 := Lib.hid (show p2.On ((w.alloc (.cells #[.int .i64 e1, .bool p1.u, .int .u64 (n64 p1.k), .int .u64 (n64 p1.l), .slice p1.a p1.rs.length p1.c, .bool q1.u, .int .u64 (n64 q1.k), .int .u64 (n64 q1.l), .slice q1.a q1.rs.length q1.c, .bool t1] 29)).alloc (.cells #[.int .i64 e1, .bool p2.u, .int .u64 (n64 p2.k), .int .u64 (n64 p2.l), .slice p2.a p2.rs.length p2.c, .bool q2.u, .int .u64 (n64 q2.k), .int .u64 (n64 q2.l), .slice q2.a q2.rs.length q2.c, .bool t1] 29)) from HP2.out.below B0.out)
    clear HP2
    have Hq20 := Lib.hid (show q2.On ((w.alloc (.cells #[.int .i64 e1, .bool p1.u, .int .u64 (n64 p1.k), .int .u64 (n64 p1.l), .slice p1.a p1.rs.length p1.c, .bool q1.u, .int .u64 (n64 q1.k), .int .u64 (n64 q1.l), .slice q1.a q1.rs.length q1.c, .bool t1] 29)).alloc (.cells #[.int .i64 e1, .bool p2.u, .int .u64 (n64 p2.k), .int .u64 (n64 p2.l), .slice p2.a p2.rs.length p2.c, .bool q2.u, .int .u64 (n64 q2.k), .int .u64 (n64 q2.l), .slice q2.a q2.rs.length q2.c, .bool t1] 29)) from HQ2.out.below B0.out)
    clear HQ2
    go_wp2_with fail
    change Calls _ _ _ ((w.alloc (.cells #[.int .i64 e1, .bool p1.u, .int .u64 (n64 p1.k), .int .u64 (n64 p1.l), .slice p1.a p1.rs.length p1.c, .bool q1.u, .int .u64 (n64 q1.k), .int .u64 (n64 q1.l), .slice q1.a q1.rs.length q1.c, .bool t1] 29)).alloc (.cells #[.int .i64 e1, .bool p2.u, .int .u64 (n64 p2.k), .int .u64 (n64 p2.l), .slice p2.a p2.rs.length p2.c, .bool q2.u, .int .u64 (n64 q2.k), .int .u64 (n64 q2.l), .slice q2.a q2.rs.length q2.c, .bool t1] 29)) _
    generalize (w.alloc (.cells #[.int .i64 e1, .bool p1.u, .int .u64 (n64 p1.k), .int .u64 (n64 p1.l), .slice p1.a p1.rs.length p1.c, .bool q1.u, .int .u64 (n64 q1.k), .int .u64 (n64 q1.l), .slice q1.a q1.rs.length q1.c, .bool t1] 29)).alloc (.cells #[.int .i64 e1, .bool p2.u, .int .u64 (n64 p2.k), .int .u64 (n64 p2.l), .slice p2.a p2.rs.length p2.c, .bool q2.u, .int .u64 (n64 q2.k), .int .u64 (n64 q2.l), .slice q2.a q2.rs.length q2.c, .bool t1] 29) = v0 at B0 KA0 KB0 Hp10 Hq10 Hp20 Hq20 ⊢
    generalize w.heap.size + 1 = g_B at KB0 n_A_B ⊢
    generalize w.heap.size = g_A at KA0 n_A_B ⊢
    refine (C1.out _ Hp10.out Hp20.out).mono ?_
    rintro e v1 ⟨rfl, hb⟩
    have B1 := Lib.hid (B0.out.trans (hb.mono B0.out.size))
    have KA1 := Lib.hid (KA0.out.below hb)
    have KB1 := Lib.hid (KB0.out.below hb)
    have Hp11 := Lib.hid (Hp10.out.below hb)
    have Hq11 := Lib.hid (Hq10.out.below hb)
    have Hp21 := Lib.hid (Hp20.out.below hb)
    have Hq21 := Lib.hid (Hq20.out.below hb)
    clear hb B0 KA0 KB0 Hp10 Hq10 Hp20 Hq20
    obtain ⟨⟨cA0, cA1, cA2, cA3, cA4, cA5, cA6, cA7, cA8, cA9⟩, dA0, dA1, dA2, dA3, dA4, dA5, dA6, dA7, dA8, dA9⟩ := KA1.out.of10
    obtain ⟨⟨cB0, cB1, cB2, cB3, cB4, cB5, cB6, cB7, cB8, cB9⟩, dB0, dB1, dB2, dB3, dB4, dB5, dB6, dB7, dB8, dB9⟩ := KB1.out.of10
    go_wp2_with fail
    go_ret
    exact ⟨ret_bool (by simp), B1.out⟩
  | true =>
    go_enter Try.func43, Try.ntmps43
    have B0 := Lib.hid (show Below w.heap.size w ((w.alloc (.cells #[.int .i64 e1, .bool p1.u, .int .u64 (n64 p1.k), .int .u64 (n64 p1.l), .slice p1.a p1.rs.length p1.c, .bool q1.u, .int .u64 (n64 q1.k), .int .u64 (n64 q1.l), .slice q1.a q1.rs.length q1.c, .bool t1] 29)).alloc (.cells #[.int .i64 e1, .bool p2.u, .int .u64 (n64 p2.k), .int .u64 (n64 p2.l), .slice p2.a p2.rs.length p2.c, .bool q2.u, .int .u64 (n64 q2.k), .int .u64 (n64 q2.l), .slice q2.a q2.rs.length q2.c, .bool t1] 29)) from (((Below.refl _ w).alloc (by simp) _).alloc (by simp) _))
    have KA0 := Lib.hid (show Blk ((w.alloc (.cells #[.int .i64 e1, .bool p1.u, .int .u64 (n64 p1.k), .int .u64 (n64 p1.l), .slice p1.a p1.rs.length p1.c, .bool q1.u, .int .u64 (n64 q1.k), .int .u64 (n64 q1.l), .slice q1.a q1.rs.length q1.c, .bool t1] 29)).alloc (.cells #[.int .i64 e1, .bool p2.u, .int .u64 (n64 p2.k), .int .u64 (n64 p2.l), .slice p2.a p2.rs.length p2.c, .bool q2.u, .int .u64 (n64 q2.k), .int .u64 (n64 q2.l), .slice q2.a q2.rs.length q2.c, .bool t1] 29)) (w.heap.size) [.int .i64 e1, .bool p1.u, .int .u64 (n64 p1.k), .int .u64 (n64 p1.l), .slice p1.a p1.rs.length p1.c, .bool q1.u, .int .u64 (n64 q1.k), .int .u64 (n64 q1.l), .slice q1.a q1.rs.length q1.c, .bool t1] from (Blk.new w [.int .i64 e1, .bool p1.u, .int .u64 (n64 p1.k), .int .u64 (n64 p1.l), .slice p1.a p1.rs.length p1.c, .bool q1.u, .int .u64 (n64 q1.k), .int .u64 (n64 q1.l), .slice q1.a q1.rs.length q1.c, .bool t1] 29).alloc (.cells #[.int .i64 e1, .bool p2.u, .int .u64 (n64 p2.k), .int .u64 (n64 p2.l), .slice p2.a p2.rs.length p2.c, .bool q2.u, .int .u64 (n64 q2.k), .int .u64 (n64 q2.l), .slice q2.a q2.rs.length q2.c, .bool t1] 29))
    have s1 : (w.alloc (.cells #[.int .i64 e1, .bool p1.u, .int .u64 (n64 p1.k), .int .u64 (n64 p1.l), .slice p1.a p1.rs.length p1.c, .bool q1.u, .int .u64 (n64 q1.k), .int .u64 (n64 q1.l), .slice q1.a q1.rs.length q1.c, .bool t1] 29)).heap.size = w.heap.size + 1 := by simp
    have KB0 := Lib.hid (show Blk ((w.alloc (.cells #[.int .i64 e1, .bool p1.u, .int .u64 (n64 p1.k), .int .u64 (n64 p1.l), .slice p1.a p1.rs.length p1.c, .bool q1.u, .int .u64 (n64 q1.k), .int .u64 (n64 q1.l), .slice q1.a q1.rs.length q1.c, .bool t1] 29)).alloc (.cells #[.int .i64 e1, .bool p2.u, .int .u64 (n64 p2.k), .int .u64 (n64 p2.l), .slice p2.a p2.rs.length p2.c, .bool q2.u, .int .u64 (n64 q2.k), .int .u64 (n64 q2.l), .slice q2.a q2.rs.length q2.c, .bool t1] 29)) (w.heap.size + 1) [.int .i64 e1, .bool p2.u, .int .u64 (n64 p2.k), .int .u64 (n64 p2.l), .slice p2.a p2.rs.length p2.c, .bool q2.u, .int .u64 (n64 q2.k), .int .u64 (n64 q2.l), .slice q2.a q2.rs.length q2.c, .bool t1] by have h0 := Blk.new (w.alloc (.cells #[.int .i64 e1, .bool p1.u, .int .u64 (n64 p1.k), .int .u64 (n64 p1.l), .slice p1.a p1.rs.length p1.c, .bool q1.u, .int .u64 (n64 q1.k), .int .u64 (n64 q1.l), .slice q1.a q1.rs.length q1.c, .bool t1] 29)) [.int .i64 e1, .bool p2.u, .int .u64 (n64 p2.k), .int .u64 (n64 p2.l), .slice p2.a p2.rs.length p2.c, .bool q2.u, .int .u64 (n64 q2.k), .int .u64 (n64 q2.l), .slice q2.a q2.rs.length q2.c, .bool t1] 29; rwa [s1] at h0)
    have n_A_B : w.heap.size ≠ w.heap.size + 1 := by omega
    clear s1
    have Hp10 := Lib.hid (show p1.On ((w.alloc (.cells #[.int .i64 e1, .bool p1.u, .int .u64 (n64 p1.k), .int .u64 (n64 p1.l), .slice p1.a p1.rs.length p1.c, .bool q1.u, .int .u64 (n64 q1.k), .int .u64 (n64 q1.l), .slice q1.a q1.rs.length q1.c, .bool t1] 29)).alloc (.cells #[.int .i64 e1, .bool p2.u, .int .u64 (n64 p2.k), .int .u64 (n64 p2.l), .slice p2.a p2.rs.length p2.c, .bool q2.u, .int .u64 (n64 q2.k), .int .u64 (n64 q2.l), .slice q2.a q2.rs.length q2.c, .bool t1] 29)) from HP1.out.below B0.out)
    clear HP1
    have Hq10 := Lib.hid (show q1.On ((w.alloc (.cells #[.int .i64 e1, .bool p1.u, .int .u64 (n64 p1.k), .int .u64 (n64 p1.l), .slice p1.a p1.rs.length p1.c, .bool q1.u, .int .u64 (n64 q1.k), .int .u64 (n64 q1.l), .slice q1.a q1.rs.length q1.c, .bool t1] 29)).alloc (.cells #[.int .i64 e1, .bool p2.u, .int .u64 (n64 p2.k), .int .u64 (n64 p2.l), .slice p2.a p2.rs.length p2.c, .bool q2.u, .int .u64 (n64 q2.k), .int .u64 (n64 q2.l), .slice q2.a q2.rs.length q2.c, .bool t1] 29)) from HQ1.out.below B0.out)
    clear HQ1
    have Hp20 := Lib.hid (show p2.On ((w.alloc (.cells #[.int .i64 e1, .bool p1.u, .int .u64 (n64 p1.k), .int .u64 (n64 p1.l), .slice p1.a p1.rs.length p1.c, .bool q1.u, .int .u64 (n64 q1.k), .int .u64 (n64 q1.l), .slice q1.a q1.rs.length q1.c, .bool t1] 29)).alloc (.cells #[.int .i64 e1, .bool p2.u, .int .u64 (n64 p2.k), .int .u64 (n64 p2.l), .slice p2.a p2.rs.length p2.c, .bool q2.u, .int .u64 (n64 q2.k), .int .u64 (n64 q2.l), .slice q2.a q2.rs.length q2.c, .bool t1] 29)) from HP2.out.below B0.out)
    clear HP2
    have Hq20 := Lib.hid (show q2.On ((w.alloc (.cells #[.int .i64 e1, .bool p1.u, .int .u64 (n64 p1.k), .int .u64 (n64 p1.l), .slice p1.a p1.rs.length p1.c, .bool q1.u, .int .u64 (n64 q1.k), .int .u64 (n64 q1.l), .slice q1.a q1.rs.length q1.c, .bool t1] 29)).alloc (.cells #[.int .i64 e1, .bool p2.u, .int .u64 (n64 p2.k), .int .u64 (n64 p2.l), .slice p2.a p2.rs.length p2.c, .bool q2.u, .int .u64 (n64 q2.k), .int .u64 (n64 q2.l), .slice q2.a q2.rs.length q2.c, .bool t1] 29)) from HQ2.out.below B0.out)
    clear HQ2
    go_wp2_with fail
    change Calls _ _ _ ((w.alloc (.cells #[.int .i64 e1, .bool p1.u, .int .u64 (n64 p1.k), .int .u64 (n64 p1.l), .slice p1.a p1.rs.length p1.c, .bool q1.u, .int .u64 (n64 q1.k), .int .u64 (n64 q1.l), .slice q1.a q1.rs.length q1.c, .bool t1] 29)).alloc (.cells #[.int .i64 e1, .bool p2.u, .int .u64 (n64 p2.k), .int .u64 (n64 p2.l), .slice p2.a p2.rs.length p2.c, .bool q2.u, .int .u64 (n64 q2.k), .int .u64 (n64 q2.l), .slice q2.a q2.rs.length q2.c, .bool t1] 29)) _
    generalize (w.alloc (.cells #[.int .i64 e1, .bool p1.u, .int .u64 (n64 p1.k), .int .u64 (n64 p1.l), .slice p1.a p1.rs.length p1.c, .bool q1.u, .int .u64 (n64 q1.k), .int .u64 (n64 q1.l), .slice q1.a q1.rs.length q1.c, .bool t1] 29)).alloc (.cells #[.int .i64 e1, .bool p2.u, .int .u64 (n64 p2.k), .int .u64 (n64 p2.l), .slice p2.a p2.rs.length p2.c, .bool q2.u, .int .u64 (n64 q2.k), .int .u64 (n64 q2.l), .slice q2.a q2.rs.length q2.c, .bool t1] 29) = v0 at B0 KA0 KB0 Hp10 Hq10 Hp20 Hq20 ⊢
    generalize w.heap.size + 1 = g_B at KB0 n_A_B ⊢
    generalize w.heap.size = g_A at KA0 n_A_B ⊢
    refine (C1.out _ Hp10.out Hp20.out).mono ?_
    rintro e v1 ⟨rfl, hb⟩
    have B1 := Lib.hid (B0.out.trans (hb.mono B0.out.size))
    have KA1 := Lib.hid (KA0.out.below hb)
    have KB1 := Lib.hid (KB0.out.below hb)
    have Hp11 := Lib.hid (Hp10.out.below hb)
    have Hq11 := Lib.hid (Hq10.out.below hb)
    have Hp21 := Lib.hid (Hp20.out.below hb)
    have Hq21 := Lib.hid (Hq20.out.below hb)
    clear hb B0 KA0 KB0 Hp10 Hq10 Hp20 Hq20
    obtain ⟨⟨cA0, cA1, cA2, cA3, cA4, cA5, cA6, cA7, cA8, cA9⟩, dA0, dA1, dA2, dA3, dA4, dA5, dA6, dA7, dA8, dA9⟩ := KA1.out.of10
    obtain ⟨⟨cB0, cB1, cB2, cB3, cB4, cB5, cB6, cB7, cB8, cB9⟩, dB0, dB1, dB2, dB3, dB4, dB5, dB6, dB7, dB8, dB9⟩ := KB1.out.of10
    go_wp2_with fail
    clear cA0 cA1 cA2 cA3 cA4 cA5 cA6 cA7 cA8 cA9 dA0 dA1 dA2 dA3 dA4 dA5 dA6 dA7 dA8 dA9 cB0 cB1 cB2 cB3 cB4 cB5 cB6 cB7 cB8 cB9 dB0 dB1 dB2 dB3 dB4 dB5 dB6 dB7 dB8 dB9
    refine (C2.out _ Hq11.out Hq21.out).mono ?_
    rintro e v2 ⟨rfl, hb⟩
    have B2 := Lib.hid (B1.out.trans (hb.mono B1.out.size))
    have KA2 := Lib.hid (KA1.out.below hb)
    have KB2 := Lib.hid (KB1.out.below hb)
    have Hp12 := Lib.hid (Hp11.out.below hb)
    have Hq12 := Lib.hid (Hq11.out.below hb)
    have Hp22 := Lib.hid (Hp21.out.below hb)
    have Hq22 := Lib.hid (Hq21.out.below hb)
    clear hb B1 KA1 KB1 Hp11 Hq11 Hp21 Hq21
    obtain ⟨⟨cA0, cA1, cA2, cA3, cA4, cA5, cA6, cA7, cA8, cA9⟩, dA0, dA1, dA2, dA3, dA4, dA5, dA6, dA7, dA8, dA9⟩ := KA2.out.of10
    obtain ⟨⟨cB0, cB1, cB2, cB3, cB4, cB5, cB6, cB7, cB8, cB9⟩, dB0, dB1, dB2, dB3, dB4, dB5, dB6, dB7, dB8, dB9⟩ := KB2.out.of10
    go_wp2_with fail
    go_ret
    exact ⟨ret_bool (by simp), B2.out⟩

set_option maxRecDepth 100000 in
set_option maxHeartbeats 4000000 in
theorem sameKeysS (e1 e2 : Int) (p1 q1 p2 q2 : M) (t1 t2 : Bool) (w : World) (hp1 : p1.On w) (hq1 : q1.On w) (hp2 : p2.On w) (hq2 : q2.On w) (fp1 : p1.Fit) (fq1 : q1.Fit) :
    Calls Try.prog 23 #[.agg #[.int .i64 e1, .bool p1.u, .int .u64 (n64 p1.k), .int .u64 (n64 p1.l), .slice p1.a p1.rs.length p1.c, .bool q1.u, .int .u64 (n64 q1.k), .int .u64 (n64 q1.l), .slice q1.a q1.rs.length q1.c, .bool t1], .agg #[.int .i64 e2, .bool p2.u, .int .u64 (n64 p2.k), .int .u64 (n64 p2.l), .slice p2.a p2.rs.length p2.c, .bool q2.u, .int .u64 (n64 q2.k), .int .u64 (n64 q2.l), .slice q2.a q2.rs.length q2.c, .bool t2]] w (EndB (sameK e1 e2 p1 q1 p2 q2 t1 t2) w) := by
  have HP1 := Lib.hid hp1
  have HQ1 := Lib.hid hq1
  have HP2 := Lib.hid hp2
  have HQ2 := Lib.hid hq2
  clear hp1 hq1 hp2 hq2
  have C1 := Lib.hid (fun w h h' => M.sameS p1 p2 w h h' fp1)
  have C2 := Lib.hid (fun w h h' => M.sameS q1 q2 w h h' fq1)
  clear fp1 fq1
  have D : Hid (sameK e1 e2 p1 q1 p2 q2 t1 t2 = ((e1 == e2) && ((t1 == t2) && (p1.same p2 && q1.same q2)))) := rfl
  rw [D.out]
  clear D
  obtain ⟨x1, hx1⟩ : ∃ x, p1.same p2 = x := ⟨_, rfl⟩
  rw [hx1] at C1 ⊢
  clear hx1
  obtain ⟨x2, hx2⟩ : ∃ x, q1.same q2 = x := ⟨_, rfl⟩
  rw [hx2] at C2 ⊢
  clear hx2
  by_cases he : (e1 == e2) = false
  · rw [he]
    go_enter Try.func23, Try.ntmps23
    go_wp2_with fail
    go_ret
    exact ⟨rfl, ((Below.refl _ _).alloc (Nat.le_refl _) _).alloc (by simp) _⟩
  obtain rfl : e1 = e2 := by simpa using he
  clear he
  by_cases ht : (t1 == t2) = false
  · rw [ht]
    go_enter Try.func23, Try.ntmps23
    go_wp2_with fail
    go_ret
    exact ⟨ret_bool (by simp), ((Below.refl _ _).alloc (Nat.le_refl _) _).alloc (by simp) _⟩
  obtain rfl : t1 = t2 := by simpa using ht
  clear ht
  cases x1 with
  | false =>
    go_enter Try.func23, Try.ntmps23
    have B0 := Lib.hid (show Below w.heap.size w ((w.alloc (.cells #[.int .i64 e1, .bool p1.u, .int .u64 (n64 p1.k), .int .u64 (n64 p1.l), .slice p1.a p1.rs.length p1.c, .bool q1.u, .int .u64 (n64 q1.k), .int .u64 (n64 q1.l), .slice q1.a q1.rs.length q1.c, .bool t1] 29)).alloc (.cells #[.int .i64 e1, .bool p2.u, .int .u64 (n64 p2.k), .int .u64 (n64 p2.l), .slice p2.a p2.rs.length p2.c, .bool q2.u, .int .u64 (n64 q2.k), .int .u64 (n64 q2.l), .slice q2.a q2.rs.length q2.c, .bool t1] 29)) from (((Below.refl _ w).alloc (by simp) _).alloc (by simp) _))
    have KA0 := Lib.hid (show Blk ((w.alloc (.cells #[.int .i64 e1, .bool p1.u, .int .u64 (n64 p1.k), .int .u64 (n64 p1.l), .slice p1.a p1.rs.length p1.c, .bool q1.u, .int .u64 (n64 q1.k), .int .u64 (n64 q1.l), .slice q1.a q1.rs.length q1.c, .bool t1] 29)).alloc (.cells #[.int .i64 e1, .bool p2.u, .int .u64 (n64 p2.k), .int .u64 (n64 p2.l), .slice p2.a p2.rs.length p2.c, .bool q2.u, .int .u64 (n64 q2.k), .int .u64 (n64 q2.l), .slice q2.a q2.rs.length q2.c, .bool t1] 29)) (w.heap.size) [.int .i64 e1, .bool p1.u, .int .u64 (n64 p1.k), .int .u64 (n64 p1.l), .slice p1.a p1.rs.length p1.c, .bool q1.u, .int .u64 (n64 q1.k), .int .u64 (n64 q1.l), .slice q1.a q1.rs.length q1.c, .bool t1] from (Blk.new w [.int .i64 e1, .bool p1.u, .int .u64 (n64 p1.k), .int .u64 (n64 p1.l), .slice p1.a p1.rs.length p1.c, .bool q1.u, .int .u64 (n64 q1.k), .int .u64 (n64 q1.l), .slice q1.a q1.rs.length q1.c, .bool t1] 29).alloc (.cells #[.int .i64 e1, .bool p2.u, .int .u64 (n64 p2.k), .int .u64 (n64 p2.l), .slice p2.a p2.rs.length p2.c, .bool q2.u, .int .u64 (n64 q2.k), .int .u64 (n64 q2.l), .slice q2.a q2.rs.length q2.c, .bool t1] 29))
    have s1 : (w.alloc (.cells #[.int .i64 e1, .bool p1.u, .int .u64 (n64 p1.k), .int .u64 (n64 p1.l), .slice p1.a p1.rs.length p1.c, .bool q1.u, .int .u64 (n64 q1.k), .int .u64 (n64 q1.l), .slice q1.a q1.rs.length q1.c, .bool t1] 29)).heap.size = w.heap.size + 1 := by simp
    have KB0 := Lib.hid (show Blk ((w.alloc (.cells #[.int .i64 e1, .bool p1.u, .int .u64 (n64 p1.k), .int .u64 (n64 p1.l), .slice p1.a p1.rs.length p1.c, .bool q1.u, .int .u64 (n64 q1.k), .int .u64 (n64 q1.l), .slice q1.a q1.rs.length q1.c, .bool t1] 29)).alloc (.cells #[.int .i64 e1, .bool p2.u, .int .u64 (n64 p2.k), .int .u64 (n64 p2.l), .slice p2.a p2.rs.length p2.c, .bool q2.u, .int .u64 (n64 q2.k), .int .u64 (n64 q2.l), .slice q2.a q2.rs.length q2.c, .bool t1] 29)) (w.heap.size + 1) [.int .i64 e1, .bool p2.u, .int .u64 (n64 p2.k), .int .u64 (n64 p2.l), .slice p2.a p2.rs.length p2.c, .bool q2.u, .int .u64 (n64 q2.k), .int .u64 (n64 q2.l), .slice q2.a q2.rs.length q2.c, .bool t1] by have h0 := Blk.new (w.alloc (.cells #[.int .i64 e1, .bool p1.u, .int .u64 (n64 p1.k), .int .u64 (n64 p1.l), .slice p1.a p1.rs.length p1.c, .bool q1.u, .int .u64 (n64 q1.k), .int .u64 (n64 q1.l), .slice q1.a q1.rs.length q1.c, .bool t1] 29)) [.int .i64 e1, .bool p2.u, .int .u64 (n64 p2.k), .int .u64 (n64 p2.l), .slice p2.a p2.rs.length p2.c, .bool q2.u, .int .u64 (n64 q2.k), .int .u64 (n64 q2.l), .slice q2.a q2.rs.length q2.c, .bool t1] 29; rwa [s1] at h0)
    have n_A_B : w.heap.size ≠ w.heap.size + 1 := by omega
    clear s1
    have Hp10 := Lib.hid (show p1.On ((w.alloc (.cells #[.int .i64 e1, .bool p1.u, .int .u64 (n64 p1.k), .int .u64 (n64 p1.l), .slice p1.a p1.rs.length p1.c, .bool q1.u, .int .u64 (n64 q1.k), .int .u64 (n64 q1.l), .slice q1.a q1.rs.length q1.c, .bool t1] 29)).alloc (.cells #[.int .i64 e1, .bool p2.u, .int .u64 (n64 p2.k), .int .u64 (n64 p2.l), .slice p2.a p2.rs.length p2.c, .bool q2.u, .int .u64 (n64 q2.k), .int .u64 (n64 q2.l), .slice q2.a q2.rs.length q2.c, .bool t1] 29)) from HP1.out.below B0.out)
    clear HP1
    have Hq10 := Lib.hid (show q1.On ((w.alloc (.cells #[.int .i64 e1, .bool p1.u, .int .u64 (n64 p1.k), .int .u64 (n64 p1.l), .slice p1.a p1.rs.length p1.c, .bool q1.u, .int .u64 (n64 q1.k), .int .u64 (n64 q1.l), .slice q1.a q1.rs.length q1.c, .bool t1] 29)).alloc (.cells #[.int .i64 e1, .bool p2.u, .int .u64 (n64 p2.k), .int .u64 (n64 p2.l), .slice p2.a p2.rs.length p2.c, .bool q2.u, .int .u64 (n64 q2.k), .int .u64 (n64 q2.l), .slice q2.a q2.rs.length q2.c, .bool t1] 29)) from HQ1.out.below B0.out)
    clear HQ1
    have Hp20 := Lib.hid (show p2.On ((w.alloc (.cells #[.int .i64 e1, .bool p1.u, .int .u64 (n64 p1.k), .int .u64 (n64 p1.l), .slice p1.a p1.rs.length p1.c, .bool q1.u, .int .u64 (n64 q1.k), .int .u64 (n64 q1.l), .slice q1.a q1.rs.length q1.c, .bool t1] 29)).alloc (.cells #[.int .i64 e1, .bool p2.u, .int .u64 (n64 p2.k), .int .u64 (n64 p2.l), .slice p2.a p2.rs.length p2.c, .bool q2.u, .int .u64 (n64 q2.k), .int .u64 (n64 q2.l), .slice q2.a q2.rs.length q2.c, .bool t1] 29)) from HP2.out.below B0.out)
    clear HP2
    have Hq20 := Lib.hid (show q2.On ((w.alloc (.cells #[.int .i64 e1, .bool p1.u, .int .u64 (n64 p1.k), .int .u64 (n64 p1.l), .slice p1.a p1.rs.length p1.c, .bool q1.u, .int .u64 (n64 q1.k), .int .u64 (n64 q1.l), .slice q1.a q1.rs.length q1.c, .bool t1] 29)).alloc (.cells #[.int .i64 e1, .bool p2.u, .int .u64 (n64 p2.k), .int .u64 (n64 p2.l), .slice p2.a p2.rs.length p2.c, .bool q2.u, .int .u64 (n64 q2.k), .int .u64 (n64 q2.l), .slice q2.a q2.rs.length q2.c, .bool t1] 29)) from HQ2.out.below B0.out)
    clear HQ2
    go_wp2_with fail
    change Calls _ _ _ ((w.alloc (.cells #[.int .i64 e1, .bool p1.u, .int .u64 (n64 p1.k), .int .u64 (n64 p1.l), .slice p1.a p1.rs.length p1.c, .bool q1.u, .int .u64 (n64 q1.k), .int .u64 (n64 q1.l), .slice q1.a q1.rs.length q1.c, .bool t1] 29)).alloc (.cells #[.int .i64 e1, .bool p2.u, .int .u64 (n64 p2.k), .int .u64 (n64 p2.l), .slice p2.a p2.rs.length p2.c, .bool q2.u, .int .u64 (n64 q2.k), .int .u64 (n64 q2.l), .slice q2.a q2.rs.length q2.c, .bool t1] 29)) _
    generalize (w.alloc (.cells #[.int .i64 e1, .bool p1.u, .int .u64 (n64 p1.k), .int .u64 (n64 p1.l), .slice p1.a p1.rs.length p1.c, .bool q1.u, .int .u64 (n64 q1.k), .int .u64 (n64 q1.l), .slice q1.a q1.rs.length q1.c, .bool t1] 29)).alloc (.cells #[.int .i64 e1, .bool p2.u, .int .u64 (n64 p2.k), .int .u64 (n64 p2.l), .slice p2.a p2.rs.length p2.c, .bool q2.u, .int .u64 (n64 q2.k), .int .u64 (n64 q2.l), .slice q2.a q2.rs.length q2.c, .bool t1] 29) = v0 at B0 KA0 KB0 Hp10 Hq10 Hp20 Hq20 ⊢
    generalize w.heap.size + 1 = g_B at KB0 n_A_B ⊢
    generalize w.heap.size = g_A at KA0 n_A_B ⊢
    refine (C1.out _ Hp10.out Hp20.out).mono ?_
    rintro e v1 ⟨rfl, hb⟩
    have B1 := Lib.hid (B0.out.trans (hb.mono B0.out.size))
    have KA1 := Lib.hid (KA0.out.below hb)
    have KB1 := Lib.hid (KB0.out.below hb)
    have Hp11 := Lib.hid (Hp10.out.below hb)
    have Hq11 := Lib.hid (Hq10.out.below hb)
    have Hp21 := Lib.hid (Hp20.out.below hb)
    have Hq21 := Lib.hid (Hq20.out.below hb)
    clear hb B0 KA0 KB0 Hp10 Hq10 Hp20 Hq20
    obtain ⟨⟨cA0, cA1, cA2, cA3, cA4, cA5, cA6, cA7, cA8, cA9⟩, dA0, dA1, dA2, dA3, dA4, dA5, dA6, dA7, dA8, dA9⟩ := KA1.out.of10
    obtain ⟨⟨cB0, cB1, cB2, cB3, cB4, cB5, cB6, cB7, cB8, cB9⟩, dB0, dB1, dB2, dB3, dB4, dB5, dB6, dB7, dB8, dB9⟩ := KB1.out.of10
    go_wp2_with fail
    go_ret
    exact ⟨ret_bool (by simp), B1.out⟩
  | true =>
    go_enter Try.func23, Try.ntmps23
    have B0 := Lib.hid (show Below w.heap.size w ((w.alloc (.cells #[.int .i64 e1, .bool p1.u, .int .u64 (n64 p1.k), .int .u64 (n64 p1.l), .slice p1.a p1.rs.length p1.c, .bool q1.u, .int .u64 (n64 q1.k), .int .u64 (n64 q1.l), .slice q1.a q1.rs.length q1.c, .bool t1] 29)).alloc (.cells #[.int .i64 e1, .bool p2.u, .int .u64 (n64 p2.k), .int .u64 (n64 p2.l), .slice p2.a p2.rs.length p2.c, .bool q2.u, .int .u64 (n64 q2.k), .int .u64 (n64 q2.l), .slice q2.a q2.rs.length q2.c, .bool t1] 29)) from (((Below.refl _ w).alloc (by simp) _).alloc (by simp) _))
    have KA0 := Lib.hid (show Blk ((w.alloc (.cells #[.int .i64 e1, .bool p1.u, .int .u64 (n64 p1.k), .int .u64 (n64 p1.l), .slice p1.a p1.rs.length p1.c, .bool q1.u, .int .u64 (n64 q1.k), .int .u64 (n64 q1.l), .slice q1.a q1.rs.length q1.c, .bool t1] 29)).alloc (.cells #[.int .i64 e1, .bool p2.u, .int .u64 (n64 p2.k), .int .u64 (n64 p2.l), .slice p2.a p2.rs.length p2.c, .bool q2.u, .int .u64 (n64 q2.k), .int .u64 (n64 q2.l), .slice q2.a q2.rs.length q2.c, .bool t1] 29)) (w.heap.size) [.int .i64 e1, .bool p1.u, .int .u64 (n64 p1.k), .int .u64 (n64 p1.l), .slice p1.a p1.rs.length p1.c, .bool q1.u, .int .u64 (n64 q1.k), .int .u64 (n64 q1.l), .slice q1.a q1.rs.length q1.c, .bool t1] from (Blk.new w [.int .i64 e1, .bool p1.u, .int .u64 (n64 p1.k), .int .u64 (n64 p1.l), .slice p1.a p1.rs.length p1.c, .bool q1.u, .int .u64 (n64 q1.k), .int .u64 (n64 q1.l), .slice q1.a q1.rs.length q1.c, .bool t1] 29).alloc (.cells #[.int .i64 e1, .bool p2.u, .int .u64 (n64 p2.k), .int .u64 (n64 p2.l), .slice p2.a p2.rs.length p2.c, .bool q2.u, .int .u64 (n64 q2.k), .int .u64 (n64 q2.l), .slice q2.a q2.rs.length q2.c, .bool t1] 29))
    have s1 : (w.alloc (.cells #[.int .i64 e1, .bool p1.u, .int .u64 (n64 p1.k), .int .u64 (n64 p1.l), .slice p1.a p1.rs.length p1.c, .bool q1.u, .int .u64 (n64 q1.k), .int .u64 (n64 q1.l), .slice q1.a q1.rs.length q1.c, .bool t1] 29)).heap.size = w.heap.size + 1 := by simp
    have KB0 := Lib.hid (show Blk ((w.alloc (.cells #[.int .i64 e1, .bool p1.u, .int .u64 (n64 p1.k), .int .u64 (n64 p1.l), .slice p1.a p1.rs.length p1.c, .bool q1.u, .int .u64 (n64 q1.k), .int .u64 (n64 q1.l), .slice q1.a q1.rs.length q1.c, .bool t1] 29)).alloc (.cells #[.int .i64 e1, .bool p2.u, .int .u64 (n64 p2.k), .int .u64 (n64 p2.l), .slice p2.a p2.rs.length p2.c, .bool q2.u, .int .u64 (n64 q2.k), .int .u64 (n64 q2.l), .slice q2.a q2.rs.length q2.c, .bool t1] 29)) (w.heap.size + 1) [.int .i64 e1, .bool p2.u, .int .u64 (n64 p2.k), .int .u64 (n64 p2.l), .slice p2.a p2.rs.length p2.c, .bool q2.u, .int .u64 (n64 q2.k), .int .u64 (n64 q2.l), .slice q2.a q2.rs.length q2.c, .bool t1] by have h0 := Blk.new (w.alloc (.cells #[.int .i64 e1, .bool p1.u, .int .u64 (n64 p1.k), .int .u64 (n64 p1.l), .slice p1.a p1.rs.length p1.c, .bool q1.u, .int .u64 (n64 q1.k), .int .u64 (n64 q1.l), .slice q1.a q1.rs.length q1.c, .bool t1] 29)) [.int .i64 e1, .bool p2.u, .int .u64 (n64 p2.k), .int .u64 (n64 p2.l), .slice p2.a p2.rs.length p2.c, .bool q2.u, .int .u64 (n64 q2.k), .int .u64 (n64 q2.l), .slice q2.a q2.rs.length q2.c, .bool t1] 29; rwa [s1] at h0)
    have n_A_B : w.heap.size ≠ w.heap.size + 1 := by omega
    clear s1
    have Hp10 := Lib.hid (show p1.On ((w.alloc (.cells #[.int .i64 e1, .bool p1.u, .int .u64 (n64 p1.k), .int .u64 (n64 p1.l), .slice p1.a p1.rs.length p1.c, .bool q1.u, .int .u64 (n64 q1.k), .int .u64 (n64 q1.l), .slice q1.a q1.rs.length q1.c, .bool t1] 29)).alloc (.cells #[.int .i64 e1, .bool p2.u, .int .u64 (n64 p2.k), .int .u64 (n64 p2.l), .slice p2.a p2.rs.length p2.c, .bool q2.u, .int .u64 (n64 q2.k), .int .u64 (n64 q2.l), .slice q2.a q2.rs.length q2.c, .bool t1] 29)) from HP1.out.below B0.out)
    clear HP1
    have Hq10 := Lib.hid (show q1.On ((w.alloc (.cells #[.int .i64 e1, .bool p1.u, .int .u64 (n64 p1.k), .int .u64 (n64 p1.l), .slice p1.a p1.rs.length p1.c, .bool q1.u, .int .u64 (n64 q1.k), .int .u64 (n64 q1.l), .slice q1.a q1.rs.length q1.c, .bool t1] 29)).alloc (.cells #[.int .i64 e1, .bool p2.u, .int .u64 (n64 p2.k), .int .u64 (n64 p2.l), .slice p2.a p2.rs.length p2.c, .bool q2.u, .int .u64 (n64 q2.k), .int .u64 (n64 q2.l), .slice q2.a q2.rs.length q2.c, .bool t1] 29)) from HQ1.out.below B0.out)
    clear HQ1
    have Hp20 := Lib.hid (show p2.On ((w.alloc (.cells #[.int .i64 e1, .bool p1.u, .int .u64 (n64 p1.k), .int .u64 (n64 p1.l), .slice p1.a p1.rs.length p1.c, .bool q1.u, .int .u64 (n64 q1.k), .int .u64 (n64 q1.l), .slice q1.a q1.rs.length q1.c, .bool t1] 29)).alloc (.cells #[.int .i64 e1, .bool p2.u, .int .u64 (n64 p2.k), .int .u64 (n64 p2.l), .slice p2.a p2.rs.length p2.c, .bool q2.u, .int .u64 (n64 q2.k), .int .u64 (n64 q2.l), .slice q2.a q2.rs.length q2.c, .bool t1] 29)) from HP2.out.below B0.out)
    clear HP2
    have Hq20 := Lib.hid (show q2.On ((w.alloc (.cells #[.int .i64 e1, .bool p1.u, .int .u64 (n64 p1.k), .int .u64 (n64 p1.l), .slice p1.a p1.rs.length p1.c, .bool q1.u, .int .u64 (n64 q1.k), .int .u64 (n64 q1.l), .slice q1.a q1.rs.length q1.c, .bool t1] 29)).alloc (.cells #[.int .i64 e1, .bool p2.u, .int .u64 (n64 p2.k), .int .u64 (n64 p2.l), .slice p2.a p2.rs.length p2.c, .bool q2.u, .int .u64 (n64 q2.k), .int .u64 (n64 q2.l), .slice q2.a q2.rs.length q2.c, .bool t1] 29)) from HQ2.out.below B0.out)
    clear HQ2
    go_wp2_with fail
    change Calls _ _ _ ((w.alloc (.cells #[.int .i64 e1, .bool p1.u, .int .u64 (n64 p1.k), .int .u64 (n64 p1.l), .slice p1.a p1.rs.length p1.c, .bool q1.u, .int .u64 (n64 q1.k), .int .u64 (n64 q1.l), .slice q1.a q1.rs.length q1.c, .bool t1] 29)).alloc (.cells #[.int .i64 e1, .bool p2.u, .int .u64 (n64 p2.k), .int .u64 (n64 p2.l), .slice p2.a p2.rs.length p2.c, .bool q2.u, .int .u64 (n64 q2.k), .int .u64 (n64 q2.l), .slice q2.a q2.rs.length q2.c, .bool t1] 29)) _
    generalize (w.alloc (.cells #[.int .i64 e1, .bool p1.u, .int .u64 (n64 p1.k), .int .u64 (n64 p1.l), .slice p1.a p1.rs.length p1.c, .bool q1.u, .int .u64 (n64 q1.k), .int .u64 (n64 q1.l), .slice q1.a q1.rs.length q1.c, .bool t1] 29)).alloc (.cells #[.int .i64 e1, .bool p2.u, .int .u64 (n64 p2.k), .int .u64 (n64 p2.l), .slice p2.a p2.rs.length p2.c, .bool q2.u, .int .u64 (n64 q2.k), .int .u64 (n64 q2.l), .slice q2.a q2.rs.length q2.c, .bool t1] 29) = v0 at B0 KA0 KB0 Hp10 Hq10 Hp20 Hq20 ⊢
    generalize w.heap.size + 1 = g_B at KB0 n_A_B ⊢
    generalize w.heap.size = g_A at KA0 n_A_B ⊢
    refine (C1.out _ Hp10.out Hp20.out).mono ?_
    rintro e v1 ⟨rfl, hb⟩
    have B1 := Lib.hid (B0.out.trans (hb.mono B0.out.size))
    have KA1 := Lib.hid (KA0.out.below hb)
    have KB1 := Lib.hid (KB0.out.below hb)
    have Hp11 := Lib.hid (Hp10.out.below hb)
    have Hq11 := Lib.hid (Hq10.out.below hb)
    have Hp21 := Lib.hid (Hp20.out.below hb)
    have Hq21 := Lib.hid (Hq20.out.below hb)
    clear hb B0 KA0 KB0 Hp10 Hq10 Hp20 Hq20
    obtain ⟨⟨cA0, cA1, cA2, cA3, cA4, cA5, cA6, cA7, cA8, cA9⟩, dA0, dA1, dA2, dA3, dA4, dA5, dA6, dA7, dA8, dA9⟩ := KA1.out.of10
    obtain ⟨⟨cB0, cB1, cB2, cB3, cB4, cB5, cB6, cB7, cB8, cB9⟩, dB0, dB1, dB2, dB3, dB4, dB5, dB6, dB7, dB8, dB9⟩ := KB1.out.of10
    go_wp2_with fail
    clear cA0 cA1 cA2 cA3 cA4 cA5 cA6 cA7 cA8 cA9 dA0 dA1 dA2 dA3 dA4 dA5 dA6 dA7 dA8 dA9 cB0 cB1 cB2 cB3 cB4 cB5 cB6 cB7 cB8 cB9 dB0 dB1 dB2 dB3 dB4 dB5 dB6 dB7 dB8 dB9
    refine (C2.out _ Hq11.out Hq21.out).mono ?_
    rintro e v2 ⟨rfl, hb⟩
    have B2 := Lib.hid (B1.out.trans (hb.mono B1.out.size))
    have KA2 := Lib.hid (KA1.out.below hb)
    have KB2 := Lib.hid (KB1.out.below hb)
    have Hp12 := Lib.hid (Hp11.out.below hb)
    have Hq12 := Lib.hid (Hq11.out.below hb)
    have Hp22 := Lib.hid (Hp21.out.below hb)
    have Hq22 := Lib.hid (Hq21.out.below hb)
    clear hb B1 KA1 KB1 Hp11 Hq11 Hp21 Hq21
    obtain ⟨⟨cA0, cA1, cA2, cA3, cA4, cA5, cA6, cA7, cA8, cA9⟩, dA0, dA1, dA2, dA3, dA4, dA5, dA6, dA7, dA8, dA9⟩ := KA2.out.of10
    obtain ⟨⟨cB0, cB1, cB2, cB3, cB4, cB5, cB6, cB7, cB8, cB9⟩, dB0, dB1, dB2, dB3, dB4, dB5, dB6, dB7, dB8, dB9⟩ := KB2.out.of10
    go_wp2_with fail
    go_ret
    exact ⟨ret_bool (by simp), B2.out⟩

end Go.Proofs.Ytobfgkiccmhgdaa
