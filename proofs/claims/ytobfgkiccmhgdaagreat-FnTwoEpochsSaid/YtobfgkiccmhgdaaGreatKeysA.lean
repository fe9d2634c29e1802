/- KeysOk, of the model and of the program (the keys behind an interface). Nothing here is a claim. -/
import Derived.Test.YtobfgkiccmhgdaaGreatMacs
import Derived.Test.YtobfgkiccmhgdaaGreatMacOk
import Derived.Test.YtobfgkiccmhgdaaGreatMacOkS
import Derived.Test.YtobfgkiccmhgdaaGreatWordA
import Derived.Test.YtobfgkiccmhgdaaGreatBlk10
import Derived.Stop.Asserts
namespace Go.Proofs.YtobfgkiccmhgdaaGreat
open Go.RowKit Go.Lib

/-- A call that answers a Bool and leaves what lay before it. -/
def EndB (b : Bool) (w : World) (e : Ending) (w' : World) : Prop := e = .returned (.bool b) ∧ Below w.heap.size w w'
/-- Whether these keys are valid. -/
noncomputable def keysOk (e : Int) (p q : M) (t : Bool) : Bool := wordOk e 32 && (p.ok && (q.ok && bif t then decide (1 ≤ e) else q.zero))
theorem keysOk_one (e : Int) (p q : M) : keysOk e p q false = (wordOk e 32 && (p.ok && q.zero)) := by
  unfold keysOk
  cases h : q.zero with
  | false => simp
  | true => rw [M.zero_ok h]; simp
theorem keysOk_two (e : Int) (p q : M) : keysOk e p q true = (decide (0 < e) && (wordOk e 32 && (p.ok && q.ok))) := by
  unfold keysOk
  have h : decide (1 ≤ e) = decide (0 < e) := by simp only [decide_eq_decide]; omega
  simp only [cond_true, h]
  cases wordOk e 32 <;> cases p.ok <;> cases q.ok <;> cases decide (0 < e) <;> rfl
theorem keysOk_all {e : Int} {p q : M} {t : Bool} (h : keysOk e p q t = true) : (0 ≤ e ∧ e < 4294967296) ∧ p.ok = true ∧ q.ok = true ∧ (t = true → 1 ≤ e) ∧ (t = false → q.zero = true) := by
  unfold keysOk wordOk at h
  simp only [Bool.and_eq_true, decide_eq_true_eq] at h
  obtain ⟨⟨_, h1, h2⟩, h3, h4, h5⟩ := h
  refine ⟨⟨h1, h2⟩, h3, h4, fun e => ?_, fun e => ?_⟩
  · rw [e] at h5; simpa using h5
  · rw [e] at h5; simpa using h5
theorem EndB.of {b : Bool} {w : World} {e : Ending} {w' : World} (h : e = .returned (.bool b) ∧ w = w') : EndB b w e w' := ⟨h.1, by rw [h.2]; exact Below.refl _ _⟩
theorem wordOkI_b (x n : Int) (w : World) : Calls Tryz.prog 23 #[.int .i64 x, .int .i64 n] w (EndB (wordOk x n) w) := (wordOkI x n w).mono fun _ _ h => EndB.of h
theorem wordOkS_b (x n : Int) (w : World) : Calls Tryz.prog 31 #[.int .i64 x, .int .i64 n] w (EndB (wordOk x n) w) := (wordOkS x n w).mono fun _ _ h => EndB.of h
theorem M.macOkI (m : M) (w : World) (h : m.On w) (f : m.Fit) : Calls Tryz.prog 97 #[.agg #[.bool m.u, .int .u64 (n64 m.k), .int .u64 (n64 m.l), .slice m.a m.rs.length m.c]] w (EndB m.ok w) :=
  Go.Proofs.YtobfgkiccmhgdaaGreat.macOkI m.u (n64 m.k) (n64 m.l) m.a m.c m.rs f.1 f.2 w h.row
theorem M.macOkS (m : M) (w : World) (h : m.On w) (f : m.Fit) : Calls Tryz.prog 32 #[.agg #[.bool m.u, .int .u64 (n64 m.k), .int .u64 (n64 m.l), .slice m.a m.rs.length m.c]] w (EndB m.ok w) :=
  Go.Proofs.YtobfgkiccmhgdaaGreat.macOkS m.u (n64 m.k) (n64 m.l) m.a m.c m.rs f.1 w h.row
theorem M.zeroI (m : M) (w : World) (h : m.On w) (f : m.Fit) : Calls Tryz.prog 98 #[.agg #[.bool m.u, .int .u64 (n64 m.k), .int .u64 (n64 m.l), .slice m.a m.rs.length m.c], .agg #[.bool false, .int .u64 0, .int .u64 0, .slice none 0 0]] w (EndB m.zero w) :=
  sameMacI m.u false (n64 m.k) 0 (n64 m.l) 0 m.a none m.c 0 m.rs [] w h.row Row.nil f.1
theorem M.zeroS (m : M) (w : World) (h : m.On w) (f : m.Fit) : Calls Tryz.prog 33 #[.agg #[.bool m.u, .int .u64 (n64 m.k), .int .u64 (n64 m.l), .slice m.a m.rs.length m.c], .agg #[.bool false, .int .u64 0, .int .u64 0, .slice none 0 0]] w (EndB m.zero w) :=
  sameMacS m.u false (n64 m.k) 0 (n64 m.l) 0 m.a none m.c 0 m.rs [] w h.row Row.nil f.1
theorem M.sameI (m n : M) (w : World) (h : m.On w) (h' : n.On w) (f : m.Fit) : Calls Tryz.prog 98 #[.agg #[.bool m.u, .int .u64 (n64 m.k), .int .u64 (n64 m.l), .slice m.a m.rs.length m.c], .agg #[.bool n.u, .int .u64 (n64 n.k), .int .u64 (n64 n.l), .slice n.a n.rs.length n.c]] w (EndB (m.same n) w) :=
  sameMacI m.u n.u (n64 m.k) (n64 n.k) (n64 m.l) (n64 n.l) m.a n.a m.c n.c m.rs n.rs w h.row h'.row f.1
theorem M.sameS (m n : M) (w : World) (h : m.On w) (h' : n.On w) (f : m.Fit) : Calls Tryz.prog 33 #[.agg #[.bool m.u, .int .u64 (n64 m.k), .int .u64 (n64 m.l), .slice m.a m.rs.length m.c], .agg #[.bool n.u, .int .u64 (n64 n.k), .int .u64 (n64 n.l), .slice n.a n.rs.length n.c]] w (EndB (m.same n) w) :=
  sameMacS m.u n.u (n64 m.k) (n64 n.k) (n64 m.l) (n64 n.l) m.a n.a m.c n.c m.rs n.rs w h.row h'.row f.1

set_option maxRecDepth 100000 in
set_option maxHeartbeats 4000000 in
theorem validOneI (e : Int) (p q : M) (w : World) (hp : p.On w) (hq : q.On w) (fp : p.Fit) (fq : q.Fit) :
    Calls Tryz.prog 96 #[.agg #[.int .i64 e, .bool p.u, .int .u64 (n64 p.k), .int .u64 (n64 p.l), .slice p.a p.rs.length p.c, .bool q.u, .int .u64 (n64 q.k), .int .u64 (n64 q.l), .slice q.a q.rs.length q.c]] w (EndB (wordOk e 32 && (p.ok && q.zero)) w) := by
  have HP := Lib.hid hp
  have HQ := Lib.hid hq
  clear hp hq
  have C1 := Lib.hid (fun w => wordOkI_b e 32 w)
  have C2 := Lib.hid (fun w h => M.macOkI p w h fp)
  have C3 := Lib.hid (fun w h => M.zeroI q w h fq)
  clear fp fq
  obtain ⟨x1, hx1⟩ : ∃ x, wordOk e 32 = x := ⟨_, rfl⟩
  rw [hx1] at C1 ⊢
  clear hx1
  obtain ⟨x2, hx2⟩ : ∃ x, p.ok = x := ⟨_, rfl⟩
  rw [hx2] at C2 ⊢
  clear hx2
  obtain ⟨x3, hx3⟩ : ∃ x, q.zero = x := ⟨_, rfl⟩
  rw [hx3] at C3 ⊢
  clear hx3
  cases x1 with
  | false =>
    go_enter Tryz.func96, Tryz.ntmps96
    have B0 := Lib.hid (show Below w.heap.size w (w.alloc (.cells #[.int .i64 e, .bool p.u, .int .u64 (n64 p.k), .int .u64 (n64 p.l), .slice p.a p.rs.length p.c, .bool q.u, .int .u64 (n64 q.k), .int .u64 (n64 q.l), .slice q.a q.rs.length q.c] 55)) from ((Below.refl _ w).alloc (by simp) _))
    have KK0 := Lib.hid (show Blk (w.alloc (.cells #[.int .i64 e, .bool p.u, .int .u64 (n64 p.k), .int .u64 (n64 p.l), .slice p.a p.rs.length p.c, .bool q.u, .int .u64 (n64 q.k), .int .u64 (n64 q.l), .slice q.a q.rs.length q.c] 55)) (w.heap.size) [.int .i64 e, .bool p.u, .int .u64 (n64 p.k), .int .u64 (n64 p.l), .slice p.a p.rs.length p.c, .bool q.u, .int .u64 (n64 q.k), .int .u64 (n64 q.l), .slice q.a q.rs.length q.c] from Blk.new w [.int .i64 e, .bool p.u, .int .u64 (n64 p.k), .int .u64 (n64 p.l), .slice p.a p.rs.length p.c, .bool q.u, .int .u64 (n64 q.k), .int .u64 (n64 q.l), .slice q.a q.rs.length q.c] 55)
    have Hp0 := Lib.hid (show p.On (w.alloc (.cells #[.int .i64 e, .bool p.u, .int .u64 (n64 p.k), .int .u64 (n64 p.l), .slice p.a p.rs.length p.c, .bool q.u, .int .u64 (n64 q.k), .int .u64 (n64 q.l), .slice q.a q.rs.length q.c] 55)) from HP.out.below B0.out)
    clear HP
    have Hq0 := Lib.hid (show q.On (w.alloc (.cells #[.int .i64 e, .bool p.u, .int .u64 (n64 p.k), .int .u64 (n64 p.l), .slice p.a p.rs.length p.c, .bool q.u, .int .u64 (n64 q.k), .int .u64 (n64 q.l), .slice q.a q.rs.length q.c] 55)) from HQ.out.below B0.out)
    clear HQ
    go_wp2_with fail
    change Calls _ _ _ (w.alloc (.cells #[.int .i64 e, .bool p.u, .int .u64 (n64 p.k), .int .u64 (n64 p.l), .slice p.a p.rs.length p.c, .bool q.u, .int .u64 (n64 q.k), .int .u64 (n64 q.l), .slice q.a q.rs.length q.c] 55)) _
    generalize w.alloc (.cells #[.int .i64 e, .bool p.u, .int .u64 (n64 p.k), .int .u64 (n64 p.l), .slice p.a p.rs.length p.c, .bool q.u, .int .u64 (n64 q.k), .int .u64 (n64 q.l), .slice q.a q.rs.length q.c] 55) = v0 at B0 KK0 Hp0 Hq0 ⊢
    generalize w.heap.size = g_K at KK0 ⊢
    refine (C1.out _).mono ?_
    rintro e v1 ⟨rfl, hb⟩
    have B1 := Lib.hid (B0.out.trans (hb.mono B0.out.size))
    have KK1 := Lib.hid (KK0.out.below hb)
    have Hp1 := Lib.hid (Hp0.out.below hb)
    have Hq1 := Lib.hid (Hq0.out.below hb)
    clear hb B0 KK0 Hp0 Hq0
    obtain ⟨⟨cK0, cK1, cK2, cK3, cK4, cK5, cK6, cK7, cK8⟩, dK0, dK1, dK2, dK3, dK4, dK5, dK6, dK7, dK8⟩ := KK1.out.of9
    go_wp2_with fail
    go_ret
    exact ⟨ret_bool (by simp), B1.out⟩
  | true =>
    cases x2 with
    | false =>
      go_enter Tryz.func96, Tryz.ntmps96
      have B0 := Lib.hid (show Below w.heap.size w (w.alloc (.cells #[.int .i64 e, .bool p.u, .int .u64 (n64 p.k), .int .u64 (n64 p.l), .slice p.a p.rs.length p.c, .bool q.u, .int .u64 (n64 q.k), .int .u64 (n64 q.l), .slice q.a q.rs.length q.c] 55)) from ((Below.refl _ w).alloc (by simp) _))
      have KK0 := Lib.hid (show Blk (w.alloc (.cells #[.int .i64 e, .bool p.u, .int .u64 (n64 p.k), .int .u64 (n64 p.l), .slice p.a p.rs.length p.c, .bool q.u, .int .u64 (n64 q.k), .int .u64 (n64 q.l), .slice q.a q.rs.length q.c] 55)) (w.heap.size) [.int .i64 e, .bool p.u, .int .u64 (n64 p.k), .int .u64 (n64 p.l), .slice p.a p.rs.length p.c, .bool q.u, .int .u64 (n64 q.k), .int .u64 (n64 q.l), .slice q.a q.rs.length q.c] from Blk.new w [.int .i64 e, .bool p.u, .int .u64 (n64 p.k), .int .u64 (n64 p.l), .slice p.a p.rs.length p.c, .bool q.u, .int .u64 (n64 q.k), .int .u64 (n64 q.l), .slice q.a q.rs.length q.c] 55)
      have Hp0 := Lib.hid (show p.On (w.alloc (.cells #[.int .i64 e, .bool p.u, .int .u64 (n64 p.k), .int .u64 (n64 p.l), .slice p.a p.rs.length p.c, .bool q.u, .int .u64 (n64 q.k), .int .u64 (n64 q.l), .slice q.a q.rs.length q.c] 55)) from HP.out.below B0.out)
      clear HP
      have Hq0 := Lib.hid (show q.On (w.alloc (.cells #[.int .i64 e, .bool p.u, .int .u64 (n64 p.k), .int .u64 (n64 p.l), .slice p.a p.rs.length p.c, .bool q.u, .int .u64 (n64 q.k), .int .u64 (n64 q.l), .slice q.a q.rs.length q.c] 55)) from HQ.out.below B0.out)
      clear HQ
      go_wp2_with fail
      change Calls _ _ _ (w.alloc (.cells #[.int .i64 e, .bool p.u, .int .u64 (n64 p.k), .int .u64 (n64 p.l), .slice p.a p.rs.length p.c, .bool q.u, .int .u64 (n64 q.k), .int .u64 (n64 q.l), .slice q.a q.rs.length q.c] 55)) _
      generalize w.alloc (.cells #[.int .i64 e, .bool p.u, .int .u64 (n64 p.k), .int .u64 (n64 p.l), .slice p.a p.rs.length p.c, .bool q.u, .int .u64 (n64 q.k), .int .u64 (n64 q.l), .slice q.a q.rs.length q.c] 55) = v0 at B0 KK0 Hp0 Hq0 ⊢
      generalize w.heap.size = g_K at KK0 ⊢
      refine (C1.out _).mono ?_
      rintro e v1 ⟨rfl, hb⟩
      have B1 := Lib.hid (B0.out.trans (hb.mono B0.out.size))
      have KK1 := Lib.hid (KK0.out.below hb)
      have Hp1 := Lib.hid (Hp0.out.below hb)
      have Hq1 := Lib.hid (Hq0.out.below hb)
      clear hb B0 KK0 Hp0 Hq0
      obtain ⟨⟨cK0, cK1, cK2, cK3, cK4, cK5, cK6, cK7, cK8⟩, dK0, dK1, dK2, dK3, dK4, dK5, dK6, dK7, dK8⟩ := KK1.out.of9
      go_wp2_with fail
      clear cK0 cK1 cK2 cK3 cK4 cK5 cK6 cK7 cK8 dK0 dK1 dK2 dK3 dK4 dK5 dK6 dK7 dK8
      refine (C2.out _ Hp1.out).mono ?_
      rintro e v2 ⟨rfl, hb⟩
      have B2 := Lib.hid (B1.out.trans (hb.mono B1.out.size))
      have KK2 := Lib.hid (KK1.out.below hb)
      have Hp2 := Lib.hid (Hp1.out.below hb)
      have Hq2 := Lib.hid (Hq1.out.below hb)
      clear hb B1 KK1 Hp1 Hq1
      obtain ⟨⟨cK0, cK1, cK2, cK3, cK4, cK5, cK6, cK7, cK8⟩, dK0, dK1, dK2, dK3, dK4, dK5, dK6, dK7, dK8⟩ := KK2.out.of9
      go_wp2_with fail
      go_ret
      exact ⟨ret_bool (by simp), B2.out⟩
    | true =>
      cases x3 with
      | false =>
        go_enter Tryz.func96, Tryz.ntmps96
        have B0 := Lib.hid (show Below w.heap.size w (w.alloc (.cells #[.int .i64 e, .bool p.u, .int .u64 (n64 p.k), .int .u64 (n64 p.l), .slice p.a p.rs.length p.c, .bool q.u, .int .u64 (n64 q.k), .int .u64 (n64 q.l), .slice q.a q.rs.length q.c] 55)) from ((Below.refl _ w).alloc (by simp) _))
        have KK0 := Lib.hid (show Blk (w.alloc (.cells #[.int .i64 e, .bool p.u, .int .u64 (n64 p.k), .int .u64 (n64 p.l), .slice p.a p.rs.length p.c, .bool q.u, .int .u64 (n64 q.k), .int .u64 (n64 q.l), .slice q.a q.rs.length q.c] 55)) (w.heap.size) [.int .i64 e, .bool p.u, .int .u64 (n64 p.k), .int .u64 (n64 p.l), .slice p.a p.rs.length p.c, .bool q.u, .int .u64 (n64 q.k), .int .u64 (n64 q.l), .slice q.a q.rs.length q.c] from Blk.new w [.int .i64 e, .bool p.u, .int .u64 (n64 p.k), .int .u64 (n64 p.l), .slice p.a p.rs.length p.c, .bool q.u, .int .u64 (n64 q.k), .int .u64 (n64 q.l), .slice q.a q.rs.length q.c] 55)
        have Hp0 := Lib.hid (show p.On (w.alloc (.cells #[.int .i64 e, .bool p.u, .int .u64 (n64 p.k), .int .u64 (n64 p.l), .slice p.a p.rs.length p.c, .bool q.u, .int .u64 (n64 q.k), .int .u64 (n64 q.l), .slice q.a q.rs.length q.c] 55)) from HP.out.below B0.out)
        clear HP
        have Hq0 := Lib.hid (show q.On (w.alloc (.cells #[.int .i64 e, .bool p.u, .int .u64 (n64 p.k), .int .u64 (n64 p.l), .slice p.a p.rs.length p.c, .bool q.u, .int .u64 (n64 q.k), .int .u64 (n64 q.l), .slice q.a q.rs.length q.c] 55)) from HQ.out.below B0.out)
        clear HQ
        go_wp2_with fail
        change Calls _ _ _ (w.alloc (.cells #[.int .i64 e, .bool p.u, .int .u64 (n64 p.k), .int .u64 (n64 p.l), .slice p.a p.rs.length p.c, .bool q.u, .int .u64 (n64 q.k), .int .u64 (n64 q.l), .slice q.a q.rs.length q.c] 55)) _
        generalize w.alloc (.cells #[.int .i64 e, .bool p.u, .int .u64 (n64 p.k), .int .u64 (n64 p.l), .slice p.a p.rs.length p.c, .bool q.u, .int .u64 (n64 q.k), .int .u64 (n64 q.l), .slice q.a q.rs.length q.c] 55) = v0 at B0 KK0 Hp0 Hq0 ⊢
        generalize w.heap.size = g_K at KK0 ⊢
        refine (C1.out _).mono ?_
        rintro e v1 ⟨rfl, hb⟩
        have B1 := Lib.hid (B0.out.trans (hb.mono B0.out.size))
        have KK1 := Lib.hid (KK0.out.below hb)
        have Hp1 := Lib.hid (Hp0.out.below hb)
        have Hq1 := Lib.hid (Hq0.out.below hb)
        clear hb B0 KK0 Hp0 Hq0
        obtain ⟨⟨cK0, cK1, cK2, cK3, cK4, cK5, cK6, cK7, cK8⟩, dK0, dK1, dK2, dK3, dK4, dK5, dK6, dK7, dK8⟩ := KK1.out.of9
        go_wp2_with fail
        clear cK0 cK1 cK2 cK3 cK4 cK5 cK6 cK7 cK8 dK0 dK1 dK2 dK3 dK4 dK5 dK6 dK7 dK8
        refine (C2.out _ Hp1.out).mono ?_
        rintro e v2 ⟨rfl, hb⟩
        have B2 := Lib.hid (B1.out.trans (hb.mono B1.out.size))
        have KK2 := Lib.hid (KK1.out.below hb)
        have Hp2 := Lib.hid (Hp1.out.below hb)
        have Hq2 := Lib.hid (Hq1.out.below hb)
        clear hb B1 KK1 Hp1 Hq1
        obtain ⟨⟨cK0, cK1, cK2, cK3, cK4, cK5, cK6, cK7, cK8⟩, dK0, dK1, dK2, dK3, dK4, dK5, dK6, dK7, dK8⟩ := KK2.out.of9
        go_wp2_with fail
        clear cK0 cK1 cK2 cK3 cK4 cK5 cK6 cK7 cK8 dK0 dK1 dK2 dK3 dK4 dK5 dK6 dK7 dK8
        refine (C3.out _ Hq2.out).mono ?_
        rintro e v3 ⟨rfl, hb⟩
        have B3 := Lib.hid (B2.out.trans (hb.mono B2.out.size))
        have KK3 := Lib.hid (KK2.out.below hb)
        have Hp3 := Lib.hid (Hp2.out.below hb)
        have Hq3 := Lib.hid (Hq2.out.below hb)
        clear hb B2 KK2 Hp2 Hq2
        obtain ⟨⟨cK0, cK1, cK2, cK3, cK4, cK5, cK6, cK7, cK8⟩, dK0, dK1, dK2, dK3, dK4, dK5, dK6, dK7, dK8⟩ := KK3.out.of9
        go_wp2_with fail
        go_ret
        exact ⟨ret_bool (by simp), B3.out⟩
      | true =>
        go_enter Tryz.func96, Tryz.ntmps96
        have B0 := Lib.hid (show Below w.heap.size w (w.alloc (.cells #[.int .i64 e, .bool p.u, .int .u64 (n64 p.k), .int .u64 (n64 p.l), .slice p.a p.rs.length p.c, .bool q.u, .int .u64 (n64 q.k), .int .u64 (n64 q.l), .slice q.a q.rs.length q.c] 55)) from ((Below.refl _ w).alloc (by simp) _))
        have KK0 := Lib.hid (show Blk (w.alloc (.cells #[.int .i64 e, .bool p.u, .int .u64 (n64 p.k), .int .u64 (n64 p.l), .slice p.a p.rs.length p.c, .bool q.u, .int .u64 (n64 q.k), .int .u64 (n64 q.l), .slice q.a q.rs.length q.c] 55)) (w.heap.size) [.int .i64 e, .bool p.u, .int .u64 (n64 p.k), .int .u64 (n64 p.l), .slice p.a p.rs.length p.c, .bool q.u, .int .u64 (n64 q.k), .int .u64 (n64 q.l), .slice q.a q.rs.length q.c] from Blk.new w [.int .i64 e, .bool p.u, .int .u64 (n64 p.k), .int .u64 (n64 p.l), .slice p.a p.rs.length p.c, .bool q.u, .int .u64 (n64 q.k), .int .u64 (n64 q.l), .slice q.a q.rs.length q.c] 55)
        have Hp0 := Lib.hid (show p.On (w.alloc (.cells #[.int .i64 e, .bool p.u, .int .u64 (n64 p.k), .int .u64 (n64 p.l), .slice p.a p.rs.length p.c, .bool q.u, .int .u64 (n64 q.k), .int .u64 (n64 q.l), .slice q.a q.rs.length q.c] 55)) from HP.out.below B0.out)
        clear HP
        have Hq0 := Lib.hid (show q.On (w.alloc (.cells #[.int .i64 e, .bool p.u, .int .u64 (n64 p.k), .int .u64 (n64 p.l), .slice p.a p.rs.length p.c, .bool q.u, .int .u64 (n64 q.k), .int .u64 (n64 q.l), .slice q.a q.rs.length q.c] 55)) from HQ.out.below B0.out)
        clear HQ
        go_wp2_with fail
        change Calls _ _ _ (w.alloc (.cells #[.int .i64 e, .bool p.u, .int .u64 (n64 p.k), .int .u64 (n64 p.l), .slice p.a p.rs.length p.c, .bool q.u, .int .u64 (n64 q.k), .int .u64 (n64 q.l), .slice q.a q.rs.length q.c] 55)) _
        generalize w.alloc (.cells #[.int .i64 e, .bool p.u, .int .u64 (n64 p.k), .int .u64 (n64 p.l), .slice p.a p.rs.length p.c, .bool q.u, .int .u64 (n64 q.k), .int .u64 (n64 q.l), .slice q.a q.rs.length q.c] 55) = v0 at B0 KK0 Hp0 Hq0 ⊢
        generalize w.heap.size = g_K at KK0 ⊢
        refine (C1.out _).mono ?_
        rintro e v1 ⟨rfl, hb⟩
        have B1 := Lib.hid (B0.out.trans (hb.mono B0.out.size))
        have KK1 := Lib.hid (KK0.out.below hb)
        have Hp1 := Lib.hid (Hp0.out.below hb)
        have Hq1 := Lib.hid (Hq0.out.below hb)
        clear hb B0 KK0 Hp0 Hq0
        obtain ⟨⟨cK0, cK1, cK2, cK3, cK4, cK5, cK6, cK7, cK8⟩, dK0, dK1, dK2, dK3, dK4, dK5, dK6, dK7, dK8⟩ := KK1.out.of9
        go_wp2_with fail
        clear cK0 cK1 cK2 cK3 cK4 cK5 cK6 cK7 cK8 dK0 dK1 dK2 dK3 dK4 dK5 dK6 dK7 dK8
        refine (C2.out _ Hp1.out).mono ?_
        rintro e v2 ⟨rfl, hb⟩
        have B2 := Lib.hid (B1.out.trans (hb.mono B1.out.size))
        have KK2 := Lib.hid (KK1.out.below hb)
        have Hp2 := Lib.hid (Hp1.out.below hb)
        have Hq2 := Lib.hid (Hq1.out.below hb)
        clear hb B1 KK1 Hp1 Hq1
        obtain ⟨⟨cK0, cK1, cK2, cK3, cK4, cK5, cK6, cK7, cK8⟩, dK0, dK1, dK2, dK3, dK4, dK5, dK6, dK7, dK8⟩ := KK2.out.of9
        go_wp2_with fail
        clear cK0 cK1 cK2 cK3 cK4 cK5 cK6 cK7 cK8 dK0 dK1 dK2 dK3 dK4 dK5 dK6 dK7 dK8
        refine (C3.out _ Hq2.out).mono ?_
        rintro e v3 ⟨rfl, hb⟩
        have B3 := Lib.hid (B2.out.trans (hb.mono B2.out.size))
        have KK3 := Lib.hid (KK2.out.below hb)
        have Hp3 := Lib.hid (Hp2.out.below hb)
        have Hq3 := Lib.hid (Hq2.out.below hb)
        clear hb B2 KK2 Hp2 Hq2
        obtain ⟨⟨cK0, cK1, cK2, cK3, cK4, cK5, cK6, cK7, cK8⟩, dK0, dK1, dK2, dK3, dK4, dK5, dK6, dK7, dK8⟩ := KK3.out.of9
        go_wp2_with fail
        go_ret
        exact ⟨ret_bool (by simp), B3.out⟩

set_option maxRecDepth 100000 in
set_option maxHeartbeats 4000000 in
theorem validTwoI (e : Int) (p q : M) (w : World) (hp : p.On w) (hq : q.On w) (fp : p.Fit) (fq : q.Fit) :
    Calls Tryz.prog 127 #[.agg #[.int .i64 e, .bool p.u, .int .u64 (n64 p.k), .int .u64 (n64 p.l), .slice p.a p.rs.length p.c, .bool q.u, .int .u64 (n64 q.k), .int .u64 (n64 q.l), .slice q.a q.rs.length q.c]] w (EndB (decide (0 < e) && (wordOk e 32 && (p.ok && q.ok))) w) := by
  have HP := Lib.hid hp
  have HQ := Lib.hid hq
  clear hp hq
  have C1 := Lib.hid (fun w => wordOkI_b e 32 w)
  have C2 := Lib.hid (fun w h => M.macOkI p w h fp)
  have C3 := Lib.hid (fun w h => M.macOkI q w h fq)
  clear fp fq
  obtain ⟨x1, hx1⟩ : ∃ x, wordOk e 32 = x := ⟨_, rfl⟩
  rw [hx1] at C1 ⊢
  clear hx1
  obtain ⟨x2, hx2⟩ : ∃ x, p.ok = x := ⟨_, rfl⟩
  rw [hx2] at C2 ⊢
  clear hx2
  obtain ⟨x3, hx3⟩ : ∃ x, q.ok = x := ⟨_, rfl⟩
  rw [hx3] at C3 ⊢
  clear hx3
  by_cases he : 0 < e
  case neg =>
    rw [decide_eq_false he]
    go_enter Tryz.func127, Tryz.ntmps127
    go_wp2_with fail
    go_ret
    exact ⟨rfl, (Below.refl _ _).alloc (Nat.le_refl _) _⟩
  rw [decide_eq_true he]
  cases x1 with
  | false =>
    go_enter Tryz.func127, Tryz.ntmps127
    have B0 := Lib.hid (show Below w.heap.size w (w.alloc (.cells #[.int .i64 e, .bool p.u, .int .u64 (n64 p.k), .int .u64 (n64 p.l), .slice p.a p.rs.length p.c, .bool q.u, .int .u64 (n64 q.k), .int .u64 (n64 q.l), .slice q.a q.rs.length q.c] 58)) from ((Below.refl _ w).alloc (by simp) _))
    have KK0 := Lib.hid (show Blk (w.alloc (.cells #[.int .i64 e, .bool p.u, .int .u64 (n64 p.k), .int .u64 (n64 p.l), .slice p.a p.rs.length p.c, .bool q.u, .int .u64 (n64 q.k), .int .u64 (n64 q.l), .slice q.a q.rs.length q.c] 58)) (w.heap.size) [.int .i64 e, .bool p.u, .int .u64 (n64 p.k), .int .u64 (n64 p.l), .slice p.a p.rs.length p.c, .bool q.u, .int .u64 (n64 q.k), .int .u64 (n64 q.l), .slice q.a q.rs.length q.c] from Blk.new w [.int .i64 e, .bool p.u, .int .u64 (n64 p.k), .int .u64 (n64 p.l), .slice p.a p.rs.length p.c, .bool q.u, .int .u64 (n64 q.k), .int .u64 (n64 q.l), .slice q.a q.rs.length q.c] 58)
    have Hp0 := Lib.hid (show p.On (w.alloc (.cells #[.int .i64 e, .bool p.u, .int .u64 (n64 p.k), .int .u64 (n64 p.l), .slice p.a p.rs.length p.c, .bool q.u, .int .u64 (n64 q.k), .int .u64 (n64 q.l), .slice q.a q.rs.length q.c] 58)) from HP.out.below B0.out)
    clear HP
    have Hq0 := Lib.hid (show q.On (w.alloc (.cells #[.int .i64 e, .bool p.u, .int .u64 (n64 p.k), .int .u64 (n64 p.l), .slice p.a p.rs.length p.c, .bool q.u, .int .u64 (n64 q.k), .int .u64 (n64 q.l), .slice q.a q.rs.length q.c] 58)) from HQ.out.below B0.out)
    clear HQ
    go_wp2_with fail
    change Calls _ _ _ (w.alloc (.cells #[.int .i64 e, .bool p.u, .int .u64 (n64 p.k), .int .u64 (n64 p.l), .slice p.a p.rs.length p.c, .bool q.u, .int .u64 (n64 q.k), .int .u64 (n64 q.l), .slice q.a q.rs.length q.c] 58)) _
    generalize w.alloc (.cells #[.int .i64 e, .bool p.u, .int .u64 (n64 p.k), .int .u64 (n64 p.l), .slice p.a p.rs.length p.c, .bool q.u, .int .u64 (n64 q.k), .int .u64 (n64 q.l), .slice q.a q.rs.length q.c] 58) = v0 at B0 KK0 Hp0 Hq0 ⊢
    generalize w.heap.size = g_K at KK0 ⊢
    refine (C1.out _).mono ?_
    rintro e v1 ⟨rfl, hb⟩
    have B1 := Lib.hid (B0.out.trans (hb.mono B0.out.size))
    have KK1 := Lib.hid (KK0.out.below hb)
    have Hp1 := Lib.hid (Hp0.out.below hb)
    have Hq1 := Lib.hid (Hq0.out.below hb)
    clear hb B0 KK0 Hp0 Hq0
    obtain ⟨⟨cK0, cK1, cK2, cK3, cK4, cK5, cK6, cK7, cK8⟩, dK0, dK1, dK2, dK3, dK4, dK5, dK6, dK7, dK8⟩ := KK1.out.of9
    go_wp2_with fail
    go_ret
    exact ⟨ret_bool (by simp), B1.out⟩
  | true =>
    cases x2 with
    | false =>
      go_enter Tryz.func127, Tryz.ntmps127
      have B0 := Lib.hid (show Below w.heap.size w (w.alloc (.cells #[.int .i64 e, .bool p.u, .int .u64 (n64 p.k), .int .u64 (n64 p.l), .slice p.a p.rs.length p.c, .bool q.u, .int .u64 (n64 q.k), .int .u64 (n64 q.l), .slice q.a q.rs.length q.c] 58)) from ((Below.refl _ w).alloc (by simp) _))
      have KK0 := Lib.hid (show Blk (w.alloc (.cells #[.int .i64 e, .bool p.u, .int .u64 (n64 p.k), .int .u64 (n64 p.l), .slice p.a p.rs.length p.c, .bool q.u, .int .u64 (n64 q.k), .int .u64 (n64 q.l), .slice q.a q.rs.length q.c] 58)) (w.heap.size) [.int .i64 e, .bool p.u, .int .u64 (n64 p.k), .int .u64 (n64 p.l), .slice p.a p.rs.length p.c, .bool q.u, .int .u64 (n64 q.k), .int .u64 (n64 q.l), .slice q.a q.rs.length q.c] from Blk.new w [.int .i64 e, .bool p.u, .int .u64 (n64 p.k), .int .u64 (n64 p.l), .slice p.a p.rs.length p.c, .bool q.u, .int .u64 (n64 q.k), .int .u64 (n64 q.l), .slice q.a q.rs.length q.c] 58)
      have Hp0 := Lib.hid (show p.On (w.alloc (.cells #[.int .i64 e, .bool p.u, .int .u64 (n64 p.k), .int .u64 (n64 p.l), .slice p.a p.rs.length p.c, .bool q.u, .int .u64 (n64 q.k), .int .u64 (n64 q.l), .slice q.a q.rs.length q.c] 58)) from HP.out.below B0.out)
      clear HP
      have Hq0 := Lib.hid (show q.On (w.alloc (.cells #[.int .i64 e, .bool p.u, .int .u64 (n64 p.k), .int .u64 (n64 p.l), .slice p.a p.rs.length p.c, .bool q.u, .int .u64 (n64 q.k), .int .u64 (n64 q.l), .slice q.a q.rs.length q.c] 58)) from HQ.out.below B0.out)
      clear HQ
      go_wp2_with fail
      change Calls _ _ _ (w.alloc (.cells #[.int .i64 e, .bool p.u, .int .u64 (n64 p.k), .int .u64 (n64 p.l), .slice p.a p.rs.length p.c, .bool q.u, .int .u64 (n64 q.k), .int .u64 (n64 q.l), .slice q.a q.rs.length q.c] 58)) _
      generalize w.alloc (.cells #[.int .i64 e, .bool p.u, .int .u64 (n64 p.k), .int .u64 (n64 p.l), .slice p.a p.rs.length p.c, .bool q.u, .int .u64 (n64 q.k), .int .u64 (n64 q.l), .slice q.a q.rs.length q.c] 58) = v0 at B0 KK0 Hp0 Hq0 ⊢
      generalize w.heap.size = g_K at KK0 ⊢
      refine (C1.out _).mono ?_
      rintro e v1 ⟨rfl, hb⟩
      have B1 := Lib.hid (B0.out.trans (hb.mono B0.out.size))
      have KK1 := Lib.hid (KK0.out.below hb)
      have Hp1 := Lib.hid (Hp0.out.below hb)
      have Hq1 := Lib.hid (Hq0.out.below hb)
      clear hb B0 KK0 Hp0 Hq0
      obtain ⟨⟨cK0, cK1, cK2, cK3, cK4, cK5, cK6, cK7, cK8⟩, dK0, dK1, dK2, dK3, dK4, dK5, dK6, dK7, dK8⟩ := KK1.out.of9
      go_wp2_with fail
      clear cK0 cK1 cK2 cK3 cK4 cK5 cK6 cK7 cK8 dK0 dK1 dK2 dK3 dK4 dK5 dK6 dK7 dK8
      refine (C2.out _ Hp1.out).mono ?_
      rintro e v2 ⟨rfl, hb⟩
      have B2 := Lib.hid (B1.out.trans (hb.mono B1.out.size))
      have KK2 := Lib.hid (KK1.out.below hb)
      have Hp2 := Lib.hid (Hp1.out.below hb)
      have Hq2 := Lib.hid (Hq1.out.below hb)
      clear hb B1 KK1 Hp1 Hq1
      obtain ⟨⟨cK0, cK1, cK2, cK3, cK4, cK5, cK6, cK7, cK8⟩, dK0, dK1, dK2, dK3, dK4, dK5, dK6, dK7, dK8⟩ := KK2.out.of9
      go_wp2_with fail
      go_ret
      exact ⟨ret_bool (by simp), B2.out⟩
    | true =>
      cases x3 with
      | false =>
        go_enter Tryz.func127, Tryz.ntmps127
        have B0 := Lib.hid (show Below w.heap.size w (w.alloc (.cells #[.int .i64 e, .bool p.u, .int .u64 (n64 p.k), .int .u64 (n64 p.l), .slice p.a p.rs.length p.c, .bool q.u, .int .u64 (n64 q.k), .int .u64 (n64 q.l), .slice q.a q.rs.length q.c] 58)) from ((Below.refl _ w).alloc (by simp) _))
        have KK0 := Lib.hid (show Blk (w.alloc (.cells #[.int .i64 e, .bool p.u, .int .u64 (n64 p.k), .int .u64 (n64 p.l), .slice p.a p.rs.length p.c, .bool q.u, .int .u64 (n64 q.k), .int .u64 (n64 q.l), .slice q.a q.rs.length q.c] 58)) (w.heap.size) [.int .i64 e, .bool p.u, .int .u64 (n64 p.k), .int .u64 (n64 p.l), .slice p.a p.rs.length p.c, .bool q.u, .int .u64 (n64 q.k), .int .u64 (n64 q.l), .slice q.a q.rs.length q.c] from Blk.new w [.int .i64 e, .bool p.u, .int .u64 (n64 p.k), .int .u64 (n64 p.l), .slice p.a p.rs.length p.c, .bool q.u, .int .u64 (n64 q.k), .int .u64 (n64 q.l), .slice q.a q.rs.length q.c] 58)
        have Hp0 := Lib.hid (show p.On (w.alloc (.cells #[.int .i64 e, .bool p.u, .int .u64 (n64 p.k), .int .u64 (n64 p.l), .slice p.a p.rs.length p.c, .bool q.u, .int .u64 (n64 q.k), .int .u64 (n64 q.l), .slice q.a q.rs.length q.c] 58)) from HP.out.below B0.out)
        clear HP
        have Hq0 := Lib.hid (show q.On (w.alloc (.cells #[.int .i64 e, .bool p.u, .int .u64 (n64 p.k), .int .u64 (n64 p.l), .slice p.a p.rs.length p.c, .bool q.u, .int .u64 (n64 q.k), .int .u64 (n64 q.l), .slice q.a q.rs.length q.c] 58)) from HQ.out.below B0.out)
        clear HQ
        go_wp2_with fail
        change Calls _ _ _ (w.alloc (.cells #[.int .i64 e, .bool p.u, .int .u64 (n64 p.k), .int .u64 (n64 p.l), .slice p.a p.rs.length p.c, .bool q.u, .int .u64 (n64 q.k), .int .u64 (n64 q.l), .slice q.a q.rs.length q.c] 58)) _
        generalize w.alloc (.cells #[.int .i64 e, .bool p.u, .int .u64 (n64 p.k), .int .u64 (n64 p.l), .slice p.a p.rs.length p.c, .bool q.u, .int .u64 (n64 q.k), .int .u64 (n64 q.l), .slice q.a q.rs.length q.c] 58) = v0 at B0 KK0 Hp0 Hq0 ⊢
        generalize w.heap.size = g_K at KK0 ⊢
        refine (C1.out _).mono ?_
        rintro e v1 ⟨rfl, hb⟩
        have B1 := Lib.hid (B0.out.trans (hb.mono B0.out.size))
        have KK1 := Lib.hid (KK0.out.below hb)
        have Hp1 := Lib.hid (Hp0.out.below hb)
        have Hq1 := Lib.hid (Hq0.out.below hb)
        clear hb B0 KK0 Hp0 Hq0
        obtain ⟨⟨cK0, cK1, cK2, cK3, cK4, cK5, cK6, cK7, cK8⟩, dK0, dK1, dK2, dK3, dK4, dK5, dK6, dK7, dK8⟩ := KK1.out.of9
        go_wp2_with fail
        clear cK0 cK1 cK2 cK3 cK4 cK5 cK6 cK7 cK8 dK0 dK1 dK2 dK3 dK4 dK5 dK6 dK7 dK8
        refine (C2.out _ Hp1.out).mono ?_
        rintro e v2 ⟨rfl, hb⟩
        have B2 := Lib.hid (B1.out.trans (hb.mono B1.out.size))
        have KK2 := Lib.hid (KK1.out.below hb)
        have Hp2 := Lib.hid (Hp1.out.below hb)
        have Hq2 := Lib.hid (Hq1.out.below hb)
        clear hb B1 KK1 Hp1 Hq1
        obtain ⟨⟨cK0, cK1, cK2, cK3, cK4, cK5, cK6, cK7, cK8⟩, dK0, dK1, dK2, dK3, dK4, dK5, dK6, dK7, dK8⟩ := KK2.out.of9
        go_wp2_with fail
        clear cK0 cK1 cK2 cK3 cK4 cK5 cK6 cK7 cK8 dK0 dK1 dK2 dK3 dK4 dK5 dK6 dK7 dK8
        refine (C3.out _ Hq2.out).mono ?_
        rintro e v3 ⟨rfl, hb⟩
        have B3 := Lib.hid (B2.out.trans (hb.mono B2.out.size))
        have KK3 := Lib.hid (KK2.out.below hb)
        have Hp3 := Lib.hid (Hp2.out.below hb)
        have Hq3 := Lib.hid (Hq2.out.below hb)
        clear hb B2 KK2 Hp2 Hq2
        obtain ⟨⟨cK0, cK1, cK2, cK3, cK4, cK5, cK6, cK7, cK8⟩, dK0, dK1, dK2, dK3, dK4, dK5, dK6, dK7, dK8⟩ := KK3.out.of9
        go_wp2_with fail
        go_ret
        exact ⟨ret_bool (by simp), B3.out⟩
      | true =>
        go_enter Tryz.func127, Tryz.ntmps127
        have B0 := Lib.hid (show Below w.heap.size w (w.alloc (.cells #[.int .i64 e, .bool p.u, .int .u64 (n64 p.k), .int .u64 (n64 p.l), .slice p.a p.rs.length p.c, .bool q.u, .int .u64 (n64 q.k), .int .u64 (n64 q.l), .slice q.a q.rs.length q.c] 58)) from ((Below.refl _ w).alloc (by simp) _))
        have KK0 := Lib.hid (show Blk (w.alloc (.cells #[.int .i64 e, .bool p.u, .int .u64 (n64 p.k), .int .u64 (n64 p.l), .slice p.a p.rs.length p.c, .bool q.u, .int .u64 (n64 q.k), .int .u64 (n64 q.l), .slice q.a q.rs.length q.c] 58)) (w.heap.size) [.int .i64 e, .bool p.u, .int .u64 (n64 p.k), .int .u64 (n64 p.l), .slice p.a p.rs.length p.c, .bool q.u, .int .u64 (n64 q.k), .int .u64 (n64 q.l), .slice q.a q.rs.length q.c] from Blk.new w [.int .i64 e, .bool p.u, .int .u64 (n64 p.k), .int .u64 (n64 p.l), .slice p.a p.rs.length p.c, .bool q.u, .int .u64 (n64 q.k), .int .u64 (n64 q.l), .slice q.a q.rs.length q.c] 58)
        have Hp0 := Lib.hid (show p.On (w.alloc (.cells #[.int .i64 e, .bool p.u, .int .u64 (n64 p.k), .int .u64 (n64 p.l), .slice p.a p.rs.length p.c, .bool q.u, .int .u64 (n64 q.k), .int .u64 (n64 q.l), .slice q.a q.rs.length q.c] 58)) from HP.out.below B0.out)
        clear HP
        have Hq0 := Lib.hid (show q.On (w.alloc (.cells #[.int .i64 e, .bool p.u, .int .u64 (n64 p.k), .int .u64 (n64 p.l), .slice p.a p.rs.length p.c, .bool q.u, .int .u64 (n64 q.k), .int .u64 (n64 q.l), .slice q.a q.rs.length q.c] 58)) from HQ.out.below B0.out)
        clear HQ
        go_wp2_with fail
        change Calls _ _ _ (w.alloc (.cells #[.int .i64 e, .bool p.u, .int .u64 (n64 p.k), .int .u64 (n64 p.l), .slice p.a p.rs.length p.c, .bool q.u, .int .u64 (n64 q.k), .int .u64 (n64 q.l), .slice q.a q.rs.length q.c] 58)) _
        generalize w.alloc (.cells #[.int .i64 e, .bool p.u, .int .u64 (n64 p.k), .int .u64 (n64 p.l), .slice p.a p.rs.length p.c, .bool q.u, .int .u64 (n64 q.k), .int .u64 (n64 q.l), .slice q.a q.rs.length q.c] 58) = v0 at B0 KK0 Hp0 Hq0 ⊢
        generalize w.heap.size = g_K at KK0 ⊢
        refine (C1.out _).mono ?_
        rintro e v1 ⟨rfl, hb⟩
        have B1 := Lib.hid (B0.out.trans (hb.mono B0.out.size))
        have KK1 := Lib.hid (KK0.out.below hb)
        have Hp1 := Lib.hid (Hp0.out.below hb)
        have Hq1 := Lib.hid (Hq0.out.below hb)
        clear hb B0 KK0 Hp0 Hq0
        obtain ⟨⟨cK0, cK1, cK2, cK3, cK4, cK5, cK6, cK7, cK8⟩, dK0, dK1, dK2, dK3, dK4, dK5, dK6, dK7, dK8⟩ := KK1.out.of9
        go_wp2_with fail
        clear cK0 cK1 cK2 cK3 cK4 cK5 cK6 cK7 cK8 dK0 dK1 dK2 dK3 dK4 dK5 dK6 dK7 dK8
        refine (C2.out _ Hp1.out).mono ?_
        rintro e v2 ⟨rfl, hb⟩
        have B2 := Lib.hid (B1.out.trans (hb.mono B1.out.size))
        have KK2 := Lib.hid (KK1.out.below hb)
        have Hp2 := Lib.hid (Hp1.out.below hb)
        have Hq2 := Lib.hid (Hq1.out.below hb)
        clear hb B1 KK1 Hp1 Hq1
        obtain ⟨⟨cK0, cK1, cK2, cK3, cK4, cK5, cK6, cK7, cK8⟩, dK0, dK1, dK2, dK3, dK4, dK5, dK6, dK7, dK8⟩ := KK2.out.of9
        go_wp2_with fail
        clear cK0 cK1 cK2 cK3 cK4 cK5 cK6 cK7 cK8 dK0 dK1 dK2 dK3 dK4 dK5 dK6 dK7 dK8
        refine (C3.out _ Hq2.out).mono ?_
        rintro e v3 ⟨rfl, hb⟩
        have B3 := Lib.hid (B2.out.trans (hb.mono B2.out.size))
        have KK3 := Lib.hid (KK2.out.below hb)
        have Hp3 := Lib.hid (Hp2.out.below hb)
        have Hq3 := Lib.hid (Hq2.out.below hb)
        clear hb B2 KK2 Hp2 Hq2
        obtain ⟨⟨cK0, cK1, cK2, cK3, cK4, cK5, cK6, cK7, cK8⟩, dK0, dK1, dK2, dK3, dK4, dK5, dK6, dK7, dK8⟩ := KK3.out.of9
        go_wp2_with fail
        go_ret
        exact ⟨ret_bool (by simp), B3.out⟩

set_option maxRecDepth 100000 in
set_option maxHeartbeats 2000000 in
theorem heldOneI (e : Int) (p q : M) (w : World) : Calls Tryz.prog 25 #[.agg #[.int .i64 e, .bool p.u, .int .u64 (n64 p.k), .int .u64 (n64 p.l), .slice p.a p.rs.length p.c, .bool q.u, .int .u64 (n64 q.k), .int .u64 (n64 q.l), .slice q.a q.rs.length q.c, .bool false]] w fun x w' => x = .returned (.iface 55 (.agg #[.int .i64 e, .bool p.u, .int .u64 (n64 p.k), .int .u64 (n64 p.l), .slice p.a p.rs.length p.c, .bool q.u, .int .u64 (n64 q.k), .int .u64 (n64 q.l), .slice q.a q.rs.length q.c])) ∧ Below w.heap.size w w' := by
  go_enter Tryz.func25, Tryz.ntmps25
  go_wp2_with fail
  go_ret
  exact ⟨rfl, (Below.refl _ _).alloc (Nat.le_refl _) _⟩

set_option maxRecDepth 100000 in
set_option maxHeartbeats 2000000 in
theorem heldTwoI (e : Int) (p q : M) (w : World) : Calls Tryz.prog 25 #[.agg #[.int .i64 e, .bool p.u, .int .u64 (n64 p.k), .int .u64 (n64 p.l), .slice p.a p.rs.length p.c, .bool q.u, .int .u64 (n64 q.k), .int .u64 (n64 q.l), .slice q.a q.rs.length q.c, .bool true]] w fun x w' => x = .returned (.iface 58 (.agg #[.int .i64 e, .bool p.u, .int .u64 (n64 p.k), .int .u64 (n64 p.l), .slice p.a p.rs.length p.c, .bool q.u, .int .u64 (n64 q.k), .int .u64 (n64 q.l), .slice q.a q.rs.length q.c])) ∧ Below w.heap.size w w' := by
  go_enter Tryz.func25, Tryz.ntmps25
  go_wp2_with fail
  go_ret
  exact ⟨rfl, (Below.refl _ _).alloc (Nat.le_refl _) _⟩

set_option maxRecDepth 100000 in
set_option maxHeartbeats 4000000 in
theorem keysOkOneI (e : Int) (p q : M) (w : World) (hp : p.On w) (hq : q.On w) (fp : p.Fit) (fq : q.Fit) :
    Calls Tryz.prog 22 #[.agg #[.int .i64 e, .bool p.u, .int .u64 (n64 p.k), .int .u64 (n64 p.l), .slice p.a p.rs.length p.c, .bool q.u, .int .u64 (n64 q.k), .int .u64 (n64 q.l), .slice q.a q.rs.length q.c, .bool false]] w (EndB (keysOk e p q false) w) := by
  rw [keysOk_one]
  have HP := Lib.hid hp
  have HQ := Lib.hid hq
  clear hp hq
  have C := Lib.hid (fun w h1 h2 => validOneI e p q w h1 h2 fp fq)
  clear fp fq
  have hm : ∀ w : World, (method 52 55 (.agg #[.int .i64 e, .bool p.u, .int .u64 (n64 p.k), .int .u64 (n64 p.l), .slice p.a p.rs.length p.c, .bool q.u, .int .u64 (n64 q.k), .int .u64 (n64 q.l), .slice q.a q.rs.length q.c]) "loop.example/g00504/impl.valid").run Tryz.prog w = .ok (96, .agg #[.int .i64 e, .bool p.u, .int .u64 (n64 p.k), .int .u64 (n64 p.l), .slice p.a p.rs.length p.c, .bool q.u, .int .u64 (n64 q.k), .int .u64 (n64 q.l), .slice q.a q.rs.length q.c]) w := fun _ => by kernel_rfl
  go_enter Tryz.func22, Tryz.ntmps22
  have B0 := Lib.hid (show Below w.heap.size w (w.alloc (.cells #[.int .i64 e, .bool p.u, .int .u64 (n64 p.k), .int .u64 (n64 p.l), .slice p.a p.rs.length p.c, .bool q.u, .int .u64 (n64 q.k), .int .u64 (n64 q.l), .slice q.a q.rs.length q.c, .bool false] 29)) from ((Below.refl _ w).alloc (by simp) _))
  have KK0 := Lib.hid (show Blk (w.alloc (.cells #[.int .i64 e, .bool p.u, .int .u64 (n64 p.k), .int .u64 (n64 p.l), .slice p.a p.rs.length p.c, .bool q.u, .int .u64 (n64 q.k), .int .u64 (n64 q.l), .slice q.a q.rs.length q.c, .bool false] 29)) (w.heap.size) [.int .i64 e, .bool p.u, .int .u64 (n64 p.k), .int .u64 (n64 p.l), .slice p.a p.rs.length p.c, .bool q.u, .int .u64 (n64 q.k), .int .u64 (n64 q.l), .slice q.a q.rs.length q.c, .bool false] from Blk.new w [.int .i64 e, .bool p.u, .int .u64 (n64 p.k), .int .u64 (n64 p.l), .slice p.a p.rs.length p.c, .bool q.u, .int .u64 (n64 q.k), .int .u64 (n64 q.l), .slice q.a q.rs.length q.c, .bool false] 29)
  have Hp0 := Lib.hid (show p.On (w.alloc (.cells #[.int .i64 e, .bool p.u, .int .u64 (n64 p.k), .int .u64 (n64 p.l), .slice p.a p.rs.length p.c, .bool q.u, .int .u64 (n64 q.k), .int .u64 (n64 q.l), .slice q.a q.rs.length q.c, .bool false] 29)) from HP.out.below B0.out)
  clear HP
  have Hq0 := Lib.hid (show q.On (w.alloc (.cells #[.int .i64 e, .bool p.u, .int .u64 (n64 p.k), .int .u64 (n64 p.l), .slice p.a p.rs.length p.c, .bool q.u, .int .u64 (n64 q.k), .int .u64 (n64 q.l), .slice q.a q.rs.length q.c, .bool false] 29)) from HQ.out.below B0.out)
  clear HQ
  go_wp2_with fail
  change Calls _ _ _ (w.alloc (.cells #[.int .i64 e, .bool p.u, .int .u64 (n64 p.k), .int .u64 (n64 p.l), .slice p.a p.rs.length p.c, .bool q.u, .int .u64 (n64 q.k), .int .u64 (n64 q.l), .slice q.a q.rs.length q.c, .bool false] 29)) _
  generalize w.alloc (.cells #[.int .i64 e, .bool p.u, .int .u64 (n64 p.k), .int .u64 (n64 p.l), .slice p.a p.rs.length p.c, .bool q.u, .int .u64 (n64 q.k), .int .u64 (n64 q.l), .slice q.a q.rs.length q.c, .bool false] 29) = v0 at B0 KK0 Hp0 Hq0 ⊢
  generalize w.heap.size = g_K at KK0 ⊢
  refine (heldOneI e p q _).mono ?_
  rintro e v1 ⟨rfl, hb⟩
  have B1 := Lib.hid (B0.out.trans (hb.mono B0.out.size))
  have KK1 := Lib.hid (KK0.out.below hb)
  have Hp1 := Lib.hid (Hp0.out.below hb)
  have Hq1 := Lib.hid (Hq0.out.below hb)
  clear hb B0 KK0 Hp0 Hq0
  obtain ⟨⟨cK0, cK1, cK2, cK3, cK4, cK5, cK6, cK7, cK8, cK9⟩, dK0, dK1, dK2, dK3, dK4, dK5, dK6, dK7, dK8, dK9⟩ := KK1.out.of10
  go_wp2_with fail
  clear cK0 cK1 cK2 cK3 cK4 cK5 cK6 cK7 cK8 cK9 dK0 dK1 dK2 dK3 dK4 dK5 dK6 dK7 dK8 dK9
  refine (C.out _ Hp1.out Hq1.out).mono ?_
  rintro e v2 ⟨rfl, hb⟩
  have B2 := Lib.hid (B1.out.trans (hb.mono B1.out.size))
  have KK2 := Lib.hid (KK1.out.below hb)
  have Hp2 := Lib.hid (Hp1.out.below hb)
  have Hq2 := Lib.hid (Hq1.out.below hb)
  clear hb B1 KK1 Hp1 Hq1
  obtain ⟨⟨cK0, cK1, cK2, cK3, cK4, cK5, cK6, cK7, cK8, cK9⟩, dK0, dK1, dK2, dK3, dK4, dK5, dK6, dK7, dK8, dK9⟩ := KK2.out.of10
  go_wp2_with fail
  clear cK0 cK1 cK2 cK3 cK4 cK5 cK6 cK7 cK8 cK9 dK0 dK1 dK2 dK3 dK4 dK5 dK6 dK7 dK8 dK9
  go_ret
  exact ⟨rfl, B2.out⟩

set_option maxRecDepth 100000 in
set_option maxHeartbeats 4000000 in
theorem keysOkTwoI (e : Int) (p q : M) (w : World) (hp : p.On w) (hq : q.On w) (fp : p.Fit) (fq : q.Fit) :
    Calls Tryz.prog 22 #[.agg #[.int .i64 e, .bool p.u, .int .u64 (n64 p.k), .int .u64 (n64 p.l), .slice p.a p.rs.length p.c, .bool q.u, .int .u64 (n64 q.k), .int .u64 (n64 q.l), .slice q.a q.rs.length q.c, .bool true]] w (EndB (keysOk e p q true) w) := by
  rw [keysOk_two]
  have HP := Lib.hid hp
  have HQ := Lib.hid hq
  clear hp hq
  have C := Lib.hid (fun w h1 h2 => validTwoI e p q w h1 h2 fp fq)
  clear fp fq
  have hm : ∀ w : World, (method 52 58 (.agg #[.int .i64 e, .bool p.u, .int .u64 (n64 p.k), .int .u64 (n64 p.l), .slice p.a p.rs.length p.c, .bool q.u, .int .u64 (n64 q.k), .int .u64 (n64 q.l), .slice q.a q.rs.length q.c]) "loop.example/g00504/impl.valid").run Tryz.prog w = .ok (127, .agg #[.int .i64 e, .bool p.u, .int .u64 (n64 p.k), .int .u64 (n64 p.l), .slice p.a p.rs.length p.c, .bool q.u, .int .u64 (n64 q.k), .int .u64 (n64 q.l), .slice q.a q.rs.length q.c]) w := fun _ => by kernel_rfl
  go_enter Tryz.func22, Tryz.ntmps22
  have B0 := Lib.hid (show Below w.heap.size w (w.alloc (.cells #[.int .i64 e, .bool p.u, .int .u64 (n64 p.k), .int .u64 (n64 p.l), .slice p.a p.rs.length p.c, .bool q.u, .int .u64 (n64 q.k), .int .u64 (n64 q.l), .slice q.a q.rs.length q.c, .bool true] 29)) from ((Below.refl _ w).alloc (by simp) _))
  have KK0 := Lib.hid (show Blk (w.alloc (.cells #[.int .i64 e, .bool p.u, .int .u64 (n64 p.k), .int .u64 (n64 p.l), .slice p.a p.rs.length p.c, .bool q.u, .int .u64 (n64 q.k), .int .u64 (n64 q.l), .slice q.a q.rs.length q.c, .bool true] 29)) (w.heap.size) [.int .i64 e, .bool p.u, .int .u64 (n64 p.k), .int .u64 (n64 p.l), .slice p.a p.rs.length p.c, .bool q.u, .int .u64 (n64 q.k), .int .u64 (n64 q.l), .slice q.a q.rs.length q.c, .bool true] from Blk.new w [.int .i64 e, .bool p.u, .int .u64 (n64 p.k), .int .u64 (n64 p.l), .slice p.a p.rs.length p.c, .bool q.u, .int .u64 (n64 q.k), .int .u64 (n64 q.l), .slice q.a q.rs.length q.c, .bool true] 29)
  have Hp0 := Lib.hid (show p.On (w.alloc (.cells #[.int .i64 e, .bool p.u, .int .u64 (n64 p.k), .int .u64 (n64 p.l), .slice p.a p.rs.length p.c, .bool q.u, .int .u64 (n64 q.k), .int .u64 (n64 q.l), .slice q.a q.rs.length q.c, .bool true] 29)) from HP.out.below B0.out)
  clear HP
  have Hq0 := Lib.hid (show q.On (w.alloc (.cells #[.int .i64 e, .bool p.u, .int .u64 (n64 p.k), .int .u64 (n64 p.l), .slice p.a p.rs.length p.c, .bool q.u, .int .u64 (n64 q.k), .int .u64 (n64 q.l), .slice q.a q.rs.length q.c, .bool true] 29)) from HQ.out.below B0.out)
  clear HQ
  go_wp2_with fail
  change Calls _ _ _ (w.alloc (.cells #[.int .i64 e, .bool p.u, .int .u64 (n64 p.k), .int .u64 (n64 p.l), .slice p.a p.rs.length p.c, .bool q.u, .int .u64 (n64 q.k), .int .u64 (n64 q.l), .slice q.a q.rs.length q.c, .bool true] 29)) _
  generalize w.alloc (.cells #[.int .i64 e, .bool p.u, .int .u64 (n64 p.k), .int .u64 (n64 p.l), .slice p.a p.rs.length p.c, .bool q.u, .int .u64 (n64 q.k), .int .u64 (n64 q.l), .slice q.a q.rs.length q.c, .bool true] 29) = v0 at B0 KK0 Hp0 Hq0 ⊢
  generalize w.heap.size = g_K at KK0 ⊢
  refine (heldTwoI e p q _).mono ?_
  rintro e v1 ⟨rfl, hb⟩
  have B1 := Lib.hid (B0.out.trans (hb.mono B0.out.size))
  have KK1 := Lib.hid (KK0.out.below hb)
  have Hp1 := Lib.hid (Hp0.out.below hb)
  have Hq1 := Lib.hid (Hq0.out.below hb)
  clear hb B0 KK0 Hp0 Hq0
  obtain ⟨⟨cK0, cK1, cK2, cK3, cK4, cK5, cK6, cK7, cK8, cK9⟩, dK0, dK1, dK2, dK3, dK4, dK5, dK6, dK7, dK8, dK9⟩ := KK1.out.of10
  go_wp2_with fail
  clear cK0 cK1 cK2 cK3 cK4 cK5 cK6 cK7 cK8 cK9 dK0 dK1 dK2 dK3 dK4 dK5 dK6 dK7 dK8 dK9
  refine (C.out _ Hp1.out Hq1.out).mono ?_
  rintro e v2 ⟨rfl, hb⟩
  have B2 := Lib.hid (B1.out.trans (hb.mono B1.out.size))
  have KK2 := Lib.hid (KK1.out.below hb)
  have Hp2 := Lib.hid (Hp1.out.below hb)
  have Hq2 := Lib.hid (Hq1.out.below hb)
  clear hb B1 KK1 Hp1 Hq1
  obtain ⟨⟨cK0, cK1, cK2, cK3, cK4, cK5, cK6, cK7, cK8, cK9⟩, dK0, dK1, dK2, dK3, dK4, dK5, dK6, dK7, dK8, dK9⟩ := KK2.out.of10
  go_wp2_with fail
  clear cK0 cK1 cK2 cK3 cK4 cK5 cK6 cK7 cK8 cK9 dK0 dK1 dK2 dK3 dK4 dK5 dK6 dK7 dK8 dK9
  go_ret
  exact ⟨rfl, B2.out⟩

set_option maxRecDepth 100000 in
set_option maxHeartbeats 4000000 in
theorem keysOkI (e : Int) (p q : M) (t : Bool) (w : World) (hp : p.On w) (hq : q.On w) (fp : p.Fit) (fq : q.Fit) :
    Calls Tryz.prog 22 #[.agg #[.int .i64 e, .bool p.u, .int .u64 (n64 p.k), .int .u64 (n64 p.l), .slice p.a p.rs.length p.c, .bool q.u, .int .u64 (n64 q.k), .int .u64 (n64 q.l), .slice q.a q.rs.length q.c, .bool t]] w (EndB (keysOk e p q t) w) := by
  cases t
  · exact keysOkOneI e p q w hp hq fp fq
  · exact keysOkTwoI e p q w hp hq fp fq

set_option maxRecDepth 100000 in
set_option maxHeartbeats 4000000 in
theorem keysOkS (e : Int) (p q : M) (t : Bool) (w : World) (hp : p.On w) (hq : q.On w) (fp : p.Fit) (fq : q.Fit) :
    Calls Tryz.prog 12 #[.agg #[.int .i64 e, .bool p.u, .int .u64 (n64 p.k), .int .u64 (n64 p.l), .slice p.a p.rs.length p.c, .bool q.u, .int .u64 (n64 q.k), .int .u64 (n64 q.l), .slice q.a q.rs.length q.c, .bool t]] w (EndB (keysOk e p q t) w) := by
  have HP := Lib.hid hp
  have HQ := Lib.hid hq
  clear hp hq
  have C1 := Lib.hid (fun w => wordOkS_b e 32 w)
  have C2 := Lib.hid (fun w h => M.macOkS p w h fp)
  have C3 := Lib.hid (fun w h => M.macOkS q w h fq)
  have C4 := Lib.hid (fun w h => M.zeroS q w h fq)
  clear fp fq
  have D : Hid (keysOk e p q t = (wordOk e 32 && (p.ok && (q.ok && bif t then decide (1 ≤ e) else q.zero)))) := rfl
  rw [D.out]
  clear D
  obtain ⟨x1, hx1⟩ : ∃ x, wordOk e 32 = x := ⟨_, rfl⟩
  rw [hx1] at C1 ⊢
  clear hx1
  obtain ⟨x2, hx2⟩ : ∃ x, p.ok = x := ⟨_, rfl⟩
  rw [hx2] at C2 ⊢
  clear hx2
  obtain ⟨x3, hx3⟩ : ∃ x, q.ok = x := ⟨_, rfl⟩
  rw [hx3] at C3 ⊢
  clear hx3
  obtain ⟨x4, hx4⟩ : ∃ x, q.zero = x := ⟨_, rfl⟩
  rw [hx4] at C4 ⊢
  clear hx4
  cases x1 with
  | false =>
    go_enter Tryz.func12, Tryz.ntmps12
    have B0 := Lib.hid (show Below w.heap.size w (w.alloc (.cells #[.int .i64 e, .bool p.u, .int .u64 (n64 p.k), .int .u64 (n64 p.l), .slice p.a p.rs.length p.c, .bool q.u, .int .u64 (n64 q.k), .int .u64 (n64 q.l), .slice q.a q.rs.length q.c, .bool t] 29)) from ((Below.refl _ w).alloc (by simp) _))
    have KK0 := Lib.hid (show Blk (w.alloc (.cells #[.int .i64 e, .bool p.u, .int .u64 (n64 p.k), .int .u64 (n64 p.l), .slice p.a p.rs.length p.c, .bool q.u, .int .u64 (n64 q.k), .int .u64 (n64 q.l), .slice q.a q.rs.length q.c, .bool t] 29)) (w.heap.size) [.int .i64 e, .bool p.u, .int .u64 (n64 p.k), .int .u64 (n64 p.l), .slice p.a p.rs.length p.c, .bool q.u, .int .u64 (n64 q.k), .int .u64 (n64 q.l), .slice q.a q.rs.length q.c, .bool t] from Blk.new w [.int .i64 e, .bool p.u, .int .u64 (n64 p.k), .int .u64 (n64 p.l), .slice p.a p.rs.length p.c, .bool q.u, .int .u64 (n64 q.k), .int .u64 (n64 q.l), .slice q.a q.rs.length q.c, .bool t] 29)
    have Hp0 := Lib.hid (show p.On (w.alloc (.cells #[.int .i64 e, .bool p.u, .int .u64 (n64 p.k), .int .u64 (n64 p.l), .slice p.a p.rs.length p.c, .bool q.u, .int .u64 (n64 q.k), .int .u64 (n64 q.l), .slice q.a q.rs.length q.c, .bool t] 29)) from HP.out.below B0.out)
    clear HP
    have Hq0 := Lib.hid (show q.On (w.alloc (.cells #[.int .i64 e, .bool p.u, .int .u64 (n64 p.k), .int .u64 (n64 p.l), .slice p.a p.rs.length p.c, .bool q.u, .int .u64 (n64 q.k), .int .u64 (n64 q.l), .slice q.a q.rs.length q.c, .bool t] 29)) from HQ.out.below B0.out)
    clear HQ
    go_wp2_with fail
    change Calls _ _ _ (w.alloc (.cells #[.int .i64 e, .bool p.u, .int .u64 (n64 p.k), .int .u64 (n64 p.l), .slice p.a p.rs.length p.c, .bool q.u, .int .u64 (n64 q.k), .int .u64 (n64 q.l), .slice q.a q.rs.length q.c, .bool t] 29)) _
    generalize w.alloc (.cells #[.int .i64 e, .bool p.u, .int .u64 (n64 p.k), .int .u64 (n64 p.l), .slice p.a p.rs.length p.c, .bool q.u, .int .u64 (n64 q.k), .int .u64 (n64 q.l), .slice q.a q.rs.length q.c, .bool t] 29) = v0 at B0 KK0 Hp0 Hq0 ⊢
    generalize w.heap.size = g_K at KK0 ⊢
    refine (C1.out _).mono ?_
    rintro e v1 ⟨rfl, hb⟩
    have B1 := Lib.hid (B0.out.trans (hb.mono B0.out.size))
    have KK1 := Lib.hid (KK0.out.below hb)
    have Hp1 := Lib.hid (Hp0.out.below hb)
    have Hq1 := Lib.hid (Hq0.out.below hb)
    clear hb B0 KK0 Hp0 Hq0
    obtain ⟨⟨cK0, cK1, cK2, cK3, cK4, cK5, cK6, cK7, cK8, cK9⟩, dK0, dK1, dK2, dK3, dK4, dK5, dK6, dK7, dK8, dK9⟩ := KK1.out.of10
    go_wp2_with fail
    go_ret
    exact ⟨ret_bool (by simp), B1.out⟩
  | true =>
    cases x2 with
    | false =>
      go_enter Tryz.func12, Tryz.ntmps12
      have B0 := Lib.hid (show Below w.heap.size w (w.alloc (.cells #[.int .i64 e, .bool p.u, .int .u64 (n64 p.k), .int .u64 (n64 p.l), .slice p.a p.rs.length p.c, .bool q.u, .int .u64 (n64 q.k), .int .u64 (n64 q.l), .slice q.a q.rs.length q.c, .bool t] 29)) from ((Below.refl _ w).alloc (by simp) _))
      have KK0 := Lib.hid (show Blk (w.alloc (.cells #[.int .i64 e, .bool p.u, .int .u64 (n64 p.k), .int .u64 (n64 p.l), .slice p.a p.rs.length p.c, .bool q.u, .int .u64 (n64 q.k), .int .u64 (n64 q.l), .slice q.a q.rs.length q.c, .bool t] 29)) (w.heap.size) [.int .i64 e, .bool p.u, .int .u64 (n64 p.k), .int .u64 (n64 p.l), .slice p.a p.rs.length p.c, .bool q.u, .int .u64 (n64 q.k), .int .u64 (n64 q.l), .slice q.a q.rs.length q.c, .bool t] from Blk.new w [.int .i64 e, .bool p.u, .int .u64 (n64 p.k), .int .u64 (n64 p.l), .slice p.a p.rs.length p.c, .bool q.u, .int .u64 (n64 q.k), .int .u64 (n64 q.l), .slice q.a q.rs.length q.c, .bool t] 29)
      have Hp0 := Lib.hid (show p.On (w.alloc (.cells #[.int .i64 e, .bool p.u, .int .u64 (n64 p.k), .int .u64 (n64 p.l), .slice p.a p.rs.length p.c, .bool q.u, .int .u64 (n64 q.k), .int .u64 (n64 q.l), .slice q.a q.rs.length q.c, .bool t] 29)) from HP.out.below B0.out)
      clear HP
      have Hq0 := Lib.hid (show q.On (w.alloc (.cells #[.int .i64 e, .bool p.u, .int .u64 (n64 p.k), .int .u64 (n64 p.l), .slice p.a p.rs.length p.c, .bool q.u, .int .u64 (n64 q.k), .int .u64 (n64 q.l), .slice q.a q.rs.length q.c, .bool t] 29)) from HQ.out.below B0.out)
      clear HQ
      go_wp2_with fail
      change Calls _ _ _ (w.alloc (.cells #[.int .i64 e, .bool p.u, .int .u64 (n64 p.k), .int .u64 (n64 p.l), .slice p.a p.rs.length p.c, .bool q.u, .int .u64 (n64 q.k), .int .u64 (n64 q.l), .slice q.a q.rs.length q.c, .bool t] 29)) _
      generalize w.alloc (.cells #[.int .i64 e, .bool p.u, .int .u64 (n64 p.k), .int .u64 (n64 p.l), .slice p.a p.rs.length p.c, .bool q.u, .int .u64 (n64 q.k), .int .u64 (n64 q.l), .slice q.a q.rs.length q.c, .bool t] 29) = v0 at B0 KK0 Hp0 Hq0 ⊢
      generalize w.heap.size = g_K at KK0 ⊢
      refine (C1.out _).mono ?_
      rintro e v1 ⟨rfl, hb⟩
      have B1 := Lib.hid (B0.out.trans (hb.mono B0.out.size))
      have KK1 := Lib.hid (KK0.out.below hb)
      have Hp1 := Lib.hid (Hp0.out.below hb)
      have Hq1 := Lib.hid (Hq0.out.below hb)
      clear hb B0 KK0 Hp0 Hq0
      obtain ⟨⟨cK0, cK1, cK2, cK3, cK4, cK5, cK6, cK7, cK8, cK9⟩, dK0, dK1, dK2, dK3, dK4, dK5, dK6, dK7, dK8, dK9⟩ := KK1.out.of10
      go_wp2_with fail
      clear cK0 cK1 cK2 cK3 cK4 cK5 cK6 cK7 cK8 cK9 dK0 dK1 dK2 dK3 dK4 dK5 dK6 dK7 dK8 dK9
      refine (C2.out _ Hp1.out).mono ?_
      rintro e v2 ⟨rfl, hb⟩
      have B2 := Lib.hid (B1.out.trans (hb.mono B1.out.size))
      have KK2 := Lib.hid (KK1.out.below hb)
      have Hp2 := Lib.hid (Hp1.out.below hb)
      have Hq2 := Lib.hid (Hq1.out.below hb)
      clear hb B1 KK1 Hp1 Hq1
      obtain ⟨⟨cK0, cK1, cK2, cK3, cK4, cK5, cK6, cK7, cK8, cK9⟩, dK0, dK1, dK2, dK3, dK4, dK5, dK6, dK7, dK8, dK9⟩ := KK2.out.of10
      go_wp2_with fail
      go_ret
      exact ⟨ret_bool (by simp), B2.out⟩
    | true =>
      cases x3 with
      | false =>
        go_enter Tryz.func12, Tryz.ntmps12
        have B0 := Lib.hid (show Below w.heap.size w (w.alloc (.cells #[.int .i64 e, .bool p.u, .int .u64 (n64 p.k), .int .u64 (n64 p.l), .slice p.a p.rs.length p.c, .bool q.u, .int .u64 (n64 q.k), .int .u64 (n64 q.l), .slice q.a q.rs.length q.c, .bool t] 29)) from ((Below.refl _ w).alloc (by simp) _))
        have KK0 := Lib.hid (show Blk (w.alloc (.cells #[.int .i64 e, .bool p.u, .int .u64 (n64 p.k), .int .u64 (n64 p.l), .slice p.a p.rs.length p.c, .bool q.u, .int .u64 (n64 q.k), .int .u64 (n64 q.l), .slice q.a q.rs.length q.c, .bool t] 29)) (w.heap.size) [.int .i64 e, .bool p.u, .int .u64 (n64 p.k), .int .u64 (n64 p.l), .slice p.a p.rs.length p.c, .bool q.u, .int .u64 (n64 q.k), .int .u64 (n64 q.l), .slice q.a q.rs.length q.c, .bool t] from Blk.new w [.int .i64 e, .bool p.u, .int .u64 (n64 p.k), .int .u64 (n64 p.l), .slice p.a p.rs.length p.c, .bool q.u, .int .u64 (n64 q.k), .int .u64 (n64 q.l), .slice q.a q.rs.length q.c, .bool t] 29)
        have Hp0 := Lib.hid (show p.On (w.alloc (.cells #[.int .i64 e, .bool p.u, .int .u64 (n64 p.k), .int .u64 (n64 p.l), .slice p.a p.rs.length p.c, .bool q.u, .int .u64 (n64 q.k), .int .u64 (n64 q.l), .slice q.a q.rs.length q.c, .bool t] 29)) from HP.out.below B0.out)
        clear HP
        have Hq0 := Lib.hid (show q.On (w.alloc (.cells #[.int .i64 e, .bool p.u, .int .u64 (n64 p.k), .int .u64 (n64 p.l), .slice p.a p.rs.length p.c, .bool q.u, .int .u64 (n64 q.k), .int .u64 (n64 q.l), .slice q.a q.rs.length q.c, .bool t] 29)) from HQ.out.below B0.out)
        clear HQ
        go_wp2_with fail
        change Calls _ _ _ (w.alloc (.cells #[.int .i64 e, .bool p.u, .int .u64 (n64 p.k), .int .u64 (n64 p.l), .slice p.a p.rs.length p.c, .bool q.u, .int .u64 (n64 q.k), .int .u64 (n64 q.l), .slice q.a q.rs.length q.c, .bool t] 29)) _
        generalize w.alloc (.cells #[.int .i64 e, .bool p.u, .int .u64 (n64 p.k), .int .u64 (n64 p.l), .slice p.a p.rs.length p.c, .bool q.u, .int .u64 (n64 q.k), .int .u64 (n64 q.l), .slice q.a q.rs.length q.c, .bool t] 29) = v0 at B0 KK0 Hp0 Hq0 ⊢
        generalize w.heap.size = g_K at KK0 ⊢
        refine (C1.out _).mono ?_
        rintro e v1 ⟨rfl, hb⟩
        have B1 := Lib.hid (B0.out.trans (hb.mono B0.out.size))
        have KK1 := Lib.hid (KK0.out.below hb)
        have Hp1 := Lib.hid (Hp0.out.below hb)
        have Hq1 := Lib.hid (Hq0.out.below hb)
        clear hb B0 KK0 Hp0 Hq0
        obtain ⟨⟨cK0, cK1, cK2, cK3, cK4, cK5, cK6, cK7, cK8, cK9⟩, dK0, dK1, dK2, dK3, dK4, dK5, dK6, dK7, dK8, dK9⟩ := KK1.out.of10
        go_wp2_with fail
        clear cK0 cK1 cK2 cK3 cK4 cK5 cK6 cK7 cK8 cK9 dK0 dK1 dK2 dK3 dK4 dK5 dK6 dK7 dK8 dK9
        refine (C2.out _ Hp1.out).mono ?_
        rintro e v2 ⟨rfl, hb⟩
        have B2 := Lib.hid (B1.out.trans (hb.mono B1.out.size))
        have KK2 := Lib.hid (KK1.out.below hb)
        have Hp2 := Lib.hid (Hp1.out.below hb)
        have Hq2 := Lib.hid (Hq1.out.below hb)
        clear hb B1 KK1 Hp1 Hq1
        obtain ⟨⟨cK0, cK1, cK2, cK3, cK4, cK5, cK6, cK7, cK8, cK9⟩, dK0, dK1, dK2, dK3, dK4, dK5, dK6, dK7, dK8, dK9⟩ := KK2.out.of10
        go_wp2_with fail
        clear cK0 cK1 cK2 cK3 cK4 cK5 cK6 cK7 cK8 cK9 dK0 dK1 dK2 dK3 dK4 dK5 dK6 dK7 dK8 dK9
        refine (C3.out _ Hq2.out).mono ?_
        rintro e v3 ⟨rfl, hb⟩
        have B3 := Lib.hid (B2.out.trans (hb.mono B2.out.size))
        have KK3 := Lib.hid (KK2.out.below hb)
        have Hp3 := Lib.hid (Hp2.out.below hb)
        have Hq3 := Lib.hid (Hq2.out.below hb)
        clear hb B2 KK2 Hp2 Hq2
        obtain ⟨⟨cK0, cK1, cK2, cK3, cK4, cK5, cK6, cK7, cK8, cK9⟩, dK0, dK1, dK2, dK3, dK4, dK5, dK6, dK7, dK8, dK9⟩ := KK3.out.of10
        go_wp2_with fail
        go_ret
        exact ⟨ret_bool (by simp), B3.out⟩
      | true =>
        cases t with
        | true =>
          go_enter Tryz.func12, Tryz.ntmps12
          have B0 := Lib.hid (show Below w.heap.size w (w.alloc (.cells #[.int .i64 e, .bool p.u, .int .u64 (n64 p.k), .int .u64 (n64 p.l), .slice p.a p.rs.length p.c, .bool q.u, .int .u64 (n64 q.k), .int .u64 (n64 q.l), .slice q.a q.rs.length q.c, .bool true] 29)) from ((Below.refl _ w).alloc (by simp) _))
          have KK0 := Lib.hid (show Blk (w.alloc (.cells #[.int .i64 e, .bool p.u, .int .u64 (n64 p.k), .int .u64 (n64 p.l), .slice p.a p.rs.length p.c, .bool q.u, .int .u64 (n64 q.k), .int .u64 (n64 q.l), .slice q.a q.rs.length q.c, .bool true] 29)) (w.heap.size) [.int .i64 e, .bool p.u, .int .u64 (n64 p.k), .int .u64 (n64 p.l), .slice p.a p.rs.length p.c, .bool q.u, .int .u64 (n64 q.k), .int .u64 (n64 q.l), .slice q.a q.rs.length q.c, .bool true] from Blk.new w [.int .i64 e, .bool p.u, .int .u64 (n64 p.k), .int .u64 (n64 p.l), .slice p.a p.rs.length p.c, .bool q.u, .int .u64 (n64 q.k), .int .u64 (n64 q.l), .slice q.a q.rs.length q.c, .bool true] 29)
          have Hp0 := Lib.hid (show p.On (w.alloc (.cells #[.int .i64 e, .bool p.u, .int .u64 (n64 p.k), .int .u64 (n64 p.l), .slice p.a p.rs.length p.c, .bool q.u, .int .u64 (n64 q.k), .int .u64 (n64 q.l), .slice q.a q.rs.length q.c, .bool true] 29)) from HP.out.below B0.out)
          clear HP
          have Hq0 := Lib.hid (show q.On (w.alloc (.cells #[.int .i64 e, .bool p.u, .int .u64 (n64 p.k), .int .u64 (n64 p.l), .slice p.a p.rs.length p.c, .bool q.u, .int .u64 (n64 q.k), .int .u64 (n64 q.l), .slice q.a q.rs.length q.c, .bool true] 29)) from HQ.out.below B0.out)
          clear HQ
          go_wp2_with fail
          change Calls _ _ _ (w.alloc (.cells #[.int .i64 e, .bool p.u, .int .u64 (n64 p.k), .int .u64 (n64 p.l), .slice p.a p.rs.length p.c, .bool q.u, .int .u64 (n64 q.k), .int .u64 (n64 q.l), .slice q.a q.rs.length q.c, .bool true] 29)) _
          generalize w.alloc (.cells #[.int .i64 e, .bool p.u, .int .u64 (n64 p.k), .int .u64 (n64 p.l), .slice p.a p.rs.length p.c, .bool q.u, .int .u64 (n64 q.k), .int .u64 (n64 q.l), .slice q.a q.rs.length q.c, .bool true] 29) = v0 at B0 KK0 Hp0 Hq0 ⊢
          generalize w.heap.size = g_K at KK0 ⊢
          refine (C1.out _).mono ?_
          rintro e v1 ⟨rfl, hb⟩
          have B1 := Lib.hid (B0.out.trans (hb.mono B0.out.size))
          have KK1 := Lib.hid (KK0.out.below hb)
          have Hp1 := Lib.hid (Hp0.out.below hb)
          have Hq1 := Lib.hid (Hq0.out.below hb)
          clear hb B0 KK0 Hp0 Hq0
          obtain ⟨⟨cK0, cK1, cK2, cK3, cK4, cK5, cK6, cK7, cK8, cK9⟩, dK0, dK1, dK2, dK3, dK4, dK5, dK6, dK7, dK8, dK9⟩ := KK1.out.of10
          go_wp2_with fail
          clear cK0 cK1 cK2 cK3 cK4 cK5 cK6 cK7 cK8 cK9 dK0 dK1 dK2 dK3 dK4 dK5 dK6 dK7 dK8 dK9
          refine (C2.out _ Hp1.out).mono ?_
          rintro e v2 ⟨rfl, hb⟩
          have B2 := Lib.hid (B1.out.trans (hb.mono B1.out.size))
          have KK2 := Lib.hid (KK1.out.below hb)
          have Hp2 := Lib.hid (Hp1.out.below hb)
          have Hq2 := Lib.hid (Hq1.out.below hb)
          clear hb B1 KK1 Hp1 Hq1
          obtain ⟨⟨cK0, cK1, cK2, cK3, cK4, cK5, cK6, cK7, cK8, cK9⟩, dK0, dK1, dK2, dK3, dK4, dK5, dK6, dK7, dK8, dK9⟩ := KK2.out.of10
          go_wp2_with fail
          clear cK0 cK1 cK2 cK3 cK4 cK5 cK6 cK7 cK8 cK9 dK0 dK1 dK2 dK3 dK4 dK5 dK6 dK7 dK8 dK9
          refine (C3.out _ Hq2.out).mono ?_
          rintro e v3 ⟨rfl, hb⟩
          have B3 := Lib.hid (B2.out.trans (hb.mono B2.out.size))
          have KK3 := Lib.hid (KK2.out.below hb)
          have Hp3 := Lib.hid (Hp2.out.below hb)
          have Hq3 := Lib.hid (Hq2.out.below hb)
          clear hb B2 KK2 Hp2 Hq2
          obtain ⟨⟨cK0, cK1, cK2, cK3, cK4, cK5, cK6, cK7, cK8, cK9⟩, dK0, dK1, dK2, dK3, dK4, dK5, dK6, dK7, dK8, dK9⟩ := KK3.out.of10
          go_wp2_with fail
          go_ret
          exact ⟨ret_bool (by simp), B3.out⟩
        | false =>
          go_enter Tryz.func12, Tryz.ntmps12
          have B0 := Lib.hid (show Below w.heap.size w (w.alloc (.cells #[.int .i64 e, .bool p.u, .int .u64 (n64 p.k), .int .u64 (n64 p.l), .slice p.a p.rs.length p.c, .bool q.u, .int .u64 (n64 q.k), .int .u64 (n64 q.l), .slice q.a q.rs.length q.c, .bool false] 29)) from ((Below.refl _ w).alloc (by simp) _))
          have KK0 := Lib.hid (show Blk (w.alloc (.cells #[.int .i64 e, .bool p.u, .int .u64 (n64 p.k), .int .u64 (n64 p.l), .slice p.a p.rs.length p.c, .bool q.u, .int .u64 (n64 q.k), .int .u64 (n64 q.l), .slice q.a q.rs.length q.c, .bool false] 29)) (w.heap.size) [.int .i64 e, .bool p.u, .int .u64 (n64 p.k), .int .u64 (n64 p.l), .slice p.a p.rs.length p.c, .bool q.u, .int .u64 (n64 q.k), .int .u64 (n64 q.l), .slice q.a q.rs.length q.c, .bool false] from Blk.new w [.int .i64 e, .bool p.u, .int .u64 (n64 p.k), .int .u64 (n64 p.l), .slice p.a p.rs.length p.c, .bool q.u, .int .u64 (n64 q.k), .int .u64 (n64 q.l), .slice q.a q.rs.length q.c, .bool false] 29)
          have Hp0 := Lib.hid (show p.On (w.alloc (.cells #[.int .i64 e, .bool p.u, .int .u64 (n64 p.k), .int .u64 (n64 p.l), .slice p.a p.rs.length p.c, .bool q.u, .int .u64 (n64 q.k), .int .u64 (n64 q.l), .slice q.a q.rs.length q.c, .bool false] 29)) from HP.out.below B0.out)
          clear HP
          have Hq0 := Lib.hid (show q.On (w.alloc (.cells #[.int .i64 e, .bool p.u, .int .u64 (n64 p.k), .int .u64 (n64 p.l), .slice p.a p.rs.length p.c, .bool q.u, .int .u64 (n64 q.k), .int .u64 (n64 q.l), .slice q.a q.rs.length q.c, .bool false] 29)) from HQ.out.below B0.out)
          clear HQ
          go_wp2_with fail
          change Calls _ _ _ (w.alloc (.cells #[.int .i64 e, .bool p.u, .int .u64 (n64 p.k), .int .u64 (n64 p.l), .slice p.a p.rs.length p.c, .bool q.u, .int .u64 (n64 q.k), .int .u64 (n64 q.l), .slice q.a q.rs.length q.c, .bool false] 29)) _
          generalize w.alloc (.cells #[.int .i64 e, .bool p.u, .int .u64 (n64 p.k), .int .u64 (n64 p.l), .slice p.a p.rs.length p.c, .bool q.u, .int .u64 (n64 q.k), .int .u64 (n64 q.l), .slice q.a q.rs.length q.c, .bool false] 29) = v0 at B0 KK0 Hp0 Hq0 ⊢
          generalize w.heap.size = g_K at KK0 ⊢
          refine (C1.out _).mono ?_
          rintro e v1 ⟨rfl, hb⟩
          have B1 := Lib.hid (B0.out.trans (hb.mono B0.out.size))
          have KK1 := Lib.hid (KK0.out.below hb)
          have Hp1 := Lib.hid (Hp0.out.below hb)
          have Hq1 := Lib.hid (Hq0.out.below hb)
          clear hb B0 KK0 Hp0 Hq0
          obtain ⟨⟨cK0, cK1, cK2, cK3, cK4, cK5, cK6, cK7, cK8, cK9⟩, dK0, dK1, dK2, dK3, dK4, dK5, dK6, dK7, dK8, dK9⟩ := KK1.out.of10
          go_wp2_with fail
          clear cK0 cK1 cK2 cK3 cK4 cK5 cK6 cK7 cK8 cK9 dK0 dK1 dK2 dK3 dK4 dK5 dK6 dK7 dK8 dK9
          refine (C2.out _ Hp1.out).mono ?_
          rintro e v2 ⟨rfl, hb⟩
          have B2 := Lib.hid (B1.out.trans (hb.mono B1.out.size))
          have KK2 := Lib.hid (KK1.out.below hb)
          have Hp2 := Lib.hid (Hp1.out.below hb)
          have Hq2 := Lib.hid (Hq1.out.below hb)
          clear hb B1 KK1 Hp1 Hq1
          obtain ⟨⟨cK0, cK1, cK2, cK3, cK4, cK5, cK6, cK7, cK8, cK9⟩, dK0, dK1, dK2, dK3, dK4, dK5, dK6, dK7, dK8, dK9⟩ := KK2.out.of10
          go_wp2_with fail
          clear cK0 cK1 cK2 cK3 cK4 cK5 cK6 cK7 cK8 cK9 dK0 dK1 dK2 dK3 dK4 dK5 dK6 dK7 dK8 dK9
          refine (C3.out _ Hq2.out).mono ?_
          rintro e v3 ⟨rfl, hb⟩
          have B3 := Lib.hid (B2.out.trans (hb.mono B2.out.size))
          have KK3 := Lib.hid (KK2.out.below hb)
          have Hp3 := Lib.hid (Hp2.out.below hb)
          have Hq3 := Lib.hid (Hq2.out.below hb)
          clear hb B2 KK2 Hp2 Hq2
          obtain ⟨⟨cK0, cK1, cK2, cK3, cK4, cK5, cK6, cK7, cK8, cK9⟩, dK0, dK1, dK2, dK3, dK4, dK5, dK6, dK7, dK8, dK9⟩ := KK3.out.of10
          go_wp2_with fail
          clear cK0 cK1 cK2 cK3 cK4 cK5 cK6 cK7 cK8 cK9 dK0 dK1 dK2 dK3 dK4 dK5 dK6 dK7 dK8 dK9
          refine (C4.out _ Hq3.out).mono ?_
          rintro e v4 ⟨rfl, hb⟩
          have B4 := Lib.hid (B3.out.trans (hb.mono B3.out.size))
          have KK4 := Lib.hid (KK3.out.below hb)
          have Hp4 := Lib.hid (Hp3.out.below hb)
          have Hq4 := Lib.hid (Hq3.out.below hb)
          clear hb B3 KK3 Hp3 Hq3
          obtain ⟨⟨cK0, cK1, cK2, cK3, cK4, cK5, cK6, cK7, cK8, cK9⟩, dK0, dK1, dK2, dK3, dK4, dK5, dK6, dK7, dK8, dK9⟩ := KK4.out.of10
          go_wp2_with fail
          go_ret
          exact ⟨ret_bool (by simp), B4.out⟩

end Go.Proofs.YtobfgkiccmhgdaaGreat
