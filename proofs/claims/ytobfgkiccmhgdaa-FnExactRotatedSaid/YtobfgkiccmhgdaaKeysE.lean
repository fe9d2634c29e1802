/- Rotated, of the model and of the program. Nothing here is a claim. -/
import Derived.Test.YtobfgkiccmhgdaaKeysD
namespace Go.Proofs.Ytobfgkiccmhgdaa
open Go.RowKit Go.Lib

/-- Whether keys can be turned on to this Mac. -/
noncomputable def rotOk (e : Int) (p q m : M) (t : Bool) : Bool := keysOk e p q t && (m.ok && !(e == 4294967295))

def RotI (e : Int) (p q m : M) (t : Bool) (w : World) (x : Ending) (w' : World) : Prop := if rotOk e p q m t = true then KeysI (e + 1) m p true w x w' else KeysI e p q t w x w'
theorem RotI.no {e : Int} {p q m : M} {t : Bool} {w : World} (h : rotOk e p q m t = false) : RotI e p q m t w = KeysI e p q t w := by
  funext x w'
  unfold RotI
  rw [if_neg (by rw [h]; simp)]
theorem RotI.yes {e : Int} {p q m : M} {t : Bool} {w : World} (h : rotOk e p q m t = true) : RotI e p q m t w = KeysI (e + 1) m p true w := by
  funext x w'
  unfold RotI
  rw [if_pos h]
set_option maxRecDepth 100000 in
set_option maxHeartbeats 4000000 in
theorem rotatedI (e : Int) (p q m : M) (t : Bool) (w : World) (hp : p.On w) (hq : q.On w) (hm : m.On w) (fp : p.Fit) (fq : q.Fit) (fm : m.Fit) :
    Calls Try.prog 21 #[.agg #[.int .i64 e, .bool p.u, .int .u64 (n64 p.k), .int .u64 (n64 p.l), .slice p.a p.rs.length p.c, .bool q.u, .int .u64 (n64 q.k), .int .u64 (n64 q.l), .slice q.a q.rs.length q.c, .bool t], .agg #[.bool m.u, .int .u64 (n64 m.k), .int .u64 (n64 m.l), .slice m.a m.rs.length m.c]] w (RotI e p q m t w) := by
  have HP := Lib.hid hp
  have HQ := Lib.hid hq
  clear hp hq
  have HM := Lib.hid hm
  clear hm
  have C1 := Lib.hid (fun w h1 h2 => keysOkI e p q t w h1 h2 fp fq)
  have C2 := Lib.hid (fun w h => M.macOkI m w h fm)
  obtain ⟨x1, h1⟩ : ∃ x, keysOk e p q t = x := ⟨_, rfl⟩
  obtain ⟨x2, h2⟩ : ∃ x, m.ok = x := ⟨_, rfl⟩
  rw [h1] at C1
  rw [h2] at C2
  cases x1 with
  | false =>
    rw [RotI.no (by unfold rotOk; rw [h1]; rfl)]
    clear h1 h2 C2
    go_enter Try.func21, Try.ntmps21
    have B0 := Lib.hid (show Below w.heap.size w (((w.alloc (.cells #[.int .i64 e, .bool p.u, .int .u64 (n64 p.k), .int .u64 (n64 p.l), .slice p.a p.rs.length p.c, .bool q.u, .int .u64 (n64 q.k), .int .u64 (n64 q.l), .slice q.a q.rs.length q.c, .bool t] 29)).alloc (.cells #[.bool m.u, .int .u64 (n64 m.k), .int .u64 (n64 m.l), .slice m.a m.rs.length m.c] 27)).alloc (.cells #[.int .i64 0, .bool false, .int .u64 0, .int .u64 0, .slice none 0 0, .bool false, .int .u64 0, .int .u64 0, .slice none 0 0, .bool false] 29)) from ((((Below.refl _ w).alloc (by simp) _).alloc (by simp) _).alloc (by simp; omega) _))
    have KK0 := Lib.hid (show Blk (((w.alloc (.cells #[.int .i64 e, .bool p.u, .int .u64 (n64 p.k), .int .u64 (n64 p.l), .slice p.a p.rs.length p.c, .bool q.u, .int .u64 (n64 q.k), .int .u64 (n64 q.l), .slice q.a q.rs.length q.c, .bool t] 29)).alloc (.cells #[.bool m.u, .int .u64 (n64 m.k), .int .u64 (n64 m.l), .slice m.a m.rs.length m.c] 27)).alloc (.cells #[.int .i64 0, .bool false, .int .u64 0, .int .u64 0, .slice none 0 0, .bool false, .int .u64 0, .int .u64 0, .slice none 0 0, .bool false] 29)) (w.heap.size) [.int .i64 e, .bool p.u, .int .u64 (n64 p.k), .int .u64 (n64 p.l), .slice p.a p.rs.length p.c, .bool q.u, .int .u64 (n64 q.k), .int .u64 (n64 q.l), .slice q.a q.rs.length q.c, .bool t] from ((Blk.new w [.int .i64 e, .bool p.u, .int .u64 (n64 p.k), .int .u64 (n64 p.l), .slice p.a p.rs.length p.c, .bool q.u, .int .u64 (n64 q.k), .int .u64 (n64 q.l), .slice q.a q.rs.length q.c, .bool t] 29).alloc (.cells #[.bool m.u, .int .u64 (n64 m.k), .int .u64 (n64 m.l), .slice m.a m.rs.length m.c] 27)).alloc (.cells #[.int .i64 0, .bool false, .int .u64 0, .int .u64 0, .slice none 0 0, .bool false, .int .u64 0, .int .u64 0, .slice none 0 0, .bool false] 29))
    have s1 : (w.alloc (.cells #[.int .i64 e, .bool p.u, .int .u64 (n64 p.k), .int .u64 (n64 p.l), .slice p.a p.rs.length p.c, .bool q.u, .int .u64 (n64 q.k), .int .u64 (n64 q.l), .slice q.a q.rs.length q.c, .bool t] 29)).heap.size = w.heap.size + 1 := by simp
    have KM0 := Lib.hid (show Blk (((w.alloc (.cells #[.int .i64 e, .bool p.u, .int .u64 (n64 p.k), .int .u64 (n64 p.l), .slice p.a p.rs.length p.c, .bool q.u, .int .u64 (n64 q.k), .int .u64 (n64 q.l), .slice q.a q.rs.length q.c, .bool t] 29)).alloc (.cells #[.bool m.u, .int .u64 (n64 m.k), .int .u64 (n64 m.l), .slice m.a m.rs.length m.c] 27)).alloc (.cells #[.int .i64 0, .bool false, .int .u64 0, .int .u64 0, .slice none 0 0, .bool false, .int .u64 0, .int .u64 0, .slice none 0 0, .bool false] 29)) (w.heap.size + 1) [.bool m.u, .int .u64 (n64 m.k), .int .u64 (n64 m.l), .slice m.a m.rs.length m.c] by have h0 := (Blk.new (w.alloc (.cells #[.int .i64 e, .bool p.u, .int .u64 (n64 p.k), .int .u64 (n64 p.l), .slice p.a p.rs.length p.c, .bool q.u, .int .u64 (n64 q.k), .int .u64 (n64 q.l), .slice q.a q.rs.length q.c, .bool t] 29)) [.bool m.u, .int .u64 (n64 m.k), .int .u64 (n64 m.l), .slice m.a m.rs.length m.c] 27).alloc (.cells #[.int .i64 0, .bool false, .int .u64 0, .int .u64 0, .slice none 0 0, .bool false, .int .u64 0, .int .u64 0, .slice none 0 0, .bool false] 29); rwa [s1] at h0)
    have n_K_M : w.heap.size ≠ w.heap.size + 1 := by omega
    have s2 : ((w.alloc (.cells #[.int .i64 e, .bool p.u, .int .u64 (n64 p.k), .int .u64 (n64 p.l), .slice p.a p.rs.length p.c, .bool q.u, .int .u64 (n64 q.k), .int .u64 (n64 q.l), .slice q.a q.rs.length q.c, .bool t] 29)).alloc (.cells #[.bool m.u, .int .u64 (n64 m.k), .int .u64 (n64 m.l), .slice m.a m.rs.length m.c] 27)).heap.size = w.heap.size + 1 + 1 := by simp
    have KR0 := Lib.hid (show Blk (((w.alloc (.cells #[.int .i64 e, .bool p.u, .int .u64 (n64 p.k), .int .u64 (n64 p.l), .slice p.a p.rs.length p.c, .bool q.u, .int .u64 (n64 q.k), .int .u64 (n64 q.l), .slice q.a q.rs.length q.c, .bool t] 29)).alloc (.cells #[.bool m.u, .int .u64 (n64 m.k), .int .u64 (n64 m.l), .slice m.a m.rs.length m.c] 27)).alloc (.cells #[.int .i64 0, .bool false, .int .u64 0, .int .u64 0, .slice none 0 0, .bool false, .int .u64 0, .int .u64 0, .slice none 0 0, .bool false] 29)) (w.heap.size + 1 + 1) [.int .i64 0, .bool false, .int .u64 0, .int .u64 0, .slice none 0 0, .bool false, .int .u64 0, .int .u64 0, .slice none 0 0, .bool false] by have h0 := Blk.new ((w.alloc (.cells #[.int .i64 e, .bool p.u, .int .u64 (n64 p.k), .int .u64 (n64 p.l), .slice p.a p.rs.length p.c, .bool q.u, .int .u64 (n64 q.k), .int .u64 (n64 q.l), .slice q.a q.rs.length q.c, .bool t] 29)).alloc (.cells #[.bool m.u, .int .u64 (n64 m.k), .int .u64 (n64 m.l), .slice m.a m.rs.length m.c] 27)) [.int .i64 0, .bool false, .int .u64 0, .int .u64 0, .slice none 0 0, .bool false, .int .u64 0, .int .u64 0, .slice none 0 0, .bool false] 29; rwa [s2] at h0)
    have n_K_R : w.heap.size ≠ w.heap.size + 1 + 1 := by omega
    have n_M_R : w.heap.size + 1 ≠ w.heap.size + 1 + 1 := by omega
    clear s1 s2
    go_wp2_with fail
    change Calls _ _ _ (((w.alloc (.cells #[.int .i64 e, .bool p.u, .int .u64 (n64 p.k), .int .u64 (n64 p.l), .slice p.a p.rs.length p.c, .bool q.u, .int .u64 (n64 q.k), .int .u64 (n64 q.l), .slice q.a q.rs.length q.c, .bool t] 29)).alloc (.cells #[.bool m.u, .int .u64 (n64 m.k), .int .u64 (n64 m.l), .slice m.a m.rs.length m.c] 27)).alloc (.cells #[.int .i64 0, .bool false, .int .u64 0, .int .u64 0, .slice none 0 0, .bool false, .int .u64 0, .int .u64 0, .slice none 0 0, .bool false] 29)) _
    generalize ((w.alloc (.cells #[.int .i64 e, .bool p.u, .int .u64 (n64 p.k), .int .u64 (n64 p.l), .slice p.a p.rs.length p.c, .bool q.u, .int .u64 (n64 q.k), .int .u64 (n64 q.l), .slice q.a q.rs.length q.c, .bool t] 29)).alloc (.cells #[.bool m.u, .int .u64 (n64 m.k), .int .u64 (n64 m.l), .slice m.a m.rs.length m.c] 27)).alloc (.cells #[.int .i64 0, .bool false, .int .u64 0, .int .u64 0, .slice none 0 0, .bool false, .int .u64 0, .int .u64 0, .slice none 0 0, .bool false] 29) = v0 at B0 KK0 KM0 KR0 ⊢
    generalize hh_R : w.heap.size + 1 + 1 = g_R at KR0 n_K_R n_M_R ⊢
    generalize hh_M : w.heap.size + 1 = g_M at KM0 n_K_M n_M_R ⊢
    generalize hh_K : w.heap.size = g_K at KK0 n_K_M n_K_R ⊢
    have l_K : w.heap.size ≤ g_K := by omega
    have l_M : w.heap.size ≤ g_M := by omega
    have l_R : w.heap.size ≤ g_R := by omega
    clear hh_K hh_M hh_R
    refine (C1.out _ (HP.out.below B0.out) (HQ.out.below B0.out)).mono ?_
    rintro e v1 ⟨rfl, hb⟩
    have B1 := Lib.hid (B0.out.trans (hb.mono B0.out.size))
    have KK1 := Lib.hid (KK0.out.below hb)
    have KM1 := Lib.hid (KM0.out.below hb)
    have KR1 := Lib.hid (KR0.out.below hb)
    clear hb B0 KK0 KM0 KR0
    obtain ⟨⟨cK0, cK1, cK2, cK3, cK4, cK5, cK6, cK7, cK8, cK9⟩, dK0, dK1, dK2, dK3, dK4, dK5, dK6, dK7, dK8, dK9⟩ := KK1.out.of10
    obtain ⟨⟨cM0, cM1, cM2, cM3⟩, dM0, dM1, dM2, dM3⟩ := KM1.out.four
    obtain ⟨⟨cR0, cR1, cR2, cR3, cR4, cR5, cR6, cR7, cR8, cR9⟩, dR0, dR1, dR2, dR3, dR4, dR5, dR6, dR7, dR8, dR9⟩ := KR1.out.of10
    go_wp2_with fail
    clear cK0 cK1 cK2 cK3 cK4 cK5 cK6 cK7 cK8 cK9 dK0 dK1 dK2 dK3 dK4 dK5 dK6 dK7 dK8 dK9 cM0 cM1 cM2 cM3 dM0 dM1 dM2 dM3 cR0 cR1 cR2 cR3 cR4 cR5 cR6 cR7 cR8 cR9 dR0 dR1 dR2 dR3 dR4 dR5 dR6 dR7 dR8 dR9
    refine (copyKeysI e p q t _ (HP.out.below B1.out) (HQ.out.below B1.out) fp.1 fq.1).mono ?_
    rintro e v2 ⟨a, c, b, d, rfl, ho1, ho2, hn1, hn2, hd, hb⟩
    have O1 := Lib.hid ho1
    have O2 := Lib.hid ho2
    clear ho1 ho2
    have hz := B1.out.size
    have lR := KR1.out.lt
    have B2 := Lib.hid (B1.out.trans (hb.mono B1.out.size))
    have KK2 := Lib.hid (KK1.out.below hb)
    have KM2 := Lib.hid (KM1.out.below hb)
    have KR2 := Lib.hid (KR1.out.below hb)
    clear hb B1 KK1 KM1 KR1
    obtain ⟨⟨cK0, cK1, cK2, cK3, cK4, cK5, cK6, cK7, cK8, cK9⟩, dK0, dK1, dK2, dK3, dK4, dK5, dK6, dK7, dK8, dK9⟩ := KK2.out.of10
    obtain ⟨⟨cM0, cM1, cM2, cM3⟩, dM0, dM1, dM2, dM3⟩ := KM2.out.four
    obtain ⟨⟨cR0, cR1, cR2, cR3, cR4, cR5, cR6, cR7, cR8, cR9⟩, dR0, dR1, dR2, dR3, dR4, dR5, dR6, dR7, dR8, dR9⟩ := KR2.out.of10
    go_wp2_with fail
    refine bodyPost_ret (v := .agg #[.int .i64 e, .bool p.u, .int .u64 (n64 p.k), .int .u64 (n64 p.l), .slice a p.rs.length c, .bool q.u, .int .u64 (n64 q.k), .int .u64 (n64 q.l), .slice b q.rs.length d, .bool t]) (by simp [results, Try.results21, go_sem, cR0, cR1, cR2, cR3, cR4, cR5, cR6, cR7, cR8, cR9]) rfl ⟨a, c, b, d, rfl, own_down (own_set (own_set (own_set (own_set (own_set (own_set (own_set (own_set (own_set (own_set O1.out _ _ lR _) _ _ lR _) _ _ lR _) _ _ lR _) _ _ lR _) _ _ lR _) _ _ lR _) _ _ lR _) _ _ lR _) _ _ lR _) hz, own_down (own_set (own_set (own_set (own_set (own_set (own_set (own_set (own_set (own_set (own_set O2.out _ _ lR _) _ _ lR _) _ _ lR _) _ _ lR _) _ _ lR _) _ _ lR _) _ _ lR _) _ _ lR _) _ _ lR _) _ _ lR _) hz, hn1, hn2, hd, ((((((((((((((((((((B2.out).setCell l_R _)).setCell l_R _)).setCell l_R _)).setCell l_R _)).setCell l_R _)).setCell l_R _)).setCell l_R _)).setCell l_R _)).setCell l_R _)).setCell l_R _)⟩
  | true =>
    obtain ⟨e0, e1⟩ := (keysOk_all h1).1
    cases x2 with
    | false =>
      rw [RotI.no (by unfold rotOk; rw [h1, h2]; rfl)]
      clear h1 h2
      go_enter Try.func21, Try.ntmps21
      have B0 := Lib.hid (show Below w.heap.size w (((w.alloc (.cells #[.int .i64 e, .bool p.u, .int .u64 (n64 p.k), .int .u64 (n64 p.l), .slice p.a p.rs.length p.c, .bool q.u, .int .u64 (n64 q.k), .int .u64 (n64 q.l), .slice q.a q.rs.length q.c, .bool t] 29)).alloc (.cells #[.bool m.u, .int .u64 (n64 m.k), .int .u64 (n64 m.l), .slice m.a m.rs.length m.c] 27)).alloc (.cells #[.int .i64 0, .bool false, .int .u64 0, .int .u64 0, .slice none 0 0, .bool false, .int .u64 0, .int .u64 0, .slice none 0 0, .bool false] 29)) from ((((Below.refl _ w).alloc (by simp) _).alloc (by simp) _).alloc (by simp; omega) _))
      have KK0 := Lib.hid (show Blk (((w.alloc (.cells #[.int .i64 e, .bool p.u, .int .u64 (n64 p.k), .int .u64 (n64 p.l), .slice p.a p.rs.length p.c, .bool q.u, .int .u64 (n64 q.k), .int .u64 (n64 q.l), .slice q.a q.rs.length q.c, .bool t] 29)).alloc (.cells #[.bool m.u, .int .u64 (n64 m.k), .int .u64 (n64 m.l), .slice m.a m.rs.length m.c] 27)).alloc (.cells #[.int .i64 0, .bool false, .int .u64 0, .int .u64 0, .slice none 0 0, .bool false, .int .u64 0, .int .u64 0, .slice none 0 0, .bool false] 29)) (w.heap.size) [.int .i64 e, .bool p.u, .int .u64 (n64 p.k), .int .u64 (n64 p.l), .slice p.a p.rs.length p.c, .bool q.u, .int .u64 (n64 q.k), .int .u64 (n64 q.l), .slice q.a q.rs.length q.c, .bool t] from ((Blk.new w [.int .i64 e, .bool p.u, .int .u64 (n64 p.k), .int .u64 (n64 p.l), .slice p.a p.rs.length p.c, .bool q.u, .int .u64 (n64 q.k), .int .u64 (n64 q.l), .slice q.a q.rs.length q.c, .bool t] 29).alloc (.cells #[.bool m.u, .int .u64 (n64 m.k), .int .u64 (n64 m.l), .slice m.a m.rs.length m.c] 27)).alloc (.cells #[.int .i64 0, .bool false, .int .u64 0, .int .u64 0, .slice none 0 0, .bool false, .int .u64 0, .int .u64 0, .slice none 0 0, .bool false] 29))
      have s1 : (w.alloc (.cells #[.int .i64 e, .bool p.u, .int .u64 (n64 p.k), .int .u64 (n64 p.l), .slice p.a p.rs.length p.c, .bool q.u, .int .u64 (n64 q.k), .int .u64 (n64 q.l), .slice q.a q.rs.length q.c, .bool t] 29)).heap.size = w.heap.size + 1 := by simp
      have KM0 := Lib.hid (show Blk (((w.alloc (.cells #[.int .i64 e, .bool p.u, .int .u64 (n64 p.k), .int .u64 (n64 p.l), .slice p.a p.rs.length p.c, .bool q.u, .int .u64 (n64 q.k), .int .u64 (n64 q.l), .slice q.a q.rs.length q.c, .bool t] 29)).alloc (.cells #[.bool m.u, .int .u64 (n64 m.k), .int .u64 (n64 m.l), .slice m.a m.rs.length m.c] 27)).alloc (.cells #[.int .i64 0, .bool false, .int .u64 0, .int .u64 0, .slice none 0 0, .bool false, .int .u64 0, .int .u64 0, .slice none 0 0, .bool false] 29)) (w.heap.size + 1) [.bool m.u, .int .u64 (n64 m.k), .int .u64 (n64 m.l), .slice m.a m.rs.length m.c] by have h0 := (Blk.new (w.alloc (.cells #[.int .i64 e, .bool p.u, .int .u64 (n64 p.k), .int .u64 (n64 p.l), .slice p.a p.rs.length p.c, .bool q.u, .int .u64 (n64 q.k), .int .u64 (n64 q.l), .slice q.a q.rs.length q.c, .bool t] 29)) [.bool m.u, .int .u64 (n64 m.k), .int .u64 (n64 m.l), .slice m.a m.rs.length m.c] 27).alloc (.cells #[.int .i64 0, .bool false, .int .u64 0, .int .u64 0, .slice none 0 0, .bool false, .int .u64 0, .int .u64 0, .slice none 0 0, .bool false] 29); rwa [s1] at h0)
      have n_K_M : w.heap.size ≠ w.heap.size + 1 := by omega
      have s2 : ((w.alloc (.cells #[.int .i64 e, .bool p.u, .int .u64 (n64 p.k), .int .u64 (n64 p.l), .slice p.a p.rs.length p.c, .bool q.u, .int .u64 (n64 q.k), .int .u64 (n64 q.l), .slice q.a q.rs.length q.c, .bool t] 29)).alloc (.cells #[.bool m.u, .int .u64 (n64 m.k), .int .u64 (n64 m.l), .slice m.a m.rs.length m.c] 27)).heap.size = w.heap.size + 1 + 1 := by simp
      have KR0 := Lib.hid (show Blk (((w.alloc (.cells #[.int .i64 e, .bool p.u, .int .u64 (n64 p.k), .int .u64 (n64 p.l), .slice p.a p.rs.length p.c, .bool q.u, .int .u64 (n64 q.k), .int .u64 (n64 q.l), .slice q.a q.rs.length q.c, .bool t] 29)).alloc (.cells #[.bool m.u, .int .u64 (n64 m.k), .int .u64 (n64 m.l), .slice m.a m.rs.length m.c] 27)).alloc (.cells #[.int .i64 0, .bool false, .int .u64 0, .int .u64 0, .slice none 0 0, .bool false, .int .u64 0, .int .u64 0, .slice none 0 0, .bool false] 29)) (w.heap.size + 1 + 1) [.int .i64 0, .bool false, .int .u64 0, .int .u64 0, .slice none 0 0, .bool false, .int .u64 0, .int .u64 0, .slice none 0 0, .bool false] by have h0 := Blk.new ((w.alloc (.cells #[.int .i64 e, .bool p.u, .int .u64 (n64 p.k), .int .u64 (n64 p.l), .slice p.a p.rs.length p.c, .bool q.u, .int .u64 (n64 q.k), .int .u64 (n64 q.l), .slice q.a q.rs.length q.c, .bool t] 29)).alloc (.cells #[.bool m.u, .int .u64 (n64 m.k), .int .u64 (n64 m.l), .slice m.a m.rs.length m.c] 27)) [.int .i64 0, .bool false, .int .u64 0, .int .u64 0, .slice none 0 0, .bool false, .int .u64 0, .int .u64 0, .slice none 0 0, .bool false] 29; rwa [s2] at h0)
      have n_K_R : w.heap.size ≠ w.heap.size + 1 + 1 := by omega
      have n_M_R : w.heap.size + 1 ≠ w.heap.size + 1 + 1 := by omega
      clear s1 s2
      go_wp2_with fail
      change Calls _ _ _ (((w.alloc (.cells #[.int .i64 e, .bool p.u, .int .u64 (n64 p.k), .int .u64 (n64 p.l), .slice p.a p.rs.length p.c, .bool q.u, .int .u64 (n64 q.k), .int .u64 (n64 q.l), .slice q.a q.rs.length q.c, .bool t] 29)).alloc (.cells #[.bool m.u, .int .u64 (n64 m.k), .int .u64 (n64 m.l), .slice m.a m.rs.length m.c] 27)).alloc (.cells #[.int .i64 0, .bool false, .int .u64 0, .int .u64 0, .slice none 0 0, .bool false, .int .u64 0, .int .u64 0, .slice none 0 0, .bool false] 29)) _
      generalize ((w.alloc (.cells #[.int .i64 e, .bool p.u, .int .u64 (n64 p.k), .int .u64 (n64 p.l), .slice p.a p.rs.length p.c, .bool q.u, .int .u64 (n64 q.k), .int .u64 (n64 q.l), .slice q.a q.rs.length q.c, .bool t] 29)).alloc (.cells #[.bool m.u, .int .u64 (n64 m.k), .int .u64 (n64 m.l), .slice m.a m.rs.length m.c] 27)).alloc (.cells #[.int .i64 0, .bool false, .int .u64 0, .int .u64 0, .slice none 0 0, .bool false, .int .u64 0, .int .u64 0, .slice none 0 0, .bool false] 29) = v0 at B0 KK0 KM0 KR0 ⊢
      generalize hh_R : w.heap.size + 1 + 1 = g_R at KR0 n_K_R n_M_R ⊢
      generalize hh_M : w.heap.size + 1 = g_M at KM0 n_K_M n_M_R ⊢
      generalize hh_K : w.heap.size = g_K at KK0 n_K_M n_K_R ⊢
      have l_K : w.heap.size ≤ g_K := by omega
      have l_M : w.heap.size ≤ g_M := by omega
      have l_R : w.heap.size ≤ g_R := by omega
      clear hh_K hh_M hh_R
      refine (C1.out _ (HP.out.below B0.out) (HQ.out.below B0.out)).mono ?_
      rintro e v1 ⟨rfl, hb⟩
      have B1 := Lib.hid (B0.out.trans (hb.mono B0.out.size))
      have KK1 := Lib.hid (KK0.out.below hb)
      have KM1 := Lib.hid (KM0.out.below hb)
      have KR1 := Lib.hid (KR0.out.below hb)
      clear hb B0 KK0 KM0 KR0
      obtain ⟨⟨cK0, cK1, cK2, cK3, cK4, cK5, cK6, cK7, cK8, cK9⟩, dK0, dK1, dK2, dK3, dK4, dK5, dK6, dK7, dK8, dK9⟩ := KK1.out.of10
      obtain ⟨⟨cM0, cM1, cM2, cM3⟩, dM0, dM1, dM2, dM3⟩ := KM1.out.four
      obtain ⟨⟨cR0, cR1, cR2, cR3, cR4, cR5, cR6, cR7, cR8, cR9⟩, dR0, dR1, dR2, dR3, dR4, dR5, dR6, dR7, dR8, dR9⟩ := KR1.out.of10
      go_wp2_with fail
      clear cK0 cK1 cK2 cK3 cK4 cK5 cK6 cK7 cK8 cK9 dK0 dK1 dK2 dK3 dK4 dK5 dK6 dK7 dK8 dK9 cM0 cM1 cM2 cM3 dM0 dM1 dM2 dM3 cR0 cR1 cR2 cR3 cR4 cR5 cR6 cR7 cR8 cR9 dR0 dR1 dR2 dR3 dR4 dR5 dR6 dR7 dR8 dR9
      refine (C2.out _ (HM.out.below B1.out)).mono ?_
      rintro e v2 ⟨rfl, hb⟩
      have B2 := Lib.hid (B1.out.trans (hb.mono B1.out.size))
      have KK2 := Lib.hid (KK1.out.below hb)
      have KM2 := Lib.hid (KM1.out.below hb)
      have KR2 := Lib.hid (KR1.out.below hb)
      clear hb B1 KK1 KM1 KR1
      obtain ⟨⟨cK0, cK1, cK2, cK3, cK4, cK5, cK6, cK7, cK8, cK9⟩, dK0, dK1, dK2, dK3, dK4, dK5, dK6, dK7, dK8, dK9⟩ := KK2.out.of10
      obtain ⟨⟨cM0, cM1, cM2, cM3⟩, dM0, dM1, dM2, dM3⟩ := KM2.out.four
      obtain ⟨⟨cR0, cR1, cR2, cR3, cR4, cR5, cR6, cR7, cR8, cR9⟩, dR0, dR1, dR2, dR3, dR4, dR5, dR6, dR7, dR8, dR9⟩ := KR2.out.of10
      go_wp2_with fail
      clear cK0 cK1 cK2 cK3 cK4 cK5 cK6 cK7 cK8 cK9 dK0 dK1 dK2 dK3 dK4 dK5 dK6 dK7 dK8 dK9 cM0 cM1 cM2 cM3 dM0 dM1 dM2 dM3 cR0 cR1 cR2 cR3 cR4 cR5 cR6 cR7 cR8 cR9 dR0 dR1 dR2 dR3 dR4 dR5 dR6 dR7 dR8 dR9
      refine (copyKeysI e p q t _ (HP.out.below B2.out) (HQ.out.below B2.out) fp.1 fq.1).mono ?_
      rintro e v3 ⟨a, c, b, d, rfl, ho1, ho2, hn1, hn2, hd, hb⟩
      have O1 := Lib.hid ho1
      have O2 := Lib.hid ho2
      clear ho1 ho2
      have hz := B2.out.size
      have lR := KR2.out.lt
      have B3 := Lib.hid (B2.out.trans (hb.mono B2.out.size))
      have KK3 := Lib.hid (KK2.out.below hb)
      have KM3 := Lib.hid (KM2.out.below hb)
      have KR3 := Lib.hid (KR2.out.below hb)
      clear hb B2 KK2 KM2 KR2
      obtain ⟨⟨cK0, cK1, cK2, cK3, cK4, cK5, cK6, cK7, cK8, cK9⟩, dK0, dK1, dK2, dK3, dK4, dK5, dK6, dK7, dK8, dK9⟩ := KK3.out.of10
      obtain ⟨⟨cM0, cM1, cM2, cM3⟩, dM0, dM1, dM2, dM3⟩ := KM3.out.four
      obtain ⟨⟨cR0, cR1, cR2, cR3, cR4, cR5, cR6, cR7, cR8, cR9⟩, dR0, dR1, dR2, dR3, dR4, dR5, dR6, dR7, dR8, dR9⟩ := KR3.out.of10
      go_wp2_with fail
      refine bodyPost_ret (v := .agg #[.int .i64 e, .bool p.u, .int .u64 (n64 p.k), .int .u64 (n64 p.l), .slice a p.rs.length c, .bool q.u, .int .u64 (n64 q.k), .int .u64 (n64 q.l), .slice b q.rs.length d, .bool t]) (by simp [results, Try.results21, go_sem, cR0, cR1, cR2, cR3, cR4, cR5, cR6, cR7, cR8, cR9]) rfl ⟨a, c, b, d, rfl, own_down (own_set (own_set (own_set (own_set (own_set (own_set (own_set (own_set (own_set (own_set O1.out _ _ lR _) _ _ lR _) _ _ lR _) _ _ lR _) _ _ lR _) _ _ lR _) _ _ lR _) _ _ lR _) _ _ lR _) _ _ lR _) hz, own_down (own_set (own_set (own_set (own_set (own_set (own_set (own_set (own_set (own_set (own_set O2.out _ _ lR _) _ _ lR _) _ _ lR _) _ _ lR _) _ _ lR _) _ _ lR _) _ _ lR _) _ _ lR _) _ _ lR _) _ _ lR _) hz, hn1, hn2, hd, ((((((((((((((((((((B3.out).setCell l_R _)).setCell l_R _)).setCell l_R _)).setCell l_R _)).setCell l_R _)).setCell l_R _)).setCell l_R _)).setCell l_R _)).setCell l_R _)).setCell l_R _)⟩
    | true =>
      by_cases he : (e == 4294967295) = false
      · rw [RotI.yes (by unfold rotOk; rw [h1, h2, he]; rfl)]
        clear h1 h2
        have hw : IntKind.i64.wrap (e + 1) = e + 1 := IntWalk.i64_in _ (by omega)
        go_enter Try.func21, Try.ntmps21
        have B0 := Lib.hid (show Below w.heap.size w (((w.alloc (.cells #[.int .i64 e, .bool p.u, .int .u64 (n64 p.k), .int .u64 (n64 p.l), .slice p.a p.rs.length p.c, .bool q.u, .int .u64 (n64 q.k), .int .u64 (n64 q.l), .slice q.a q.rs.length q.c, .bool t] 29)).alloc (.cells #[.bool m.u, .int .u64 (n64 m.k), .int .u64 (n64 m.l), .slice m.a m.rs.length m.c] 27)).alloc (.cells #[.int .i64 0, .bool false, .int .u64 0, .int .u64 0, .slice none 0 0, .bool false, .int .u64 0, .int .u64 0, .slice none 0 0, .bool false] 29)) from ((((Below.refl _ w).alloc (by simp) _).alloc (by simp) _).alloc (by simp; omega) _))
        have KK0 := Lib.hid (show Blk (((w.alloc (.cells #[.int .i64 e, .bool p.u, .int .u64 (n64 p.k), .int .u64 (n64 p.l), .slice p.a p.rs.length p.c, .bool q.u, .int .u64 (n64 q.k), .int .u64 (n64 q.l), .slice q.a q.rs.length q.c, .bool t] 29)).alloc (.cells #[.bool m.u, .int .u64 (n64 m.k), .int .u64 (n64 m.l), .slice m.a m.rs.length m.c] 27)).alloc (.cells #[.int .i64 0, .bool false, .int .u64 0, .int .u64 0, .slice none 0 0, .bool false, .int .u64 0, .int .u64 0, .slice none 0 0, .bool false] 29)) (w.heap.size) [.int .i64 e, .bool p.u, .int .u64 (n64 p.k), .int .u64 (n64 p.l), .slice p.a p.rs.length p.c, .bool q.u, .int .u64 (n64 q.k), .int .u64 (n64 q.l), .slice q.a q.rs.length q.c, .bool t] from ((Blk.new w [.int .i64 e, .bool p.u, .int .u64 (n64 p.k), .int .u64 (n64 p.l), .slice p.a p.rs.length p.c, .bool q.u, .int .u64 (n64 q.k), .int .u64 (n64 q.l), .slice q.a q.rs.length q.c, .bool t] 29).alloc (.cells #[.bool m.u, .int .u64 (n64 m.k), .int .u64 (n64 m.l), .slice m.a m.rs.length m.c] 27)).alloc (.cells #[.int .i64 0, .bool false, .int .u64 0, .int .u64 0, .slice none 0 0, .bool false, .int .u64 0, .int .u64 0, .slice none 0 0, .bool false] 29))
        have s1 : (w.alloc (.cells #[.int .i64 e, .bool p.u, .int .u64 (n64 p.k), .int .u64 (n64 p.l), .slice p.a p.rs.length p.c, .bool q.u, .int .u64 (n64 q.k), .int .u64 (n64 q.l), .slice q.a q.rs.length q.c, .bool t] 29)).heap.size = w.heap.size + 1 := by simp
        have KM0 := Lib.hid (show Blk (((w.alloc (.cells #[.int .i64 e, .bool p.u, .int .u64 (n64 p.k), .int .u64 (n64 p.l), .slice p.a p.rs.length p.c, .bool q.u, .int .u64 (n64 q.k), .int .u64 (n64 q.l), .slice q.a q.rs.length q.c, .bool t] 29)).alloc (.cells #[.bool m.u, .int .u64 (n64 m.k), .int .u64 (n64 m.l), .slice m.a m.rs.length m.c] 27)).alloc (.cells #[.int .i64 0, .bool false, .int .u64 0, .int .u64 0, .slice none 0 0, .bool false, .int .u64 0, .int .u64 0, .slice none 0 0, .bool false] 29)) (w.heap.size + 1) [.bool m.u, .int .u64 (n64 m.k), .int .u64 (n64 m.l), .slice m.a m.rs.length m.c] by have h0 := (Blk.new (w.alloc (.cells #[.int .i64 e, .bool p.u, .int .u64 (n64 p.k), .int .u64 (n64 p.l), .slice p.a p.rs.length p.c, .bool q.u, .int .u64 (n64 q.k), .int .u64 (n64 q.l), .slice q.a q.rs.length q.c, .bool t] 29)) [.bool m.u, .int .u64 (n64 m.k), .int .u64 (n64 m.l), .slice m.a m.rs.length m.c] 27).alloc (.cells #[.int .i64 0, .bool false, .int .u64 0, .int .u64 0, .slice none 0 0, .bool false, .int .u64 0, .int .u64 0, .slice none 0 0, .bool false] 29); rwa [s1] at h0)
        have n_K_M : w.heap.size ≠ w.heap.size + 1 := by omega
        have s2 : ((w.alloc (.cells #[.int .i64 e, .bool p.u, .int .u64 (n64 p.k), .int .u64 (n64 p.l), .slice p.a p.rs.length p.c, .bool q.u, .int .u64 (n64 q.k), .int .u64 (n64 q.l), .slice q.a q.rs.length q.c, .bool t] 29)).alloc (.cells #[.bool m.u, .int .u64 (n64 m.k), .int .u64 (n64 m.l), .slice m.a m.rs.length m.c] 27)).heap.size = w.heap.size + 1 + 1 := by simp
        have KR0 := Lib.hid (show Blk (((w.alloc (.cells #[.int .i64 e, .bool p.u, .int .u64 (n64 p.k), .int .u64 (n64 p.l), .slice p.a p.rs.length p.c, .bool q.u, .int .u64 (n64 q.k), .int .u64 (n64 q.l), .slice q.a q.rs.length q.c, .bool t] 29)).alloc (.cells #[.bool m.u, .int .u64 (n64 m.k), .int .u64 (n64 m.l), .slice m.a m.rs.length m.c] 27)).alloc (.cells #[.int .i64 0, .bool false, .int .u64 0, .int .u64 0, .slice none 0 0, .bool false, .int .u64 0, .int .u64 0, .slice none 0 0, .bool false] 29)) (w.heap.size + 1 + 1) [.int .i64 0, .bool false, .int .u64 0, .int .u64 0, .slice none 0 0, .bool false, .int .u64 0, .int .u64 0, .slice none 0 0, .bool false] by have h0 := Blk.new ((w.alloc (.cells #[.int .i64 e, .bool p.u, .int .u64 (n64 p.k), .int .u64 (n64 p.l), .slice p.a p.rs.length p.c, .bool q.u, .int .u64 (n64 q.k), .int .u64 (n64 q.l), .slice q.a q.rs.length q.c, .bool t] 29)).alloc (.cells #[.bool m.u, .int .u64 (n64 m.k), .int .u64 (n64 m.l), .slice m.a m.rs.length m.c] 27)) [.int .i64 0, .bool false, .int .u64 0, .int .u64 0, .slice none 0 0, .bool false, .int .u64 0, .int .u64 0, .slice none 0 0, .bool false] 29; rwa [s2] at h0)
        have n_K_R : w.heap.size ≠ w.heap.size + 1 + 1 := by omega
        have n_M_R : w.heap.size + 1 ≠ w.heap.size + 1 + 1 := by omega
        clear s1 s2
        go_wp2_with fail
        change Calls _ _ _ (((w.alloc (.cells #[.int .i64 e, .bool p.u, .int .u64 (n64 p.k), .int .u64 (n64 p.l), .slice p.a p.rs.length p.c, .bool q.u, .int .u64 (n64 q.k), .int .u64 (n64 q.l), .slice q.a q.rs.length q.c, .bool t] 29)).alloc (.cells #[.bool m.u, .int .u64 (n64 m.k), .int .u64 (n64 m.l), .slice m.a m.rs.length m.c] 27)).alloc (.cells #[.int .i64 0, .bool false, .int .u64 0, .int .u64 0, .slice none 0 0, .bool false, .int .u64 0, .int .u64 0, .slice none 0 0, .bool false] 29)) _
        generalize ((w.alloc (.cells #[.int .i64 e, .bool p.u, .int .u64 (n64 p.k), .int .u64 (n64 p.l), .slice p.a p.rs.length p.c, .bool q.u, .int .u64 (n64 q.k), .int .u64 (n64 q.l), .slice q.a q.rs.length q.c, .bool t] 29)).alloc (.cells #[.bool m.u, .int .u64 (n64 m.k), .int .u64 (n64 m.l), .slice m.a m.rs.length m.c] 27)).alloc (.cells #[.int .i64 0, .bool false, .int .u64 0, .int .u64 0, .slice none 0 0, .bool false, .int .u64 0, .int .u64 0, .slice none 0 0, .bool false] 29) = v0 at B0 KK0 KM0 KR0 ⊢
        generalize hh_R : w.heap.size + 1 + 1 = g_R at KR0 n_K_R n_M_R ⊢
        generalize hh_M : w.heap.size + 1 = g_M at KM0 n_K_M n_M_R ⊢
        generalize hh_K : w.heap.size = g_K at KK0 n_K_M n_K_R ⊢
        have l_K : w.heap.size ≤ g_K := by omega
        have l_M : w.heap.size ≤ g_M := by omega
        have l_R : w.heap.size ≤ g_R := by omega
        clear hh_K hh_M hh_R
        refine (C1.out _ (HP.out.below B0.out) (HQ.out.below B0.out)).mono ?_
        rintro e v1 ⟨rfl, hb⟩
        have B1 := Lib.hid (B0.out.trans (hb.mono B0.out.size))
        have KK1 := Lib.hid (KK0.out.below hb)
        have KM1 := Lib.hid (KM0.out.below hb)
        have KR1 := Lib.hid (KR0.out.below hb)
        clear hb B0 KK0 KM0 KR0
        obtain ⟨⟨cK0, cK1, cK2, cK3, cK4, cK5, cK6, cK7, cK8, cK9⟩, dK0, dK1, dK2, dK3, dK4, dK5, dK6, dK7, dK8, dK9⟩ := KK1.out.of10
        obtain ⟨⟨cM0, cM1, cM2, cM3⟩, dM0, dM1, dM2, dM3⟩ := KM1.out.four
        obtain ⟨⟨cR0, cR1, cR2, cR3, cR4, cR5, cR6, cR7, cR8, cR9⟩, dR0, dR1, dR2, dR3, dR4, dR5, dR6, dR7, dR8, dR9⟩ := KR1.out.of10
        go_wp2_with fail
        clear cK0 cK1 cK2 cK3 cK4 cK5 cK6 cK7 cK8 cK9 dK0 dK1 dK2 dK3 dK4 dK5 dK6 dK7 dK8 dK9 cM0 cM1 cM2 cM3 dM0 dM1 dM2 dM3 cR0 cR1 cR2 cR3 cR4 cR5 cR6 cR7 cR8 cR9 dR0 dR1 dR2 dR3 dR4 dR5 dR6 dR7 dR8 dR9
        refine (C2.out _ (HM.out.below B1.out)).mono ?_
        rintro e v2 ⟨rfl, hb⟩
        have B2 := Lib.hid (B1.out.trans (hb.mono B1.out.size))
        have KK2 := Lib.hid (KK1.out.below hb)
        have KM2 := Lib.hid (KM1.out.below hb)
        have KR2 := Lib.hid (KR1.out.below hb)
        clear hb B1 KK1 KM1 KR1
        obtain ⟨⟨cK0, cK1, cK2, cK3, cK4, cK5, cK6, cK7, cK8, cK9⟩, dK0, dK1, dK2, dK3, dK4, dK5, dK6, dK7, dK8, dK9⟩ := KK2.out.of10
        obtain ⟨⟨cM0, cM1, cM2, cM3⟩, dM0, dM1, dM2, dM3⟩ := KM2.out.four
        obtain ⟨⟨cR0, cR1, cR2, cR3, cR4, cR5, cR6, cR7, cR8, cR9⟩, dR0, dR1, dR2, dR3, dR4, dR5, dR6, dR7, dR8, dR9⟩ := KR2.out.of10
        go_upto_region 3 with fail
        clear cK0 cK1 cK2 cK3 cK4 cK5 cK6 cK7 cK8 cK9 dK0 dK1 dK2 dK3 dK4 dK5 dK6 dK7 dK8 dK9 cM0 cM1 cM2 cM3 dM0 dM1 dM2 dM3 cR0 cR1 cR2 cR3 cR4 cR5 cR6 cR7 cR8 cR9 dR0 dR1 dR2 dR3 dR4 dR5 dR6 dR7 dR8 dR9
        refine wp_region_noPanic ?_
        refine wp_region_held_drew (S := fun w' => Blk w' g_K [.int .i64 e, .bool p.u, .int .u64 (n64 p.k), .int .u64 (n64 p.l), .slice p.a p.rs.length p.c, .bool q.u, .int .u64 (n64 q.k), .int .u64 (n64 q.l), .slice q.a q.rs.length q.c, .bool t] ∧ Blk w' g_M [.bool m.u, .int .u64 (n64 m.k), .int .u64 (n64 m.l), .slice m.a m.rs.length m.c]) (by kernel_rfl) ⟨KK2.out, KM2.out⟩ (fun hS => ?_)
        refine wpAnyH_take (i := 0) (v := .pointer (some ⟨g_K, 0, none⟩)) rfl (by kernel_rfl) (by kernel_rfl) (by kernel_rfl) (fun _ _ _ h => h) (Or.inl ⟨rfl, by intro w hS; go_simp⟩) hS ?_
        refine wpAnyH_take (i := 5) (v := .pointer (some ⟨g_K, 1, none⟩)) rfl (by kernel_rfl) (by kernel_rfl) (by kernel_rfl) (fun _ _ _ h => h) (Or.inl ⟨rfl, by intro w hS; go_simp⟩) hS ?_
        refine wpAnyH_take (i := 1) (v := .int .i64 e) rfl (by kernel_rfl) (by kernel_rfl) (by kernel_rfl) (fun _ _ _ h => h) (Or.inl ⟨rfl, by intro w hS; obtain ⟨⟨h0, h1, h2, h3, h4, h5, h6, h7, h8, h9⟩, _⟩ := hS.1.of10; go_simp⟩) hS ?_
        refine wpAnyH_take (i := 2) (v := .int .i64 (e + 1)) rfl (by kernel_rfl) (by kernel_rfl) (by kernel_rfl) (fun _ _ _ h => h) (Or.inl ⟨rfl, by intro w hS; go_simp⟩) hS ?_
        refine wpAnyH_take (i := 3) (v := .agg #[.bool m.u, .int .u64 (n64 m.k), .int .u64 (n64 m.l), .slice m.a m.rs.length m.c]) rfl (by kernel_rfl) (by kernel_rfl) (by kernel_rfl) (fun _ _ _ h => h) (Or.inl ⟨rfl, by intro w hS; obtain ⟨⟨h0, h1, h2, h3⟩, _⟩ := hS.2.four; go_simp⟩) hS ?_
        refine wpAnyH_take (i := 6) (v := .agg #[.bool p.u, .int .u64 (n64 p.k), .int .u64 (n64 p.l), .slice p.a p.rs.length p.c]) rfl (by kernel_rfl) (by kernel_rfl) (by kernel_rfl) (fun _ _ _ h => h) (Or.inl ⟨rfl, by intro w hS; obtain ⟨⟨h0, h1, h2, h3, h4, h5, h6, h7, h8, h9⟩, _⟩ := hS.1.of10; go_simp⟩) hS ?_
        refine wpAnyH_ready (rs := [4]) (by kernel_rfl) (by simp) ?_
        refine AllReadyH.cons (i := 4) rfl (fun K hK => ?zr1) AllReadyH.nil
        rw [if_pos (by rfl)]
        go_simp
        clear hS
        refine (copyMacI m _ (HM.out.below B2.out.drew) fm.1).mono ?_
        rintro e v3 ⟨a, c, rfl, ho, hn1, hb⟩
        replace hb := (Below.refl _ v2).drew.trans hb
        have O1 := Lib.hid ho
        have hz1 := B2.out.size
        have lR1 := KR2.out.lt
        clear ho
        have B3 := Lib.hid (B2.out.trans (hb.mono B2.out.size))
        have KK3 := Lib.hid (KK2.out.below hb)
        have KM3 := Lib.hid (KM2.out.below hb)
        have KR3 := Lib.hid (KR2.out.below hb)
        clear hb B2 KK2 KM2 KR2
        refine hK.out _ _ ⟨KK3.out, KM3.out⟩ (fun hS => ?_)
        clear hK K
        refine wpAnyH_ready (rs := [7]) (by kernel_rfl) (by simp) ?_
        refine AllReadyH.cons (i := 7) rfl (fun K hK => ?zr2) AllReadyH.nil
        rw [if_pos (by rfl)]
        go_simp
        clear hS
        refine (copyMacI p _ (HP.out.below B3.out) fp.1).mono ?_
        rintro e v4 ⟨b, d, rfl, ho, hn2, hb⟩
        have O2 := Lib.hid ho
        have O1' := Lib.hid (own_below O1.out hb)
        have hz2 := B3.out.size
        have lR2 := KR3.out.lt
        clear ho
        have B4 := Lib.hid (B3.out.trans (hb.mono B3.out.size))
        have KK4 := Lib.hid (KK3.out.below hb)
        have KM4 := Lib.hid (KM3.out.below hb)
        have KR4 := Lib.hid (KR3.out.below hb)
        clear hb B3 KK3 KM3 KR3
        refine hK.out _ _ ⟨KK4.out, KM4.out⟩ (fun hS => ?_)
        clear hK K
        refine wpAnyH_take (i := 8) (v := .agg #[.int .i64 (e + 1), .bool m.u, .int .u64 (n64 m.k), .int .u64 (n64 m.l), .slice a m.rs.length c, .bool p.u, .int .u64 (n64 p.k), .int .u64 (n64 p.l), .slice b p.rs.length d, .bool true]) rfl (by kernel_rfl) (by kernel_rfl) (by kernel_rfl) (fun _ _ _ h => h) (Or.inl ⟨rfl, by intro w hS; go_simp⟩) hS ?_
        obtain ⟨⟨cR0, cR1, cR2, cR3, cR4, cR5, cR6, cR7, cR8, cR9⟩, dR0, dR1, dR2, dR3, dR4, dR5, dR6, dR7, dR8, dR9⟩ := KR4.out.of10
        refine wpAnyH_ready (rs := [9]) (by kernel_rfl) (by simp) ?_
        refine AllReadyH.cons (i := 9) rfl (fun K hK => ?zr3) AllReadyH.nil
        rw [if_pos (by rfl)]
        go_simp
        refine hK.out _ _ ⟨(show Blk ((((((((((v4.setCell ⟨g_R, 0, none⟩ (.int .i64 (e + 1))).setCell ⟨g_R, 1, none⟩ (.bool m.u)).setCell ⟨g_R, 2, none⟩ (.int .u64 (n64 m.k))).setCell ⟨g_R, 3, none⟩ (.int .u64 (n64 m.l))).setCell ⟨g_R, 4, none⟩ (.slice a m.rs.length c)).setCell ⟨g_R, 5, none⟩ (.bool p.u)).setCell ⟨g_R, 6, none⟩ (.int .u64 (n64 p.k))).setCell ⟨g_R, 7, none⟩ (.int .u64 (n64 p.l))).setCell ⟨g_R, 8, none⟩ (.slice b p.rs.length d)).setCell ⟨g_R, 9, none⟩ (.bool true)) g_K [.int .i64 e, .bool p.u, .int .u64 (n64 p.k), .int .u64 (n64 p.l), .slice p.a p.rs.length p.c, .bool q.u, .int .u64 (n64 q.k), .int .u64 (n64 q.l), .slice q.a q.rs.length q.c, .bool t] from ((((((((((KK4.out.setOther ⟨g_R, 0, none⟩ (.int .i64 (e + 1)) (n_K_R)).setOther ⟨g_R, 1, none⟩ (.bool m.u) (n_K_R)).setOther ⟨g_R, 2, none⟩ (.int .u64 (n64 m.k)) (n_K_R)).setOther ⟨g_R, 3, none⟩ (.int .u64 (n64 m.l)) (n_K_R)).setOther ⟨g_R, 4, none⟩ (.slice a m.rs.length c) (n_K_R)).setOther ⟨g_R, 5, none⟩ (.bool p.u) (n_K_R)).setOther ⟨g_R, 6, none⟩ (.int .u64 (n64 p.k)) (n_K_R)).setOther ⟨g_R, 7, none⟩ (.int .u64 (n64 p.l)) (n_K_R)).setOther ⟨g_R, 8, none⟩ (.slice b p.rs.length d) (n_K_R)).setOther ⟨g_R, 9, none⟩ (.bool true) (n_K_R))), (show Blk ((((((((((v4.setCell ⟨g_R, 0, none⟩ (.int .i64 (e + 1))).setCell ⟨g_R, 1, none⟩ (.bool m.u)).setCell ⟨g_R, 2, none⟩ (.int .u64 (n64 m.k))).setCell ⟨g_R, 3, none⟩ (.int .u64 (n64 m.l))).setCell ⟨g_R, 4, none⟩ (.slice a m.rs.length c)).setCell ⟨g_R, 5, none⟩ (.bool p.u)).setCell ⟨g_R, 6, none⟩ (.int .u64 (n64 p.k))).setCell ⟨g_R, 7, none⟩ (.int .u64 (n64 p.l))).setCell ⟨g_R, 8, none⟩ (.slice b p.rs.length d)).setCell ⟨g_R, 9, none⟩ (.bool true)) g_M [.bool m.u, .int .u64 (n64 m.k), .int .u64 (n64 m.l), .slice m.a m.rs.length m.c] from ((((((((((KM4.out.setOther ⟨g_R, 0, none⟩ (.int .i64 (e + 1)) (n_M_R)).setOther ⟨g_R, 1, none⟩ (.bool m.u) (n_M_R)).setOther ⟨g_R, 2, none⟩ (.int .u64 (n64 m.k)) (n_M_R)).setOther ⟨g_R, 3, none⟩ (.int .u64 (n64 m.l)) (n_M_R)).setOther ⟨g_R, 4, none⟩ (.slice a m.rs.length c) (n_M_R)).setOther ⟨g_R, 5, none⟩ (.bool p.u) (n_M_R)).setOther ⟨g_R, 6, none⟩ (.int .u64 (n64 p.k)) (n_M_R)).setOther ⟨g_R, 7, none⟩ (.int .u64 (n64 p.l)) (n_M_R)).setOther ⟨g_R, 8, none⟩ (.slice b p.rs.length d) (n_M_R)).setOther ⟨g_R, 9, none⟩ (.bool true) (n_M_R)))⟩ (fun hS => ?_)
        clear hK K hS
        refine wpAnyH_done (by kernel_rfl) ?_ _
        refine NoPanic.normal ?_
        go_wp2_with fail
        refine bodyPost_ret (v := .agg #[.int .i64 (e + 1), .bool m.u, .int .u64 (n64 m.k), .int .u64 (n64 m.l), .slice a m.rs.length c, .bool p.u, .int .u64 (n64 p.k), .int .u64 (n64 p.l), .slice b p.rs.length d, .bool true]) (by simp [results, Try.results21, go_sem, cR0, cR1, cR2, cR3, cR4, cR5, cR6, cR7, cR8, cR9]) rfl ⟨a, c, b, d, rfl, own_down (own_set (own_set (own_set (own_set (own_set (own_set (own_set (own_set (own_set (own_set O1'.out _ _ lR1 _) _ _ lR1 _) _ _ lR1 _) _ _ lR1 _) _ _ lR1 _) _ _ lR1 _) _ _ lR1 _) _ _ lR1 _) _ _ lR1 _) _ _ lR1 _) hz1, own_down (own_set (own_set (own_set (own_set (own_set (own_set (own_set (own_set (own_set (own_set O2.out _ _ lR2 _) _ _ lR2 _) _ _ lR2 _) _ _ lR2 _) _ _ lR2 _) _ _ lR2 _) _ _ lR2 _) _ _ lR2 _) _ _ lR2 _) _ _ lR2 _) hz2, hn1, hn2, ?_, ((((((((((((((((((((B4.out).setCell l_R _)).setCell l_R _)).setCell l_R _)).setCell l_R _)).setCell l_R _)).setCell l_R _)).setCell l_R _)).setCell l_R _)).setCell l_R _)).setCell l_R _)⟩
        intro g h hg hh; subst hg hh; have h1 := (O1.out.lt g rfl).2; have h2 := (O2.out.lt h rfl).1; omega
      · obtain rfl : e = 4294967295 := by simpa using he
        rw [RotI.no (by unfold rotOk; rw [h1, h2]; rfl)]
        clear h1 h2 he
        go_enter Try.func21, Try.ntmps21
        have B0 := Lib.hid (show Below w.heap.size w (((w.alloc (.cells #[.int .i64 4294967295, .bool p.u, .int .u64 (n64 p.k), .int .u64 (n64 p.l), .slice p.a p.rs.length p.c, .bool q.u, .int .u64 (n64 q.k), .int .u64 (n64 q.l), .slice q.a q.rs.length q.c, .bool t] 29)).alloc (.cells #[.bool m.u, .int .u64 (n64 m.k), .int .u64 (n64 m.l), .slice m.a m.rs.length m.c] 27)).alloc (.cells #[.int .i64 0, .bool false, .int .u64 0, .int .u64 0, .slice none 0 0, .bool false, .int .u64 0, .int .u64 0, .slice none 0 0, .bool false] 29)) from ((((Below.refl _ w).alloc (by simp) _).alloc (by simp) _).alloc (by simp; omega) _))
        have KK0 := Lib.hid (show Blk (((w.alloc (.cells #[.int .i64 4294967295, .bool p.u, .int .u64 (n64 p.k), .int .u64 (n64 p.l), .slice p.a p.rs.length p.c, .bool q.u, .int .u64 (n64 q.k), .int .u64 (n64 q.l), .slice q.a q.rs.length q.c, .bool t] 29)).alloc (.cells #[.bool m.u, .int .u64 (n64 m.k), .int .u64 (n64 m.l), .slice m.a m.rs.length m.c] 27)).alloc (.cells #[.int .i64 0, .bool false, .int .u64 0, .int .u64 0, .slice none 0 0, .bool false, .int .u64 0, .int .u64 0, .slice none 0 0, .bool false] 29)) (w.heap.size) [.int .i64 4294967295, .bool p.u, .int .u64 (n64 p.k), .int .u64 (n64 p.l), .slice p.a p.rs.length p.c, .bool q.u, .int .u64 (n64 q.k), .int .u64 (n64 q.l), .slice q.a q.rs.length q.c, .bool t] from ((Blk.new w [.int .i64 4294967295, .bool p.u, .int .u64 (n64 p.k), .int .u64 (n64 p.l), .slice p.a p.rs.length p.c, .bool q.u, .int .u64 (n64 q.k), .int .u64 (n64 q.l), .slice q.a q.rs.length q.c, .bool t] 29).alloc (.cells #[.bool m.u, .int .u64 (n64 m.k), .int .u64 (n64 m.l), .slice m.a m.rs.length m.c] 27)).alloc (.cells #[.int .i64 0, .bool false, .int .u64 0, .int .u64 0, .slice none 0 0, .bool false, .int .u64 0, .int .u64 0, .slice none 0 0, .bool false] 29))
        have s1 : (w.alloc (.cells #[.int .i64 4294967295, .bool p.u, .int .u64 (n64 p.k), .int .u64 (n64 p.l), .slice p.a p.rs.length p.c, .bool q.u, .int .u64 (n64 q.k), .int .u64 (n64 q.l), .slice q.a q.rs.length q.c, .bool t] 29)).heap.size = w.heap.size + 1 := by simp
        have KM0 := Lib.hid (show Blk (((w.alloc (.cells #[.int .i64 4294967295, .bool p.u, .int .u64 (n64 p.k), .int .u64 (n64 p.l), .slice p.a p.rs.length p.c, .bool q.u, .int .u64 (n64 q.k), .int .u64 (n64 q.l), .slice q.a q.rs.length q.c, .bool t] 29)).alloc (.cells #[.bool m.u, .int .u64 (n64 m.k), .int .u64 (n64 m.l), .slice m.a m.rs.length m.c] 27)).alloc (.cells #[.int .i64 0, .bool false, .int .u64 0, .int .u64 0, .slice none 0 0, .bool false, .int .u64 0, .int .u64 0, .slice none 0 0, .bool false] 29)) (w.heap.size + 1) [.bool m.u, .int .u64 (n64 m.k), .int .u64 (n64 m.l), .slice m.a m.rs.length m.c] by have h0 := (Blk.new (w.alloc (.cells #[.int .i64 4294967295, .bool p.u, .int .u64 (n64 p.k), .int .u64 (n64 p.l), .slice p.a p.rs.length p.c, .bool q.u, .int .u64 (n64 q.k), .int .u64 (n64 q.l), .slice q.a q.rs.length q.c, .bool t] 29)) [.bool m.u, .int .u64 (n64 m.k), .int .u64 (n64 m.l), .slice m.a m.rs.length m.c] 27).alloc (.cells #[.int .i64 0, .bool false, .int .u64 0, .int .u64 0, .slice none 0 0, .bool false, .int .u64 0, .int .u64 0, .slice none 0 0, .bool false] 29); rwa [s1] at h0)
        have n_K_M : w.heap.size ≠ w.heap.size + 1 := by omega
        have s2 : ((w.alloc (.cells #[.int .i64 4294967295, .bool p.u, .int .u64 (n64 p.k), .int .u64 (n64 p.l), .slice p.a p.rs.length p.c, .bool q.u, .int .u64 (n64 q.k), .int .u64 (n64 q.l), .slice q.a q.rs.length q.c, .bool t] 29)).alloc (.cells #[.bool m.u, .int .u64 (n64 m.k), .int .u64 (n64 m.l), .slice m.a m.rs.length m.c] 27)).heap.size = w.heap.size + 1 + 1 := by simp
        have KR0 := Lib.hid (show Blk (((w.alloc (.cells #[.int .i64 4294967295, .bool p.u, .int .u64 (n64 p.k), .int .u64 (n64 p.l), .slice p.a p.rs.length p.c, .bool q.u, .int .u64 (n64 q.k), .int .u64 (n64 q.l), .slice q.a q.rs.length q.c, .bool t] 29)).alloc (.cells #[.bool m.u, .int .u64 (n64 m.k), .int .u64 (n64 m.l), .slice m.a m.rs.length m.c] 27)).alloc (.cells #[.int .i64 0, .bool false, .int .u64 0, .int .u64 0, .slice none 0 0, .bool false, .int .u64 0, .int .u64 0, .slice none 0 0, .bool false] 29)) (w.heap.size + 1 + 1) [.int .i64 0, .bool false, .int .u64 0, .int .u64 0, .slice none 0 0, .bool false, .int .u64 0, .int .u64 0, .slice none 0 0, .bool false] by have h0 := Blk.new ((w.alloc (.cells #[.int .i64 4294967295, .bool p.u, .int .u64 (n64 p.k), .int .u64 (n64 p.l), .slice p.a p.rs.length p.c, .bool q.u, .int .u64 (n64 q.k), .int .u64 (n64 q.l), .slice q.a q.rs.length q.c, .bool t] 29)).alloc (.cells #[.bool m.u, .int .u64 (n64 m.k), .int .u64 (n64 m.l), .slice m.a m.rs.length m.c] 27)) [.int .i64 0, .bool false, .int .u64 0, .int .u64 0, .slice none 0 0, .bool false, .int .u64 0, .int .u64 0, .slice none 0 0, .bool false] 29; rwa [s2] at h0)
        have n_K_R : w.heap.size ≠ w.heap.size + 1 + 1 := by omega
        have n_M_R : w.heap.size + 1 ≠ w.heap.size + 1 + 1 := by omega
        clear s1 s2
        go_wp2_with fail
        change Calls _ _ _ (((w.alloc (.cells #[.int .i64 4294967295, .bool p.u, .int .u64 (n64 p.k), .int .u64 (n64 p.l), .slice p.a p.rs.length p.c, .bool q.u, .int .u64 (n64 q.k), .int .u64 (n64 q.l), .slice q.a q.rs.length q.c, .bool t] 29)).alloc (.cells #[.bool m.u, .int .u64 (n64 m.k), .int .u64 (n64 m.l), .slice m.a m.rs.length m.c] 27)).alloc (.cells #[.int .i64 0, .bool false, .int .u64 0, .int .u64 0, .slice none 0 0, .bool false, .int .u64 0, .int .u64 0, .slice none 0 0, .bool false] 29)) _
        generalize ((w.alloc (.cells #[.int .i64 4294967295, .bool p.u, .int .u64 (n64 p.k), .int .u64 (n64 p.l), .slice p.a p.rs.length p.c, .bool q.u, .int .u64 (n64 q.k), .int .u64 (n64 q.l), .slice q.a q.rs.length q.c, .bool t] 29)).alloc (.cells #[.bool m.u, .int .u64 (n64 m.k), .int .u64 (n64 m.l), .slice m.a m.rs.length m.c] 27)).alloc (.cells #[.int .i64 0, .bool false, .int .u64 0, .int .u64 0, .slice none 0 0, .bool false, .int .u64 0, .int .u64 0, .slice none 0 0, .bool false] 29) = v0 at B0 KK0 KM0 KR0 ⊢
        generalize hh_R : w.heap.size + 1 + 1 = g_R at KR0 n_K_R n_M_R ⊢
        generalize hh_M : w.heap.size + 1 = g_M at KM0 n_K_M n_M_R ⊢
        generalize hh_K : w.heap.size = g_K at KK0 n_K_M n_K_R ⊢
        have l_K : w.heap.size ≤ g_K := by omega
        have l_M : w.heap.size ≤ g_M := by omega
        have l_R : w.heap.size ≤ g_R := by omega
        clear hh_K hh_M hh_R
        refine (C1.out _ (HP.out.below B0.out) (HQ.out.below B0.out)).mono ?_
        rintro e v1 ⟨rfl, hb⟩
        have B1 := Lib.hid (B0.out.trans (hb.mono B0.out.size))
        have KK1 := Lib.hid (KK0.out.below hb)
        have KM1 := Lib.hid (KM0.out.below hb)
        have KR1 := Lib.hid (KR0.out.below hb)
        clear hb B0 KK0 KM0 KR0
        obtain ⟨⟨cK0, cK1, cK2, cK3, cK4, cK5, cK6, cK7, cK8, cK9⟩, dK0, dK1, dK2, dK3, dK4, dK5, dK6, dK7, dK8, dK9⟩ := KK1.out.of10
        obtain ⟨⟨cM0, cM1, cM2, cM3⟩, dM0, dM1, dM2, dM3⟩ := KM1.out.four
        obtain ⟨⟨cR0, cR1, cR2, cR3, cR4, cR5, cR6, cR7, cR8, cR9⟩, dR0, dR1, dR2, dR3, dR4, dR5, dR6, dR7, dR8, dR9⟩ := KR1.out.of10
        go_wp2_with fail
        clear cK0 cK1 cK2 cK3 cK4 cK5 cK6 cK7 cK8 cK9 dK0 dK1 dK2 dK3 dK4 dK5 dK6 dK7 dK8 dK9 cM0 cM1 cM2 cM3 dM0 dM1 dM2 dM3 cR0 cR1 cR2 cR3 cR4 cR5 cR6 cR7 cR8 cR9 dR0 dR1 dR2 dR3 dR4 dR5 dR6 dR7 dR8 dR9
        refine (C2.out _ (HM.out.below B1.out)).mono ?_
        rintro e v2 ⟨rfl, hb⟩
        have B2 := Lib.hid (B1.out.trans (hb.mono B1.out.size))
        have KK2 := Lib.hid (KK1.out.below hb)
        have KM2 := Lib.hid (KM1.out.below hb)
        have KR2 := Lib.hid (KR1.out.below hb)
        clear hb B1 KK1 KM1 KR1
        obtain ⟨⟨cK0, cK1, cK2, cK3, cK4, cK5, cK6, cK7, cK8, cK9⟩, dK0, dK1, dK2, dK3, dK4, dK5, dK6, dK7, dK8, dK9⟩ := KK2.out.of10
        obtain ⟨⟨cM0, cM1, cM2, cM3⟩, dM0, dM1, dM2, dM3⟩ := KM2.out.four
        obtain ⟨⟨cR0, cR1, cR2, cR3, cR4, cR5, cR6, cR7, cR8, cR9⟩, dR0, dR1, dR2, dR3, dR4, dR5, dR6, dR7, dR8, dR9⟩ := KR2.out.of10
        go_wp2_with fail
        clear cK0 cK1 cK2 cK3 cK4 cK5 cK6 cK7 cK8 cK9 dK0 dK1 dK2 dK3 dK4 dK5 dK6 dK7 dK8 dK9 cM0 cM1 cM2 cM3 dM0 dM1 dM2 dM3 cR0 cR1 cR2 cR3 cR4 cR5 cR6 cR7 cR8 cR9 dR0 dR1 dR2 dR3 dR4 dR5 dR6 dR7 dR8 dR9
        refine (copyKeysI 4294967295 p q t _ (HP.out.below B2.out) (HQ.out.below B2.out) fp.1 fq.1).mono ?_
        rintro e v3 ⟨a, c, b, d, rfl, ho1, ho2, hn1, hn2, hd, hb⟩
        have O1 := Lib.hid ho1
        have O2 := Lib.hid ho2
        clear ho1 ho2
        have hz := B2.out.size
        have lR := KR2.out.lt
        have B3 := Lib.hid (B2.out.trans (hb.mono B2.out.size))
        have KK3 := Lib.hid (KK2.out.below hb)
        have KM3 := Lib.hid (KM2.out.below hb)
        have KR3 := Lib.hid (KR2.out.below hb)
        clear hb B2 KK2 KM2 KR2
        obtain ⟨⟨cK0, cK1, cK2, cK3, cK4, cK5, cK6, cK7, cK8, cK9⟩, dK0, dK1, dK2, dK3, dK4, dK5, dK6, dK7, dK8, dK9⟩ := KK3.out.of10
        obtain ⟨⟨cM0, cM1, cM2, cM3⟩, dM0, dM1, dM2, dM3⟩ := KM3.out.four
        obtain ⟨⟨cR0, cR1, cR2, cR3, cR4, cR5, cR6, cR7, cR8, cR9⟩, dR0, dR1, dR2, dR3, dR4, dR5, dR6, dR7, dR8, dR9⟩ := KR3.out.of10
        go_wp2_with fail
        refine bodyPost_ret (v := .agg #[.int .i64 4294967295, .bool p.u, .int .u64 (n64 p.k), .int .u64 (n64 p.l), .slice a p.rs.length c, .bool q.u, .int .u64 (n64 q.k), .int .u64 (n64 q.l), .slice b q.rs.length d, .bool t]) (by simp [results, Try.results21, go_sem, cR0, cR1, cR2, cR3, cR4, cR5, cR6, cR7, cR8, cR9]) rfl ⟨a, c, b, d, rfl, own_down (own_set (own_set (own_set (own_set (own_set (own_set (own_set (own_set (own_set (own_set O1.out _ _ lR _) _ _ lR _) _ _ lR _) _ _ lR _) _ _ lR _) _ _ lR _) _ _ lR _) _ _ lR _) _ _ lR _) _ _ lR _) hz, own_down (own_set (own_set (own_set (own_set (own_set (own_set (own_set (own_set (own_set (own_set O2.out _ _ lR _) _ _ lR _) _ _ lR _) _ _ lR _) _ _ lR _) _ _ lR _) _ _ lR _) _ _ lR _) _ _ lR _) _ _ lR _) hz, hn1, hn2, hd, ((((((((((((((((((((B3.out).setCell l_R _)).setCell l_R _)).setCell l_R _)).setCell l_R _)).setCell l_R _)).setCell l_R _)).setCell l_R _)).setCell l_R _)).setCell l_R _)).setCell l_R _)⟩

def RotS (e : Int) (p q m : M) (t : Bool) (w : World) (x : Ending) (w' : World) : Prop := if rotOk e p q m t = true then KeysS (e + 1) m p true w x w' else KeysS e p q t w x w'
theorem RotS.no {e : Int} {p q m : M} {t : Bool} {w : World} (h : rotOk e p q m t = false) : RotS e p q m t w = KeysS e p q t w := by
  funext x w'
  unfold RotS
  rw [if_neg (by rw [h]; simp)]
theorem RotS.yes {e : Int} {p q m : M} {t : Bool} {w : World} (h : rotOk e p q m t = true) : RotS e p q m t w = KeysS (e + 1) m p true w := by
  funext x w'
  unfold RotS
  rw [if_pos h]
set_option maxRecDepth 100000 in
set_option maxHeartbeats 4000000 in
theorem rotatedS (e : Int) (p q m : M) (t : Bool) (w : World) (hp : p.On w) (hq : q.On w) (hm : m.On w) (fp : p.Fit) (fq : q.Fit) (fm : m.Fit) :
    Calls Try.prog 41 #[.agg #[.int .i64 e, .bool p.u, .int .u64 (n64 p.k), .int .u64 (n64 p.l), .slice p.a p.rs.length p.c, .bool q.u, .int .u64 (n64 q.k), .int .u64 (n64 q.l), .slice q.a q.rs.length q.c, .bool t], .agg #[.bool m.u, .int .u64 (n64 m.k), .int .u64 (n64 m.l), .slice m.a m.rs.length m.c]] w (RotS e p q m t w) := by
  have HP := Lib.hid hp
  have HQ := Lib.hid hq
  clear hp hq
  have HM := Lib.hid hm
  clear hm
  have C1 := Lib.hid (fun w h1 h2 => keysOkS e p q t w h1 h2 fp fq)
  have C2 := Lib.hid (fun w h => M.macOkS m w h fm)
  obtain ⟨x1, h1⟩ : ∃ x, keysOk e p q t = x := ⟨_, rfl⟩
  obtain ⟨x2, h2⟩ : ∃ x, m.ok = x := ⟨_, rfl⟩
  rw [h1] at C1
  rw [h2] at C2
  cases x1 with
  | false =>
    rw [RotS.no (by unfold rotOk; rw [h1]; rfl)]
    clear h1 h2 C2
    go_enter Try.func41, Try.ntmps41
    have B0 := Lib.hid (show Below w.heap.size w (((w.alloc (.cells #[.int .i64 e, .bool p.u, .int .u64 (n64 p.k), .int .u64 (n64 p.l), .slice p.a p.rs.length p.c, .bool q.u, .int .u64 (n64 q.k), .int .u64 (n64 q.l), .slice q.a q.rs.length q.c, .bool t] 29)).alloc (.cells #[.bool m.u, .int .u64 (n64 m.k), .int .u64 (n64 m.l), .slice m.a m.rs.length m.c] 27)).alloc (.cells #[.int .i64 0, .bool false, .int .u64 0, .int .u64 0, .slice none 0 0, .bool false, .int .u64 0, .int .u64 0, .slice none 0 0, .bool false] 29)) from ((((Below.refl _ w).alloc (by simp) _).alloc (by simp) _).alloc (by simp; omega) _))
    have KK0 := Lib.hid (show Blk (((w.alloc (.cells #[.int .i64 e, .bool p.u, .int .u64 (n64 p.k), .int .u64 (n64 p.l), .slice p.a p.rs.length p.c, .bool q.u, .int .u64 (n64 q.k), .int .u64 (n64 q.l), .slice q.a q.rs.length q.c, .bool t] 29)).alloc (.cells #[.bool m.u, .int .u64 (n64 m.k), .int .u64 (n64 m.l), .slice m.a m.rs.length m.c] 27)).alloc (.cells #[.int .i64 0, .bool false, .int .u64 0, .int .u64 0, .slice none 0 0, .bool false, .int .u64 0, .int .u64 0, .slice none 0 0, .bool false] 29)) (w.heap.size) [.int .i64 e, .bool p.u, .int .u64 (n64 p.k), .int .u64 (n64 p.l), .slice p.a p.rs.length p.c, .bool q.u, .int .u64 (n64 q.k), .int .u64 (n64 q.l), .slice q.a q.rs.length q.c, .bool t] from ((Blk.new w [.int .i64 e, .bool p.u, .int .u64 (n64 p.k), .int .u64 (n64 p.l), .slice p.a p.rs.length p.c, .bool q.u, .int .u64 (n64 q.k), .int .u64 (n64 q.l), .slice q.a q.rs.length q.c, .bool t] 29).alloc (.cells #[.bool m.u, .int .u64 (n64 m.k), .int .u64 (n64 m.l), .slice m.a m.rs.length m.c] 27)).alloc (.cells #[.int .i64 0, .bool false, .int .u64 0, .int .u64 0, .slice none 0 0, .bool false, .int .u64 0, .int .u64 0, .slice none 0 0, .bool false] 29))
    have s1 : (w.alloc (.cells #[.int .i64 e, .bool p.u, .int .u64 (n64 p.k), .int .u64 (n64 p.l), .slice p.a p.rs.length p.c, .bool q.u, .int .u64 (n64 q.k), .int .u64 (n64 q.l), .slice q.a q.rs.length q.c, .bool t] 29)).heap.size = w.heap.size + 1 := by simp
    have KM0 := Lib.hid (show Blk (((w.alloc (.cells #[.int .i64 e, .bool p.u, .int .u64 (n64 p.k), .int .u64 (n64 p.l), .slice p.a p.rs.length p.c, .bool q.u, .int .u64 (n64 q.k), .int .u64 (n64 q.l), .slice q.a q.rs.length q.c, .bool t] 29)).alloc (.cells #[.bool m.u, .int .u64 (n64 m.k), .int .u64 (n64 m.l), .slice m.a m.rs.length m.c] 27)).alloc (.cells #[.int .i64 0, .bool false, .int .u64 0, .int .u64 0, .slice none 0 0, .bool false, .int .u64 0, .int .u64 0, .slice none 0 0, .bool false] 29)) (w.heap.size + 1) [.bool m.u, .int .u64 (n64 m.k), .int .u64 (n64 m.l), .slice m.a m.rs.length m.c] by have h0 := (Blk.new (w.alloc (.cells #[.int .i64 e, .bool p.u, .int .u64 (n64 p.k), .int .u64 (n64 p.l), .slice p.a p.rs.length p.c, .bool q.u, .int .u64 (n64 q.k), .int .u64 (n64 q.l), .slice q.a q.rs.length q.c, .bool t] 29)) [.bool m.u, .int .u64 (n64 m.k), .int .u64 (n64 m.l), .slice m.a m.rs.length m.c] 27).alloc (.cells #[.int .i64 0, .bool false, .int .u64 0, .int .u64 0, .slice none 0 0, .bool false, .int .u64 0, .int .u64 0, .slice none 0 0, .bool false] 29); rwa [s1] at h0)
    have n_K_M : w.heap.size ≠ w.heap.size + 1 := by omega
    have s2 : ((w.alloc (.cells #[.int .i64 e, .bool p.u, .int .u64 (n64 p.k), .int .u64 (n64 p.l), .slice p.a p.rs.length p.c, .bool q.u, .int .u64 (n64 q.k), .int .u64 (n64 q.l), .slice q.a q.rs.length q.c, .bool t] 29)).alloc (.cells #[.bool m.u, .int .u64 (n64 m.k), .int .u64 (n64 m.l), .slice m.a m.rs.length m.c] 27)).heap.size = w.heap.size + 1 + 1 := by simp
    have KR0 := Lib.hid (show Blk (((w.alloc (.cells #[.int .i64 e, .bool p.u, .int .u64 (n64 p.k), .int .u64 (n64 p.l), .slice p.a p.rs.length p.c, .bool q.u, .int .u64 (n64 q.k), .int .u64 (n64 q.l), .slice q.a q.rs.length q.c, .bool t] 29)).alloc (.cells #[.bool m.u, .int .u64 (n64 m.k), .int .u64 (n64 m.l), .slice m.a m.rs.length m.c] 27)).alloc (.cells #[.int .i64 0, .bool false, .int .u64 0, .int .u64 0, .slice none 0 0, .bool false, .int .u64 0, .int .u64 0, .slice none 0 0, .bool false] 29)) (w.heap.size + 1 + 1) [.int .i64 0, .bool false, .int .u64 0, .int .u64 0, .slice none 0 0, .bool false, .int .u64 0, .int .u64 0, .slice none 0 0, .bool false] by have h0 := Blk.new ((w.alloc (.cells #[.int .i64 e, .bool p.u, .int .u64 (n64 p.k), .int .u64 (n64 p.l), .slice p.a p.rs.length p.c, .bool q.u, .int .u64 (n64 q.k), .int .u64 (n64 q.l), .slice q.a q.rs.length q.c, .bool t] 29)).alloc (.cells #[.bool m.u, .int .u64 (n64 m.k), .int .u64 (n64 m.l), .slice m.a m.rs.length m.c] 27)) [.int .i64 0, .bool false, .int .u64 0, .int .u64 0, .slice none 0 0, .bool false, .int .u64 0, .int .u64 0, .slice none 0 0, .bool false] 29; rwa [s2] at h0)
    have n_K_R : w.heap.size ≠ w.heap.size + 1 + 1 := by omega
    have n_M_R : w.heap.size + 1 ≠ w.heap.size + 1 + 1 := by omega
    clear s1 s2
    go_wp2_with fail
    change Calls _ _ _ (((w.alloc (.cells #[.int .i64 e, .bool p.u, .int .u64 (n64 p.k), .int .u64 (n64 p.l), .slice p.a p.rs.length p.c, .bool q.u, .int .u64 (n64 q.k), .int .u64 (n64 q.l), .slice q.a q.rs.length q.c, .bool t] 29)).alloc (.cells #[.bool m.u, .int .u64 (n64 m.k), .int .u64 (n64 m.l), .slice m.a m.rs.length m.c] 27)).alloc (.cells #[.int .i64 0, .bool false, .int .u64 0, .int .u64 0, .slice none 0 0, .bool false, .int .u64 0, .int .u64 0, .slice none 0 0, .bool false] 29)) _
    generalize ((w.alloc (.cells #[.int .i64 e, .bool p.u, .int .u64 (n64 p.k), .int .u64 (n64 p.l), .slice p.a p.rs.length p.c, .bool q.u, .int .u64 (n64 q.k), .int .u64 (n64 q.l), .slice q.a q.rs.length q.c, .bool t] 29)).alloc (.cells #[.bool m.u, .int .u64 (n64 m.k), .int .u64 (n64 m.l), .slice m.a m.rs.length m.c] 27)).alloc (.cells #[.int .i64 0, .bool false, .int .u64 0, .int .u64 0, .slice none 0 0, .bool false, .int .u64 0, .int .u64 0, .slice none 0 0, .bool false] 29) = v0 at B0 KK0 KM0 KR0 ⊢
    generalize hh_R : w.heap.size + 1 + 1 = g_R at KR0 n_K_R n_M_R ⊢
    generalize hh_M : w.heap.size + 1 = g_M at KM0 n_K_M n_M_R ⊢
    generalize hh_K : w.heap.size = g_K at KK0 n_K_M n_K_R ⊢
    have l_K : w.heap.size ≤ g_K := by omega
    have l_M : w.heap.size ≤ g_M := by omega
    have l_R : w.heap.size ≤ g_R := by omega
    clear hh_K hh_M hh_R
    refine (copyKeysS e p q t _ (HP.out.below B0.out) (HQ.out.below B0.out) fp.1 fq.1).mono ?_
    rintro e v1 ⟨g_a, c_a, g_b, c_b, rfl, ho_a, ho_b, n_a_b, hb⟩
    have n_K_a : g_K ≠ g_a := by have h1 := KK0.out.lt; have h2 := (ho_a.lt g_a rfl).1; omega
    have n_M_a : g_M ≠ g_a := by have h1 := KM0.out.lt; have h2 := (ho_a.lt g_a rfl).1; omega
    have n_R_a : g_R ≠ g_a := by have h1 := KR0.out.lt; have h2 := (ho_a.lt g_a rfl).1; omega
    have l_a : w.heap.size ≤ g_a := Nat.le_trans B0.out.size (ho_a.lt g_a rfl).1
    have n_K_b : g_K ≠ g_b := by have h1 := KK0.out.lt; have h2 := (ho_b.lt g_b rfl).1; omega
    have n_M_b : g_M ≠ g_b := by have h1 := KM0.out.lt; have h2 := (ho_b.lt g_b rfl).1; omega
    have n_R_b : g_R ≠ g_b := by have h1 := KR0.out.lt; have h2 := (ho_b.lt g_b rfl).1; omega
    have l_b : w.heap.size ≤ g_b := Nat.le_trans B0.out.size (ho_b.lt g_b rfl).1
    have B1 := Lib.hid (B0.out.trans (hb.mono B0.out.size))
    have KK1 := Lib.hid (KK0.out.below hb)
    have KM1 := Lib.hid (KM0.out.below hb)
    have KR1 := Lib.hid (KR0.out.below hb)
    have Oa1 := Lib.hid (own_down ho_a (Nat.zero_le _))
    have Ob1 := Lib.hid (own_down ho_b (Nat.zero_le _))
    clear hb B0 KK0 KM0 KR0 ho_a ho_b
    have KOn := Lib.hid (Blk.new v1 [.int .i64 e, .bool p.u, .int .u64 (n64 p.k), .int .u64 (n64 p.l), .slice (some ⟨g_a, 0, none⟩) p.rs.length c_a, .bool q.u, .int .u64 (n64 q.k), .int .u64 (n64 q.l), .slice (some ⟨g_b, 0, none⟩) q.rs.length c_b, .bool t] 29)
    have n_K_O : g_K ≠ v1.heap.size := by have h1 := KK1.out.lt; omega
    have n_M_O : g_M ≠ v1.heap.size := by have h1 := KM1.out.lt; omega
    have n_R_O : g_R ≠ v1.heap.size := by have h1 := KR1.out.lt; omega
    have n_a_O : g_a ≠ v1.heap.size := by have h1 := (Oa1.out.lt g_a rfl).2; omega
    have n_b_O : g_b ≠ v1.heap.size := by have h1 := (Ob1.out.lt g_b rfl).2; omega
    have Bn := Lib.hid (B1.out.alloc B1.out.size (.cells #[.int .i64 e, .bool p.u, .int .u64 (n64 p.k), .int .u64 (n64 p.l), .slice (some ⟨g_a, 0, none⟩) p.rs.length c_a, .bool q.u, .int .u64 (n64 q.k), .int .u64 (n64 q.l), .slice (some ⟨g_b, 0, none⟩) q.rs.length c_b, .bool t] 29))
    have KKn := Lib.hid (KK1.out.alloc (.cells #[.int .i64 e, .bool p.u, .int .u64 (n64 p.k), .int .u64 (n64 p.l), .slice (some ⟨g_a, 0, none⟩) p.rs.length c_a, .bool q.u, .int .u64 (n64 q.k), .int .u64 (n64 q.l), .slice (some ⟨g_b, 0, none⟩) q.rs.length c_b, .bool t] 29))
    have KMn := Lib.hid (KM1.out.alloc (.cells #[.int .i64 e, .bool p.u, .int .u64 (n64 p.k), .int .u64 (n64 p.l), .slice (some ⟨g_a, 0, none⟩) p.rs.length c_a, .bool q.u, .int .u64 (n64 q.k), .int .u64 (n64 q.l), .slice (some ⟨g_b, 0, none⟩) q.rs.length c_b, .bool t] 29))
    have KRn := Lib.hid (KR1.out.alloc (.cells #[.int .i64 e, .bool p.u, .int .u64 (n64 p.k), .int .u64 (n64 p.l), .slice (some ⟨g_a, 0, none⟩) p.rs.length c_a, .bool q.u, .int .u64 (n64 q.k), .int .u64 (n64 q.l), .slice (some ⟨g_b, 0, none⟩) q.rs.length c_b, .bool t] 29))
    have Oan := Lib.hid (Oa1.out.alloc (.cells #[.int .i64 e, .bool p.u, .int .u64 (n64 p.k), .int .u64 (n64 p.l), .slice (some ⟨g_a, 0, none⟩) p.rs.length c_a, .bool q.u, .int .u64 (n64 q.k), .int .u64 (n64 q.l), .slice (some ⟨g_b, 0, none⟩) q.rs.length c_b, .bool t] 29))
    have Obn := Lib.hid (Ob1.out.alloc (.cells #[.int .i64 e, .bool p.u, .int .u64 (n64 p.k), .int .u64 (n64 p.l), .slice (some ⟨g_a, 0, none⟩) p.rs.length c_a, .bool q.u, .int .u64 (n64 q.k), .int .u64 (n64 q.l), .slice (some ⟨g_b, 0, none⟩) q.rs.length c_b, .bool t] 29))
    clear B1 KK1 KM1 KR1 Oa1 Ob1
    obtain ⟨⟨cK0, cK1, cK2, cK3, cK4, cK5, cK6, cK7, cK8, cK9⟩, dK0, dK1, dK2, dK3, dK4, dK5, dK6, dK7, dK8, dK9⟩ := KKn.out.of10
    obtain ⟨⟨cM0, cM1, cM2, cM3⟩, dM0, dM1, dM2, dM3⟩ := KMn.out.four
    obtain ⟨⟨cR0, cR1, cR2, cR3, cR4, cR5, cR6, cR7, cR8, cR9⟩, dR0, dR1, dR2, dR3, dR4, dR5, dR6, dR7, dR8, dR9⟩ := KRn.out.of10
    go_wp2_with fail
    clear cK0 cK1 cK2 cK3 cK4 cK5 cK6 cK7 cK8 cK9 dK0 dK1 dK2 dK3 dK4 dK5 dK6 dK7 dK8 dK9 cM0 cM1 cM2 cM3 dM0 dM1 dM2 dM3 cR0 cR1 cR2 cR3 cR4 cR5 cR6 cR7 cR8 cR9 dR0 dR1 dR2 dR3 dR4 dR5 dR6 dR7 dR8 dR9
    change Calls _ _ _ (v1.alloc (.cells #[.int .i64 e, .bool p.u, .int .u64 (n64 p.k), .int .u64 (n64 p.l), .slice (some ⟨g_a, 0, none⟩) p.rs.length c_a, .bool q.u, .int .u64 (n64 q.k), .int .u64 (n64 q.l), .slice (some ⟨g_b, 0, none⟩) q.rs.length c_b, .bool t] 29)) _
    generalize v1.alloc (.cells #[.int .i64 e, .bool p.u, .int .u64 (n64 p.k), .int .u64 (n64 p.l), .slice (some ⟨g_a, 0, none⟩) p.rs.length c_a, .bool q.u, .int .u64 (n64 q.k), .int .u64 (n64 q.l), .slice (some ⟨g_b, 0, none⟩) q.rs.length c_b, .bool t] 29) = v2 at KOn Bn KKn KMn KRn Oan Obn ⊢
    generalize v1.heap.size = g_O at KOn n_K_O n_M_O n_R_O n_a_O n_b_O ⊢
    clear v1
    have KK2 := KKn
    clear KKn
    have KM2 := KMn
    clear KMn
    have KR2 := KRn
    clear KRn
    have KO2 := KOn
    clear KOn
    have Oa2 := Oan
    clear Oan
    have Ob2 := Obn
    clear Obn
    have B2 := Bn
    clear Bn
    refine (C1.out _ (HP.out.below B2.out) (HQ.out.below B2.out)).mono ?_
    rintro e v3 ⟨rfl, hb⟩
    have B3 := Lib.hid (B2.out.trans (hb.mono B2.out.size))
    have KK3 := Lib.hid (KK2.out.below hb)
    have KM3 := Lib.hid (KM2.out.below hb)
    have KR3 := Lib.hid (KR2.out.below hb)
    have KO3 := Lib.hid (KO2.out.below hb)
    have Oa3 := Lib.hid (Oa2.out.kept (below_any (row := none) hb) (.inr (by simp [Value.ownBlock])))
    have Ob3 := Lib.hid (Ob2.out.kept (below_any (row := none) hb) (.inr (by simp [Value.ownBlock])))
    clear hb B2 KK2 KM2 KR2 KO2 Oa2 Ob2
    obtain ⟨⟨cK0, cK1, cK2, cK3, cK4, cK5, cK6, cK7, cK8, cK9⟩, dK0, dK1, dK2, dK3, dK4, dK5, dK6, dK7, dK8, dK9⟩ := KK3.out.of10
    obtain ⟨⟨cM0, cM1, cM2, cM3⟩, dM0, dM1, dM2, dM3⟩ := KM3.out.four
    obtain ⟨⟨cR0, cR1, cR2, cR3, cR4, cR5, cR6, cR7, cR8, cR9⟩, dR0, dR1, dR2, dR3, dR4, dR5, dR6, dR7, dR8, dR9⟩ := KR3.out.of10
    obtain ⟨⟨cO0, cO1, cO2, cO3, cO4, cO5, cO6, cO7, cO8, cO9⟩, dO0, dO1, dO2, dO3, dO4, dO5, dO6, dO7, dO8, dO9⟩ := KO3.out.of10
    go_wp2_with fail
    refine bodyPost_ret (v := .agg #[.int .i64 e, .bool p.u, .int .u64 (n64 p.k), .int .u64 (n64 p.l), .slice (some ⟨g_a, 0, none⟩) p.rs.length c_a, .bool q.u, .int .u64 (n64 q.k), .int .u64 (n64 q.l), .slice (some ⟨g_b, 0, none⟩) q.rs.length c_b, .bool t]) (by simp [results, Try.results41, go_sem, cR0, cR1, cR2, cR3, cR4, cR5, cR6, cR7, cR8, cR9]) rfl ⟨g_a, c_a, g_b, c_b, rfl, own_up (own_set' (own_set' (own_set' (own_set' (own_set' (own_set' (own_set' (own_set' (own_set' (own_set' Oa3.out _ _ (n_R_a)) _ _ (n_R_a)) _ _ (n_R_a)) _ _ (n_R_a)) _ _ (n_R_a)) _ _ (n_R_a)) _ _ (n_R_a)) _ _ (n_R_a)) _ _ (n_R_a)) _ _ (n_R_a)) l_a, own_up (own_set' (own_set' (own_set' (own_set' (own_set' (own_set' (own_set' (own_set' (own_set' (own_set' Ob3.out _ _ (n_R_b)) _ _ (n_R_b)) _ _ (n_R_b)) _ _ (n_R_b)) _ _ (n_R_b)) _ _ (n_R_b)) _ _ (n_R_b)) _ _ (n_R_b)) _ _ (n_R_b)) _ _ (n_R_b)) l_b, n_a_b, ((((((((((((((((((((B3.out).setCell l_R _)).setCell l_R _)).setCell l_R _)).setCell l_R _)).setCell l_R _)).setCell l_R _)).setCell l_R _)).setCell l_R _)).setCell l_R _)).setCell l_R _)⟩
  | true =>
    obtain ⟨e0, e1⟩ := (keysOk_all h1).1
    cases x2 with
    | false =>
      rw [RotS.no (by unfold rotOk; rw [h1, h2]; rfl)]
      clear h1 h2
      go_enter Try.func41, Try.ntmps41
      have B0 := Lib.hid (show Below w.heap.size w (((w.alloc (.cells #[.int .i64 e, .bool p.u, .int .u64 (n64 p.k), .int .u64 (n64 p.l), .slice p.a p.rs.length p.c, .bool q.u, .int .u64 (n64 q.k), .int .u64 (n64 q.l), .slice q.a q.rs.length q.c, .bool t] 29)).alloc (.cells #[.bool m.u, .int .u64 (n64 m.k), .int .u64 (n64 m.l), .slice m.a m.rs.length m.c] 27)).alloc (.cells #[.int .i64 0, .bool false, .int .u64 0, .int .u64 0, .slice none 0 0, .bool false, .int .u64 0, .int .u64 0, .slice none 0 0, .bool false] 29)) from ((((Below.refl _ w).alloc (by simp) _).alloc (by simp) _).alloc (by simp; omega) _))
      have KK0 := Lib.hid (show Blk (((w.alloc (.cells #[.int .i64 e, .bool p.u, .int .u64 (n64 p.k), .int .u64 (n64 p.l), .slice p.a p.rs.length p.c, .bool q.u, .int .u64 (n64 q.k), .int .u64 (n64 q.l), .slice q.a q.rs.length q.c, .bool t] 29)).alloc (.cells #[.bool m.u, .int .u64 (n64 m.k), .int .u64 (n64 m.l), .slice m.a m.rs.length m.c] 27)).alloc (.cells #[.int .i64 0, .bool false, .int .u64 0, .int .u64 0, .slice none 0 0, .bool false, .int .u64 0, .int .u64 0, .slice none 0 0, .bool false] 29)) (w.heap.size) [.int .i64 e, .bool p.u, .int .u64 (n64 p.k), .int .u64 (n64 p.l), .slice p.a p.rs.length p.c, .bool q.u, .int .u64 (n64 q.k), .int .u64 (n64 q.l), .slice q.a q.rs.length q.c, .bool t] from ((Blk.new w [.int .i64 e, .bool p.u, .int .u64 (n64 p.k), .int .u64 (n64 p.l), .slice p.a p.rs.length p.c, .bool q.u, .int .u64 (n64 q.k), .int .u64 (n64 q.l), .slice q.a q.rs.length q.c, .bool t] 29).alloc (.cells #[.bool m.u, .int .u64 (n64 m.k), .int .u64 (n64 m.l), .slice m.a m.rs.length m.c] 27)).alloc (.cells #[.int .i64 0, .bool false, .int .u64 0, .int .u64 0, .slice none 0 0, .bool false, .int .u64 0, .int .u64 0, .slice none 0 0, .bool false] 29))
      have s1 : (w.alloc (.cells #[.int .i64 e, .bool p.u, .int .u64 (n64 p.k), .int .u64 (n64 p.l), .slice p.a p.rs.length p.c, .bool q.u, .int .u64 (n64 q.k), .int .u64 (n64 q.l), .slice q.a q.rs.length q.c, .bool t] 29)).heap.size = w.heap.size + 1 := by simp
      have KM0 := Lib.hid (show Blk (((w.alloc (.cells #[.int .i64 e, .bool p.u, .int .u64 (n64 p.k), .int .u64 (n64 p.l), .slice p.a p.rs.length p.c, .bool q.u, .int .u64 (n64 q.k), .int .u64 (n64 q.l), .slice q.a q.rs.length q.c, .bool t] 29)).alloc (.cells #[.bool m.u, .int .u64 (n64 m.k), .int .u64 (n64 m.l), .slice m.a m.rs.length m.c] 27)).alloc (.cells #[.int .i64 0, .bool false, .int .u64 0, .int .u64 0, .slice none 0 0, .bool false, .int .u64 0, .int .u64 0, .slice none 0 0, .bool false] 29)) (w.heap.size + 1) [.bool m.u, .int .u64 (n64 m.k), .int .u64 (n64 m.l), .slice m.a m.rs.length m.c] by have h0 := (Blk.new (w.alloc (.cells #[.int .i64 e, .bool p.u, .int .u64 (n64 p.k), .int .u64 (n64 p.l), .slice p.a p.rs.length p.c, .bool q.u, .int .u64 (n64 q.k), .int .u64 (n64 q.l), .slice q.a q.rs.length q.c, .bool t] 29)) [.bool m.u, .int .u64 (n64 m.k), .int .u64 (n64 m.l), .slice m.a m.rs.length m.c] 27).alloc (.cells #[.int .i64 0, .bool false, .int .u64 0, .int .u64 0, .slice none 0 0, .bool false, .int .u64 0, .int .u64 0, .slice none 0 0, .bool false] 29); rwa [s1] at h0)
      have n_K_M : w.heap.size ≠ w.heap.size + 1 := by omega
      have s2 : ((w.alloc (.cells #[.int .i64 e, .bool p.u, .int .u64 (n64 p.k), .int .u64 (n64 p.l), .slice p.a p.rs.length p.c, .bool q.u, .int .u64 (n64 q.k), .int .u64 (n64 q.l), .slice q.a q.rs.length q.c, .bool t] 29)).alloc (.cells #[.bool m.u, .int .u64 (n64 m.k), .int .u64 (n64 m.l), .slice m.a m.rs.length m.c] 27)).heap.size = w.heap.size + 1 + 1 := by simp
      have KR0 := Lib.hid (show Blk (((w.alloc (.cells #[.int .i64 e, .bool p.u, .int .u64 (n64 p.k), .int .u64 (n64 p.l), .slice p.a p.rs.length p.c, .bool q.u, .int .u64 (n64 q.k), .int .u64 (n64 q.l), .slice q.a q.rs.length q.c, .bool t] 29)).alloc (.cells #[.bool m.u, .int .u64 (n64 m.k), .int .u64 (n64 m.l), .slice m.a m.rs.length m.c] 27)).alloc (.cells #[.int .i64 0, .bool false, .int .u64 0, .int .u64 0, .slice none 0 0, .bool false, .int .u64 0, .int .u64 0, .slice none 0 0, .bool false] 29)) (w.heap.size + 1 + 1) [.int .i64 0, .bool false, .int .u64 0, .int .u64 0, .slice none 0 0, .bool false, .int .u64 0, .int .u64 0, .slice none 0 0, .bool false] by have h0 := Blk.new ((w.alloc (.cells #[.int .i64 e, .bool p.u, .int .u64 (n64 p.k), .int .u64 (n64 p.l), .slice p.a p.rs.length p.c, .bool q.u, .int .u64 (n64 q.k), .int .u64 (n64 q.l), .slice q.a q.rs.length q.c, .bool t] 29)).alloc (.cells #[.bool m.u, .int .u64 (n64 m.k), .int .u64 (n64 m.l), .slice m.a m.rs.length m.c] 27)) [.int .i64 0, .bool false, .int .u64 0, .int .u64 0, .slice none 0 0, .bool false, .int .u64 0, .int .u64 0, .slice none 0 0, .bool false] 29; rwa [s2] at h0)
      have n_K_R : w.heap.size ≠ w.heap.size + 1 + 1 := by omega
      have n_M_R : w.heap.size + 1 ≠ w.heap.size + 1 + 1 := by omega
      clear s1 s2
      go_wp2_with fail
      change Calls _ _ _ (((w.alloc (.cells #[.int .i64 e, .bool p.u, .int .u64 (n64 p.k), .int .u64 (n64 p.l), .slice p.a p.rs.length p.c, .bool q.u, .int .u64 (n64 q.k), .int .u64 (n64 q.l), .slice q.a q.rs.length q.c, .bool t] 29)).alloc (.cells #[.bool m.u, .int .u64 (n64 m.k), .int .u64 (n64 m.l), .slice m.a m.rs.length m.c] 27)).alloc (.cells #[.int .i64 0, .bool false, .int .u64 0, .int .u64 0, .slice none 0 0, .bool false, .int .u64 0, .int .u64 0, .slice none 0 0, .bool false] 29)) _
      generalize ((w.alloc (.cells #[.int .i64 e, .bool p.u, .int .u64 (n64 p.k), .int .u64 (n64 p.l), .slice p.a p.rs.length p.c, .bool q.u, .int .u64 (n64 q.k), .int .u64 (n64 q.l), .slice q.a q.rs.length q.c, .bool t] 29)).alloc (.cells #[.bool m.u, .int .u64 (n64 m.k), .int .u64 (n64 m.l), .slice m.a m.rs.length m.c] 27)).alloc (.cells #[.int .i64 0, .bool false, .int .u64 0, .int .u64 0, .slice none 0 0, .bool false, .int .u64 0, .int .u64 0, .slice none 0 0, .bool false] 29) = v0 at B0 KK0 KM0 KR0 ⊢
      generalize hh_R : w.heap.size + 1 + 1 = g_R at KR0 n_K_R n_M_R ⊢
      generalize hh_M : w.heap.size + 1 = g_M at KM0 n_K_M n_M_R ⊢
      generalize hh_K : w.heap.size = g_K at KK0 n_K_M n_K_R ⊢
      have l_K : w.heap.size ≤ g_K := by omega
      have l_M : w.heap.size ≤ g_M := by omega
      have l_R : w.heap.size ≤ g_R := by omega
      clear hh_K hh_M hh_R
      refine (copyKeysS e p q t _ (HP.out.below B0.out) (HQ.out.below B0.out) fp.1 fq.1).mono ?_
      rintro e v1 ⟨g_a, c_a, g_b, c_b, rfl, ho_a, ho_b, n_a_b, hb⟩
      have n_K_a : g_K ≠ g_a := by have h1 := KK0.out.lt; have h2 := (ho_a.lt g_a rfl).1; omega
      have n_M_a : g_M ≠ g_a := by have h1 := KM0.out.lt; have h2 := (ho_a.lt g_a rfl).1; omega
      have n_R_a : g_R ≠ g_a := by have h1 := KR0.out.lt; have h2 := (ho_a.lt g_a rfl).1; omega
      have l_a : w.heap.size ≤ g_a := Nat.le_trans B0.out.size (ho_a.lt g_a rfl).1
      have n_K_b : g_K ≠ g_b := by have h1 := KK0.out.lt; have h2 := (ho_b.lt g_b rfl).1; omega
      have n_M_b : g_M ≠ g_b := by have h1 := KM0.out.lt; have h2 := (ho_b.lt g_b rfl).1; omega
      have n_R_b : g_R ≠ g_b := by have h1 := KR0.out.lt; have h2 := (ho_b.lt g_b rfl).1; omega
      have l_b : w.heap.size ≤ g_b := Nat.le_trans B0.out.size (ho_b.lt g_b rfl).1
      have B1 := Lib.hid (B0.out.trans (hb.mono B0.out.size))
      have KK1 := Lib.hid (KK0.out.below hb)
      have KM1 := Lib.hid (KM0.out.below hb)
      have KR1 := Lib.hid (KR0.out.below hb)
      have Oa1 := Lib.hid (own_down ho_a (Nat.zero_le _))
      have Ob1 := Lib.hid (own_down ho_b (Nat.zero_le _))
      clear hb B0 KK0 KM0 KR0 ho_a ho_b
      have KOn := Lib.hid (Blk.new v1 [.int .i64 e, .bool p.u, .int .u64 (n64 p.k), .int .u64 (n64 p.l), .slice (some ⟨g_a, 0, none⟩) p.rs.length c_a, .bool q.u, .int .u64 (n64 q.k), .int .u64 (n64 q.l), .slice (some ⟨g_b, 0, none⟩) q.rs.length c_b, .bool t] 29)
      have n_K_O : g_K ≠ v1.heap.size := by have h1 := KK1.out.lt; omega
      have n_M_O : g_M ≠ v1.heap.size := by have h1 := KM1.out.lt; omega
      have n_R_O : g_R ≠ v1.heap.size := by have h1 := KR1.out.lt; omega
      have n_a_O : g_a ≠ v1.heap.size := by have h1 := (Oa1.out.lt g_a rfl).2; omega
      have n_b_O : g_b ≠ v1.heap.size := by have h1 := (Ob1.out.lt g_b rfl).2; omega
      have Bn := Lib.hid (B1.out.alloc B1.out.size (.cells #[.int .i64 e, .bool p.u, .int .u64 (n64 p.k), .int .u64 (n64 p.l), .slice (some ⟨g_a, 0, none⟩) p.rs.length c_a, .bool q.u, .int .u64 (n64 q.k), .int .u64 (n64 q.l), .slice (some ⟨g_b, 0, none⟩) q.rs.length c_b, .bool t] 29))
      have KKn := Lib.hid (KK1.out.alloc (.cells #[.int .i64 e, .bool p.u, .int .u64 (n64 p.k), .int .u64 (n64 p.l), .slice (some ⟨g_a, 0, none⟩) p.rs.length c_a, .bool q.u, .int .u64 (n64 q.k), .int .u64 (n64 q.l), .slice (some ⟨g_b, 0, none⟩) q.rs.length c_b, .bool t] 29))
      have KMn := Lib.hid (KM1.out.alloc (.cells #[.int .i64 e, .bool p.u, .int .u64 (n64 p.k), .int .u64 (n64 p.l), .slice (some ⟨g_a, 0, none⟩) p.rs.length c_a, .bool q.u, .int .u64 (n64 q.k), .int .u64 (n64 q.l), .slice (some ⟨g_b, 0, none⟩) q.rs.length c_b, .bool t] 29))
      have KRn := Lib.hid (KR1.out.alloc (.cells #[.int .i64 e, .bool p.u, .int .u64 (n64 p.k), .int .u64 (n64 p.l), .slice (some ⟨g_a, 0, none⟩) p.rs.length c_a, .bool q.u, .int .u64 (n64 q.k), .int .u64 (n64 q.l), .slice (some ⟨g_b, 0, none⟩) q.rs.length c_b, .bool t] 29))
      have Oan := Lib.hid (Oa1.out.alloc (.cells #[.int .i64 e, .bool p.u, .int .u64 (n64 p.k), .int .u64 (n64 p.l), .slice (some ⟨g_a, 0, none⟩) p.rs.length c_a, .bool q.u, .int .u64 (n64 q.k), .int .u64 (n64 q.l), .slice (some ⟨g_b, 0, none⟩) q.rs.length c_b, .bool t] 29))
      have Obn := Lib.hid (Ob1.out.alloc (.cells #[.int .i64 e, .bool p.u, .int .u64 (n64 p.k), .int .u64 (n64 p.l), .slice (some ⟨g_a, 0, none⟩) p.rs.length c_a, .bool q.u, .int .u64 (n64 q.k), .int .u64 (n64 q.l), .slice (some ⟨g_b, 0, none⟩) q.rs.length c_b, .bool t] 29))
      clear B1 KK1 KM1 KR1 Oa1 Ob1
      obtain ⟨⟨cK0, cK1, cK2, cK3, cK4, cK5, cK6, cK7, cK8, cK9⟩, dK0, dK1, dK2, dK3, dK4, dK5, dK6, dK7, dK8, dK9⟩ := KKn.out.of10
      obtain ⟨⟨cM0, cM1, cM2, cM3⟩, dM0, dM1, dM2, dM3⟩ := KMn.out.four
      obtain ⟨⟨cR0, cR1, cR2, cR3, cR4, cR5, cR6, cR7, cR8, cR9⟩, dR0, dR1, dR2, dR3, dR4, dR5, dR6, dR7, dR8, dR9⟩ := KRn.out.of10
      go_wp2_with fail
      clear cK0 cK1 cK2 cK3 cK4 cK5 cK6 cK7 cK8 cK9 dK0 dK1 dK2 dK3 dK4 dK5 dK6 dK7 dK8 dK9 cM0 cM1 cM2 cM3 dM0 dM1 dM2 dM3 cR0 cR1 cR2 cR3 cR4 cR5 cR6 cR7 cR8 cR9 dR0 dR1 dR2 dR3 dR4 dR5 dR6 dR7 dR8 dR9
      change Calls _ _ _ (v1.alloc (.cells #[.int .i64 e, .bool p.u, .int .u64 (n64 p.k), .int .u64 (n64 p.l), .slice (some ⟨g_a, 0, none⟩) p.rs.length c_a, .bool q.u, .int .u64 (n64 q.k), .int .u64 (n64 q.l), .slice (some ⟨g_b, 0, none⟩) q.rs.length c_b, .bool t] 29)) _
      generalize v1.alloc (.cells #[.int .i64 e, .bool p.u, .int .u64 (n64 p.k), .int .u64 (n64 p.l), .slice (some ⟨g_a, 0, none⟩) p.rs.length c_a, .bool q.u, .int .u64 (n64 q.k), .int .u64 (n64 q.l), .slice (some ⟨g_b, 0, none⟩) q.rs.length c_b, .bool t] 29) = v2 at KOn Bn KKn KMn KRn Oan Obn ⊢
      generalize v1.heap.size = g_O at KOn n_K_O n_M_O n_R_O n_a_O n_b_O ⊢
      clear v1
      have KK2 := KKn
      clear KKn
      have KM2 := KMn
      clear KMn
      have KR2 := KRn
      clear KRn
      have KO2 := KOn
      clear KOn
      have Oa2 := Oan
      clear Oan
      have Ob2 := Obn
      clear Obn
      have B2 := Bn
      clear Bn
      refine (C1.out _ (HP.out.below B2.out) (HQ.out.below B2.out)).mono ?_
      rintro e v3 ⟨rfl, hb⟩
      have B3 := Lib.hid (B2.out.trans (hb.mono B2.out.size))
      have KK3 := Lib.hid (KK2.out.below hb)
      have KM3 := Lib.hid (KM2.out.below hb)
      have KR3 := Lib.hid (KR2.out.below hb)
      have KO3 := Lib.hid (KO2.out.below hb)
      have Oa3 := Lib.hid (Oa2.out.kept (below_any (row := none) hb) (.inr (by simp [Value.ownBlock])))
      have Ob3 := Lib.hid (Ob2.out.kept (below_any (row := none) hb) (.inr (by simp [Value.ownBlock])))
      clear hb B2 KK2 KM2 KR2 KO2 Oa2 Ob2
      obtain ⟨⟨cK0, cK1, cK2, cK3, cK4, cK5, cK6, cK7, cK8, cK9⟩, dK0, dK1, dK2, dK3, dK4, dK5, dK6, dK7, dK8, dK9⟩ := KK3.out.of10
      obtain ⟨⟨cM0, cM1, cM2, cM3⟩, dM0, dM1, dM2, dM3⟩ := KM3.out.four
      obtain ⟨⟨cR0, cR1, cR2, cR3, cR4, cR5, cR6, cR7, cR8, cR9⟩, dR0, dR1, dR2, dR3, dR4, dR5, dR6, dR7, dR8, dR9⟩ := KR3.out.of10
      obtain ⟨⟨cO0, cO1, cO2, cO3, cO4, cO5, cO6, cO7, cO8, cO9⟩, dO0, dO1, dO2, dO3, dO4, dO5, dO6, dO7, dO8, dO9⟩ := KO3.out.of10
      go_wp2_with fail
      clear cK0 cK1 cK2 cK3 cK4 cK5 cK6 cK7 cK8 cK9 dK0 dK1 dK2 dK3 dK4 dK5 dK6 dK7 dK8 dK9 cM0 cM1 cM2 cM3 dM0 dM1 dM2 dM3 cR0 cR1 cR2 cR3 cR4 cR5 cR6 cR7 cR8 cR9 dR0 dR1 dR2 dR3 dR4 dR5 dR6 dR7 dR8 dR9 cO0 cO1 cO2 cO3 cO4 cO5 cO6 cO7 cO8 cO9 dO0 dO1 dO2 dO3 dO4 dO5 dO6 dO7 dO8 dO9
      refine (C2.out _ (HM.out.below B3.out)).mono ?_
      rintro e v4 ⟨rfl, hb⟩
      have B4 := Lib.hid (B3.out.trans (hb.mono B3.out.size))
      have KK4 := Lib.hid (KK3.out.below hb)
      have KM4 := Lib.hid (KM3.out.below hb)
      have KR4 := Lib.hid (KR3.out.below hb)
      have KO4 := Lib.hid (KO3.out.below hb)
      have Oa4 := Lib.hid (Oa3.out.kept (below_any (row := none) hb) (.inr (by simp [Value.ownBlock])))
      have Ob4 := Lib.hid (Ob3.out.kept (below_any (row := none) hb) (.inr (by simp [Value.ownBlock])))
      clear hb B3 KK3 KM3 KR3 KO3 Oa3 Ob3
      obtain ⟨⟨cK0, cK1, cK2, cK3, cK4, cK5, cK6, cK7, cK8, cK9⟩, dK0, dK1, dK2, dK3, dK4, dK5, dK6, dK7, dK8, dK9⟩ := KK4.out.of10
      obtain ⟨⟨cM0, cM1, cM2, cM3⟩, dM0, dM1, dM2, dM3⟩ := KM4.out.four
      obtain ⟨⟨cR0, cR1, cR2, cR3, cR4, cR5, cR6, cR7, cR8, cR9⟩, dR0, dR1, dR2, dR3, dR4, dR5, dR6, dR7, dR8, dR9⟩ := KR4.out.of10
      obtain ⟨⟨cO0, cO1, cO2, cO3, cO4, cO5, cO6, cO7, cO8, cO9⟩, dO0, dO1, dO2, dO3, dO4, dO5, dO6, dO7, dO8, dO9⟩ := KO4.out.of10
      go_wp2_with fail
      refine bodyPost_ret (v := .agg #[.int .i64 e, .bool p.u, .int .u64 (n64 p.k), .int .u64 (n64 p.l), .slice (some ⟨g_a, 0, none⟩) p.rs.length c_a, .bool q.u, .int .u64 (n64 q.k), .int .u64 (n64 q.l), .slice (some ⟨g_b, 0, none⟩) q.rs.length c_b, .bool t]) (by simp [results, Try.results41, go_sem, cR0, cR1, cR2, cR3, cR4, cR5, cR6, cR7, cR8, cR9]) rfl ⟨g_a, c_a, g_b, c_b, rfl, own_up (own_set' (own_set' (own_set' (own_set' (own_set' (own_set' (own_set' (own_set' (own_set' (own_set' Oa4.out _ _ (n_R_a)) _ _ (n_R_a)) _ _ (n_R_a)) _ _ (n_R_a)) _ _ (n_R_a)) _ _ (n_R_a)) _ _ (n_R_a)) _ _ (n_R_a)) _ _ (n_R_a)) _ _ (n_R_a)) l_a, own_up (own_set' (own_set' (own_set' (own_set' (own_set' (own_set' (own_set' (own_set' (own_set' (own_set' Ob4.out _ _ (n_R_b)) _ _ (n_R_b)) _ _ (n_R_b)) _ _ (n_R_b)) _ _ (n_R_b)) _ _ (n_R_b)) _ _ (n_R_b)) _ _ (n_R_b)) _ _ (n_R_b)) _ _ (n_R_b)) l_b, n_a_b, ((((((((((((((((((((B4.out).setCell l_R _)).setCell l_R _)).setCell l_R _)).setCell l_R _)).setCell l_R _)).setCell l_R _)).setCell l_R _)).setCell l_R _)).setCell l_R _)).setCell l_R _)⟩
    | true =>
      by_cases he : (e == 4294967295) = false
      · rw [RotS.yes (by unfold rotOk; rw [h1, h2, he]; rfl)]
        clear h1 h2
        have hw : IntKind.i64.wrap (e + 1) = e + 1 := IntWalk.i64_in _ (by omega)
        go_enter Try.func41, Try.ntmps41
        have B0 := Lib.hid (show Below w.heap.size w (((w.alloc (.cells #[.int .i64 e, .bool p.u, .int .u64 (n64 p.k), .int .u64 (n64 p.l), .slice p.a p.rs.length p.c, .bool q.u, .int .u64 (n64 q.k), .int .u64 (n64 q.l), .slice q.a q.rs.length q.c, .bool t] 29)).alloc (.cells #[.bool m.u, .int .u64 (n64 m.k), .int .u64 (n64 m.l), .slice m.a m.rs.length m.c] 27)).alloc (.cells #[.int .i64 0, .bool false, .int .u64 0, .int .u64 0, .slice none 0 0, .bool false, .int .u64 0, .int .u64 0, .slice none 0 0, .bool false] 29)) from ((((Below.refl _ w).alloc (by simp) _).alloc (by simp) _).alloc (by simp; omega) _))
        have KK0 := Lib.hid (show Blk (((w.alloc (.cells #[.int .i64 e, .bool p.u, .int .u64 (n64 p.k), .int .u64 (n64 p.l), .slice p.a p.rs.length p.c, .bool q.u, .int .u64 (n64 q.k), .int .u64 (n64 q.l), .slice q.a q.rs.length q.c, .bool t] 29)).alloc (.cells #[.bool m.u, .int .u64 (n64 m.k), .int .u64 (n64 m.l), .slice m.a m.rs.length m.c] 27)).alloc (.cells #[.int .i64 0, .bool false, .int .u64 0, .int .u64 0, .slice none 0 0, .bool false, .int .u64 0, .int .u64 0, .slice none 0 0, .bool false] 29)) (w.heap.size) [.int .i64 e, .bool p.u, .int .u64 (n64 p.k), .int .u64 (n64 p.l), .slice p.a p.rs.length p.c, .bool q.u, .int .u64 (n64 q.k), .int .u64 (n64 q.l), .slice q.a q.rs.length q.c, .bool t] from ((Blk.new w [.int .i64 e, .bool p.u, .int .u64 (n64 p.k), .int .u64 (n64 p.l), .slice p.a p.rs.length p.c, .bool q.u, .int .u64 (n64 q.k), .int .u64 (n64 q.l), .slice q.a q.rs.length q.c, .bool t] 29).alloc (.cells #[.bool m.u, .int .u64 (n64 m.k), .int .u64 (n64 m.l), .slice m.a m.rs.length m.c] 27)).alloc (.cells #[.int .i64 0, .bool false, .int .u64 0, .int .u64 0, .slice none 0 0, .bool false, .int .u64 0, .int .u64 0, .slice none 0 0, .bool false] 29))
        have s1 : (w.alloc (.cells #[.int .i64 e, .bool p.u, .int .u64 (n64 p.k), .int .u64 (n64 p.l), .slice p.a p.rs.length p.c, .bool q.u, .int .u64 (n64 q.k), .int .u64 (n64 q.l), .slice q.a q.rs.length q.c, .bool t] 29)).heap.size = w.heap.size + 1 := by simp
        have KM0 := Lib.hid (show Blk (((w.alloc (.cells #[.int .i64 e, .bool p.u, .int .u64 (n64 p.k), .int .u64 (n64 p.l), .slice p.a p.rs.length p.c, .bool q.u, .int .u64 (n64 q.k), .int .u64 (n64 q.l), .slice q.a q.rs.length q.c, .bool t] 29)).alloc (.cells #[.bool m.u, .int .u64 (n64 m.k), .int .u64 (n64 m.l), .slice m.a m.rs.length m.c] 27)).alloc (.cells #[.int .i64 0, .bool false, .int .u64 0, .int .u64 0, .slice none 0 0, .bool false, .int .u64 0, .int .u64 0, .slice none 0 0, .bool false] 29)) (w.heap.size + 1) [.bool m.u, .int .u64 (n64 m.k), .int .u64 (n64 m.l), .slice m.a m.rs.length m.c] by have h0 := (Blk.new (w.alloc (.cells #[.int .i64 e, .bool p.u, .int .u64 (n64 p.k), .int .u64 (n64 p.l), .slice p.a p.rs.length p.c, .bool q.u, .int .u64 (n64 q.k), .int .u64 (n64 q.l), .slice q.a q.rs.length q.c, .bool t] 29)) [.bool m.u, .int .u64 (n64 m.k), .int .u64 (n64 m.l), .slice m.a m.rs.length m.c] 27).alloc (.cells #[.int .i64 0, .bool false, .int .u64 0, .int .u64 0, .slice none 0 0, .bool false, .int .u64 0, .int .u64 0, .slice none 0 0, .bool false] 29); rwa [s1] at h0)
        have n_K_M : w.heap.size ≠ w.heap.size + 1 := by omega
        have s2 : ((w.alloc (.cells #[.int .i64 e, .bool p.u, .int .u64 (n64 p.k), .int .u64 (n64 p.l), .slice p.a p.rs.length p.c, .bool q.u, .int .u64 (n64 q.k), .int .u64 (n64 q.l), .slice q.a q.rs.length q.c, .bool t] 29)).alloc (.cells #[.bool m.u, .int .u64 (n64 m.k), .int .u64 (n64 m.l), .slice m.a m.rs.length m.c] 27)).heap.size = w.heap.size + 1 + 1 := by simp
        have KR0 := Lib.hid (show Blk (((w.alloc (.cells #[.int .i64 e, .bool p.u, .int .u64 (n64 p.k), .int .u64 (n64 p.l), .slice p.a p.rs.length p.c, .bool q.u, .int .u64 (n64 q.k), .int .u64 (n64 q.l), .slice q.a q.rs.length q.c, .bool t] 29)).alloc (.cells #[.bool m.u, .int .u64 (n64 m.k), .int .u64 (n64 m.l), .slice m.a m.rs.length m.c] 27)).alloc (.cells #[.int .i64 0, .bool false, .int .u64 0, .int .u64 0, .slice none 0 0, .bool false, .int .u64 0, .int .u64 0, .slice none 0 0, .bool false] 29)) (w.heap.size + 1 + 1) [.int .i64 0, .bool false, .int .u64 0, .int .u64 0, .slice none 0 0, .bool false, .int .u64 0, .int .u64 0, .slice none 0 0, .bool false] by have h0 := Blk.new ((w.alloc (.cells #[.int .i64 e, .bool p.u, .int .u64 (n64 p.k), .int .u64 (n64 p.l), .slice p.a p.rs.length p.c, .bool q.u, .int .u64 (n64 q.k), .int .u64 (n64 q.l), .slice q.a q.rs.length q.c, .bool t] 29)).alloc (.cells #[.bool m.u, .int .u64 (n64 m.k), .int .u64 (n64 m.l), .slice m.a m.rs.length m.c] 27)) [.int .i64 0, .bool false, .int .u64 0, .int .u64 0, .slice none 0 0, .bool false, .int .u64 0, .int .u64 0, .slice none 0 0, .bool false] 29; rwa [s2] at h0)
        have n_K_R : w.heap.size ≠ w.heap.size + 1 + 1 := by omega
        have n_M_R : w.heap.size + 1 ≠ w.heap.size + 1 + 1 := by omega
        clear s1 s2
        go_wp2_with fail
        change Calls _ _ _ (((w.alloc (.cells #[.int .i64 e, .bool p.u, .int .u64 (n64 p.k), .int .u64 (n64 p.l), .slice p.a p.rs.length p.c, .bool q.u, .int .u64 (n64 q.k), .int .u64 (n64 q.l), .slice q.a q.rs.length q.c, .bool t] 29)).alloc (.cells #[.bool m.u, .int .u64 (n64 m.k), .int .u64 (n64 m.l), .slice m.a m.rs.length m.c] 27)).alloc (.cells #[.int .i64 0, .bool false, .int .u64 0, .int .u64 0, .slice none 0 0, .bool false, .int .u64 0, .int .u64 0, .slice none 0 0, .bool false] 29)) _
        generalize ((w.alloc (.cells #[.int .i64 e, .bool p.u, .int .u64 (n64 p.k), .int .u64 (n64 p.l), .slice p.a p.rs.length p.c, .bool q.u, .int .u64 (n64 q.k), .int .u64 (n64 q.l), .slice q.a q.rs.length q.c, .bool t] 29)).alloc (.cells #[.bool m.u, .int .u64 (n64 m.k), .int .u64 (n64 m.l), .slice m.a m.rs.length m.c] 27)).alloc (.cells #[.int .i64 0, .bool false, .int .u64 0, .int .u64 0, .slice none 0 0, .bool false, .int .u64 0, .int .u64 0, .slice none 0 0, .bool false] 29) = v0 at B0 KK0 KM0 KR0 ⊢
        generalize hh_R : w.heap.size + 1 + 1 = g_R at KR0 n_K_R n_M_R ⊢
        generalize hh_M : w.heap.size + 1 = g_M at KM0 n_K_M n_M_R ⊢
        generalize hh_K : w.heap.size = g_K at KK0 n_K_M n_K_R ⊢
        have l_K : w.heap.size ≤ g_K := by omega
        have l_M : w.heap.size ≤ g_M := by omega
        have l_R : w.heap.size ≤ g_R := by omega
        clear hh_K hh_M hh_R
        refine (copyKeysS e p q t _ (HP.out.below B0.out) (HQ.out.below B0.out) fp.1 fq.1).mono ?_
        rintro e v1 ⟨g_a, c_a, g_b, c_b, rfl, ho_a, ho_b, n_a_b, hb⟩
        have n_K_a : g_K ≠ g_a := by have h1 := KK0.out.lt; have h2 := (ho_a.lt g_a rfl).1; omega
        have n_M_a : g_M ≠ g_a := by have h1 := KM0.out.lt; have h2 := (ho_a.lt g_a rfl).1; omega
        have n_R_a : g_R ≠ g_a := by have h1 := KR0.out.lt; have h2 := (ho_a.lt g_a rfl).1; omega
        have l_a : w.heap.size ≤ g_a := Nat.le_trans B0.out.size (ho_a.lt g_a rfl).1
        have n_K_b : g_K ≠ g_b := by have h1 := KK0.out.lt; have h2 := (ho_b.lt g_b rfl).1; omega
        have n_M_b : g_M ≠ g_b := by have h1 := KM0.out.lt; have h2 := (ho_b.lt g_b rfl).1; omega
        have n_R_b : g_R ≠ g_b := by have h1 := KR0.out.lt; have h2 := (ho_b.lt g_b rfl).1; omega
        have l_b : w.heap.size ≤ g_b := Nat.le_trans B0.out.size (ho_b.lt g_b rfl).1
        have B1 := Lib.hid (B0.out.trans (hb.mono B0.out.size))
        have KK1 := Lib.hid (KK0.out.below hb)
        have KM1 := Lib.hid (KM0.out.below hb)
        have KR1 := Lib.hid (KR0.out.below hb)
        have Oa1 := Lib.hid (own_down ho_a (Nat.zero_le _))
        have Ob1 := Lib.hid (own_down ho_b (Nat.zero_le _))
        clear hb B0 KK0 KM0 KR0 ho_a ho_b
        have KOn := Lib.hid (Blk.new v1 [.int .i64 e, .bool p.u, .int .u64 (n64 p.k), .int .u64 (n64 p.l), .slice (some ⟨g_a, 0, none⟩) p.rs.length c_a, .bool q.u, .int .u64 (n64 q.k), .int .u64 (n64 q.l), .slice (some ⟨g_b, 0, none⟩) q.rs.length c_b, .bool t] 29)
        have n_K_O : g_K ≠ v1.heap.size := by have h1 := KK1.out.lt; omega
        have n_M_O : g_M ≠ v1.heap.size := by have h1 := KM1.out.lt; omega
        have n_R_O : g_R ≠ v1.heap.size := by have h1 := KR1.out.lt; omega
        have n_a_O : g_a ≠ v1.heap.size := by have h1 := (Oa1.out.lt g_a rfl).2; omega
        have n_b_O : g_b ≠ v1.heap.size := by have h1 := (Ob1.out.lt g_b rfl).2; omega
        have Bn := Lib.hid (B1.out.alloc B1.out.size (.cells #[.int .i64 e, .bool p.u, .int .u64 (n64 p.k), .int .u64 (n64 p.l), .slice (some ⟨g_a, 0, none⟩) p.rs.length c_a, .bool q.u, .int .u64 (n64 q.k), .int .u64 (n64 q.l), .slice (some ⟨g_b, 0, none⟩) q.rs.length c_b, .bool t] 29))
        have KKn := Lib.hid (KK1.out.alloc (.cells #[.int .i64 e, .bool p.u, .int .u64 (n64 p.k), .int .u64 (n64 p.l), .slice (some ⟨g_a, 0, none⟩) p.rs.length c_a, .bool q.u, .int .u64 (n64 q.k), .int .u64 (n64 q.l), .slice (some ⟨g_b, 0, none⟩) q.rs.length c_b, .bool t] 29))
        have KMn := Lib.hid (KM1.out.alloc (.cells #[.int .i64 e, .bool p.u, .int .u64 (n64 p.k), .int .u64 (n64 p.l), .slice (some ⟨g_a, 0, none⟩) p.rs.length c_a, .bool q.u, .int .u64 (n64 q.k), .int .u64 (n64 q.l), .slice (some ⟨g_b, 0, none⟩) q.rs.length c_b, .bool t] 29))
        have KRn := Lib.hid (KR1.out.alloc (.cells #[.int .i64 e, .bool p.u, .int .u64 (n64 p.k), .int .u64 (n64 p.l), .slice (some ⟨g_a, 0, none⟩) p.rs.length c_a, .bool q.u, .int .u64 (n64 q.k), .int .u64 (n64 q.l), .slice (some ⟨g_b, 0, none⟩) q.rs.length c_b, .bool t] 29))
        have Oan := Lib.hid (Oa1.out.alloc (.cells #[.int .i64 e, .bool p.u, .int .u64 (n64 p.k), .int .u64 (n64 p.l), .slice (some ⟨g_a, 0, none⟩) p.rs.length c_a, .bool q.u, .int .u64 (n64 q.k), .int .u64 (n64 q.l), .slice (some ⟨g_b, 0, none⟩) q.rs.length c_b, .bool t] 29))
        have Obn := Lib.hid (Ob1.out.alloc (.cells #[.int .i64 e, .bool p.u, .int .u64 (n64 p.k), .int .u64 (n64 p.l), .slice (some ⟨g_a, 0, none⟩) p.rs.length c_a, .bool q.u, .int .u64 (n64 q.k), .int .u64 (n64 q.l), .slice (some ⟨g_b, 0, none⟩) q.rs.length c_b, .bool t] 29))
        clear B1 KK1 KM1 KR1 Oa1 Ob1
        obtain ⟨⟨cK0, cK1, cK2, cK3, cK4, cK5, cK6, cK7, cK8, cK9⟩, dK0, dK1, dK2, dK3, dK4, dK5, dK6, dK7, dK8, dK9⟩ := KKn.out.of10
        obtain ⟨⟨cM0, cM1, cM2, cM3⟩, dM0, dM1, dM2, dM3⟩ := KMn.out.four
        obtain ⟨⟨cR0, cR1, cR2, cR3, cR4, cR5, cR6, cR7, cR8, cR9⟩, dR0, dR1, dR2, dR3, dR4, dR5, dR6, dR7, dR8, dR9⟩ := KRn.out.of10
        go_wp2_with fail
        clear cK0 cK1 cK2 cK3 cK4 cK5 cK6 cK7 cK8 cK9 dK0 dK1 dK2 dK3 dK4 dK5 dK6 dK7 dK8 dK9 cM0 cM1 cM2 cM3 dM0 dM1 dM2 dM3 cR0 cR1 cR2 cR3 cR4 cR5 cR6 cR7 cR8 cR9 dR0 dR1 dR2 dR3 dR4 dR5 dR6 dR7 dR8 dR9
        change Calls _ _ _ (v1.alloc (.cells #[.int .i64 e, .bool p.u, .int .u64 (n64 p.k), .int .u64 (n64 p.l), .slice (some ⟨g_a, 0, none⟩) p.rs.length c_a, .bool q.u, .int .u64 (n64 q.k), .int .u64 (n64 q.l), .slice (some ⟨g_b, 0, none⟩) q.rs.length c_b, .bool t] 29)) _
        generalize v1.alloc (.cells #[.int .i64 e, .bool p.u, .int .u64 (n64 p.k), .int .u64 (n64 p.l), .slice (some ⟨g_a, 0, none⟩) p.rs.length c_a, .bool q.u, .int .u64 (n64 q.k), .int .u64 (n64 q.l), .slice (some ⟨g_b, 0, none⟩) q.rs.length c_b, .bool t] 29) = v2 at KOn Bn KKn KMn KRn Oan Obn ⊢
        generalize v1.heap.size = g_O at KOn n_K_O n_M_O n_R_O n_a_O n_b_O ⊢
        clear v1
        have KK2 := KKn
        clear KKn
        have KM2 := KMn
        clear KMn
        have KR2 := KRn
        clear KRn
        have KO2 := KOn
        clear KOn
        have Oa2 := Oan
        clear Oan
        have Ob2 := Obn
        clear Obn
        have B2 := Bn
        clear Bn
        refine (C1.out _ (HP.out.below B2.out) (HQ.out.below B2.out)).mono ?_
        rintro e v3 ⟨rfl, hb⟩
        have B3 := Lib.hid (B2.out.trans (hb.mono B2.out.size))
        have KK3 := Lib.hid (KK2.out.below hb)
        have KM3 := Lib.hid (KM2.out.below hb)
        have KR3 := Lib.hid (KR2.out.below hb)
        have KO3 := Lib.hid (KO2.out.below hb)
        have Oa3 := Lib.hid (Oa2.out.kept (below_any (row := none) hb) (.inr (by simp [Value.ownBlock])))
        have Ob3 := Lib.hid (Ob2.out.kept (below_any (row := none) hb) (.inr (by simp [Value.ownBlock])))
        clear hb B2 KK2 KM2 KR2 KO2 Oa2 Ob2
        obtain ⟨⟨cK0, cK1, cK2, cK3, cK4, cK5, cK6, cK7, cK8, cK9⟩, dK0, dK1, dK2, dK3, dK4, dK5, dK6, dK7, dK8, dK9⟩ := KK3.out.of10
        obtain ⟨⟨cM0, cM1, cM2, cM3⟩, dM0, dM1, dM2, dM3⟩ := KM3.out.four
        obtain ⟨⟨cR0, cR1, cR2, cR3, cR4, cR5, cR6, cR7, cR8, cR9⟩, dR0, dR1, dR2, dR3, dR4, dR5, dR6, dR7, dR8, dR9⟩ := KR3.out.of10
        obtain ⟨⟨cO0, cO1, cO2, cO3, cO4, cO5, cO6, cO7, cO8, cO9⟩, dO0, dO1, dO2, dO3, dO4, dO5, dO6, dO7, dO8, dO9⟩ := KO3.out.of10
        go_wp2_with fail
        clear cK0 cK1 cK2 cK3 cK4 cK5 cK6 cK7 cK8 cK9 dK0 dK1 dK2 dK3 dK4 dK5 dK6 dK7 dK8 dK9 cM0 cM1 cM2 cM3 dM0 dM1 dM2 dM3 cR0 cR1 cR2 cR3 cR4 cR5 cR6 cR7 cR8 cR9 dR0 dR1 dR2 dR3 dR4 dR5 dR6 dR7 dR8 dR9 cO0 cO1 cO2 cO3 cO4 cO5 cO6 cO7 cO8 cO9 dO0 dO1 dO2 dO3 dO4 dO5 dO6 dO7 dO8 dO9
        refine (C2.out _ (HM.out.below B3.out)).mono ?_
        rintro e v4 ⟨rfl, hb⟩
        have B4 := Lib.hid (B3.out.trans (hb.mono B3.out.size))
        have KK4 := Lib.hid (KK3.out.below hb)
        have KM4 := Lib.hid (KM3.out.below hb)
        have KR4 := Lib.hid (KR3.out.below hb)
        have KO4 := Lib.hid (KO3.out.below hb)
        have Oa4 := Lib.hid (Oa3.out.kept (below_any (row := none) hb) (.inr (by simp [Value.ownBlock])))
        have Ob4 := Lib.hid (Ob3.out.kept (below_any (row := none) hb) (.inr (by simp [Value.ownBlock])))
        clear hb B3 KK3 KM3 KR3 KO3 Oa3 Ob3
        obtain ⟨⟨cK0, cK1, cK2, cK3, cK4, cK5, cK6, cK7, cK8, cK9⟩, dK0, dK1, dK2, dK3, dK4, dK5, dK6, dK7, dK8, dK9⟩ := KK4.out.of10
        obtain ⟨⟨cM0, cM1, cM2, cM3⟩, dM0, dM1, dM2, dM3⟩ := KM4.out.four
        obtain ⟨⟨cR0, cR1, cR2, cR3, cR4, cR5, cR6, cR7, cR8, cR9⟩, dR0, dR1, dR2, dR3, dR4, dR5, dR6, dR7, dR8, dR9⟩ := KR4.out.of10
        obtain ⟨⟨cO0, cO1, cO2, cO3, cO4, cO5, cO6, cO7, cO8, cO9⟩, dO0, dO1, dO2, dO3, dO4, dO5, dO6, dO7, dO8, dO9⟩ := KO4.out.of10
        go_upto_region 4 with fail
        clear cK0 cK1 cK2 cK3 cK4 cK5 cK6 cK7 cK8 cK9 dK0 dK1 dK2 dK3 dK4 dK5 dK6 dK7 dK8 dK9 cM0 cM1 cM2 cM3 dM0 dM1 dM2 dM3 cR0 cR1 cR2 cR3 cR4 cR5 cR6 cR7 cR8 cR9 dR0 dR1 dR2 dR3 dR4 dR5 dR6 dR7 dR8 dR9 cO0 cO1 cO2 cO3 cO4 cO5 cO6 cO7 cO8 cO9 dO0 dO1 dO2 dO3 dO4 dO5 dO6 dO7 dO8 dO9
        refine wp_region_noPanic ?_
        refine wp_region_held_drew (S := fun w' => Blk w' g_K [.int .i64 e, .bool p.u, .int .u64 (n64 p.k), .int .u64 (n64 p.l), .slice p.a p.rs.length p.c, .bool q.u, .int .u64 (n64 q.k), .int .u64 (n64 q.l), .slice q.a q.rs.length q.c, .bool t] ∧ Blk w' g_M [.bool m.u, .int .u64 (n64 m.k), .int .u64 (n64 m.l), .slice m.a m.rs.length m.c]) (by kernel_rfl) ⟨KK4.out, KM4.out⟩ (fun hS => ?_)
        refine wpAnyH_take (i := 0) (v := .pointer (some ⟨g_K, 0, none⟩)) rfl (by kernel_rfl) (by kernel_rfl) (by kernel_rfl) (fun _ _ _ h => h) (Or.inl ⟨rfl, by intro w hS; go_simp⟩) hS ?_
        refine wpAnyH_take (i := 5) (v := .pointer (some ⟨g_K, 1, none⟩)) rfl (by kernel_rfl) (by kernel_rfl) (by kernel_rfl) (fun _ _ _ h => h) (Or.inl ⟨rfl, by intro w hS; go_simp⟩) hS ?_
        refine wpAnyH_take (i := 1) (v := .int .i64 e) rfl (by kernel_rfl) (by kernel_rfl) (by kernel_rfl) (fun _ _ _ h => h) (Or.inl ⟨rfl, by intro w hS; obtain ⟨⟨h0, h1, h2, h3, h4, h5, h6, h7, h8, h9⟩, _⟩ := hS.1.of10; go_simp⟩) hS ?_
        refine wpAnyH_take (i := 2) (v := .int .i64 (e + 1)) rfl (by kernel_rfl) (by kernel_rfl) (by kernel_rfl) (fun _ _ _ h => h) (Or.inl ⟨rfl, by intro w hS; go_simp⟩) hS ?_
        refine wpAnyH_take (i := 3) (v := .agg #[.bool m.u, .int .u64 (n64 m.k), .int .u64 (n64 m.l), .slice m.a m.rs.length m.c]) rfl (by kernel_rfl) (by kernel_rfl) (by kernel_rfl) (fun _ _ _ h => h) (Or.inl ⟨rfl, by intro w hS; obtain ⟨⟨h0, h1, h2, h3⟩, _⟩ := hS.2.four; go_simp⟩) hS ?_
        refine wpAnyH_take (i := 6) (v := .agg #[.bool p.u, .int .u64 (n64 p.k), .int .u64 (n64 p.l), .slice p.a p.rs.length p.c]) rfl (by kernel_rfl) (by kernel_rfl) (by kernel_rfl) (fun _ _ _ h => h) (Or.inl ⟨rfl, by intro w hS; obtain ⟨⟨h0, h1, h2, h3, h4, h5, h6, h7, h8, h9⟩, _⟩ := hS.1.of10; go_simp⟩) hS ?_
        refine wpAnyH_ready (rs := [4]) (by kernel_rfl) (by simp) ?_
        refine AllReadyH.cons (i := 4) rfl (fun K hK => ?zr4) AllReadyH.nil
        rw [if_pos (by rfl)]
        go_simp
        clear hS
        refine (copyMacS m _ (HM.out.below B4.out.drew) fm.1).mono ?_
        rintro e v5 ⟨g_c, c_c, rfl, ho_c, hb⟩
        replace hb := (Below.refl _ v4).drew.trans hb
        replace ho_c := own_down ho_c (show v4.heap.size ≤ v4.drew.heap.size from Nat.le_refl _)
        have n_K_c : g_K ≠ g_c := by have h1 := KK4.out.lt; have h2 := (ho_c.lt g_c rfl).1; omega
        have n_M_c : g_M ≠ g_c := by have h1 := KM4.out.lt; have h2 := (ho_c.lt g_c rfl).1; omega
        have n_R_c : g_R ≠ g_c := by have h1 := KR4.out.lt; have h2 := (ho_c.lt g_c rfl).1; omega
        have n_O_c : g_O ≠ g_c := by have h1 := KO4.out.lt; have h2 := (ho_c.lt g_c rfl).1; omega
        have n_a_c : g_a ≠ g_c := by have h1 := (Oa4.out.lt g_a rfl).2; have h2 := (ho_c.lt g_c rfl).1; omega
        have n_b_c : g_b ≠ g_c := by have h1 := (Ob4.out.lt g_b rfl).2; have h2 := (ho_c.lt g_c rfl).1; omega
        have l_c : w.heap.size ≤ g_c := Nat.le_trans B4.out.size (ho_c.lt g_c rfl).1
        have B5 := Lib.hid (B4.out.trans (hb.mono B4.out.size))
        have KK5 := Lib.hid (KK4.out.below hb)
        have KM5 := Lib.hid (KM4.out.below hb)
        have KR5 := Lib.hid (KR4.out.below hb)
        have KO5 := Lib.hid (KO4.out.below hb)
        have Oa5 := Lib.hid (Oa4.out.kept (below_any (row := none) hb) (.inr (by simp [Value.ownBlock])))
        have Ob5 := Lib.hid (Ob4.out.kept (below_any (row := none) hb) (.inr (by simp [Value.ownBlock])))
        have Oc5 := Lib.hid (own_down ho_c (Nat.zero_le _))
        clear hb B4 KK4 KM4 KR4 KO4 Oa4 Ob4 ho_c
        refine hK.out _ _ ⟨KK5.out, KM5.out⟩ (fun hS => ?_)
        clear hK K
        refine wpAnyH_ready (rs := [7]) (by kernel_rfl) (by simp) ?_
        refine AllReadyH.cons (i := 7) rfl (fun K hK => ?zr5) AllReadyH.nil
        rw [if_pos (by rfl)]
        go_simp
        clear hS
        refine (copyMacS p _ (HP.out.below B5.out) fp.1).mono ?_
        rintro e v6 ⟨g_d, c_d, rfl, ho_d, hb⟩
        have n_K_d : g_K ≠ g_d := by have h1 := KK5.out.lt; have h2 := (ho_d.lt g_d rfl).1; omega
        have n_M_d : g_M ≠ g_d := by have h1 := KM5.out.lt; have h2 := (ho_d.lt g_d rfl).1; omega
        have n_R_d : g_R ≠ g_d := by have h1 := KR5.out.lt; have h2 := (ho_d.lt g_d rfl).1; omega
        have n_O_d : g_O ≠ g_d := by have h1 := KO5.out.lt; have h2 := (ho_d.lt g_d rfl).1; omega
        have n_a_d : g_a ≠ g_d := by have h1 := (Oa5.out.lt g_a rfl).2; have h2 := (ho_d.lt g_d rfl).1; omega
        have n_b_d : g_b ≠ g_d := by have h1 := (Ob5.out.lt g_b rfl).2; have h2 := (ho_d.lt g_d rfl).1; omega
        have n_c_d : g_c ≠ g_d := by have h1 := (Oc5.out.lt g_c rfl).2; have h2 := (ho_d.lt g_d rfl).1; omega
        have l_d : w.heap.size ≤ g_d := Nat.le_trans B5.out.size (ho_d.lt g_d rfl).1
        have B6 := Lib.hid (B5.out.trans (hb.mono B5.out.size))
        have KK6 := Lib.hid (KK5.out.below hb)
        have KM6 := Lib.hid (KM5.out.below hb)
        have KR6 := Lib.hid (KR5.out.below hb)
        have KO6 := Lib.hid (KO5.out.below hb)
        have Oa6 := Lib.hid (Oa5.out.kept (below_any (row := none) hb) (.inr (by simp [Value.ownBlock])))
        have Ob6 := Lib.hid (Ob5.out.kept (below_any (row := none) hb) (.inr (by simp [Value.ownBlock])))
        have Oc6 := Lib.hid (Oc5.out.kept (below_any (row := none) hb) (.inr (by simp [Value.ownBlock])))
        have Od6 := Lib.hid (own_down ho_d (Nat.zero_le _))
        clear hb B5 KK5 KM5 KR5 KO5 Oa5 Ob5 Oc5 ho_d
        refine hK.out _ _ ⟨KK6.out, KM6.out⟩ (fun hS => ?_)
        clear hK K
        refine wpAnyH_take (i := 8) (v := .agg #[.int .i64 (e + 1), .bool m.u, .int .u64 (n64 m.k), .int .u64 (n64 m.l), .slice (some ⟨g_c, 0, none⟩) m.rs.length c_c, .bool p.u, .int .u64 (n64 p.k), .int .u64 (n64 p.l), .slice (some ⟨g_d, 0, none⟩) p.rs.length c_d, .bool true]) rfl (by kernel_rfl) (by kernel_rfl) (by kernel_rfl) (fun _ _ _ h => h) (Or.inl ⟨rfl, by intro w hS; go_simp⟩) hS ?_
        obtain ⟨⟨cR0, cR1, cR2, cR3, cR4, cR5, cR6, cR7, cR8, cR9⟩, dR0, dR1, dR2, dR3, dR4, dR5, dR6, dR7, dR8, dR9⟩ := KR6.out.of10
        refine wpAnyH_ready (rs := [9]) (by kernel_rfl) (by simp) ?_
        refine AllReadyH.cons (i := 9) rfl (fun K hK => ?zr6) AllReadyH.nil
        rw [if_pos (by rfl)]
        go_simp
        refine hK.out _ _ ⟨(show Blk ((((((((((v6.setCell ⟨g_R, 0, none⟩ (.int .i64 (e + 1))).setCell ⟨g_R, 1, none⟩ (.bool m.u)).setCell ⟨g_R, 2, none⟩ (.int .u64 (n64 m.k))).setCell ⟨g_R, 3, none⟩ (.int .u64 (n64 m.l))).setCell ⟨g_R, 4, none⟩ (.slice (some ⟨g_c, 0, none⟩) m.rs.length c_c)).setCell ⟨g_R, 5, none⟩ (.bool p.u)).setCell ⟨g_R, 6, none⟩ (.int .u64 (n64 p.k))).setCell ⟨g_R, 7, none⟩ (.int .u64 (n64 p.l))).setCell ⟨g_R, 8, none⟩ (.slice (some ⟨g_d, 0, none⟩) p.rs.length c_d)).setCell ⟨g_R, 9, none⟩ (.bool true)) g_K [.int .i64 e, .bool p.u, .int .u64 (n64 p.k), .int .u64 (n64 p.l), .slice p.a p.rs.length p.c, .bool q.u, .int .u64 (n64 q.k), .int .u64 (n64 q.l), .slice q.a q.rs.length q.c, .bool t] from ((((((((((KK6.out.setOther ⟨g_R, 0, none⟩ (.int .i64 (e + 1)) (n_K_R)).setOther ⟨g_R, 1, none⟩ (.bool m.u) (n_K_R)).setOther ⟨g_R, 2, none⟩ (.int .u64 (n64 m.k)) (n_K_R)).setOther ⟨g_R, 3, none⟩ (.int .u64 (n64 m.l)) (n_K_R)).setOther ⟨g_R, 4, none⟩ (.slice (some ⟨g_c, 0, none⟩) m.rs.length c_c) (n_K_R)).setOther ⟨g_R, 5, none⟩ (.bool p.u) (n_K_R)).setOther ⟨g_R, 6, none⟩ (.int .u64 (n64 p.k)) (n_K_R)).setOther ⟨g_R, 7, none⟩ (.int .u64 (n64 p.l)) (n_K_R)).setOther ⟨g_R, 8, none⟩ (.slice (some ⟨g_d, 0, none⟩) p.rs.length c_d) (n_K_R)).setOther ⟨g_R, 9, none⟩ (.bool true) (n_K_R))), (show Blk ((((((((((v6.setCell ⟨g_R, 0, none⟩ (.int .i64 (e + 1))).setCell ⟨g_R, 1, none⟩ (.bool m.u)).setCell ⟨g_R, 2, none⟩ (.int .u64 (n64 m.k))).setCell ⟨g_R, 3, none⟩ (.int .u64 (n64 m.l))).setCell ⟨g_R, 4, none⟩ (.slice (some ⟨g_c, 0, none⟩) m.rs.length c_c)).setCell ⟨g_R, 5, none⟩ (.bool p.u)).setCell ⟨g_R, 6, none⟩ (.int .u64 (n64 p.k))).setCell ⟨g_R, 7, none⟩ (.int .u64 (n64 p.l))).setCell ⟨g_R, 8, none⟩ (.slice (some ⟨g_d, 0, none⟩) p.rs.length c_d)).setCell ⟨g_R, 9, none⟩ (.bool true)) g_M [.bool m.u, .int .u64 (n64 m.k), .int .u64 (n64 m.l), .slice m.a m.rs.length m.c] from ((((((((((KM6.out.setOther ⟨g_R, 0, none⟩ (.int .i64 (e + 1)) (n_M_R)).setOther ⟨g_R, 1, none⟩ (.bool m.u) (n_M_R)).setOther ⟨g_R, 2, none⟩ (.int .u64 (n64 m.k)) (n_M_R)).setOther ⟨g_R, 3, none⟩ (.int .u64 (n64 m.l)) (n_M_R)).setOther ⟨g_R, 4, none⟩ (.slice (some ⟨g_c, 0, none⟩) m.rs.length c_c) (n_M_R)).setOther ⟨g_R, 5, none⟩ (.bool p.u) (n_M_R)).setOther ⟨g_R, 6, none⟩ (.int .u64 (n64 p.k)) (n_M_R)).setOther ⟨g_R, 7, none⟩ (.int .u64 (n64 p.l)) (n_M_R)).setOther ⟨g_R, 8, none⟩ (.slice (some ⟨g_d, 0, none⟩) p.rs.length c_d) (n_M_R)).setOther ⟨g_R, 9, none⟩ (.bool true) (n_M_R)))⟩ (fun hS => ?_)
        clear hK K hS
        refine wpAnyH_done (by kernel_rfl) ?_ _
        refine NoPanic.normal ?_
        go_wp2_with fail
        refine bodyPost_ret (v := .agg #[.int .i64 (e + 1), .bool m.u, .int .u64 (n64 m.k), .int .u64 (n64 m.l), .slice (some ⟨g_c, 0, none⟩) m.rs.length c_c, .bool p.u, .int .u64 (n64 p.k), .int .u64 (n64 p.l), .slice (some ⟨g_d, 0, none⟩) p.rs.length c_d, .bool true]) (by simp [results, Try.results41, go_sem, cR0, cR1, cR2, cR3, cR4, cR5, cR6, cR7, cR8, cR9]) rfl ⟨g_c, c_c, g_d, c_d, rfl, own_up (own_set' (own_set' (own_set' (own_set' (own_set' (own_set' (own_set' (own_set' (own_set' (own_set' Oc6.out _ _ (n_R_c)) _ _ (n_R_c)) _ _ (n_R_c)) _ _ (n_R_c)) _ _ (n_R_c)) _ _ (n_R_c)) _ _ (n_R_c)) _ _ (n_R_c)) _ _ (n_R_c)) _ _ (n_R_c)) l_c, own_up (own_set' (own_set' (own_set' (own_set' (own_set' (own_set' (own_set' (own_set' (own_set' (own_set' Od6.out _ _ (n_R_d)) _ _ (n_R_d)) _ _ (n_R_d)) _ _ (n_R_d)) _ _ (n_R_d)) _ _ (n_R_d)) _ _ (n_R_d)) _ _ (n_R_d)) _ _ (n_R_d)) _ _ (n_R_d)) l_d, n_c_d, ((((((((((((((((((((B6.out).setCell l_R _)).setCell l_R _)).setCell l_R _)).setCell l_R _)).setCell l_R _)).setCell l_R _)).setCell l_R _)).setCell l_R _)).setCell l_R _)).setCell l_R _)⟩
      · obtain rfl : e = 4294967295 := by simpa using he
        rw [RotS.no (by unfold rotOk; rw [h1, h2]; rfl)]
        clear h1 h2 he
        go_enter Try.func41, Try.ntmps41
        have B0 := Lib.hid (show Below w.heap.size w (((w.alloc (.cells #[.int .i64 4294967295, .bool p.u, .int .u64 (n64 p.k), .int .u64 (n64 p.l), .slice p.a p.rs.length p.c, .bool q.u, .int .u64 (n64 q.k), .int .u64 (n64 q.l), .slice q.a q.rs.length q.c, .bool t] 29)).alloc (.cells #[.bool m.u, .int .u64 (n64 m.k), .int .u64 (n64 m.l), .slice m.a m.rs.length m.c] 27)).alloc (.cells #[.int .i64 0, .bool false, .int .u64 0, .int .u64 0, .slice none 0 0, .bool false, .int .u64 0, .int .u64 0, .slice none 0 0, .bool false] 29)) from ((((Below.refl _ w).alloc (by simp) _).alloc (by simp) _).alloc (by simp; omega) _))
        have KK0 := Lib.hid (show Blk (((w.alloc (.cells #[.int .i64 4294967295, .bool p.u, .int .u64 (n64 p.k), .int .u64 (n64 p.l), .slice p.a p.rs.length p.c, .bool q.u, .int .u64 (n64 q.k), .int .u64 (n64 q.l), .slice q.a q.rs.length q.c, .bool t] 29)).alloc (.cells #[.bool m.u, .int .u64 (n64 m.k), .int .u64 (n64 m.l), .slice m.a m.rs.length m.c] 27)).alloc (.cells #[.int .i64 0, .bool false, .int .u64 0, .int .u64 0, .slice none 0 0, .bool false, .int .u64 0, .int .u64 0, .slice none 0 0, .bool false] 29)) (w.heap.size) [.int .i64 4294967295, .bool p.u, .int .u64 (n64 p.k), .int .u64 (n64 p.l), .slice p.a p.rs.length p.c, .bool q.u, .int .u64 (n64 q.k), .int .u64 (n64 q.l), .slice q.a q.rs.length q.c, .bool t] from ((Blk.new w [.int .i64 4294967295, .bool p.u, .int .u64 (n64 p.k), .int .u64 (n64 p.l), .slice p.a p.rs.length p.c, .bool q.u, .int .u64 (n64 q.k), .int .u64 (n64 q.l), .slice q.a q.rs.length q.c, .bool t] 29).alloc (.cells #[.bool m.u, .int .u64 (n64 m.k), .int .u64 (n64 m.l), .slice m.a m.rs.length m.c] 27)).alloc (.cells #[.int .i64 0, .bool false, .int .u64 0, .int .u64 0, .slice none 0 0, .bool false, .int .u64 0, .int .u64 0, .slice none 0 0, .bool false] 29))
        have s1 : (w.alloc (.cells #[.int .i64 4294967295, .bool p.u, .int .u64 (n64 p.k), .int .u64 (n64 p.l), .slice p.a p.rs.length p.c, .bool q.u, .int .u64 (n64 q.k), .int .u64 (n64 q.l), .slice q.a q.rs.length q.c, .bool t] 29)).heap.size = w.heap.size + 1 := by simp
        have KM0 := Lib.hid (show Blk (((w.alloc (.cells #[.int .i64 4294967295, .bool p.u, .int .u64 (n64 p.k), .int .u64 (n64 p.l), .slice p.a p.rs.length p.c, .bool q.u, .int .u64 (n64 q.k), .int .u64 (n64 q.l), .slice q.a q.rs.length q.c, .bool t] 29)).alloc (.cells #[.bool m.u, .int .u64 (n64 m.k), .int .u64 (n64 m.l), .slice m.a m.rs.length m.c] 27)).alloc (.cells #[.int .i64 0, .bool false, .int .u64 0, .int .u64 0, .slice none 0 0, .bool false, .int .u64 0, .int .u64 0, .slice none 0 0, .bool false] 29)) (w.heap.size + 1) [.bool m.u, .int .u64 (n64 m.k), .int .u64 (n64 m.l), .slice m.a m.rs.length m.c] by have h0 := (Blk.new (w.alloc (.cells #[.int .i64 4294967295, .bool p.u, .int .u64 (n64 p.k), .int .u64 (n64 p.l), .slice p.a p.rs.length p.c, .bool q.u, .int .u64 (n64 q.k), .int .u64 (n64 q.l), .slice q.a q.rs.length q.c, .bool t] 29)) [.bool m.u, .int .u64 (n64 m.k), .int .u64 (n64 m.l), .slice m.a m.rs.length m.c] 27).alloc (.cells #[.int .i64 0, .bool false, .int .u64 0, .int .u64 0, .slice none 0 0, .bool false, .int .u64 0, .int .u64 0, .slice none 0 0, .bool false] 29); rwa [s1] at h0)
        have n_K_M : w.heap.size ≠ w.heap.size + 1 := by omega
        have s2 : ((w.alloc (.cells #[.int .i64 4294967295, .bool p.u, .int .u64 (n64 p.k), .int .u64 (n64 p.l), .slice p.a p.rs.length p.c, .bool q.u, .int .u64 (n64 q.k), .int .u64 (n64 q.l), .slice q.a q.rs.length q.c, .bool t] 29)).alloc (.cells #[.bool m.u, .int .u64 (n64 m.k), .int .u64 (n64 m.l), .slice m.a m.rs.length m.c] 27)).heap.size = w.heap.size + 1 + 1 := by simp
        have KR0 := Lib.hid (show Blk (((w.alloc (.cells #[.int .i64 4294967295, .bool p.u, .int .u64 (n64 p.k), .int .u64 (n64 p.l), .slice p.a p.rs.length p.c, .bool q.u, .int .u64 (n64 q.k), .int .u64 (n64 q.l), .slice q.a q.rs.length q.c, .bool t] 29)).alloc (.cells #[.bool m.u, .int .u64 (n64 m.k), .int .u64 (n64 m.l), .slice m.a m.rs.length m.c] 27)).alloc (.cells #[.int .i64 0, .bool false, .int .u64 0, .int .u64 0, .slice none 0 0, .bool false, .int .u64 0, .int .u64 0, .slice none 0 0, .bool false] 29)) (w.heap.size + 1 + 1) [.int .i64 0, .bool false, .int .u64 0, .int .u64 0, .slice none 0 0, .bool false, .int .u64 0, .int .u64 0, .slice none 0 0, .bool false] by have h0 := Blk.new ((w.alloc (.cells #[.int .i64 4294967295, .bool p.u, .int .u64 (n64 p.k), .int .u64 (n64 p.l), .slice p.a p.rs.length p.c, .bool q.u, .int .u64 (n64 q.k), .int .u64 (n64 q.l), .slice q.a q.rs.length q.c, .bool t] 29)).alloc (.cells #[.bool m.u, .int .u64 (n64 m.k), .int .u64 (n64 m.l), .slice m.a m.rs.length m.c] 27)) [.int .i64 0, .bool false, .int .u64 0, .int .u64 0, .slice none 0 0, .bool false, .int .u64 0, .int .u64 0, .slice none 0 0, .bool false] 29; rwa [s2] at h0)
        have n_K_R : w.heap.size ≠ w.heap.size + 1 + 1 := by omega
        have n_M_R : w.heap.size + 1 ≠ w.heap.size + 1 + 1 := by omega
        clear s1 s2
        go_wp2_with fail
        change Calls _ _ _ (((w.alloc (.cells #[.int .i64 4294967295, .bool p.u, .int .u64 (n64 p.k), .int .u64 (n64 p.l), .slice p.a p.rs.length p.c, .bool q.u, .int .u64 (n64 q.k), .int .u64 (n64 q.l), .slice q.a q.rs.length q.c, .bool t] 29)).alloc (.cells #[.bool m.u, .int .u64 (n64 m.k), .int .u64 (n64 m.l), .slice m.a m.rs.length m.c] 27)).alloc (.cells #[.int .i64 0, .bool false, .int .u64 0, .int .u64 0, .slice none 0 0, .bool false, .int .u64 0, .int .u64 0, .slice none 0 0, .bool false] 29)) _
        generalize ((w.alloc (.cells #[.int .i64 4294967295, .bool p.u, .int .u64 (n64 p.k), .int .u64 (n64 p.l), .slice p.a p.rs.length p.c, .bool q.u, .int .u64 (n64 q.k), .int .u64 (n64 q.l), .slice q.a q.rs.length q.c, .bool t] 29)).alloc (.cells #[.bool m.u, .int .u64 (n64 m.k), .int .u64 (n64 m.l), .slice m.a m.rs.length m.c] 27)).alloc (.cells #[.int .i64 0, .bool false, .int .u64 0, .int .u64 0, .slice none 0 0, .bool false, .int .u64 0, .int .u64 0, .slice none 0 0, .bool false] 29) = v0 at B0 KK0 KM0 KR0 ⊢
        generalize hh_R : w.heap.size + 1 + 1 = g_R at KR0 n_K_R n_M_R ⊢
        generalize hh_M : w.heap.size + 1 = g_M at KM0 n_K_M n_M_R ⊢
        generalize hh_K : w.heap.size = g_K at KK0 n_K_M n_K_R ⊢
        have l_K : w.heap.size ≤ g_K := by omega
        have l_M : w.heap.size ≤ g_M := by omega
        have l_R : w.heap.size ≤ g_R := by omega
        clear hh_K hh_M hh_R
        refine (copyKeysS 4294967295 p q t _ (HP.out.below B0.out) (HQ.out.below B0.out) fp.1 fq.1).mono ?_
        rintro e v1 ⟨g_a, c_a, g_b, c_b, rfl, ho_a, ho_b, n_a_b, hb⟩
        have n_K_a : g_K ≠ g_a := by have h1 := KK0.out.lt; have h2 := (ho_a.lt g_a rfl).1; omega
        have n_M_a : g_M ≠ g_a := by have h1 := KM0.out.lt; have h2 := (ho_a.lt g_a rfl).1; omega
        have n_R_a : g_R ≠ g_a := by have h1 := KR0.out.lt; have h2 := (ho_a.lt g_a rfl).1; omega
        have l_a : w.heap.size ≤ g_a := Nat.le_trans B0.out.size (ho_a.lt g_a rfl).1
        have n_K_b : g_K ≠ g_b := by have h1 := KK0.out.lt; have h2 := (ho_b.lt g_b rfl).1; omega
        have n_M_b : g_M ≠ g_b := by have h1 := KM0.out.lt; have h2 := (ho_b.lt g_b rfl).1; omega
        have n_R_b : g_R ≠ g_b := by have h1 := KR0.out.lt; have h2 := (ho_b.lt g_b rfl).1; omega
        have l_b : w.heap.size ≤ g_b := Nat.le_trans B0.out.size (ho_b.lt g_b rfl).1
        have B1 := Lib.hid (B0.out.trans (hb.mono B0.out.size))
        have KK1 := Lib.hid (KK0.out.below hb)
        have KM1 := Lib.hid (KM0.out.below hb)
        have KR1 := Lib.hid (KR0.out.below hb)
        have Oa1 := Lib.hid (own_down ho_a (Nat.zero_le _))
        have Ob1 := Lib.hid (own_down ho_b (Nat.zero_le _))
        clear hb B0 KK0 KM0 KR0 ho_a ho_b
        have KOn := Lib.hid (Blk.new v1 [.int .i64 4294967295, .bool p.u, .int .u64 (n64 p.k), .int .u64 (n64 p.l), .slice (some ⟨g_a, 0, none⟩) p.rs.length c_a, .bool q.u, .int .u64 (n64 q.k), .int .u64 (n64 q.l), .slice (some ⟨g_b, 0, none⟩) q.rs.length c_b, .bool t] 29)
        have n_K_O : g_K ≠ v1.heap.size := by have h1 := KK1.out.lt; omega
        have n_M_O : g_M ≠ v1.heap.size := by have h1 := KM1.out.lt; omega
        have n_R_O : g_R ≠ v1.heap.size := by have h1 := KR1.out.lt; omega
        have n_a_O : g_a ≠ v1.heap.size := by have h1 := (Oa1.out.lt g_a rfl).2; omega
        have n_b_O : g_b ≠ v1.heap.size := by have h1 := (Ob1.out.lt g_b rfl).2; omega
        have Bn := Lib.hid (B1.out.alloc B1.out.size (.cells #[.int .i64 4294967295, .bool p.u, .int .u64 (n64 p.k), .int .u64 (n64 p.l), .slice (some ⟨g_a, 0, none⟩) p.rs.length c_a, .bool q.u, .int .u64 (n64 q.k), .int .u64 (n64 q.l), .slice (some ⟨g_b, 0, none⟩) q.rs.length c_b, .bool t] 29))
        have KKn := Lib.hid (KK1.out.alloc (.cells #[.int .i64 4294967295, .bool p.u, .int .u64 (n64 p.k), .int .u64 (n64 p.l), .slice (some ⟨g_a, 0, none⟩) p.rs.length c_a, .bool q.u, .int .u64 (n64 q.k), .int .u64 (n64 q.l), .slice (some ⟨g_b, 0, none⟩) q.rs.length c_b, .bool t] 29))
        have KMn := Lib.hid (KM1.out.alloc (.cells #[.int .i64 4294967295, .bool p.u, .int .u64 (n64 p.k), .int .u64 (n64 p.l), .slice (some ⟨g_a, 0, none⟩) p.rs.length c_a, .bool q.u, .int .u64 (n64 q.k), .int .u64 (n64 q.l), .slice (some ⟨g_b, 0, none⟩) q.rs.length c_b, .bool t] 29))
        have KRn := Lib.hid (KR1.out.alloc (.cells #[.int .i64 4294967295, .bool p.u, .int .u64 (n64 p.k), .int .u64 (n64 p.l), .slice (some ⟨g_a, 0, none⟩) p.rs.length c_a, .bool q.u, .int .u64 (n64 q.k), .int .u64 (n64 q.l), .slice (some ⟨g_b, 0, none⟩) q.rs.length c_b, .bool t] 29))
        have Oan := Lib.hid (Oa1.out.alloc (.cells #[.int .i64 4294967295, .bool p.u, .int .u64 (n64 p.k), .int .u64 (n64 p.l), .slice (some ⟨g_a, 0, none⟩) p.rs.length c_a, .bool q.u, .int .u64 (n64 q.k), .int .u64 (n64 q.l), .slice (some ⟨g_b, 0, none⟩) q.rs.length c_b, .bool t] 29))
        have Obn := Lib.hid (Ob1.out.alloc (.cells #[.int .i64 4294967295, .bool p.u, .int .u64 (n64 p.k), .int .u64 (n64 p.l), .slice (some ⟨g_a, 0, none⟩) p.rs.length c_a, .bool q.u, .int .u64 (n64 q.k), .int .u64 (n64 q.l), .slice (some ⟨g_b, 0, none⟩) q.rs.length c_b, .bool t] 29))
        clear B1 KK1 KM1 KR1 Oa1 Ob1
        obtain ⟨⟨cK0, cK1, cK2, cK3, cK4, cK5, cK6, cK7, cK8, cK9⟩, dK0, dK1, dK2, dK3, dK4, dK5, dK6, dK7, dK8, dK9⟩ := KKn.out.of10
        obtain ⟨⟨cM0, cM1, cM2, cM3⟩, dM0, dM1, dM2, dM3⟩ := KMn.out.four
        obtain ⟨⟨cR0, cR1, cR2, cR3, cR4, cR5, cR6, cR7, cR8, cR9⟩, dR0, dR1, dR2, dR3, dR4, dR5, dR6, dR7, dR8, dR9⟩ := KRn.out.of10
        go_wp2_with fail
        clear cK0 cK1 cK2 cK3 cK4 cK5 cK6 cK7 cK8 cK9 dK0 dK1 dK2 dK3 dK4 dK5 dK6 dK7 dK8 dK9 cM0 cM1 cM2 cM3 dM0 dM1 dM2 dM3 cR0 cR1 cR2 cR3 cR4 cR5 cR6 cR7 cR8 cR9 dR0 dR1 dR2 dR3 dR4 dR5 dR6 dR7 dR8 dR9
        change Calls _ _ _ (v1.alloc (.cells #[.int .i64 4294967295, .bool p.u, .int .u64 (n64 p.k), .int .u64 (n64 p.l), .slice (some ⟨g_a, 0, none⟩) p.rs.length c_a, .bool q.u, .int .u64 (n64 q.k), .int .u64 (n64 q.l), .slice (some ⟨g_b, 0, none⟩) q.rs.length c_b, .bool t] 29)) _
        generalize v1.alloc (.cells #[.int .i64 4294967295, .bool p.u, .int .u64 (n64 p.k), .int .u64 (n64 p.l), .slice (some ⟨g_a, 0, none⟩) p.rs.length c_a, .bool q.u, .int .u64 (n64 q.k), .int .u64 (n64 q.l), .slice (some ⟨g_b, 0, none⟩) q.rs.length c_b, .bool t] 29) = v2 at KOn Bn KKn KMn KRn Oan Obn ⊢
        generalize v1.heap.size = g_O at KOn n_K_O n_M_O n_R_O n_a_O n_b_O ⊢
        clear v1
        have KK2 := KKn
        clear KKn
        have KM2 := KMn
        clear KMn
        have KR2 := KRn
        clear KRn
        have KO2 := KOn
        clear KOn
        have Oa2 := Oan
        clear Oan
        have Ob2 := Obn
        clear Obn
        have B2 := Bn
        clear Bn
        refine (C1.out _ (HP.out.below B2.out) (HQ.out.below B2.out)).mono ?_
        rintro e v3 ⟨rfl, hb⟩
        have B3 := Lib.hid (B2.out.trans (hb.mono B2.out.size))
        have KK3 := Lib.hid (KK2.out.below hb)
        have KM3 := Lib.hid (KM2.out.below hb)
        have KR3 := Lib.hid (KR2.out.below hb)
        have KO3 := Lib.hid (KO2.out.below hb)
        have Oa3 := Lib.hid (Oa2.out.kept (below_any (row := none) hb) (.inr (by simp [Value.ownBlock])))
        have Ob3 := Lib.hid (Ob2.out.kept (below_any (row := none) hb) (.inr (by simp [Value.ownBlock])))
        clear hb B2 KK2 KM2 KR2 KO2 Oa2 Ob2
        obtain ⟨⟨cK0, cK1, cK2, cK3, cK4, cK5, cK6, cK7, cK8, cK9⟩, dK0, dK1, dK2, dK3, dK4, dK5, dK6, dK7, dK8, dK9⟩ := KK3.out.of10
        obtain ⟨⟨cM0, cM1, cM2, cM3⟩, dM0, dM1, dM2, dM3⟩ := KM3.out.four
        obtain ⟨⟨cR0, cR1, cR2, cR3, cR4, cR5, cR6, cR7, cR8, cR9⟩, dR0, dR1, dR2, dR3, dR4, dR5, dR6, dR7, dR8, dR9⟩ := KR3.out.of10
        obtain ⟨⟨cO0, cO1, cO2, cO3, cO4, cO5, cO6, cO7, cO8, cO9⟩, dO0, dO1, dO2, dO3, dO4, dO5, dO6, dO7, dO8, dO9⟩ := KO3.out.of10
        go_wp2_with fail
        clear cK0 cK1 cK2 cK3 cK4 cK5 cK6 cK7 cK8 cK9 dK0 dK1 dK2 dK3 dK4 dK5 dK6 dK7 dK8 dK9 cM0 cM1 cM2 cM3 dM0 dM1 dM2 dM3 cR0 cR1 cR2 cR3 cR4 cR5 cR6 cR7 cR8 cR9 dR0 dR1 dR2 dR3 dR4 dR5 dR6 dR7 dR8 dR9 cO0 cO1 cO2 cO3 cO4 cO5 cO6 cO7 cO8 cO9 dO0 dO1 dO2 dO3 dO4 dO5 dO6 dO7 dO8 dO9
        refine (C2.out _ (HM.out.below B3.out)).mono ?_
        rintro e v4 ⟨rfl, hb⟩
        have B4 := Lib.hid (B3.out.trans (hb.mono B3.out.size))
        have KK4 := Lib.hid (KK3.out.below hb)
        have KM4 := Lib.hid (KM3.out.below hb)
        have KR4 := Lib.hid (KR3.out.below hb)
        have KO4 := Lib.hid (KO3.out.below hb)
        have Oa4 := Lib.hid (Oa3.out.kept (below_any (row := none) hb) (.inr (by simp [Value.ownBlock])))
        have Ob4 := Lib.hid (Ob3.out.kept (below_any (row := none) hb) (.inr (by simp [Value.ownBlock])))
        clear hb B3 KK3 KM3 KR3 KO3 Oa3 Ob3
        obtain ⟨⟨cK0, cK1, cK2, cK3, cK4, cK5, cK6, cK7, cK8, cK9⟩, dK0, dK1, dK2, dK3, dK4, dK5, dK6, dK7, dK8, dK9⟩ := KK4.out.of10
        obtain ⟨⟨cM0, cM1, cM2, cM3⟩, dM0, dM1, dM2, dM3⟩ := KM4.out.four
        obtain ⟨⟨cR0, cR1, cR2, cR3, cR4, cR5, cR6, cR7, cR8, cR9⟩, dR0, dR1, dR2, dR3, dR4, dR5, dR6, dR7, dR8, dR9⟩ := KR4.out.of10
        obtain ⟨⟨cO0, cO1, cO2, cO3, cO4, cO5, cO6, cO7, cO8, cO9⟩, dO0, dO1, dO2, dO3, dO4, dO5, dO6, dO7, dO8, dO9⟩ := KO4.out.of10
        go_wp2_with fail
        refine bodyPost_ret (v := .agg #[.int .i64 4294967295, .bool p.u, .int .u64 (n64 p.k), .int .u64 (n64 p.l), .slice (some ⟨g_a, 0, none⟩) p.rs.length c_a, .bool q.u, .int .u64 (n64 q.k), .int .u64 (n64 q.l), .slice (some ⟨g_b, 0, none⟩) q.rs.length c_b, .bool t]) (by simp [results, Try.results41, go_sem, cR0, cR1, cR2, cR3, cR4, cR5, cR6, cR7, cR8, cR9]) rfl ⟨g_a, c_a, g_b, c_b, rfl, own_up (own_set' (own_set' (own_set' (own_set' (own_set' (own_set' (own_set' (own_set' (own_set' (own_set' Oa4.out _ _ (n_R_a)) _ _ (n_R_a)) _ _ (n_R_a)) _ _ (n_R_a)) _ _ (n_R_a)) _ _ (n_R_a)) _ _ (n_R_a)) _ _ (n_R_a)) _ _ (n_R_a)) _ _ (n_R_a)) l_a, own_up (own_set' (own_set' (own_set' (own_set' (own_set' (own_set' (own_set' (own_set' (own_set' (own_set' Ob4.out _ _ (n_R_b)) _ _ (n_R_b)) _ _ (n_R_b)) _ _ (n_R_b)) _ _ (n_R_b)) _ _ (n_R_b)) _ _ (n_R_b)) _ _ (n_R_b)) _ _ (n_R_b)) _ _ (n_R_b)) l_b, n_a_b, ((((((((((((((((((((B4.out).setCell l_R _)).setCell l_R _)).setCell l_R _)).setCell l_R _)).setCell l_R _)).setCell l_R _)).setCell l_R _)).setCell l_R _)).setCell l_R _)).setCell l_R _)⟩

end Go.Proofs.Ytobfgkiccmhgdaa
