/- ReceiverOk of the program. Nothing here is a claim. -/
import Derived.Test.YtajekjjaaohbnaaRcvOk
namespace Go.Proofs.Ytajekjjaaohbnaa
open Go.RowKit Go.Lib

theorem wordI_s (n b : Int) (w : World) : Calls Try.prog 42 #[.int .i64 n, .int .i64 b] w (SndB (wordOk n b) w) := (wordOkI n b w).mono fun _ _ h => ⟨h.1, by rw [h.2]; exact Below.refl _ _⟩

set_option maxRecDepth 100000 in
set_option maxHeartbeats 4000000 in
theorem rcvOkI (n f : Int) (z : Bool) (d : ByteArray) (a : Option Addr) (cap : Nat) (rs : List HP) (hB : RB d rs) (w : World) (hrow : Row w w.heap.size a (hps rs)) :
    Calls Try.prog 56 #[.agg #[.int .i64 n, .string d, .slice a rs.length cap, .int .i64 f, .bool z]] w (SndB (rcvOk ⟨n, d, rs, f, z⟩) w) := by
  obtain ⟨hd, hl, hsz⟩ := hB
  have HS := Lib.hid hsz
  have HR := Lib.hid hrow
  clear hrow hsz
  cases hw : wordOk n 32 with
  | false =>
    have C1 := Lib.hid (fun w => wordI_s n 32 w)
    simp only [hw] at C1
    have D := Lib.hid (show rcvOk ⟨n, d, rs, f, z⟩ = false from rcvOk_not (fun k1 k2 k3 k4 => by rw [hw] at k1; cases k1))
    rw [D.out]
    clear D
    go_enter Try.func56, Try.ntmps56
    have B0 := Lib.hid (show Below w.heap.size w (w.alloc (.cells #[.int .i64 n, .string d, .slice a rs.length cap, .int .i64 f, .bool z] 34)) from ((Below.refl _ w).alloc (by simp) _))
    have Kl0 := Lib.hid (show Blk (w.alloc (.cells #[.int .i64 n, .string d, .slice a rs.length cap, .int .i64 f, .bool z] 34)) (w.heap.size) [.int .i64 n, .string d, .slice a rs.length cap, .int .i64 f, .bool z] from Blk.new w [.int .i64 n, .string d, .slice a rs.length cap, .int .i64 f, .bool z] 34)
    go_wp2_with fail
    change Calls _ _ _ (w.alloc (.cells #[.int .i64 n, .string d, .slice a rs.length cap, .int .i64 f, .bool z] 34)) _
    generalize w.alloc (.cells #[.int .i64 n, .string d, .slice a rs.length cap, .int .i64 f, .bool z] 34) = v0 at B0 Kl0 ⊢
    generalize w.heap.size = g_l at Kl0 ⊢
    refine (C1.out _).mono ?_
    rintro e v1 ⟨rfl, hb⟩
    have B1 := Lib.hid (B0.out.trans (hb.mono B0.out.size))
    have Kl1 := Lib.hid (Kl0.out.below hb)
    clear hb B0 Kl0
    obtain ⟨⟨cl0, cl1, cl2, cl3, cl4⟩, dl0, dl1, dl2, dl3, dl4⟩ := Kl1.out.of5
    go_wp2_with fail
    go_ret
    exact ⟨rfl, B1.out⟩
  | true =>
    have C1 := Lib.hid (fun w => wordI_s n 32 w)
    simp only [hw] at C1
    by_cases h1 : (32 : Int) < d.size
    case pos =>
      have D := Lib.hid (show rcvOk ⟨n, d, rs, f, z⟩ = false from rcvOk_not (fun k1 k2 k3 k4 => by omega))
      rw [D.out]
      clear D
      go_enter Try.func56, Try.ntmps56
      have B0 := Lib.hid (show Below w.heap.size w (w.alloc (.cells #[.int .i64 n, .string d, .slice a rs.length cap, .int .i64 f, .bool z] 34)) from ((Below.refl _ w).alloc (by simp) _))
      have Kl0 := Lib.hid (show Blk (w.alloc (.cells #[.int .i64 n, .string d, .slice a rs.length cap, .int .i64 f, .bool z] 34)) (w.heap.size) [.int .i64 n, .string d, .slice a rs.length cap, .int .i64 f, .bool z] from Blk.new w [.int .i64 n, .string d, .slice a rs.length cap, .int .i64 f, .bool z] 34)
      go_wp2_with fail
      change Calls _ _ _ (w.alloc (.cells #[.int .i64 n, .string d, .slice a rs.length cap, .int .i64 f, .bool z] 34)) _
      generalize w.alloc (.cells #[.int .i64 n, .string d, .slice a rs.length cap, .int .i64 f, .bool z] 34) = v0 at B0 Kl0 ⊢
      generalize w.heap.size = g_l at Kl0 ⊢
      refine (C1.out _).mono ?_
      rintro e v1 ⟨rfl, hb⟩
      have B1 := Lib.hid (B0.out.trans (hb.mono B0.out.size))
      have Kl1 := Lib.hid (Kl0.out.below hb)
      clear hb B0 Kl0
      obtain ⟨⟨cl0, cl1, cl2, cl3, cl4⟩, dl0, dl1, dl2, dl3, dl4⟩ := Kl1.out.of5
      go_wp2_with fail
      go_ret
      exact ⟨rfl, B1.out⟩
    by_cases h2 : (3 : Int) < rs.length
    case pos =>
      have D := Lib.hid (show rcvOk ⟨n, d, rs, f, z⟩ = false from rcvOk_not (fun k1 k2 k3 k4 => by omega))
      rw [D.out]
      clear D
      go_enter Try.func56, Try.ntmps56
      have B0 := Lib.hid (show Below w.heap.size w (w.alloc (.cells #[.int .i64 n, .string d, .slice a rs.length cap, .int .i64 f, .bool z] 34)) from ((Below.refl _ w).alloc (by simp) _))
      have Kl0 := Lib.hid (show Blk (w.alloc (.cells #[.int .i64 n, .string d, .slice a rs.length cap, .int .i64 f, .bool z] 34)) (w.heap.size) [.int .i64 n, .string d, .slice a rs.length cap, .int .i64 f, .bool z] from Blk.new w [.int .i64 n, .string d, .slice a rs.length cap, .int .i64 f, .bool z] 34)
      go_wp2_with fail
      change Calls _ _ _ (w.alloc (.cells #[.int .i64 n, .string d, .slice a rs.length cap, .int .i64 f, .bool z] 34)) _
      generalize w.alloc (.cells #[.int .i64 n, .string d, .slice a rs.length cap, .int .i64 f, .bool z] 34) = v0 at B0 Kl0 ⊢
      generalize w.heap.size = g_l at Kl0 ⊢
      refine (C1.out _).mono ?_
      rintro e v1 ⟨rfl, hb⟩
      have B1 := Lib.hid (B0.out.trans (hb.mono B0.out.size))
      have Kl1 := Lib.hid (Kl0.out.below hb)
      clear hb B0 Kl0
      obtain ⟨⟨cl0, cl1, cl2, cl3, cl4⟩, dl0, dl1, dl2, dl3, dl4⟩ := Kl1.out.of5
      go_wp2_with fail
      go_ret
      exact ⟨rfl, B1.out⟩
    have HW := Lib.hid hw
    have h1' : ¬ (32 : Int) < d.size := h1
    by_cases h3 : f = -1
    case pos =>
      subst h3
      rw [rcvOk_last HW.out (by omega) (by omega) (.inl rfl)]
      have hL : 0 ≤ lim d (-1) z ∧ lim d (-1) z ≤ 32 := by rw [lim_yes]; exact win_bd d z
      go_enter Try.func56, Try.ntmps56
      have B0 := Lib.hid (show Below w.heap.size w (w.alloc (.cells #[.int .i64 n, .string d, .slice a rs.length cap, .int .i64 (-1), .bool z] 34)) from ((Below.refl _ w).alloc (by simp) _))
      have Kl0 := Lib.hid (show Blk (w.alloc (.cells #[.int .i64 n, .string d, .slice a rs.length cap, .int .i64 (-1), .bool z] 34)) (w.heap.size) [.int .i64 n, .string d, .slice a rs.length cap, .int .i64 (-1), .bool z] from Blk.new w [.int .i64 n, .string d, .slice a rs.length cap, .int .i64 (-1), .bool z] 34)
      go_wp2_with fail
      change Calls _ _ _ (w.alloc (.cells #[.int .i64 n, .string d, .slice a rs.length cap, .int .i64 (-1), .bool z] 34)) _
      generalize w.alloc (.cells #[.int .i64 n, .string d, .slice a rs.length cap, .int .i64 (-1), .bool z] 34) = v0 at B0 Kl0 ⊢
      generalize w.heap.size = g_l at Kl0 ⊢
      refine (C1.out _).mono ?_
      rintro e v1 ⟨rfl, hb⟩
      have B1 := Lib.hid (B0.out.trans (hb.mono B0.out.size))
      have Kl1 := Lib.hid (Kl0.out.below hb)
      clear hb B0 Kl0
      obtain ⟨⟨cl0, cl1, cl2, cl3, cl4⟩, dl0, dl1, dl2, dl3, dl4⟩ := Kl1.out.of5
      go_wp2_with fail
      go_quiet (fail)
      rename_i nq
      have B2 := Lib.hid (below_drewN B1.out nq)
      have Kl2 := Lib.hid (show Blk (v1.drewN nq) g_l [.int .i64 n, .string d, .slice a rs.length cap, .int .i64 (-1), .bool z] from Kl1.out)
      clear cl0 cl1 cl2 cl3 cl4 dl0 dl1 dl2 dl3 dl4
      clear B1 Kl1
      generalize v1.drewN nq = v2 at B2 Kl2 ⊢
      obtain ⟨⟨cl0, cl1, cl2, cl3, cl4⟩, dl0, dl1, dl2, dl3, dl4⟩ := Kl2.out.of5
      go_wp2_with fail
      clear cl0 cl1 cl2 cl3 cl4 dl0 dl1 dl2 dl3 dl4
      obtain ⟨⟨cl0, cl1, cl2, cl3, cl4⟩, dl0, dl1, dl2, dl3, dl4⟩ := Kl2.out.of5
      have P2_0 : True := trivial
      have P2_1 : True := trivial
      go_region_held3 (fun w' => (w'.cell? ⟨g_l, 0, none⟩ = some (.int .i64 n) ∧ w'.cell? ⟨g_l, 1, none⟩ = some (.string d) ∧ w'.cell? ⟨g_l, 2, none⟩ = some (.slice a rs.length cap) ∧ w'.cell? ⟨g_l, 3, none⟩ = some (.int .i64 (-1)) ∧ w'.cell? ⟨g_l, 4, none⟩ = some (.bool z)))
        (first | go_keep | (exact Kl3.out.of5.1) | (exact Kl4.out.of5.1))
        (first | (have q := P2_0; go_at_call 88; clear q P2_0; refine (limitI n (-1) z d a cap rs hd _).mono ?_; rintro e v3 ⟨rfl, hb⟩; replace hb := (Below.refl _ v2).drew.trans hb; have B3 := Lib.hid (B2.out.trans (hb.mono B2.out.size)); have Kl3 := Lib.hid (Kl2.out.below hb); clear hb B2 Kl2) | (have q := P2_1; go_at_call 87; clear q P2_1; refine (piecesOkI a cap rs (lim d (-1) z) hL.1 hL.2 hl HS.out _ ((HR.out.below B3.out).mono B3.out.size)).mono ?_; rintro e v4 ⟨rfl, hb⟩; have B4 := Lib.hid (B3.out.trans (hb.mono B3.out.size)); have Kl4 := Lib.hid (Kl3.out.below hb); clear hb B3 Kl3))
      try clear cl0 cl1 cl2 cl3 cl4 dl0 dl1 dl2 dl3 dl4
      obtain ⟨⟨cl0, cl1, cl2, cl3, cl4⟩, dl0, dl1, dl2, dl3, dl4⟩ := Kl4.out.of5
      go_wp2_with fail
      go_ret
      exact ⟨rfl, B4.out⟩
    have h3' : (f == -1) = false := by simpa using h3
    have h3q : (f != -1) = true := by simp [bne, h3']
    by_cases h4 : f < 1
    case pos =>
      have h4q : decide (f < 1) = true := by simpa using h4
      have D := Lib.hid (show rcvOk ⟨n, d, rs, f, z⟩ = false from rcvOk_not (fun k1 k2 k3 k4 => by omega))
      rw [D.out]
      clear D
      go_enter Try.func56, Try.ntmps56
      have B0 := Lib.hid (show Below w.heap.size w (w.alloc (.cells #[.int .i64 n, .string d, .slice a rs.length cap, .int .i64 f, .bool z] 34)) from ((Below.refl _ w).alloc (by simp) _))
      have Kl0 := Lib.hid (show Blk (w.alloc (.cells #[.int .i64 n, .string d, .slice a rs.length cap, .int .i64 f, .bool z] 34)) (w.heap.size) [.int .i64 n, .string d, .slice a rs.length cap, .int .i64 f, .bool z] from Blk.new w [.int .i64 n, .string d, .slice a rs.length cap, .int .i64 f, .bool z] 34)
      go_wp2_with fail
      change Calls _ _ _ (w.alloc (.cells #[.int .i64 n, .string d, .slice a rs.length cap, .int .i64 f, .bool z] 34)) _
      generalize w.alloc (.cells #[.int .i64 n, .string d, .slice a rs.length cap, .int .i64 f, .bool z] 34) = v0 at B0 Kl0 ⊢
      generalize w.heap.size = g_l at Kl0 ⊢
      refine (C1.out _).mono ?_
      rintro e v1 ⟨rfl, hb⟩
      have B1 := Lib.hid (B0.out.trans (hb.mono B0.out.size))
      have Kl1 := Lib.hid (Kl0.out.below hb)
      clear hb B0 Kl0
      obtain ⟨⟨cl0, cl1, cl2, cl3, cl4⟩, dl0, dl1, dl2, dl3, dl4⟩ := Kl1.out.of5
      go_wp2_with fail
      go_quiet (fail)
      go_wp2_with fail
      go_ret
      exact ⟨rfl, below_drewN B1.out _⟩
    have h4q : decide (f < 1) = false := by simpa using h4
    by_cases h5 : win d z < f
    case pos =>
      have D := Lib.hid (show rcvOk ⟨n, d, rs, f, z⟩ = false from rcvOk_not (fun k1 k2 k3 k4 => by omega))
      rw [D.out]
      clear D
      go_enter Try.func56, Try.ntmps56
      have B0 := Lib.hid (show Below w.heap.size w (w.alloc (.cells #[.int .i64 n, .string d, .slice a rs.length cap, .int .i64 f, .bool z] 34)) from ((Below.refl _ w).alloc (by simp) _))
      have Kl0 := Lib.hid (show Blk (w.alloc (.cells #[.int .i64 n, .string d, .slice a rs.length cap, .int .i64 f, .bool z] 34)) (w.heap.size) [.int .i64 n, .string d, .slice a rs.length cap, .int .i64 f, .bool z] from Blk.new w [.int .i64 n, .string d, .slice a rs.length cap, .int .i64 f, .bool z] 34)
      go_wp2_with fail
      change Calls _ _ _ (w.alloc (.cells #[.int .i64 n, .string d, .slice a rs.length cap, .int .i64 f, .bool z] 34)) _
      generalize w.alloc (.cells #[.int .i64 n, .string d, .slice a rs.length cap, .int .i64 f, .bool z] 34) = v0 at B0 Kl0 ⊢
      generalize w.heap.size = g_l at Kl0 ⊢
      refine (C1.out _).mono ?_
      rintro e v1 ⟨rfl, hb⟩
      have B1 := Lib.hid (B0.out.trans (hb.mono B0.out.size))
      have Kl1 := Lib.hid (Kl0.out.below hb)
      clear hb B0 Kl0
      obtain ⟨⟨cl0, cl1, cl2, cl3, cl4⟩, dl0, dl1, dl2, dl3, dl4⟩ := Kl1.out.of5
      go_wp2_with fail
      clear cl0 cl1 cl2 cl3 cl4 dl0 dl1 dl2 dl3 dl4
      obtain ⟨⟨cl0, cl1, cl2, cl3, cl4⟩, dl0, dl1, dl2, dl3, dl4⟩ := Kl1.out.of5
      have P1_0 : True := trivial
      go_region_held3 (fun w' => (w'.cell? ⟨g_l, 0, none⟩ = some (.int .i64 n) ∧ w'.cell? ⟨g_l, 1, none⟩ = some (.string d) ∧ w'.cell? ⟨g_l, 2, none⟩ = some (.slice a rs.length cap) ∧ w'.cell? ⟨g_l, 3, none⟩ = some (.int .i64 f) ∧ w'.cell? ⟨g_l, 4, none⟩ = some (.bool z)))
        (first | go_keep | (exact Kl2.out.of5.1))
        ((have q := P1_0; go_at_call 53; clear q P1_0; refine (windowI n f z d a cap rs hd _).mono ?_; rintro e v2 ⟨rfl, hb⟩; replace hb := (Below.refl _ v1).drew.trans hb; have B2 := Lib.hid (B1.out.trans (hb.mono B1.out.size)); have Kl2 := Lib.hid (Kl1.out.below hb); clear hb B1 Kl1))
      try clear cl0 cl1 cl2 cl3 cl4 dl0 dl1 dl2 dl3 dl4
      obtain ⟨⟨cl0, cl1, cl2, cl3, cl4⟩, dl0, dl1, dl2, dl3, dl4⟩ := Kl2.out.of5
      go_wp2_with fail
      go_ret
      exact ⟨rfl, B2.out⟩
    rw [rcvOk_last HW.out (by omega) (by omega) (.inr ⟨by omega, by omega⟩)]
    have hwb := win_bd d z
    have hL : 0 ≤ lim d f z ∧ lim d f z ≤ 32 := by rw [lim_no h3]; omega
    clear hwb HW
    go_enter Try.func56, Try.ntmps56
    have B0 := Lib.hid (show Below w.heap.size w (w.alloc (.cells #[.int .i64 n, .string d, .slice a rs.length cap, .int .i64 f, .bool z] 34)) from ((Below.refl _ w).alloc (by simp) _))
    have Kl0 := Lib.hid (show Blk (w.alloc (.cells #[.int .i64 n, .string d, .slice a rs.length cap, .int .i64 f, .bool z] 34)) (w.heap.size) [.int .i64 n, .string d, .slice a rs.length cap, .int .i64 f, .bool z] from Blk.new w [.int .i64 n, .string d, .slice a rs.length cap, .int .i64 f, .bool z] 34)
    go_wp2_with fail
    change Calls _ _ _ (w.alloc (.cells #[.int .i64 n, .string d, .slice a rs.length cap, .int .i64 f, .bool z] 34)) _
    generalize w.alloc (.cells #[.int .i64 n, .string d, .slice a rs.length cap, .int .i64 f, .bool z] 34) = v0 at B0 Kl0 ⊢
    generalize w.heap.size = g_l at Kl0 ⊢
    refine (C1.out _).mono ?_
    rintro e v1 ⟨rfl, hb⟩
    have B1 := Lib.hid (B0.out.trans (hb.mono B0.out.size))
    have Kl1 := Lib.hid (Kl0.out.below hb)
    clear hb B0 Kl0
    obtain ⟨⟨cl0, cl1, cl2, cl3, cl4⟩, dl0, dl1, dl2, dl3, dl4⟩ := Kl1.out.of5
    go_wp2_with fail
    clear cl0 cl1 cl2 cl3 cl4 dl0 dl1 dl2 dl3 dl4
    obtain ⟨⟨cl0, cl1, cl2, cl3, cl4⟩, dl0, dl1, dl2, dl3, dl4⟩ := Kl1.out.of5
    have P1_0 : True := trivial
    go_region_held3 (fun w' => (w'.cell? ⟨g_l, 0, none⟩ = some (.int .i64 n) ∧ w'.cell? ⟨g_l, 1, none⟩ = some (.string d) ∧ w'.cell? ⟨g_l, 2, none⟩ = some (.slice a rs.length cap) ∧ w'.cell? ⟨g_l, 3, none⟩ = some (.int .i64 f) ∧ w'.cell? ⟨g_l, 4, none⟩ = some (.bool z)))
      (first | go_keep | (exact Kl2.out.of5.1))
      ((have q := P1_0; go_at_call 53; clear q P1_0; refine (windowI n f z d a cap rs hd _).mono ?_; rintro e v2 ⟨rfl, hb⟩; replace hb := (Below.refl _ v1).drew.trans hb; have B2 := Lib.hid (B1.out.trans (hb.mono B1.out.size)); have Kl2 := Lib.hid (Kl1.out.below hb); clear hb B1 Kl1))
    try clear cl0 cl1 cl2 cl3 cl4 dl0 dl1 dl2 dl3 dl4
    obtain ⟨⟨cl0, cl1, cl2, cl3, cl4⟩, dl0, dl1, dl2, dl3, dl4⟩ := Kl2.out.of5
    go_wp2_with fail
    clear cl0 cl1 cl2 cl3 cl4 dl0 dl1 dl2 dl3 dl4
    obtain ⟨⟨cl0, cl1, cl2, cl3, cl4⟩, dl0, dl1, dl2, dl3, dl4⟩ := Kl2.out.of5
    have P2_0 : True := trivial
    have P2_1 : True := trivial
    go_region_held3 (fun w' => (w'.cell? ⟨g_l, 0, none⟩ = some (.int .i64 n) ∧ w'.cell? ⟨g_l, 1, none⟩ = some (.string d) ∧ w'.cell? ⟨g_l, 2, none⟩ = some (.slice a rs.length cap) ∧ w'.cell? ⟨g_l, 3, none⟩ = some (.int .i64 f) ∧ w'.cell? ⟨g_l, 4, none⟩ = some (.bool z)))
      (first | go_keep | (exact Kl3.out.of5.1) | (exact Kl4.out.of5.1))
      (first | (have q := P2_0; go_at_call 88; clear q P2_0; refine (limitI n f z d a cap rs hd _).mono ?_; rintro e v3 ⟨rfl, hb⟩; replace hb := (Below.refl _ v2).drew.trans hb; have B3 := Lib.hid (B2.out.trans (hb.mono B2.out.size)); have Kl3 := Lib.hid (Kl2.out.below hb); clear hb B2 Kl2) | (have q := P2_1; go_at_call 87; clear q P2_1; refine (piecesOkI a cap rs (lim d f z) hL.1 hL.2 hl HS.out _ ((HR.out.below B3.out).mono B3.out.size)).mono ?_; rintro e v4 ⟨rfl, hb⟩; have B4 := Lib.hid (B3.out.trans (hb.mono B3.out.size)); have Kl4 := Lib.hid (Kl3.out.below hb); clear hb B3 Kl3))
    try clear cl0 cl1 cl2 cl3 cl4 dl0 dl1 dl2 dl3 dl4
    obtain ⟨⟨cl0, cl1, cl2, cl3, cl4⟩, dl0, dl1, dl2, dl3, dl4⟩ := Kl4.out.of5
    go_wp2_with fail
    go_ret
    exact ⟨rfl, B4.out⟩
end Go.Proofs.Ytajekjjaaohbnaa
