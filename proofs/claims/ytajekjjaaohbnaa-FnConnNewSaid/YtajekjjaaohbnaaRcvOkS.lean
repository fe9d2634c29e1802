/- ReceiverOk of the model. Nothing here is a claim. -/
import Derived.Test.YtajekjjaaohbnaaRcvOk
namespace Go.Proofs.Ytajekjjaaohbnaa
open Go.RowKit Go.Lib

theorem wordS_s (n b : Int) (w : World) : Calls Try.prog 49 #[.int .i64 n, .int .i64 b] w (SndB (wordOk n b) w) := (wordOkS n b w).mono fun _ _ h => ⟨h.1, by rw [h.2]; exact Below.refl _ _⟩
theorem l1In_s (x lo hi : Int) (w : World) : Calls Try.prog 70 #[.int .i64 x, .int .i64 lo, .int .i64 hi] w (SndB (decide (lo ≤ x ∧ x ≤ hi)) w) := (l1In_any x lo hi w).mono fun _ _ h => ⟨h.1, by rw [← h.2]; exact Below.refl _ _⟩
/-- Within a smaller bound. -/
theorem pieces_less {rs : List HP} {l m : Int} (_ : 0 ≤ l) (h : PiecesOk rs l rs.length) (he : endTo rs rs.length ≤ m) : PiecesOk rs m rs.length := by
  intro k hk hk2
  have h1 := h k hk hk2
  refine ⟨h1.1, h1.2.1, ?_⟩
  have mono : ∀ j, k + 1 + j ≤ rs.length → endTo rs (k + 1) ≤ endTo rs (k + 1 + j) := by
    intro j
    induction j with
    | zero => intro _; exact Int.le_refl _
    | succ j ih =>
      intro hj
      have i1 := ih (by omega)
      have h2 := h (k + 1 + j) (by omega) (by omega)
      have hj1 : k + 1 + j < rs.length := by omega
      have e := endTo_succ hj1
      rw [show k + 1 + (j + 1) = k + 1 + j + 1 from rfl, e]
      rw [show k + 1 + (j + 1) = k + 1 + j + 1 from rfl] at hj
      have h3 := h2.2.1
      have h4 := h2.1
      omega
  have m1 := mono (rs.length - (k + 1)) (by omega)
  rw [show k + 1 + (rs.length - (k + 1)) = rs.length by omega, endTo_succ hk] at m1
  omega
theorem pieces_zero {rs : List HP} (h : PiecesOk rs 0 rs.length) : rs.length = 0 := by
  rcases Nat.eq_zero_or_pos rs.length with h1 | h1
  · exact h1
  · have h2 := h 0 h1 h1
    have h3 := h2.2.1
    have h4 := h2.2.2
    have h5 := h2.1
    simp only [endTo] at h3
    omega
theorem piecesB_end {rs : List HP} {w f : Int} (h0 : 0 ≤ w) (hf : 0 ≤ f) (h : PiecesOk rs w rs.length) : piecesB rs f = decide (endTo rs rs.length ≤ f) := by
  by_cases he : endTo rs rs.length ≤ f
  · rw [decide_eq_true he]; exact piecesB_yes (pieces_less h0 h he)
  · rw [decide_eq_false he]
    unfold piecesB
    simp only [decide_eq_false_iff_not]
    exact fun q => he (q.end_bd hf (Nat.le_refl _)).2
theorem piecesB_less {rs : List HP} {w f : Int} {k : Nat} (hk : k < rs.length) (h : ¬ PieceOk rs w k hk) (hf : f ≤ w) : piecesB rs f = false :=
  piecesB_no hk fun q => h ⟨q.1, q.2.1, by have := q.2.2; omega⟩

set_option maxRecDepth 100000 in
set_option maxHeartbeats 8000000 in
theorem rcvOkS (n f : Int) (z : Bool) (d : ByteArray) (a : Option Addr) (cap : Nat) (rs : List HP) (hB : RB d rs) (w : World) (hrow : Row w w.heap.size a (hps rs)) :
    Calls Try.prog 69 #[.agg #[.int .i64 n, .string d, .slice a rs.length cap, .int .i64 f, .bool z]] w (SndB (rcvOk ⟨n, d, rs, f, z⟩) w) := by
  obtain ⟨hd, hl, hsz⟩ := hB
  have HS := Lib.hid hsz
  have HR := Lib.hid hrow
  clear hrow hsz
  cases hw : wordOk n 32 with
  | false =>
    have C1 := Lib.hid (fun w => wordS_s n 32 w)
    simp only [hw] at C1
    have D := Lib.hid (show rcvOk ⟨n, d, rs, f, z⟩ = false from rcvOk_not (fun k1 k2 k3 k4 => by rw [hw] at k1; cases k1))
    rw [D.out]
    clear D
    go_enter Try.func69, Try.ntmps69
    have B0 := Lib.hid (show Below w.heap.size w (w.alloc (.cells #[.int .i64 n, .string d, .slice a rs.length cap, .int .i64 f, .bool z] 34)) from ((Below.refl _ w).alloc (by simp) _))
    have Kl0 := Lib.hid (show Blk (w.alloc (.cells #[.int .i64 n, .string d, .slice a rs.length cap, .int .i64 f, .bool z] 34)) (w.heap.size) [.int .i64 n, .string d, .slice a rs.length cap, .int .i64 f, .bool z] from Blk.new w [.int .i64 n, .string d, .slice a rs.length cap, .int .i64 f, .bool z] 34)
    go_wp2_with fail
    change Calls _ _ _ (w.alloc (.cells #[.int .i64 n, .string d, .slice a rs.length cap, .int .i64 f, .bool z] 34)) _
    generalize w.alloc (.cells #[.int .i64 n, .string d, .slice a rs.length cap, .int .i64 f, .bool z] 34) = v0 at B0 Kl0 ⊢
    generalize w.heap.size = g_l at Kl0 ⊢
    refine (windowS n f z d a cap rs hd _).mono ?_
    rintro e v1 ⟨rfl, hb⟩
    have B1 := Lib.hid (B0.out.trans (hb.mono B0.out.size))
    have Kl1 := Lib.hid (Kl0.out.below hb)
    clear hb B0 Kl0
    obtain ⟨⟨cl0, cl1, cl2, cl3, cl4⟩, dl0, dl1, dl2, dl3, dl4⟩ := Kl1.out.of5
    go_wp2_with fail
    clear cl0 cl1 cl2 cl3 cl4 dl0 dl1 dl2 dl3 dl4
    refine (C1.out _).mono ?_
    rintro e v2 ⟨rfl, hb⟩
    have B2 := Lib.hid (B1.out.trans (hb.mono B1.out.size))
    have Kl2 := Lib.hid (Kl1.out.below hb)
    clear hb B1 Kl1
    obtain ⟨⟨cl0, cl1, cl2, cl3, cl4⟩, dl0, dl1, dl2, dl3, dl4⟩ := Kl2.out.of5
    go_wp2_with fail
    go_ret
    exact ⟨rfl, B2.out⟩
  | true =>
    have C1 := Lib.hid (fun w => wordS_s n 32 w)
    simp only [hw] at C1
    by_cases h1 : (32 : Int) < d.size
    case pos =>
      have D := Lib.hid (show rcvOk ⟨n, d, rs, f, z⟩ = false from rcvOk_not (fun k1 k2 k3 k4 => by omega))
      rw [D.out]
      clear D
      go_enter Try.func69, Try.ntmps69
      have B0 := Lib.hid (show Below w.heap.size w (w.alloc (.cells #[.int .i64 n, .string d, .slice a rs.length cap, .int .i64 f, .bool z] 34)) from ((Below.refl _ w).alloc (by simp) _))
      have Kl0 := Lib.hid (show Blk (w.alloc (.cells #[.int .i64 n, .string d, .slice a rs.length cap, .int .i64 f, .bool z] 34)) (w.heap.size) [.int .i64 n, .string d, .slice a rs.length cap, .int .i64 f, .bool z] from Blk.new w [.int .i64 n, .string d, .slice a rs.length cap, .int .i64 f, .bool z] 34)
      go_wp2_with fail
      change Calls _ _ _ (w.alloc (.cells #[.int .i64 n, .string d, .slice a rs.length cap, .int .i64 f, .bool z] 34)) _
      generalize w.alloc (.cells #[.int .i64 n, .string d, .slice a rs.length cap, .int .i64 f, .bool z] 34) = v0 at B0 Kl0 ⊢
      generalize w.heap.size = g_l at Kl0 ⊢
      refine (windowS n f z d a cap rs hd _).mono ?_
      rintro e v1 ⟨rfl, hb⟩
      have B1 := Lib.hid (B0.out.trans (hb.mono B0.out.size))
      have Kl1 := Lib.hid (Kl0.out.below hb)
      clear hb B0 Kl0
      obtain ⟨⟨cl0, cl1, cl2, cl3, cl4⟩, dl0, dl1, dl2, dl3, dl4⟩ := Kl1.out.of5
      go_wp2_with fail
      clear cl0 cl1 cl2 cl3 cl4 dl0 dl1 dl2 dl3 dl4
      refine (C1.out _).mono ?_
      rintro e v2 ⟨rfl, hb⟩
      have B2 := Lib.hid (B1.out.trans (hb.mono B1.out.size))
      have Kl2 := Lib.hid (Kl1.out.below hb)
      clear hb B1 Kl1
      obtain ⟨⟨cl0, cl1, cl2, cl3, cl4⟩, dl0, dl1, dl2, dl3, dl4⟩ := Kl2.out.of5
      go_wp2_with fail
      go_ret
      exact ⟨rfl, B2.out⟩
    by_cases h2 : (3 : Int) < rs.length
    case pos =>
      have D := Lib.hid (show rcvOk ⟨n, d, rs, f, z⟩ = false from rcvOk_not (fun k1 k2 k3 k4 => by omega))
      rw [D.out]
      clear D
      go_enter Try.func69, Try.ntmps69
      have B0 := Lib.hid (show Below w.heap.size w (w.alloc (.cells #[.int .i64 n, .string d, .slice a rs.length cap, .int .i64 f, .bool z] 34)) from ((Below.refl _ w).alloc (by simp) _))
      have Kl0 := Lib.hid (show Blk (w.alloc (.cells #[.int .i64 n, .string d, .slice a rs.length cap, .int .i64 f, .bool z] 34)) (w.heap.size) [.int .i64 n, .string d, .slice a rs.length cap, .int .i64 f, .bool z] from Blk.new w [.int .i64 n, .string d, .slice a rs.length cap, .int .i64 f, .bool z] 34)
      go_wp2_with fail
      change Calls _ _ _ (w.alloc (.cells #[.int .i64 n, .string d, .slice a rs.length cap, .int .i64 f, .bool z] 34)) _
      generalize w.alloc (.cells #[.int .i64 n, .string d, .slice a rs.length cap, .int .i64 f, .bool z] 34) = v0 at B0 Kl0 ⊢
      generalize w.heap.size = g_l at Kl0 ⊢
      refine (windowS n f z d a cap rs hd _).mono ?_
      rintro e v1 ⟨rfl, hb⟩
      have B1 := Lib.hid (B0.out.trans (hb.mono B0.out.size))
      have Kl1 := Lib.hid (Kl0.out.below hb)
      clear hb B0 Kl0
      obtain ⟨⟨cl0, cl1, cl2, cl3, cl4⟩, dl0, dl1, dl2, dl3, dl4⟩ := Kl1.out.of5
      go_wp2_with fail
      clear cl0 cl1 cl2 cl3 cl4 dl0 dl1 dl2 dl3 dl4
      refine (C1.out _).mono ?_
      rintro e v2 ⟨rfl, hb⟩
      have B2 := Lib.hid (B1.out.trans (hb.mono B1.out.size))
      have Kl2 := Lib.hid (Kl1.out.below hb)
      clear hb B1 Kl1
      obtain ⟨⟨cl0, cl1, cl2, cl3, cl4⟩, dl0, dl1, dl2, dl3, dl4⟩ := Kl2.out.of5
      go_wp2_with fail
      go_ret
      exact ⟨rfl, B2.out⟩
    have HW := Lib.hid hw
    have hwb := win_bd d z
    by_cases h3 : -1 ≤ f ∧ f ≤ win d z
    case neg =>
      have C2 := Lib.hid (fun w => l1In_s f (-1) (win d z) w)
      simp only [decide_eq_false h3] at C2
      have D := Lib.hid (show rcvOk ⟨n, d, rs, f, z⟩ = false from rcvOk_not (fun k1 k2 k3 k4 => by omega))
      rw [D.out]
      clear D
      go_enter Try.func69, Try.ntmps69
      have B0 := Lib.hid (show Below w.heap.size w (w.alloc (.cells #[.int .i64 n, .string d, .slice a rs.length cap, .int .i64 f, .bool z] 34)) from ((Below.refl _ w).alloc (by simp) _))
      have Kl0 := Lib.hid (show Blk (w.alloc (.cells #[.int .i64 n, .string d, .slice a rs.length cap, .int .i64 f, .bool z] 34)) (w.heap.size) [.int .i64 n, .string d, .slice a rs.length cap, .int .i64 f, .bool z] from Blk.new w [.int .i64 n, .string d, .slice a rs.length cap, .int .i64 f, .bool z] 34)
      go_wp2_with fail
      change Calls _ _ _ (w.alloc (.cells #[.int .i64 n, .string d, .slice a rs.length cap, .int .i64 f, .bool z] 34)) _
      generalize w.alloc (.cells #[.int .i64 n, .string d, .slice a rs.length cap, .int .i64 f, .bool z] 34) = v0 at B0 Kl0 ⊢
      generalize w.heap.size = g_l at Kl0 ⊢
      refine (windowS n f z d a cap rs hd _).mono ?_
      rintro e v1 ⟨rfl, hb⟩
      have B1 := Lib.hid (B0.out.trans (hb.mono B0.out.size))
      have Kl1 := Lib.hid (Kl0.out.below hb)
      clear hb B0 Kl0
      obtain ⟨⟨cl0, cl1, cl2, cl3, cl4⟩, dl0, dl1, dl2, dl3, dl4⟩ := Kl1.out.of5
      go_wp2_with fail
      clear cl0 cl1 cl2 cl3 cl4 dl0 dl1 dl2 dl3 dl4
      refine (C1.out _).mono ?_
      rintro e v2 ⟨rfl, hb⟩
      have B2 := Lib.hid (B1.out.trans (hb.mono B1.out.size))
      have Kl2 := Lib.hid (Kl1.out.below hb)
      clear hb B1 Kl1
      obtain ⟨⟨cl0, cl1, cl2, cl3, cl4⟩, dl0, dl1, dl2, dl3, dl4⟩ := Kl2.out.of5
      go_wp2_with fail
      clear cl0 cl1 cl2 cl3 cl4 dl0 dl1 dl2 dl3 dl4
      refine (C2.out _).mono ?_
      rintro e v3 ⟨rfl, hb⟩
      have B3 := Lib.hid (B2.out.trans (hb.mono B2.out.size))
      have Kl3 := Lib.hid (Kl2.out.below hb)
      clear hb B2 Kl2
      obtain ⟨⟨cl0, cl1, cl2, cl3, cl4⟩, dl0, dl1, dl2, dl3, dl4⟩ := Kl3.out.of5
      go_wp2_with fail
      go_ret
      exact ⟨rfl, B3.out⟩
    have C2 := Lib.hid (fun w => l1In_s f (-1) (win d z) w)
    simp only [decide_eq_true h3] at C2
    by_cases h4 : f = 0
    case pos =>
      subst h4
      have D := Lib.hid (show rcvOk ⟨n, d, rs, 0, z⟩ = false from rcvOk_not (fun k1 k2 k3 k4 => by omega))
      rw [D.out]
      clear D
      go_enter Try.func69, Try.ntmps69
      have B0 := Lib.hid (show Below w.heap.size w (w.alloc (.cells #[.int .i64 n, .string d, .slice a rs.length cap, .int .i64 0, .bool z] 34)) from ((Below.refl _ w).alloc (by simp) _))
      have Kl0 := Lib.hid (show Blk (w.alloc (.cells #[.int .i64 n, .string d, .slice a rs.length cap, .int .i64 0, .bool z] 34)) (w.heap.size) [.int .i64 n, .string d, .slice a rs.length cap, .int .i64 0, .bool z] from Blk.new w [.int .i64 n, .string d, .slice a rs.length cap, .int .i64 0, .bool z] 34)
      go_wp2_with fail
      change Calls _ _ _ (w.alloc (.cells #[.int .i64 n, .string d, .slice a rs.length cap, .int .i64 0, .bool z] 34)) _
      generalize w.alloc (.cells #[.int .i64 n, .string d, .slice a rs.length cap, .int .i64 0, .bool z] 34) = v0 at B0 Kl0 ⊢
      generalize w.heap.size = g_l at Kl0 ⊢
      refine (windowS n 0 z d a cap rs hd _).mono ?_
      rintro e v1 ⟨rfl, hb⟩
      have B1 := Lib.hid (B0.out.trans (hb.mono B0.out.size))
      have Kl1 := Lib.hid (Kl0.out.below hb)
      clear hb B0 Kl0
      obtain ⟨⟨cl0, cl1, cl2, cl3, cl4⟩, dl0, dl1, dl2, dl3, dl4⟩ := Kl1.out.of5
      go_wp2_with fail
      clear cl0 cl1 cl2 cl3 cl4 dl0 dl1 dl2 dl3 dl4
      refine (C1.out _).mono ?_
      rintro e v2 ⟨rfl, hb⟩
      have B2 := Lib.hid (B1.out.trans (hb.mono B1.out.size))
      have Kl2 := Lib.hid (Kl1.out.below hb)
      clear hb B1 Kl1
      obtain ⟨⟨cl0, cl1, cl2, cl3, cl4⟩, dl0, dl1, dl2, dl3, dl4⟩ := Kl2.out.of5
      go_wp2_with fail
      clear cl0 cl1 cl2 cl3 cl4 dl0 dl1 dl2 dl3 dl4
      refine (C2.out _).mono ?_
      rintro e v3 ⟨rfl, hb⟩
      have B3 := Lib.hid (B2.out.trans (hb.mono B2.out.size))
      have Kl3 := Lib.hid (Kl2.out.below hb)
      clear hb B2 Kl2
      obtain ⟨⟨cl0, cl1, cl2, cl3, cl4⟩, dl0, dl1, dl2, dl3, dl4⟩ := Kl3.out.of5
      go_wp2_with fail
      go_ret
      exact ⟨rfl, B3.out⟩
    have h4' : (f == 0) = false := by simpa using h4
    rw [rcvOk_last HW.out (by omega) (by omega) (by omega)]
    go_enter Try.func69, Try.ntmps69
    have B0 := Lib.hid (show Below w.heap.size w (w.alloc (.cells #[.int .i64 n, .string d, .slice a rs.length cap, .int .i64 f, .bool z] 34)) from ((Below.refl _ w).alloc (by simp) _))
    have Kl0 := Lib.hid (show Blk (w.alloc (.cells #[.int .i64 n, .string d, .slice a rs.length cap, .int .i64 f, .bool z] 34)) (w.heap.size) [.int .i64 n, .string d, .slice a rs.length cap, .int .i64 f, .bool z] from Blk.new w [.int .i64 n, .string d, .slice a rs.length cap, .int .i64 f, .bool z] 34)
    go_wp2_with fail
    change Calls _ _ _ (w.alloc (.cells #[.int .i64 n, .string d, .slice a rs.length cap, .int .i64 f, .bool z] 34)) _
    generalize w.alloc (.cells #[.int .i64 n, .string d, .slice a rs.length cap, .int .i64 f, .bool z] 34) = v0 at B0 Kl0 ⊢
    generalize w.heap.size = g_l at Kl0 ⊢
    refine (windowS n f z d a cap rs hd _).mono ?_
    rintro e v1 ⟨rfl, hb⟩
    have B1 := Lib.hid (B0.out.trans (hb.mono B0.out.size))
    have Kl1 := Lib.hid (Kl0.out.below hb)
    clear hb B0 Kl0
    obtain ⟨⟨cl0, cl1, cl2, cl3, cl4⟩, dl0, dl1, dl2, dl3, dl4⟩ := Kl1.out.of5
    go_wp2_with fail
    clear cl0 cl1 cl2 cl3 cl4 dl0 dl1 dl2 dl3 dl4
    refine (C1.out _).mono ?_
    rintro e v2 ⟨rfl, hb⟩
    have B2 := Lib.hid (B1.out.trans (hb.mono B1.out.size))
    have Kl2 := Lib.hid (Kl1.out.below hb)
    clear hb B1 Kl1
    obtain ⟨⟨cl0, cl1, cl2, cl3, cl4⟩, dl0, dl1, dl2, dl3, dl4⟩ := Kl2.out.of5
    go_wp2_with fail
    clear cl0 cl1 cl2 cl3 cl4 dl0 dl1 dl2 dl3 dl4
    refine (C2.out _).mono ?_
    rintro e v3 ⟨rfl, hb⟩
    have B3 := Lib.hid (B2.out.trans (hb.mono B2.out.size))
    have Kl3 := Lib.hid (Kl2.out.below hb)
    clear hb B2 Kl2
    obtain ⟨⟨cl0, cl1, cl2, cl3, cl4⟩, dl0, dl1, dl2, dl3, dl4⟩ := Kl3.out.of5
    go_wp2_with fail
    clear HW
    have HR2 := Lib.hid ((HR.out.below B3.out).mono B3.out.size)
    clear HR
    clear cl0 cl1 cl2 cl3 cl4 dl0 dl1 dl2 dl3 dl4
    have hwz : z = true → win d z = 0 := fun e => by subst e; rfl
    generalize hwg : win d z = wz at h3 hwb hwz C2 ⊢
    go_loopw [4, 5] (fun e i wr => ∃ k : Nat, k ≤ rs.length ∧ i = .int .i64 k ∧ (∃ q : Int, e = .int .i64 q ∧ Hid (q = endTo rs k)) ∧ Hid (PiecesOk rs wz k) ∧ Hid (Below v3.heap.size v3 wr)) (fun _ i _ => rs.length - (RowKit.intOf i).toNat)
    case atStart => exact ⟨0, Nat.zero_le _, rfl, ⟨0, rfl, rfl⟩, PiecesOk.zero _ _, Below.refl _ _⟩
    case round =>
      obtain ⟨k, hk, rfl, ⟨q, rfl, hq⟩, hok, hb⟩ := hrel
      have K2 := Lib.hid (Kl3.out.below hb.out)
      have hfl : lim d f z ≤ wz := by unfold lim; rw [hwg]; split <;> omega
      by_cases hlt : k < rs.length
      · obtain ⟨p, o, rfl, _, hcs⟩ := (HR2.out.below hb.out).hp hlt
        obtain ⟨hc0, hc1⟩ := hcs k hlt
        have hz := HS.out rs[k] (List.getElem_mem hlt)
        have hk0 : (0 : Int) ≤ (k : Int) := Int.natCast_nonneg _
        have hk1 : (k : Int) < (rs.length : Int) := by omega
        clear hcs
        obtain ⟨⟨cl0, cl1, cl2, cl3, cl4⟩, dl0, dl1, dl2, dl3, dl4⟩ := K2.out.of5
        have B1 := Lib.hid (hb.out.alloc hb.out.size (.cells #[.int .i64 rs[k].o, .string rs[k].t] 100))
        have B2 := Lib.hid (B3.out.trans (B1.out.mono B3.out.size))
        have hfl' := Lib.hid hfl
        clear hfl hwz hwg
        by_cases e1 : rs[k].t.size = 0
        · have e2 := strEmpty e1
          have N := Lib.hid (piecesB_less (w := wz) hlt (fun x => x.1 e1) hfl'.out)
          go_wp2_with fail
          go_ret
          exact ⟨ret_bool N.out.symm, B2.out⟩
        have e2 := strFull e1
        have E1 := Lib.hid e1
        clear e1
        by_cases e3 : rs[k].o ≤ q
        · have N := Lib.hid (piecesB_less (w := wz) hlt (fun x => by have h1 := x.2.1; have h2 := hq.out; omega) hfl'.out)
          go_wp2_with fail
          go_ret
          exact ⟨ret_bool N.out.symm, B2.out⟩
        by_cases e4 : wz < rs[k].o
        · have N := Lib.hid (piecesB_less (w := wz) hlt (fun x => by have h1 := x.2.2; omega) hfl'.out)
          go_wp2_with fail
          go_ret
          exact ⟨ret_bool N.out.symm, B2.out⟩
        have hq0 := (hok.out.end_bd hwb.1 hk).1
        have hq1 := hq.out
        have hw2 : IntKind.i64.wrap (rs[k].o + (rs[k].t.size : Int)) = rs[k].o + (rs[k].t.size : Int) := IntWalk.i64_in _ (by omega)
        by_cases e5 : wz < rs[k].o + (rs[k].t.size : Int)
        · have N := Lib.hid (piecesB_less (w := wz) hlt (fun x => by have h1 := x.2.2; omega) hfl'.out)
          clear hq1 hq0
          go_wp2_with fail
          go_ret
          exact ⟨ret_bool N.out.symm, B2.out⟩
        have HK := Lib.hid (hok.out.next hlt ⟨E1.out, by omega, by omega⟩)
        have HE := Lib.hid (endTo_succ hlt).symm
        clear hq1 hq0 hok
        go_wp2_with fail
        go_roundw
        case rel => exact ⟨k + 1, by omega, by go_num, ⟨_, rfl, HE.out⟩, HK, B1⟩
        case measure => simp [RowKit.intOf]; omega
      · obtain rfl : k = rs.length := by omega
        have B2 := Lib.hid (B3.out.trans (hb.out.mono B3.out.size))
        have hze : z = true → (f = -1 ∧ rs.length = 0) := fun e => by
          have h6 := hwz e
          subst h6
          exact ⟨by omega, pieces_zero hok.out⟩
        by_cases hf : f = -1
        · subst hf
          have N := Lib.hid (show piecesB rs (lim d (-1) z) = true by rw [lim_yes, hwg]; exact piecesB_yes hok.out)
          clear hfl hwg hwz
          cases z with
          | false =>
            obtain ⟨⟨cl0, cl1, cl2, cl3, cl4⟩, dl0, dl1, dl2, dl3, dl4⟩ := K2.out.of5
            clear hze
            go_wp2_with fail
            go_ret
            exact ⟨ret_bool N.out.symm, B2.out⟩
          | true =>
            have hrl := (hze rfl).2
            rw [hrl] at K2 ⊢
            clear hze
            obtain ⟨⟨cl0, cl1, cl2, cl3, cl4⟩, dl0, dl1, dl2, dl3, dl4⟩ := K2.out.of5
            go_wp2_with fail
            go_ret
            exact ⟨ret_bool N.out.symm, B2.out⟩
        · have hz0 : z = false := by cases z with
            | false => rfl
            | true => exact absurd (hze rfl).1 hf
          subst hz0
          obtain ⟨⟨cl0, cl1, cl2, cl3, cl4⟩, dl0, dl1, dl2, dl3, dl4⟩ := K2.out.of5
          have N := Lib.hid (show piecesB rs (lim d f false) = decide (q ≤ f) by rw [lim_no hf, hq.out]; exact piecesB_end hwb.1 (by omega) hok.out)
          have hf0 : ¬ f < 0 := by omega
          clear hze hfl hwg hwz
          by_cases e : q ≤ f
          · have N2 := Lib.hid (N.out.trans (decide_eq_true e))
            clear N
            go_wp2_with fail
            go_ret
            exact ⟨ret_bool N2.out.symm, B2.out⟩
          · have N2 := Lib.hid (N.out.trans (decide_eq_false e))
            clear N
            go_wp2_with fail
            go_ret
            exact ⟨ret_bool N2.out.symm, B2.out⟩
end Go.Proofs.Ytajekjjaaohbnaa
