/- Proved here: for every code of at most 1048576 bytes, with the Receiver and the number that are drawn from it, impl.TakenIn answers what the model answers; what is not a valid receiver is handed back as it is; else what is taken stands before what is left, the answer is valid, there is as much more room as was taken, and Next is as it was (a longer code is not asked); the call returns true for every argument, without condition. -/
import Derived.Test.YtpbnkkgfjmkcdaaRows
import Derived.Test.YtpbnkkgfjmkcdaaPkFnTakenIn
import Derived.Test.YtpbnkkgfjmkcdaaRcvTakeS
import Derived.Deep.RegionHeld3
import Derived.ProofKit
import Derived.OpenShut
import Derived.ChangeSame
import Derived.ShutString
import Derived.ChangeOld
import Derived.Below
namespace Go.Proofs.Ytpbnkkgfjmkcdaa.fnTakenIn
open Go.ChangeShapes Go.WideShapes Go.ChangeAt Go.RowKit Go.Lib

/-- The law's word: true, and what lay before the call lies as it lay. -/
def OkB (w : World) (e : Ending) (w' : World) : Prop := e = .returned (.bool true) ∧ Below w.heap.size w w'

set_option maxRecDepth 100000 in
set_option maxHeartbeats 8000000 in
theorem walk (a0 : Option Addr) (len0 cap0 : Nat) (s0 : List UInt8) {w : World} (w0 : IsBytes w a0 len0 s0) :
    Calls Try.prog 6 #[.slice a0 len0 cap0] w (OkB w) := by
  obtain ⟨⟨rfl, hm⟩, hrow⟩ := w0
  unfold maxLen at hm
  have HR := Lib.hid hrow
  clear hrow
  by_cases hs : s0.length ≤ 1048576
  · go_enter Try.func6, Try.ntmps6
    go_wp2_with fail
    refine (big_no _ _ _ _ hs).mono ?_
    rintro e w' ⟨rfl, rfl⟩
    go_wp2_with fail
    have B0 := Lib.hid (Below.refl w.heap.size w)
    refine (drawTakenIn a0 s0 cap0 w HR.out hs).mono ?_
    rintro e v1 ⟨n, d, rs, f, z, a, cap, k, rfl, hbd, ho, hb⟩
    have Np1 := Lib.hid ho
    clear ho
    have B1 := Lib.hid (B0.out.trans (hb.mono B0.out.size))
    clear hb B0
    clear HR hs hm
    have HB := Lib.hid hbd.rb
    have hl4 := hbd.2.1
    have hd33 := hbd.1
    have hl5 := Lib.hid (show rs.length ≤ 1048577 by omega)
    clear hbd
    have TI := fun w h => takenInI n f z d a cap rs k HB.out w h
    have TS := fun w h => takenInS n f z d a cap rs k HB.out w h
    have OKS := fun w h => rcvOkS n f z d a cap rs HB.out w h
    unfold EndTk at TI TS
    cases hok : rcvOk ⟨n, d, rs, f, z⟩ with
    | false =>
      have e := tak_no (k := k) hok
      simp only [e.1, e.2] at TI TS
      simp only [hok] at OKS
      have SS := fun a1 a2 c1 c2 w ha hb => sameRcvS n n f f d d z z a1 a2 c1 c2 rs rs w ha hb hl5.out
      simp only [sameR_self] at SS
      clear e hok
      replace TI := Lib.hid TI
      replace TS := Lib.hid TS
      replace OKS := Lib.hid OKS
      replace SS := Lib.hid SS
      have m_p_s : (.slice a rs.length cap : Value).ownBlock ≠ some v1.heap.size := fun e => by have h1 := (Np1.out.lt _ e).2; omega
      have Npn := Lib.hid (own_below Np1.out ((Below.refl _ v1).alloc (Nat.le_refl _) (.cells #[.int .i64 n, .string d, .slice a rs.length cap, .int .i64 f, .bool z] 26)))
      clear Np1
      have Ksn := Lib.hid (Blk.new v1 [.int .i64 n, .string d, .slice a rs.length cap, .int .i64 f, .bool z] 26)
      have l_s : w.heap.size ≤ v1.heap.size := B1.out.size
      have Bn := Lib.hid (B1.out.alloc B1.out.size (.cells #[.int .i64 n, .string d, .slice a rs.length cap, .int .i64 f, .bool z] 26))
      clear B1
      go_wp2_with fail
      change Calls _ _ _ (v1.alloc (.cells #[.int .i64 n, .string d, .slice a rs.length cap, .int .i64 f, .bool z] 26)) _
      generalize v1.alloc (.cells #[.int .i64 n, .string d, .slice a rs.length cap, .int .i64 f, .bool z] 26) = v2 at Ksn Bn Npn ⊢
      generalize v1.heap.size = g_s at Ksn l_s m_p_s ⊢
      clear v1
      have Ks2 := Ksn
      clear Ksn
      have B2 := Bn
      clear Bn
      have Np2 := Npn
      clear Npn
      refine (TI.out _ (HasP.own Np2.out)).mono ?_
      rintro e v3 ⟨a1, c1, rfl, ho, hb⟩
      have Nx3 := Lib.hid ho
      clear ho
      have B3 := Lib.hid (B2.out.trans (hb.mono B2.out.size))
      have Ks3 := Lib.hid (Ks2.out.below hb)
      have Np3 := Lib.hid (own_below Np2.out hb)
      clear hb B2 Ks2 Np2
      have m_p_x : (.slice a rs.length cap : Value).ownBlock ≠ some v3.heap.size := fun e => by have h1 := (Np3.out.lt _ e).2; omega
      have Npn := Lib.hid (own_below Np3.out ((Below.refl _ v3).alloc (Nat.le_refl _) (.cells #[.int .i64 n, .string d, .slice a1 rs.length c1, .int .i64 f, .bool z] 26)))
      clear Np3
      have m_x_x : (.slice a1 rs.length c1 : Value).ownBlock ≠ some v3.heap.size := fun e => by have h1 := (Nx3.out.lt _ e).2; omega
      have Nxn := Lib.hid (own_below Nx3.out ((Below.refl _ v3).alloc (Nat.le_refl _) (.cells #[.int .i64 n, .string d, .slice a1 rs.length c1, .int .i64 f, .bool z] 26)))
      clear Nx3
      have Kxn := Lib.hid (Blk.new v3 [.int .i64 n, .string d, .slice a1 rs.length c1, .int .i64 f, .bool z] 26)
      have l_x : w.heap.size ≤ v3.heap.size := B3.out.size
      have n_s_x : g_s ≠ v3.heap.size := by have h1 := Ks3.out.lt; omega
      have Bn := Lib.hid (B3.out.alloc B3.out.size (.cells #[.int .i64 n, .string d, .slice a1 rs.length c1, .int .i64 f, .bool z] 26))
      have Ksn := Lib.hid (Ks3.out.alloc (.cells #[.int .i64 n, .string d, .slice a1 rs.length c1, .int .i64 f, .bool z] 26))
      clear B3 Ks3
      obtain ⟨⟨cs0, cs1, cs2, cs3, cs4⟩, ds0, ds1, ds2, ds3, ds4⟩ := Ksn.out.of5
      go_wp2_with fail
      clear cs0 cs1 cs2 cs3 cs4 ds0 ds1 ds2 ds3 ds4
      change Calls _ _ _ (v3.alloc (.cells #[.int .i64 n, .string d, .slice a1 rs.length c1, .int .i64 f, .bool z] 26)) _
      generalize v3.alloc (.cells #[.int .i64 n, .string d, .slice a1 rs.length c1, .int .i64 f, .bool z] 26) = v4 at Kxn Bn Ksn Npn Nxn ⊢
      generalize v3.heap.size = g_x at Kxn l_x n_s_x m_p_x m_x_x ⊢
      clear v3
      have Ks4 := Ksn
      clear Ksn
      have Kx4 := Kxn
      clear Kxn
      have B4 := Bn
      clear Bn
      have Np4 := Npn
      clear Npn
      have Nx4 := Nxn
      clear Nxn
      refine (TS.out _ (HasP.own Np4.out)).mono ?_
      rintro e v5 ⟨a2, c2, rfl, ho, hb⟩
      have Ny5 := Lib.hid ho
      clear ho
      have B5 := Lib.hid (B4.out.trans (hb.mono B4.out.size))
      have Ks5 := Lib.hid (Ks4.out.below hb)
      have Kx5 := Lib.hid (Kx4.out.below hb)
      have Np5 := Lib.hid (own_below Np4.out hb)
      have Nx5 := Lib.hid (own_below Nx4.out hb)
      clear hb B4 Ks4 Kx4 Np4 Nx4
      have m_p_y : (.slice a rs.length cap : Value).ownBlock ≠ some v5.heap.size := fun e => by have h1 := (Np5.out.lt _ e).2; omega
      have Npn := Lib.hid (own_below Np5.out ((Below.refl _ v5).alloc (Nat.le_refl _) (.cells #[.int .i64 n, .string d, .slice a2 rs.length c2, .int .i64 f, .bool z] 26)))
      clear Np5
      have m_x_y : (.slice a1 rs.length c1 : Value).ownBlock ≠ some v5.heap.size := fun e => by have h1 := (Nx5.out.lt _ e).2; omega
      have Nxn := Lib.hid (own_below Nx5.out ((Below.refl _ v5).alloc (Nat.le_refl _) (.cells #[.int .i64 n, .string d, .slice a2 rs.length c2, .int .i64 f, .bool z] 26)))
      clear Nx5
      have m_y_y : (.slice a2 rs.length c2 : Value).ownBlock ≠ some v5.heap.size := fun e => by have h1 := (Ny5.out.lt _ e).2; omega
      have Nyn := Lib.hid (own_below Ny5.out ((Below.refl _ v5).alloc (Nat.le_refl _) (.cells #[.int .i64 n, .string d, .slice a2 rs.length c2, .int .i64 f, .bool z] 26)))
      clear Ny5
      have Kyn := Lib.hid (Blk.new v5 [.int .i64 n, .string d, .slice a2 rs.length c2, .int .i64 f, .bool z] 26)
      have l_y : w.heap.size ≤ v5.heap.size := B5.out.size
      have n_s_y : g_s ≠ v5.heap.size := by have h1 := Ks5.out.lt; omega
      have n_x_y : g_x ≠ v5.heap.size := by have h1 := Kx5.out.lt; omega
      have Bn := Lib.hid (B5.out.alloc B5.out.size (.cells #[.int .i64 n, .string d, .slice a2 rs.length c2, .int .i64 f, .bool z] 26))
      have Ksn := Lib.hid (Ks5.out.alloc (.cells #[.int .i64 n, .string d, .slice a2 rs.length c2, .int .i64 f, .bool z] 26))
      have Kxn := Lib.hid (Kx5.out.alloc (.cells #[.int .i64 n, .string d, .slice a2 rs.length c2, .int .i64 f, .bool z] 26))
      clear B5 Ks5 Kx5
      obtain ⟨⟨cs0, cs1, cs2, cs3, cs4⟩, ds0, ds1, ds2, ds3, ds4⟩ := Ksn.out.of5
      obtain ⟨⟨cx0, cx1, cx2, cx3, cx4⟩, dx0, dx1, dx2, dx3, dx4⟩ := Kxn.out.of5
      go_wp2_with fail
      clear cs0 cs1 cs2 cs3 cs4 ds0 ds1 ds2 ds3 ds4 cx0 cx1 cx2 cx3 cx4 dx0 dx1 dx2 dx3 dx4
      change Calls _ _ _ (v5.alloc (.cells #[.int .i64 n, .string d, .slice a2 rs.length c2, .int .i64 f, .bool z] 26)) _
      generalize v5.alloc (.cells #[.int .i64 n, .string d, .slice a2 rs.length c2, .int .i64 f, .bool z] 26) = v6 at Kyn Bn Ksn Kxn Npn Nxn Nyn ⊢
      generalize v5.heap.size = g_y at Kyn l_y n_s_y n_x_y m_p_y m_x_y m_y_y ⊢
      clear v5
      have Ks6 := Ksn
      clear Ksn
      have Kx6 := Kxn
      clear Kxn
      have Ky6 := Kyn
      clear Kyn
      have B6 := Bn
      clear Bn
      have Np6 := Npn
      clear Npn
      have Nx6 := Nxn
      clear Nxn
      have Ny6 := Nyn
      clear Nyn
      refine (SS.out a1 a2 c1 c2 _ (Row.ownV Nx6.out) (Row.ownV Ny6.out)).mono ?_
      rintro e v7 ⟨rfl, hb⟩
      have B7 := Lib.hid (B6.out.trans (hb.mono B6.out.size))
      have Ks7 := Lib.hid (Ks6.out.below hb)
      have Kx7 := Lib.hid (Kx6.out.below hb)
      have Ky7 := Lib.hid (Ky6.out.below hb)
      have Np7 := Lib.hid (own_below Np6.out hb)
      have Nx7 := Lib.hid (own_below Nx6.out hb)
      have Ny7 := Lib.hid (own_below Ny6.out hb)
      clear hb B6 Ks6 Kx6 Ky6 Np6 Nx6 Ny6
      obtain ⟨⟨cs0, cs1, cs2, cs3, cs4⟩, ds0, ds1, ds2, ds3, ds4⟩ := Ks7.out.of5
      obtain ⟨⟨cx0, cx1, cx2, cx3, cx4⟩, dx0, dx1, dx2, dx3, dx4⟩ := Kx7.out.of5
      obtain ⟨⟨cy0, cy1, cy2, cy3, cy4⟩, dy0, dy1, dy2, dy3, dy4⟩ := Ky7.out.of5
      go_wp2_with fail
      clear cs0 cs1 cs2 cs3 cs4 ds0 ds1 ds2 ds3 ds4 cx0 cx1 cx2 cx3 cx4 dx0 dx1 dx2 dx3 dx4 cy0 cy1 cy2 cy3 cy4 dy0 dy1 dy2 dy3 dy4
      refine (OKS.out _ (Row.ownV Np7.out)).mono ?_
      rintro e v8 ⟨rfl, hb⟩
      have B8 := Lib.hid (B7.out.trans (hb.mono B7.out.size))
      have Ks8 := Lib.hid (Ks7.out.below hb)
      have Kx8 := Lib.hid (Kx7.out.below hb)
      have Ky8 := Lib.hid (Ky7.out.below hb)
      have Np8 := Lib.hid (own_below Np7.out hb)
      have Nx8 := Lib.hid (own_below Nx7.out hb)
      have Ny8 := Lib.hid (own_below Ny7.out hb)
      clear hb B7 Ks7 Kx7 Ky7 Np7 Nx7 Ny7
      obtain ⟨⟨cs0, cs1, cs2, cs3, cs4⟩, ds0, ds1, ds2, ds3, ds4⟩ := Ks8.out.of5
      obtain ⟨⟨cx0, cx1, cx2, cx3, cx4⟩, dx0, dx1, dx2, dx3, dx4⟩ := Kx8.out.of5
      obtain ⟨⟨cy0, cy1, cy2, cy3, cy4⟩, dy0, dy1, dy2, dy3, dy4⟩ := Ky8.out.of5
      go_wp2_with fail
      clear cs0 cs1 cs2 cs3 cs4 ds0 ds1 ds2 ds3 ds4 cx0 cx1 cx2 cx3 cx4 dx0 dx1 dx2 dx3 dx4 cy0 cy1 cy2 cy3 cy4 dy0 dy1 dy2 dy3 dy4
      refine (SS.out a1 a c1 cap _ (Row.ownV Nx8.out) (Row.ownV Np8.out)).mono ?_
      rintro e v9 ⟨rfl, hb⟩
      have B9 := Lib.hid (B8.out.trans (hb.mono B8.out.size))
      have Ks9 := Lib.hid (Ks8.out.below hb)
      have Kx9 := Lib.hid (Kx8.out.below hb)
      have Ky9 := Lib.hid (Ky8.out.below hb)
      have Np9 := Lib.hid (own_below Np8.out hb)
      have Nx9 := Lib.hid (own_below Nx8.out hb)
      have Ny9 := Lib.hid (own_below Ny8.out hb)
      clear hb B8 Ks8 Kx8 Ky8 Np8 Nx8 Ny8
      obtain ⟨⟨cs0, cs1, cs2, cs3, cs4⟩, ds0, ds1, ds2, ds3, ds4⟩ := Ks9.out.of5
      obtain ⟨⟨cx0, cx1, cx2, cx3, cx4⟩, dx0, dx1, dx2, dx3, dx4⟩ := Kx9.out.of5
      obtain ⟨⟨cy0, cy1, cy2, cy3, cy4⟩, dy0, dy1, dy2, dy3, dy4⟩ := Ky9.out.of5
      go_wp2_with fail
      go_ret
      exact ⟨rfl, B9.out⟩
    | true =>
      obtain ⟨s, d2, e1, e2, hcat, hok2, hwin, hs32, hd2, hd⟩ := tak_facts k hok
      simp only [e1, e2] at TI TS
      simp only [hok] at OKS
      have SS := fun a1 a2 c1 c2 w ha hb => sameRcvS n n f f d2 d2 z z a1 a2 c1 c2 rs rs w ha hb hl5.out
      simp only [sameR_self] at SS
      have HB2 := Lib.hid (rb_ok (rcvOk_iff.1 hok2)).1
      have OK2 := fun a c w h => rcvOkI n f z d2 a c rs HB2.out w h
      simp only [hok2] at OK2
      have W1 := fun w => windowI n f z d a cap rs HB.out.1 w
      have W2 := fun a c w => windowI n f z d2 a c rs HB2.out.1 w
      clear e1 e2 hok hok2
      replace TI := Lib.hid TI
      replace TS := Lib.hid TS
      replace OKS := Lib.hid OKS
      replace SS := Lib.hid SS
      replace OK2 := Lib.hid OK2
      replace hcat := Lib.hid hcat
      cases z with
      | true =>
        clear hwin
        replace W1 := Lib.hid W1
        replace W2 := Lib.hid W2
        have m_p_s : (.slice a rs.length cap : Value).ownBlock ≠ some v1.heap.size := fun e => by have h1 := (Np1.out.lt _ e).2; omega
        have Npn := Lib.hid (own_below Np1.out ((Below.refl _ v1).alloc (Nat.le_refl _) (.cells #[.int .i64 n, .string d, .slice a rs.length cap, .int .i64 f, .bool true] 26)))
        clear Np1
        have Ksn := Lib.hid (Blk.new v1 [.int .i64 n, .string d, .slice a rs.length cap, .int .i64 f, .bool true] 26)
        have l_s : w.heap.size ≤ v1.heap.size := B1.out.size
        have Bn := Lib.hid (B1.out.alloc B1.out.size (.cells #[.int .i64 n, .string d, .slice a rs.length cap, .int .i64 f, .bool true] 26))
        clear B1
        go_wp2_with fail
        change Calls _ _ _ (v1.alloc (.cells #[.int .i64 n, .string d, .slice a rs.length cap, .int .i64 f, .bool true] 26)) _
        generalize v1.alloc (.cells #[.int .i64 n, .string d, .slice a rs.length cap, .int .i64 f, .bool true] 26) = v2 at Ksn Bn Npn ⊢
        generalize v1.heap.size = g_s at Ksn l_s m_p_s ⊢
        clear v1
        have Ks2 := Ksn
        clear Ksn
        have B2 := Bn
        clear Bn
        have Np2 := Npn
        clear Npn
        refine (TI.out _ (HasP.own Np2.out)).mono ?_
        rintro e v3 ⟨a1, c1, rfl, ho, hb⟩
        have Nx3 := Lib.hid ho
        clear ho
        have B3 := Lib.hid (B2.out.trans (hb.mono B2.out.size))
        have Ks3 := Lib.hid (Ks2.out.below hb)
        have Np3 := Lib.hid (own_below Np2.out hb)
        clear hb B2 Ks2 Np2
        have m_p_x : (.slice a rs.length cap : Value).ownBlock ≠ some v3.heap.size := fun e => by have h1 := (Np3.out.lt _ e).2; omega
        have Npn := Lib.hid (own_below Np3.out ((Below.refl _ v3).alloc (Nat.le_refl _) (.cells #[.int .i64 n, .string d2, .slice a1 rs.length c1, .int .i64 f, .bool true] 26)))
        clear Np3
        have m_x_x : (.slice a1 rs.length c1 : Value).ownBlock ≠ some v3.heap.size := fun e => by have h1 := (Nx3.out.lt _ e).2; omega
        have Nxn := Lib.hid (own_below Nx3.out ((Below.refl _ v3).alloc (Nat.le_refl _) (.cells #[.int .i64 n, .string d2, .slice a1 rs.length c1, .int .i64 f, .bool true] 26)))
        clear Nx3
        have Kxn := Lib.hid (Blk.new v3 [.int .i64 n, .string d2, .slice a1 rs.length c1, .int .i64 f, .bool true] 26)
        have l_x : w.heap.size ≤ v3.heap.size := B3.out.size
        have n_s_x : g_s ≠ v3.heap.size := by have h1 := Ks3.out.lt; omega
        have Bn := Lib.hid (B3.out.alloc B3.out.size (.cells #[.int .i64 n, .string d2, .slice a1 rs.length c1, .int .i64 f, .bool true] 26))
        have Ksn := Lib.hid (Ks3.out.alloc (.cells #[.int .i64 n, .string d2, .slice a1 rs.length c1, .int .i64 f, .bool true] 26))
        clear B3 Ks3
        obtain ⟨⟨cs0, cs1, cs2, cs3, cs4⟩, ds0, ds1, ds2, ds3, ds4⟩ := Ksn.out.of5
        go_wp2_with fail
        clear cs0 cs1 cs2 cs3 cs4 ds0 ds1 ds2 ds3 ds4
        change Calls _ _ _ (v3.alloc (.cells #[.int .i64 n, .string d2, .slice a1 rs.length c1, .int .i64 f, .bool true] 26)) _
        generalize v3.alloc (.cells #[.int .i64 n, .string d2, .slice a1 rs.length c1, .int .i64 f, .bool true] 26) = v4 at Kxn Bn Ksn Npn Nxn ⊢
        generalize v3.heap.size = g_x at Kxn l_x n_s_x m_p_x m_x_x ⊢
        clear v3
        have Ks4 := Ksn
        clear Ksn
        have Kx4 := Kxn
        clear Kxn
        have B4 := Bn
        clear Bn
        have Np4 := Npn
        clear Npn
        have Nx4 := Nxn
        clear Nxn
        refine (TS.out _ (HasP.own Np4.out)).mono ?_
        rintro e v5 ⟨a2, c2, rfl, ho, hb⟩
        have Ny5 := Lib.hid ho
        clear ho
        have B5 := Lib.hid (B4.out.trans (hb.mono B4.out.size))
        have Ks5 := Lib.hid (Ks4.out.below hb)
        have Kx5 := Lib.hid (Kx4.out.below hb)
        have Np5 := Lib.hid (own_below Np4.out hb)
        have Nx5 := Lib.hid (own_below Nx4.out hb)
        clear hb B4 Ks4 Kx4 Np4 Nx4
        have m_p_y : (.slice a rs.length cap : Value).ownBlock ≠ some v5.heap.size := fun e => by have h1 := (Np5.out.lt _ e).2; omega
        have Npn := Lib.hid (own_below Np5.out ((Below.refl _ v5).alloc (Nat.le_refl _) (.cells #[.int .i64 n, .string d2, .slice a2 rs.length c2, .int .i64 f, .bool true] 26)))
        clear Np5
        have m_x_y : (.slice a1 rs.length c1 : Value).ownBlock ≠ some v5.heap.size := fun e => by have h1 := (Nx5.out.lt _ e).2; omega
        have Nxn := Lib.hid (own_below Nx5.out ((Below.refl _ v5).alloc (Nat.le_refl _) (.cells #[.int .i64 n, .string d2, .slice a2 rs.length c2, .int .i64 f, .bool true] 26)))
        clear Nx5
        have m_y_y : (.slice a2 rs.length c2 : Value).ownBlock ≠ some v5.heap.size := fun e => by have h1 := (Ny5.out.lt _ e).2; omega
        have Nyn := Lib.hid (own_below Ny5.out ((Below.refl _ v5).alloc (Nat.le_refl _) (.cells #[.int .i64 n, .string d2, .slice a2 rs.length c2, .int .i64 f, .bool true] 26)))
        clear Ny5
        have Kyn := Lib.hid (Blk.new v5 [.int .i64 n, .string d2, .slice a2 rs.length c2, .int .i64 f, .bool true] 26)
        have l_y : w.heap.size ≤ v5.heap.size := B5.out.size
        have n_s_y : g_s ≠ v5.heap.size := by have h1 := Ks5.out.lt; omega
        have n_x_y : g_x ≠ v5.heap.size := by have h1 := Kx5.out.lt; omega
        have Bn := Lib.hid (B5.out.alloc B5.out.size (.cells #[.int .i64 n, .string d2, .slice a2 rs.length c2, .int .i64 f, .bool true] 26))
        have Ksn := Lib.hid (Ks5.out.alloc (.cells #[.int .i64 n, .string d2, .slice a2 rs.length c2, .int .i64 f, .bool true] 26))
        have Kxn := Lib.hid (Kx5.out.alloc (.cells #[.int .i64 n, .string d2, .slice a2 rs.length c2, .int .i64 f, .bool true] 26))
        clear B5 Ks5 Kx5
        obtain ⟨⟨cs0, cs1, cs2, cs3, cs4⟩, ds0, ds1, ds2, ds3, ds4⟩ := Ksn.out.of5
        obtain ⟨⟨cx0, cx1, cx2, cx3, cx4⟩, dx0, dx1, dx2, dx3, dx4⟩ := Kxn.out.of5
        go_wp2_with fail
        clear cs0 cs1 cs2 cs3 cs4 ds0 ds1 ds2 ds3 ds4 cx0 cx1 cx2 cx3 cx4 dx0 dx1 dx2 dx3 dx4
        change Calls _ _ _ (v5.alloc (.cells #[.int .i64 n, .string d2, .slice a2 rs.length c2, .int .i64 f, .bool true] 26)) _
        generalize v5.alloc (.cells #[.int .i64 n, .string d2, .slice a2 rs.length c2, .int .i64 f, .bool true] 26) = v6 at Kyn Bn Ksn Kxn Npn Nxn Nyn ⊢
        generalize v5.heap.size = g_y at Kyn l_y n_s_y n_x_y m_p_y m_x_y m_y_y ⊢
        clear v5
        have Ks6 := Ksn
        clear Ksn
        have Kx6 := Kxn
        clear Kxn
        have Ky6 := Kyn
        clear Kyn
        have B6 := Bn
        clear Bn
        have Np6 := Npn
        clear Npn
        have Nx6 := Nxn
        clear Nxn
        have Ny6 := Nyn
        clear Nyn
        refine (SS.out a1 a2 c1 c2 _ (Row.ownV Nx6.out) (Row.ownV Ny6.out)).mono ?_
        rintro e v7 ⟨rfl, hb⟩
        have B7 := Lib.hid (B6.out.trans (hb.mono B6.out.size))
        have Ks7 := Lib.hid (Ks6.out.below hb)
        have Kx7 := Lib.hid (Kx6.out.below hb)
        have Ky7 := Lib.hid (Ky6.out.below hb)
        have Np7 := Lib.hid (own_below Np6.out hb)
        have Nx7 := Lib.hid (own_below Nx6.out hb)
        have Ny7 := Lib.hid (own_below Ny6.out hb)
        clear hb B6 Ks6 Kx6 Ky6 Np6 Nx6 Ny6
        obtain ⟨⟨cs0, cs1, cs2, cs3, cs4⟩, ds0, ds1, ds2, ds3, ds4⟩ := Ks7.out.of5
        obtain ⟨⟨cx0, cx1, cx2, cx3, cx4⟩, dx0, dx1, dx2, dx3, dx4⟩ := Kx7.out.of5
        obtain ⟨⟨cy0, cy1, cy2, cy3, cy4⟩, dy0, dy1, dy2, dy3, dy4⟩ := Ky7.out.of5
        go_wp2_with fail
        clear cs0 cs1 cs2 cs3 cs4 ds0 ds1 ds2 ds3 ds4 cx0 cx1 cx2 cx3 cx4 dx0 dx1 dx2 dx3 dx4 cy0 cy1 cy2 cy3 cy4 dy0 dy1 dy2 dy3 dy4
        refine (OKS.out _ (Row.ownV Np7.out)).mono ?_
        rintro e v8 ⟨rfl, hb⟩
        have B8 := Lib.hid (B7.out.trans (hb.mono B7.out.size))
        have Ks8 := Lib.hid (Ks7.out.below hb)
        have Kx8 := Lib.hid (Kx7.out.below hb)
        have Ky8 := Lib.hid (Ky7.out.below hb)
        have Np8 := Lib.hid (own_below Np7.out hb)
        have Nx8 := Lib.hid (own_below Nx7.out hb)
        have Ny8 := Lib.hid (own_below Ny7.out hb)
        clear hb B7 Ks7 Kx7 Ky7 Np7 Nx7 Ny7
        obtain ⟨⟨cs0, cs1, cs2, cs3, cs4⟩, ds0, ds1, ds2, ds3, ds4⟩ := Ks8.out.of5
        obtain ⟨⟨cx0, cx1, cx2, cx3, cx4⟩, dx0, dx1, dx2, dx3, dx4⟩ := Kx8.out.of5
        obtain ⟨⟨cy0, cy1, cy2, cy3, cy4⟩, dy0, dy1, dy2, dy3, dy4⟩ := Ky8.out.of5
        go_upto_region 10 with fail
        clear cs0 cs1 cs2 cs3 cs4 ds0 ds1 ds2 ds3 ds4 cx0 cx1 cx2 cx3 cx4 dx0 dx1 dx2 dx3 dx4 cy0 cy1 cy2 cy3 cy4 dy0 dy1 dy2 dy3 dy4
        refine wp_region_noPanic ?_
        refine wp_region_held_drew (S := fun w' => Blk w' g_s [.int .i64 n, .string d, .slice a rs.length cap, .int .i64 f, .bool true] ∧ Blk w' g_x [.int .i64 n, .string d2, .slice a1 rs.length c1, .int .i64 f, .bool true]) (by kernel_rfl) ⟨Ks8.out, Kx8.out⟩ (fun hS => ?_)
        have B9 := Lib.hid (show Below w.heap.size w v8.drew from B8.out.drew)
        have Ks9 := Lib.hid (show Blk v8.drew g_s [.int .i64 n, .string d, .slice a rs.length cap, .int .i64 f, .bool true] from Ks8.out.drew)
        have Kx9 := Lib.hid (show Blk v8.drew g_x [.int .i64 n, .string d2, .slice a1 rs.length c1, .int .i64 f, .bool true] from Kx8.out.drew)
        have Ky9 := Lib.hid (show Blk v8.drew g_y [.int .i64 n, .string d2, .slice a2 rs.length c2, .int .i64 f, .bool true] from Ky8.out.drew)
        have Np9 := Lib.hid (own_below Np8.out (Below.refl _ v8).drew)
        have Nx9 := Lib.hid (own_below Nx8.out (Below.refl _ v8).drew)
        have Ny9 := Lib.hid (own_below Ny8.out (Below.refl _ v8).drew)
        clear hS B8 Ks8 Kx8 Ky8 Np8 Nx8 Ny8
        generalize v8.drew = v9 at B9 Ks9 Kx9 Ky9 Np9 Nx9 Ny9 ⊢
        have hS : Blk v9 g_s [.int .i64 n, .string d, .slice a rs.length cap, .int .i64 f, .bool true] ∧ Blk v9 g_x [.int .i64 n, .string d2, .slice a1 rs.length c1, .int .i64 f, .bool true] := ⟨Ks9.out, Kx9.out⟩
        refine wpAnyH_take (i := 0) (v := .string s) rfl (by kernel_rfl) (by kernel_rfl) (by kernel_rfl) (fun _ _ _ h => h) (Or.inl ⟨rfl, by intro w hS; go_simp⟩) hS ?_
        change wpAnyH _ _ _ _ _ _ _ { tmps := #[_, _, _, _, _, _, _, _, _, _, _, _, _, _, _, _, _, _, _, _, _, _, _, _, _, _, _, _, _, _, _, _, _, _, _, _, _, _, _, _, _, _, _, _, _, _, _, _, _, _, _, _, _, _, _, _, _, _, _, _, _, _, _, _, _, _, _, _, _, _, _, _, _, _, _, _, _, _, _], defers := [] } _
        refine wpAnyH_take (i := 1) (v := .pointer (some ⟨g_x, 1, none⟩)) rfl (by kernel_rfl) (by kernel_rfl) (by kernel_rfl) (fun _ _ _ h => h) (Or.inl ⟨rfl, by intro w hS; go_simp⟩) hS ?_
        change wpAnyH _ _ _ _ _ _ _ { tmps := #[_, _, _, _, _, _, _, _, _, _, _, _, _, _, _, _, _, _, _, _, _, _, _, _, _, _, _, _, _, _, _, _, _, _, _, _, _, _, _, _, _, _, _, _, _, _, _, _, _, _, _, _, _, _, _, _, _, _, _, _, _, _, _, _, _, _, _, _, _, _, _, _, _, _, _, _, _, _, _], defers := [] } _
        refine wpAnyH_take (i := 2) (v := .string d2) rfl (by kernel_rfl) (by kernel_rfl) (by kernel_rfl) (fun _ _ _ h => h) (Or.inl ⟨rfl, by intro w hS; obtain ⟨⟨hh0, hh1, hh2, hh3, hh4⟩, _⟩ := hS.2.of5; go_simp⟩) hS ?_
        change wpAnyH _ _ _ _ _ _ _ { tmps := #[_, _, _, _, _, _, _, _, _, _, _, _, _, _, _, _, _, _, _, _, _, _, _, _, _, _, _, _, _, _, _, _, _, _, _, _, _, _, _, _, _, _, _, _, _, _, _, _, _, _, _, _, _, _, _, _, _, _, _, _, _, _, _, _, _, _, _, _, _, _, _, _, _, _, _, _, _, _, _], defers := [] } _
        refine wpAnyH_take (i := 3) (v := .string d) rfl (by kernel_rfl) (by kernel_rfl) (by kernel_rfl) (fun _ _ _ h => h) (Or.inl ⟨rfl, by intro w hS; go_simp; rw [hcat.out, if_neg (by omega)]⟩) hS ?_
        change wpAnyH _ _ _ _ _ _ _ { tmps := #[_, _, _, _, _, _, _, _, _, _, _, _, _, _, _, _, _, _, _, _, _, _, _, _, _, _, _, _, _, _, _, _, _, _, _, _, _, _, _, _, _, _, _, _, _, _, _, _, _, _, _, _, _, _, _, _, _, _, _, _, _, _, _, _, _, _, _, _, _, _, _, _, _, _, _, _, _, _, _], defers := [] } _
        refine wpAnyH_take (i := 4) (v := .pointer (some ⟨g_s, 1, none⟩)) rfl (by kernel_rfl) (by kernel_rfl) (by kernel_rfl) (fun _ _ _ h => h) (Or.inl ⟨rfl, by intro w hS; go_simp⟩) hS ?_
        change wpAnyH _ _ _ _ _ _ _ { tmps := #[_, _, _, _, _, _, _, _, _, _, _, _, _, _, _, _, _, _, _, _, _, _, _, _, _, _, _, _, _, _, _, _, _, _, _, _, _, _, _, _, _, _, _, _, _, _, _, _, _, _, _, _, _, _, _, _, _, _, _, _, _, _, _, _, _, _, _, _, _, _, _, _, _, _, _, _, _, _, _], defers := [] } _
        refine wpAnyH_take (i := 5) (v := .string d) rfl (by kernel_rfl) (by kernel_rfl) (by kernel_rfl) (fun _ _ _ h => h) (Or.inl ⟨rfl, by intro w hS; obtain ⟨⟨hh0, hh1, hh2, hh3, hh4⟩, _⟩ := hS.1.of5; go_simp⟩) hS ?_
        change wpAnyH _ _ _ _ _ _ _ { tmps := #[_, _, _, _, _, _, _, _, _, _, _, _, _, _, _, _, _, _, _, _, _, _, _, _, _, _, _, _, _, _, _, _, _, _, _, _, _, _, _, _, _, _, _, _, _, _, _, _, _, _, _, _, _, _, _, _, _, _, _, _, _, _, _, _, _, _, _, _, _, _, _, _, _, _, _, _, _, _, _], defers := [] } _
        refine wpAnyH_take (i := 6) (v := .bool true) rfl (by kernel_rfl) (by kernel_rfl) (by kernel_rfl) (fun _ _ _ h => h) (Or.inl ⟨rfl, by intro w hS; go_simp⟩) hS ?_
        change wpAnyH _ _ _ _ _ _ _ { tmps := #[_, _, _, _, _, _, _, _, _, _, _, _, _, _, _, _, _, _, _, _, _, _, _, _, _, _, _, _, _, _, _, _, _, _, _, _, _, _, _, _, _, _, _, _, _, _, _, _, _, _, _, _, _, _, _, _, _, _, _, _, _, _, _, _, _, _, _, _, _, _, _, _, _, _, _, _, _, _, _], defers := [] } _
        refine wpAnyH_take (i := 7) (v := .bool true) rfl (by kernel_rfl) (by kernel_rfl) (by kernel_rfl) (fun _ _ _ h => h) (Or.inl ⟨rfl, by intro w hS; go_simp⟩) hS ?_
        change wpAnyH _ _ _ _ _ _ _ { tmps := #[_, _, _, _, _, _, _, _, _, _, _, _, _, _, _, _, _, _, _, _, _, _, _, _, _, _, _, _, _, _, _, _, _, _, _, _, _, _, _, _, _, _, _, _, _, _, _, _, _, _, _, _, _, _, _, _, _, _, _, _, _, _, _, _, _, _, _, _, _, _, _, _, _, _, _, _, _, _, _], defers := [] } _
        refine wpAnyH_take (i := 8) (v := .agg #[.int .i64 n, .string d2, .slice a1 rs.length c1, .int .i64 f, .bool true]) rfl (by kernel_rfl) (by kernel_rfl) (by kernel_rfl) (fun _ _ _ h => h) (Or.inl ⟨rfl, by intro w hS; obtain ⟨⟨hh0, hh1, hh2, hh3, hh4⟩, _⟩ := hS.2.of5; go_simp⟩) hS ?_
        change wpAnyH _ _ _ _ _ _ _ { tmps := #[_, _, _, _, _, _, _, _, _, _, _, _, _, _, _, _, _, _, _, _, _, _, _, _, _, _, _, _, _, _, _, _, _, _, _, _, _, _, _, _, _, _, _, _, _, _, _, _, _, _, _, _, _, _, _, _, _, _, _, _, _, _, _, _, _, _, _, _, _, _, _, _, _, _, _, _, _, _, _], defers := [] } _
        refine wpAnyH_ready (rs := [9]) (by kernel_rfl) (by simp) ?_
        refine AllReadyH.cons (i := 9) rfl (fun K hK => ?zq1) AllReadyH.nil
        rw [if_pos (by first | rfl | kernel_rfl)]
        go_simp
        clear hS
        refine (OK2.out a1 c1 _ (Row.ownV Nx9.out)).mono ?_
        rintro e v10 ⟨rfl, hb⟩
        have B10 := Lib.hid (B9.out.trans (hb.mono B9.out.size))
        have Ks10 := Lib.hid (Ks9.out.below hb)
        have Kx10 := Lib.hid (Kx9.out.below hb)
        have Ky10 := Lib.hid (Ky9.out.below hb)
        have Np10 := Lib.hid (own_below Np9.out hb)
        have Nx10 := Lib.hid (own_below Nx9.out hb)
        have Ny10 := Lib.hid (own_below Ny9.out hb)
        clear hb B9 Ks9 Kx9 Ky9 Np9 Nx9 Ny9
        refine hK.out _ _ ⟨Ks10.out, Kx10.out⟩ (fun hS => ?_)
        clear hK K
        change wpAnyH _ _ _ _ _ _ _ { tmps := #[_, _, _, _, _, _, _, _, _, _, _, _, _, _, _, _, _, _, _, _, _, _, _, _, _, _, _, _, _, _, _, _, _, _, _, _, _, _, _, _, _, _, _, _, _, _, _, _, _, _, _, _, _, _, _, _, _, _, _, _, _, _, _, _, _, _, _, _, _, _, _, _, _, _, _, _, _, _, _], defers := [] } _
        refine wpAnyH_take (i := 10) (v := .bool true) rfl (by kernel_rfl) (by kernel_rfl) (by kernel_rfl) (fun _ _ _ h => h) (Or.inl ⟨rfl, by intro w hS; go_simp⟩) hS ?_
        change wpAnyH _ _ _ _ _ _ _ { tmps := #[_, _, _, _, _, _, _, _, _, _, _, _, _, _, _, _, _, _, _, _, _, _, _, _, _, _, _, _, _, _, _, _, _, _, _, _, _, _, _, _, _, _, _, _, _, _, _, _, _, _, _, _, _, _, _, _, _, _, _, _, _, _, _, _, _, _, _, _, _, _, _, _, _, _, _, _, _, _, _], defers := [] } _
        refine wpAnyH_take (i := 11) (v := .bool true) rfl (by kernel_rfl) (by kernel_rfl) (by kernel_rfl) (fun _ _ _ h => h) (Or.inl ⟨rfl, by intro w hS; go_simp⟩) hS ?_
        change wpAnyH _ _ _ _ _ _ _ { tmps := #[_, _, _, _, _, _, _, _, _, _, _, _, _, _, _, _, _, _, _, _, _, _, _, _, _, _, _, _, _, _, _, _, _, _, _, _, _, _, _, _, _, _, _, _, _, _, _, _, _, _, _, _, _, _, _, _, _, _, _, _, _, _, _, _, _, _, _, _, _, _, _, _, _, _, _, _, _, _, _], defers := [] } _
        refine wpAnyH_take (i := 12) (v := .pointer (some ⟨g_s, 4, none⟩)) rfl (by kernel_rfl) (by kernel_rfl) (by kernel_rfl) (fun _ _ _ h => h) (Or.inl ⟨rfl, by intro w hS; go_simp⟩) hS ?_
        change wpAnyH _ _ _ _ _ _ _ { tmps := #[_, _, _, _, _, _, _, _, _, _, _, _, _, _, _, _, _, _, _, _, _, _, _, _, _, _, _, _, _, _, _, _, _, _, _, _, _, _, _, _, _, _, _, _, _, _, _, _, _, _, _, _, _, _, _, _, _, _, _, _, _, _, _, _, _, _, _, _, _, _, _, _, _, _, _, _, _, _, _], defers := [] } _
        refine wpAnyH_take (i := 13) (v := .bool true) rfl (by kernel_rfl) (by kernel_rfl) (by kernel_rfl) (fun _ _ _ h => h) (Or.inl ⟨rfl, by intro w hS; obtain ⟨⟨hh0, hh1, hh2, hh3, hh4⟩, _⟩ := hS.1.of5; go_simp⟩) hS ?_
        change wpAnyH _ _ _ _ _ _ _ { tmps := #[_, _, _, _, _, _, _, _, _, _, _, _, _, _, _, _, _, _, _, _, _, _, _, _, _, _, _, _, _, _, _, _, _, _, _, _, _, _, _, _, _, _, _, _, _, _, _, _, _, _, _, _, _, _, _, _, _, _, _, _, _, _, _, _, _, _, _, _, _, _, _, _, _, _, _, _, _, _, _], defers := [] } _
        refine wpAnyH_take (i := 14) (v := .bool true) rfl (by kernel_rfl) (by kernel_rfl) (by kernel_rfl) (fun _ _ _ h => h) (Or.inl ⟨rfl, by intro w hS; go_simp⟩) hS ?_
        change wpAnyH _ _ _ _ _ _ _ { tmps := #[_, _, _, _, _, _, _, _, _, _, _, _, _, _, _, _, _, _, _, _, _, _, _, _, _, _, _, _, _, _, _, _, _, _, _, _, _, _, _, _, _, _, _, _, _, _, _, _, _, _, _, _, _, _, _, _, _, _, _, _, _, _, _, _, _, _, _, _, _, _, _, _, _, _, _, _, _, _, _], defers := [] } _
        refine wpAnyH_take (i := 15) (v := undef) rfl (by kernel_rfl) (by kernel_rfl) (by kernel_rfl) (fun _ _ _ h => h) (Or.inr ⟨rfl, rfl⟩) hS ?_
        change wpAnyH _ _ _ _ _ _ _ { tmps := #[_, _, _, _, _, _, _, _, _, _, _, _, _, _, _, _, _, _, _, _, _, _, _, _, _, _, _, _, _, _, _, _, _, _, _, _, _, _, _, _, _, _, _, _, _, _, _, _, _, _, _, _, _, _, _, _, _, _, _, _, _, _, _, _, _, _, _, _, _, _, _, _, _, _, _, _, _, _, _], defers := [] } _
        refine wpAnyH_take (i := 16) (v := undef) rfl (by kernel_rfl) (by kernel_rfl) (by kernel_rfl) (fun _ _ _ h => h) (Or.inr ⟨rfl, rfl⟩) hS ?_
        change wpAnyH _ _ _ _ _ _ _ { tmps := #[_, _, _, _, _, _, _, _, _, _, _, _, _, _, _, _, _, _, _, _, _, _, _, _, _, _, _, _, _, _, _, _, _, _, _, _, _, _, _, _, _, _, _, _, _, _, _, _, _, _, _, _, _, _, _, _, _, _, _, _, _, _, _, _, _, _, _, _, _, _, _, _, _, _, _, _, _, _, _], defers := [] } _
        refine wpAnyH_take (i := 17) (v := undef) rfl (by kernel_rfl) (by kernel_rfl) (by kernel_rfl) (fun _ _ _ h => h) (Or.inr ⟨rfl, rfl⟩) hS ?_
        change wpAnyH _ _ _ _ _ _ _ { tmps := #[_, _, _, _, _, _, _, _, _, _, _, _, _, _, _, _, _, _, _, _, _, _, _, _, _, _, _, _, _, _, _, _, _, _, _, _, _, _, _, _, _, _, _, _, _, _, _, _, _, _, _, _, _, _, _, _, _, _, _, _, _, _, _, _, _, _, _, _, _, _, _, _, _, _, _, _, _, _, _], defers := [] } _
        refine wpAnyH_take (i := 18) (v := undef) rfl (by kernel_rfl) (by kernel_rfl) (by kernel_rfl) (fun _ _ _ h => h) (Or.inr ⟨rfl, rfl⟩) hS ?_
        change wpAnyH _ _ _ _ _ _ _ { tmps := #[_, _, _, _, _, _, _, _, _, _, _, _, _, _, _, _, _, _, _, _, _, _, _, _, _, _, _, _, _, _, _, _, _, _, _, _, _, _, _, _, _, _, _, _, _, _, _, _, _, _, _, _, _, _, _, _, _, _, _, _, _, _, _, _, _, _, _, _, _, _, _, _, _, _, _, _, _, _, _], defers := [] } _
        refine wpAnyH_take (i := 19) (v := undef) rfl (by kernel_rfl) (by kernel_rfl) (by kernel_rfl) (fun _ _ _ h => h) (Or.inr ⟨rfl, rfl⟩) hS ?_
        change wpAnyH _ _ _ _ _ _ _ { tmps := #[_, _, _, _, _, _, _, _, _, _, _, _, _, _, _, _, _, _, _, _, _, _, _, _, _, _, _, _, _, _, _, _, _, _, _, _, _, _, _, _, _, _, _, _, _, _, _, _, _, _, _, _, _, _, _, _, _, _, _, _, _, _, _, _, _, _, _, _, _, _, _, _, _, _, _, _, _, _, _], defers := [] } _
        refine wpAnyH_take (i := 20) (v := undef) rfl (by kernel_rfl) (by kernel_rfl) (by kernel_rfl) (fun _ _ _ h => h) (Or.inr ⟨rfl, rfl⟩) hS ?_
        change wpAnyH _ _ _ _ _ _ _ { tmps := #[_, _, _, _, _, _, _, _, _, _, _, _, _, _, _, _, _, _, _, _, _, _, _, _, _, _, _, _, _, _, _, _, _, _, _, _, _, _, _, _, _, _, _, _, _, _, _, _, _, _, _, _, _, _, _, _, _, _, _, _, _, _, _, _, _, _, _, _, _, _, _, _, _, _, _, _, _, _, _], defers := [] } _
        refine wpAnyH_take (i := 21) (v := undef) rfl (by kernel_rfl) (by kernel_rfl) (by kernel_rfl) (fun _ _ _ h => h) (Or.inr ⟨rfl, rfl⟩) hS ?_
        change wpAnyH _ _ _ _ _ _ _ { tmps := #[_, _, _, _, _, _, _, _, _, _, _, _, _, _, _, _, _, _, _, _, _, _, _, _, _, _, _, _, _, _, _, _, _, _, _, _, _, _, _, _, _, _, _, _, _, _, _, _, _, _, _, _, _, _, _, _, _, _, _, _, _, _, _, _, _, _, _, _, _, _, _, _, _, _, _, _, _, _, _], defers := [] } _
        refine wpAnyH_take (i := 22) (v := undef) rfl (by kernel_rfl) (by kernel_rfl) (by kernel_rfl) (fun _ _ _ h => h) (Or.inr ⟨rfl, rfl⟩) hS ?_
        change wpAnyH _ _ _ _ _ _ _ { tmps := #[_, _, _, _, _, _, _, _, _, _, _, _, _, _, _, _, _, _, _, _, _, _, _, _, _, _, _, _, _, _, _, _, _, _, _, _, _, _, _, _, _, _, _, _, _, _, _, _, _, _, _, _, _, _, _, _, _, _, _, _, _, _, _, _, _, _, _, _, _, _, _, _, _, _, _, _, _, _, _], defers := [] } _
        refine wpAnyH_take (i := 23) (v := .bool true) rfl (by kernel_rfl) (by kernel_rfl) (by kernel_rfl) (fun _ _ _ h => h) (Or.inl ⟨rfl, by intro w hS; go_simp⟩) hS ?_
        change wpAnyH _ _ _ _ _ _ _ { tmps := #[_, _, _, _, _, _, _, _, _, _, _, _, _, _, _, _, _, _, _, _, _, _, _, _, _, _, _, _, _, _, _, _, _, _, _, _, _, _, _, _, _, _, _, _, _, _, _, _, _, _, _, _, _, _, _, _, _, _, _, _, _, _, _, _, _, _, _, _, _, _, _, _, _, _, _, _, _, _, _], defers := [] } _
        refine wpAnyH_take (i := 24) (v := .bool true) rfl (by kernel_rfl) (by kernel_rfl) (by kernel_rfl) (fun _ _ _ h => h) (Or.inl ⟨rfl, by intro w hS; go_simp⟩) hS ?_
        change wpAnyH _ _ _ _ _ _ _ { tmps := #[_, _, _, _, _, _, _, _, _, _, _, _, _, _, _, _, _, _, _, _, _, _, _, _, _, _, _, _, _, _, _, _, _, _, _, _, _, _, _, _, _, _, _, _, _, _, _, _, _, _, _, _, _, _, _, _, _, _, _, _, _, _, _, _, _, _, _, _, _, _, _, _, _, _, _, _, _, _, _], defers := [] } _
        refine wpAnyH_take (i := 25) (v := .bool true) rfl (by kernel_rfl) (by kernel_rfl) (by kernel_rfl) (fun _ _ _ h => h) (Or.inl ⟨rfl, by intro w hS; go_simp⟩) hS ?_
        change wpAnyH _ _ _ _ _ _ _ { tmps := #[_, _, _, _, _, _, _, _, _, _, _, _, _, _, _, _, _, _, _, _, _, _, _, _, _, _, _, _, _, _, _, _, _, _, _, _, _, _, _, _, _, _, _, _, _, _, _, _, _, _, _, _, _, _, _, _, _, _, _, _, _, _, _, _, _, _, _, _, _, _, _, _, _, _, _, _, _, _, _], defers := [] } _
        refine wpAnyH_take (i := 26) (v := .pointer (some ⟨g_x, 0, none⟩)) rfl (by kernel_rfl) (by kernel_rfl) (by kernel_rfl) (fun _ _ _ h => h) (Or.inl ⟨rfl, by intro w hS; go_simp⟩) hS ?_
        change wpAnyH _ _ _ _ _ _ _ { tmps := #[_, _, _, _, _, _, _, _, _, _, _, _, _, _, _, _, _, _, _, _, _, _, _, _, _, _, _, _, _, _, _, _, _, _, _, _, _, _, _, _, _, _, _, _, _, _, _, _, _, _, _, _, _, _, _, _, _, _, _, _, _, _, _, _, _, _, _, _, _, _, _, _, _, _, _, _, _, _, _], defers := [] } _
        refine wpAnyH_take (i := 27) (v := .int .i64 n) rfl (by kernel_rfl) (by kernel_rfl) (by kernel_rfl) (fun _ _ _ h => h) (Or.inl ⟨rfl, by intro w hS; obtain ⟨⟨hh0, hh1, hh2, hh3, hh4⟩, _⟩ := hS.2.of5; go_simp⟩) hS ?_
        change wpAnyH _ _ _ _ _ _ _ { tmps := #[_, _, _, _, _, _, _, _, _, _, _, _, _, _, _, _, _, _, _, _, _, _, _, _, _, _, _, _, _, _, _, _, _, _, _, _, _, _, _, _, _, _, _, _, _, _, _, _, _, _, _, _, _, _, _, _, _, _, _, _, _, _, _, _, _, _, _, _, _, _, _, _, _, _, _, _, _, _, _], defers := [] } _
        refine wpAnyH_take (i := 28) (v := .pointer (some ⟨g_s, 0, none⟩)) rfl (by kernel_rfl) (by kernel_rfl) (by kernel_rfl) (fun _ _ _ h => h) (Or.inl ⟨rfl, by intro w hS; go_simp⟩) hS ?_
        change wpAnyH _ _ _ _ _ _ _ { tmps := #[_, _, _, _, _, _, _, _, _, _, _, _, _, _, _, _, _, _, _, _, _, _, _, _, _, _, _, _, _, _, _, _, _, _, _, _, _, _, _, _, _, _, _, _, _, _, _, _, _, _, _, _, _, _, _, _, _, _, _, _, _, _, _, _, _, _, _, _, _, _, _, _, _, _, _, _, _, _, _], defers := [] } _
        refine wpAnyH_take (i := 29) (v := .int .i64 n) rfl (by kernel_rfl) (by kernel_rfl) (by kernel_rfl) (fun _ _ _ h => h) (Or.inl ⟨rfl, by intro w hS; obtain ⟨⟨hh0, hh1, hh2, hh3, hh4⟩, _⟩ := hS.1.of5; go_simp⟩) hS ?_
        change wpAnyH _ _ _ _ _ _ _ { tmps := #[_, _, _, _, _, _, _, _, _, _, _, _, _, _, _, _, _, _, _, _, _, _, _, _, _, _, _, _, _, _, _, _, _, _, _, _, _, _, _, _, _, _, _, _, _, _, _, _, _, _, _, _, _, _, _, _, _, _, _, _, _, _, _, _, _, _, _, _, _, _, _, _, _, _, _, _, _, _, _], defers := [] } _
        refine wpAnyH_take (i := 30) (v := .bool true) rfl (by kernel_rfl) (by kernel_rfl) (by kernel_rfl) (fun _ _ _ h => h) (Or.inl ⟨rfl, by intro w hS; go_simp⟩) hS ?_
        change wpAnyH _ _ _ _ _ _ _ { tmps := #[_, _, _, _, _, _, _, _, _, _, _, _, _, _, _, _, _, _, _, _, _, _, _, _, _, _, _, _, _, _, _, _, _, _, _, _, _, _, _, _, _, _, _, _, _, _, _, _, _, _, _, _, _, _, _, _, _, _, _, _, _, _, _, _, _, _, _, _, _, _, _, _, _, _, _, _, _, _, _], defers := [] } _
        refine wpAnyH_take (i := 31) (v := .bool true) rfl (by kernel_rfl) (by kernel_rfl) (by kernel_rfl) (fun _ _ _ h => h) (Or.inl ⟨rfl, by intro w hS; go_simp⟩) hS ?_
        change wpAnyH _ _ _ _ _ _ _ { tmps := #[_, _, _, _, _, _, _, _, _, _, _, _, _, _, _, _, _, _, _, _, _, _, _, _, _, _, _, _, _, _, _, _, _, _, _, _, _, _, _, _, _, _, _, _, _, _, _, _, _, _, _, _, _, _, _, _, _, _, _, _, _, _, _, _, _, _, _, _, _, _, _, _, _, _, _, _, _, _, _], defers := [] } _
        refine wpAnyH_take (i := 32) (v := .bool true) rfl (by kernel_rfl) (by kernel_rfl) (by kernel_rfl) (fun _ _ _ h => h) (Or.inl ⟨rfl, by intro w hS; go_simp⟩) hS ?_
        change wpAnyH _ _ _ _ _ _ _ { tmps := #[_, _, _, _, _, _, _, _, _, _, _, _, _, _, _, _, _, _, _, _, _, _, _, _, _, _, _, _, _, _, _, _, _, _, _, _, _, _, _, _, _, _, _, _, _, _, _, _, _, _, _, _, _, _, _, _, _, _, _, _, _, _, _, _, _, _, _, _, _, _, _, _, _, _, _, _, _, _, _], defers := [] } _
        refine wpAnyH_done (by kernel_rfl) ?_ _
        refine NoPanic.normal ?_
        obtain ⟨⟨cs0, cs1, cs2, cs3, cs4⟩, ds0, ds1, ds2, ds3, ds4⟩ := Ks10.out.of5
        obtain ⟨⟨cx0, cx1, cx2, cx3, cx4⟩, dx0, dx1, dx2, dx3, dx4⟩ := Kx10.out.of5
        obtain ⟨⟨cy0, cy1, cy2, cy3, cy4⟩, dy0, dy1, dy2, dy3, dy4⟩ := Ky10.out.of5
        go_wp2_with fail
        go_ret
        exact ⟨rfl, B10.out⟩
      | false =>
        have hw := hwin rfl
        have hwb := win_bd d false
        generalize win d false = u at hw W1 hwb
        generalize win d2 false = u2 at hw W2
        subst hw
        clear hwin
        replace W1 := Lib.hid W1
        replace W2 := Lib.hid W2
        have m_p_s : (.slice a rs.length cap : Value).ownBlock ≠ some v1.heap.size := fun e => by have h1 := (Np1.out.lt _ e).2; omega
        have Npn := Lib.hid (own_below Np1.out ((Below.refl _ v1).alloc (Nat.le_refl _) (.cells #[.int .i64 n, .string d, .slice a rs.length cap, .int .i64 f, .bool false] 26)))
        clear Np1
        have Ksn := Lib.hid (Blk.new v1 [.int .i64 n, .string d, .slice a rs.length cap, .int .i64 f, .bool false] 26)
        have l_s : w.heap.size ≤ v1.heap.size := B1.out.size
        have Bn := Lib.hid (B1.out.alloc B1.out.size (.cells #[.int .i64 n, .string d, .slice a rs.length cap, .int .i64 f, .bool false] 26))
        clear B1
        go_wp2_with fail
        change Calls _ _ _ (v1.alloc (.cells #[.int .i64 n, .string d, .slice a rs.length cap, .int .i64 f, .bool false] 26)) _
        generalize v1.alloc (.cells #[.int .i64 n, .string d, .slice a rs.length cap, .int .i64 f, .bool false] 26) = v2 at Ksn Bn Npn ⊢
        generalize v1.heap.size = g_s at Ksn l_s m_p_s ⊢
        clear v1
        have Ks2 := Ksn
        clear Ksn
        have B2 := Bn
        clear Bn
        have Np2 := Npn
        clear Npn
        refine (TI.out _ (HasP.own Np2.out)).mono ?_
        rintro e v3 ⟨a1, c1, rfl, ho, hb⟩
        have Nx3 := Lib.hid ho
        clear ho
        have B3 := Lib.hid (B2.out.trans (hb.mono B2.out.size))
        have Ks3 := Lib.hid (Ks2.out.below hb)
        have Np3 := Lib.hid (own_below Np2.out hb)
        clear hb B2 Ks2 Np2
        have m_p_x : (.slice a rs.length cap : Value).ownBlock ≠ some v3.heap.size := fun e => by have h1 := (Np3.out.lt _ e).2; omega
        have Npn := Lib.hid (own_below Np3.out ((Below.refl _ v3).alloc (Nat.le_refl _) (.cells #[.int .i64 n, .string d2, .slice a1 rs.length c1, .int .i64 f, .bool false] 26)))
        clear Np3
        have m_x_x : (.slice a1 rs.length c1 : Value).ownBlock ≠ some v3.heap.size := fun e => by have h1 := (Nx3.out.lt _ e).2; omega
        have Nxn := Lib.hid (own_below Nx3.out ((Below.refl _ v3).alloc (Nat.le_refl _) (.cells #[.int .i64 n, .string d2, .slice a1 rs.length c1, .int .i64 f, .bool false] 26)))
        clear Nx3
        have Kxn := Lib.hid (Blk.new v3 [.int .i64 n, .string d2, .slice a1 rs.length c1, .int .i64 f, .bool false] 26)
        have l_x : w.heap.size ≤ v3.heap.size := B3.out.size
        have n_s_x : g_s ≠ v3.heap.size := by have h1 := Ks3.out.lt; omega
        have Bn := Lib.hid (B3.out.alloc B3.out.size (.cells #[.int .i64 n, .string d2, .slice a1 rs.length c1, .int .i64 f, .bool false] 26))
        have Ksn := Lib.hid (Ks3.out.alloc (.cells #[.int .i64 n, .string d2, .slice a1 rs.length c1, .int .i64 f, .bool false] 26))
        clear B3 Ks3
        obtain ⟨⟨cs0, cs1, cs2, cs3, cs4⟩, ds0, ds1, ds2, ds3, ds4⟩ := Ksn.out.of5
        go_wp2_with fail
        clear cs0 cs1 cs2 cs3 cs4 ds0 ds1 ds2 ds3 ds4
        change Calls _ _ _ (v3.alloc (.cells #[.int .i64 n, .string d2, .slice a1 rs.length c1, .int .i64 f, .bool false] 26)) _
        generalize v3.alloc (.cells #[.int .i64 n, .string d2, .slice a1 rs.length c1, .int .i64 f, .bool false] 26) = v4 at Kxn Bn Ksn Npn Nxn ⊢
        generalize v3.heap.size = g_x at Kxn l_x n_s_x m_p_x m_x_x ⊢
        clear v3
        have Ks4 := Ksn
        clear Ksn
        have Kx4 := Kxn
        clear Kxn
        have B4 := Bn
        clear Bn
        have Np4 := Npn
        clear Npn
        have Nx4 := Nxn
        clear Nxn
        refine (TS.out _ (HasP.own Np4.out)).mono ?_
        rintro e v5 ⟨a2, c2, rfl, ho, hb⟩
        have Ny5 := Lib.hid ho
        clear ho
        have B5 := Lib.hid (B4.out.trans (hb.mono B4.out.size))
        have Ks5 := Lib.hid (Ks4.out.below hb)
        have Kx5 := Lib.hid (Kx4.out.below hb)
        have Np5 := Lib.hid (own_below Np4.out hb)
        have Nx5 := Lib.hid (own_below Nx4.out hb)
        clear hb B4 Ks4 Kx4 Np4 Nx4
        have m_p_y : (.slice a rs.length cap : Value).ownBlock ≠ some v5.heap.size := fun e => by have h1 := (Np5.out.lt _ e).2; omega
        have Npn := Lib.hid (own_below Np5.out ((Below.refl _ v5).alloc (Nat.le_refl _) (.cells #[.int .i64 n, .string d2, .slice a2 rs.length c2, .int .i64 f, .bool false] 26)))
        clear Np5
        have m_x_y : (.slice a1 rs.length c1 : Value).ownBlock ≠ some v5.heap.size := fun e => by have h1 := (Nx5.out.lt _ e).2; omega
        have Nxn := Lib.hid (own_below Nx5.out ((Below.refl _ v5).alloc (Nat.le_refl _) (.cells #[.int .i64 n, .string d2, .slice a2 rs.length c2, .int .i64 f, .bool false] 26)))
        clear Nx5
        have m_y_y : (.slice a2 rs.length c2 : Value).ownBlock ≠ some v5.heap.size := fun e => by have h1 := (Ny5.out.lt _ e).2; omega
        have Nyn := Lib.hid (own_below Ny5.out ((Below.refl _ v5).alloc (Nat.le_refl _) (.cells #[.int .i64 n, .string d2, .slice a2 rs.length c2, .int .i64 f, .bool false] 26)))
        clear Ny5
        have Kyn := Lib.hid (Blk.new v5 [.int .i64 n, .string d2, .slice a2 rs.length c2, .int .i64 f, .bool false] 26)
        have l_y : w.heap.size ≤ v5.heap.size := B5.out.size
        have n_s_y : g_s ≠ v5.heap.size := by have h1 := Ks5.out.lt; omega
        have n_x_y : g_x ≠ v5.heap.size := by have h1 := Kx5.out.lt; omega
        have Bn := Lib.hid (B5.out.alloc B5.out.size (.cells #[.int .i64 n, .string d2, .slice a2 rs.length c2, .int .i64 f, .bool false] 26))
        have Ksn := Lib.hid (Ks5.out.alloc (.cells #[.int .i64 n, .string d2, .slice a2 rs.length c2, .int .i64 f, .bool false] 26))
        have Kxn := Lib.hid (Kx5.out.alloc (.cells #[.int .i64 n, .string d2, .slice a2 rs.length c2, .int .i64 f, .bool false] 26))
        clear B5 Ks5 Kx5
        obtain ⟨⟨cs0, cs1, cs2, cs3, cs4⟩, ds0, ds1, ds2, ds3, ds4⟩ := Ksn.out.of5
        obtain ⟨⟨cx0, cx1, cx2, cx3, cx4⟩, dx0, dx1, dx2, dx3, dx4⟩ := Kxn.out.of5
        go_wp2_with fail
        clear cs0 cs1 cs2 cs3 cs4 ds0 ds1 ds2 ds3 ds4 cx0 cx1 cx2 cx3 cx4 dx0 dx1 dx2 dx3 dx4
        change Calls _ _ _ (v5.alloc (.cells #[.int .i64 n, .string d2, .slice a2 rs.length c2, .int .i64 f, .bool false] 26)) _
        generalize v5.alloc (.cells #[.int .i64 n, .string d2, .slice a2 rs.length c2, .int .i64 f, .bool false] 26) = v6 at Kyn Bn Ksn Kxn Npn Nxn Nyn ⊢
        generalize v5.heap.size = g_y at Kyn l_y n_s_y n_x_y m_p_y m_x_y m_y_y ⊢
        clear v5
        have Ks6 := Ksn
        clear Ksn
        have Kx6 := Kxn
        clear Kxn
        have Ky6 := Kyn
        clear Kyn
        have B6 := Bn
        clear Bn
        have Np6 := Npn
        clear Npn
        have Nx6 := Nxn
        clear Nxn
        have Ny6 := Nyn
        clear Nyn
        refine (SS.out a1 a2 c1 c2 _ (Row.ownV Nx6.out) (Row.ownV Ny6.out)).mono ?_
        rintro e v7 ⟨rfl, hb⟩
        have B7 := Lib.hid (B6.out.trans (hb.mono B6.out.size))
        have Ks7 := Lib.hid (Ks6.out.below hb)
        have Kx7 := Lib.hid (Kx6.out.below hb)
        have Ky7 := Lib.hid (Ky6.out.below hb)
        have Np7 := Lib.hid (own_below Np6.out hb)
        have Nx7 := Lib.hid (own_below Nx6.out hb)
        have Ny7 := Lib.hid (own_below Ny6.out hb)
        clear hb B6 Ks6 Kx6 Ky6 Np6 Nx6 Ny6
        obtain ⟨⟨cs0, cs1, cs2, cs3, cs4⟩, ds0, ds1, ds2, ds3, ds4⟩ := Ks7.out.of5
        obtain ⟨⟨cx0, cx1, cx2, cx3, cx4⟩, dx0, dx1, dx2, dx3, dx4⟩ := Kx7.out.of5
        obtain ⟨⟨cy0, cy1, cy2, cy3, cy4⟩, dy0, dy1, dy2, dy3, dy4⟩ := Ky7.out.of5
        go_wp2_with fail
        clear cs0 cs1 cs2 cs3 cs4 ds0 ds1 ds2 ds3 ds4 cx0 cx1 cx2 cx3 cx4 dx0 dx1 dx2 dx3 dx4 cy0 cy1 cy2 cy3 cy4 dy0 dy1 dy2 dy3 dy4
        refine (OKS.out _ (Row.ownV Np7.out)).mono ?_
        rintro e v8 ⟨rfl, hb⟩
        have B8 := Lib.hid (B7.out.trans (hb.mono B7.out.size))
        have Ks8 := Lib.hid (Ks7.out.below hb)
        have Kx8 := Lib.hid (Kx7.out.below hb)
        have Ky8 := Lib.hid (Ky7.out.below hb)
        have Np8 := Lib.hid (own_below Np7.out hb)
        have Nx8 := Lib.hid (own_below Nx7.out hb)
        have Ny8 := Lib.hid (own_below Ny7.out hb)
        clear hb B7 Ks7 Kx7 Ky7 Np7 Nx7 Ny7
        obtain ⟨⟨cs0, cs1, cs2, cs3, cs4⟩, ds0, ds1, ds2, ds3, ds4⟩ := Ks8.out.of5
        obtain ⟨⟨cx0, cx1, cx2, cx3, cx4⟩, dx0, dx1, dx2, dx3, dx4⟩ := Kx8.out.of5
        obtain ⟨⟨cy0, cy1, cy2, cy3, cy4⟩, dy0, dy1, dy2, dy3, dy4⟩ := Ky8.out.of5
        go_upto_region 10 with fail
        clear cs0 cs1 cs2 cs3 cs4 ds0 ds1 ds2 ds3 ds4 cx0 cx1 cx2 cx3 cx4 dx0 dx1 dx2 dx3 dx4 cy0 cy1 cy2 cy3 cy4 dy0 dy1 dy2 dy3 dy4
        refine wp_region_noPanic ?_
        refine wp_region_held_drew (S := fun w' => Blk w' g_s [.int .i64 n, .string d, .slice a rs.length cap, .int .i64 f, .bool false] ∧ Blk w' g_x [.int .i64 n, .string d2, .slice a1 rs.length c1, .int .i64 f, .bool false]) (by kernel_rfl) ⟨Ks8.out, Kx8.out⟩ (fun hS => ?_)
        have B9 := Lib.hid (show Below w.heap.size w v8.drew from B8.out.drew)
        have Ks9 := Lib.hid (show Blk v8.drew g_s [.int .i64 n, .string d, .slice a rs.length cap, .int .i64 f, .bool false] from Ks8.out.drew)
        have Kx9 := Lib.hid (show Blk v8.drew g_x [.int .i64 n, .string d2, .slice a1 rs.length c1, .int .i64 f, .bool false] from Kx8.out.drew)
        have Ky9 := Lib.hid (show Blk v8.drew g_y [.int .i64 n, .string d2, .slice a2 rs.length c2, .int .i64 f, .bool false] from Ky8.out.drew)
        have Np9 := Lib.hid (own_below Np8.out (Below.refl _ v8).drew)
        have Nx9 := Lib.hid (own_below Nx8.out (Below.refl _ v8).drew)
        have Ny9 := Lib.hid (own_below Ny8.out (Below.refl _ v8).drew)
        clear hS B8 Ks8 Kx8 Ky8 Np8 Nx8 Ny8
        generalize v8.drew = v9 at B9 Ks9 Kx9 Ky9 Np9 Nx9 Ny9 ⊢
        have hS : Blk v9 g_s [.int .i64 n, .string d, .slice a rs.length cap, .int .i64 f, .bool false] ∧ Blk v9 g_x [.int .i64 n, .string d2, .slice a1 rs.length c1, .int .i64 f, .bool false] := ⟨Ks9.out, Kx9.out⟩
        refine wpAnyH_take (i := 0) (v := .string s) rfl (by kernel_rfl) (by kernel_rfl) (by kernel_rfl) (fun _ _ _ h => h) (Or.inl ⟨rfl, by intro w hS; go_simp⟩) hS ?_
        change wpAnyH _ _ _ _ _ _ _ { tmps := #[_, _, _, _, _, _, _, _, _, _, _, _, _, _, _, _, _, _, _, _, _, _, _, _, _, _, _, _, _, _, _, _, _, _, _, _, _, _, _, _, _, _, _, _, _, _, _, _, _, _, _, _, _, _, _, _, _, _, _, _, _, _, _, _, _, _, _, _, _, _, _, _, _, _, _, _, _, _, _], defers := [] } _
        refine wpAnyH_take (i := 1) (v := .pointer (some ⟨g_x, 1, none⟩)) rfl (by kernel_rfl) (by kernel_rfl) (by kernel_rfl) (fun _ _ _ h => h) (Or.inl ⟨rfl, by intro w hS; go_simp⟩) hS ?_
        change wpAnyH _ _ _ _ _ _ _ { tmps := #[_, _, _, _, _, _, _, _, _, _, _, _, _, _, _, _, _, _, _, _, _, _, _, _, _, _, _, _, _, _, _, _, _, _, _, _, _, _, _, _, _, _, _, _, _, _, _, _, _, _, _, _, _, _, _, _, _, _, _, _, _, _, _, _, _, _, _, _, _, _, _, _, _, _, _, _, _, _, _], defers := [] } _
        refine wpAnyH_take (i := 2) (v := .string d2) rfl (by kernel_rfl) (by kernel_rfl) (by kernel_rfl) (fun _ _ _ h => h) (Or.inl ⟨rfl, by intro w hS; obtain ⟨⟨hh0, hh1, hh2, hh3, hh4⟩, _⟩ := hS.2.of5; go_simp⟩) hS ?_
        change wpAnyH _ _ _ _ _ _ _ { tmps := #[_, _, _, _, _, _, _, _, _, _, _, _, _, _, _, _, _, _, _, _, _, _, _, _, _, _, _, _, _, _, _, _, _, _, _, _, _, _, _, _, _, _, _, _, _, _, _, _, _, _, _, _, _, _, _, _, _, _, _, _, _, _, _, _, _, _, _, _, _, _, _, _, _, _, _, _, _, _, _], defers := [] } _
        refine wpAnyH_take (i := 3) (v := .string d) rfl (by kernel_rfl) (by kernel_rfl) (by kernel_rfl) (fun _ _ _ h => h) (Or.inl ⟨rfl, by intro w hS; go_simp; rw [hcat.out, if_neg (by omega)]⟩) hS ?_
        change wpAnyH _ _ _ _ _ _ _ { tmps := #[_, _, _, _, _, _, _, _, _, _, _, _, _, _, _, _, _, _, _, _, _, _, _, _, _, _, _, _, _, _, _, _, _, _, _, _, _, _, _, _, _, _, _, _, _, _, _, _, _, _, _, _, _, _, _, _, _, _, _, _, _, _, _, _, _, _, _, _, _, _, _, _, _, _, _, _, _, _, _], defers := [] } _
        refine wpAnyH_take (i := 4) (v := .pointer (some ⟨g_s, 1, none⟩)) rfl (by kernel_rfl) (by kernel_rfl) (by kernel_rfl) (fun _ _ _ h => h) (Or.inl ⟨rfl, by intro w hS; go_simp⟩) hS ?_
        change wpAnyH _ _ _ _ _ _ _ { tmps := #[_, _, _, _, _, _, _, _, _, _, _, _, _, _, _, _, _, _, _, _, _, _, _, _, _, _, _, _, _, _, _, _, _, _, _, _, _, _, _, _, _, _, _, _, _, _, _, _, _, _, _, _, _, _, _, _, _, _, _, _, _, _, _, _, _, _, _, _, _, _, _, _, _, _, _, _, _, _, _], defers := [] } _
        refine wpAnyH_take (i := 5) (v := .string d) rfl (by kernel_rfl) (by kernel_rfl) (by kernel_rfl) (fun _ _ _ h => h) (Or.inl ⟨rfl, by intro w hS; obtain ⟨⟨hh0, hh1, hh2, hh3, hh4⟩, _⟩ := hS.1.of5; go_simp⟩) hS ?_
        change wpAnyH _ _ _ _ _ _ _ { tmps := #[_, _, _, _, _, _, _, _, _, _, _, _, _, _, _, _, _, _, _, _, _, _, _, _, _, _, _, _, _, _, _, _, _, _, _, _, _, _, _, _, _, _, _, _, _, _, _, _, _, _, _, _, _, _, _, _, _, _, _, _, _, _, _, _, _, _, _, _, _, _, _, _, _, _, _, _, _, _, _], defers := [] } _
        refine wpAnyH_take (i := 6) (v := .bool true) rfl (by kernel_rfl) (by kernel_rfl) (by kernel_rfl) (fun _ _ _ h => h) (Or.inl ⟨rfl, by intro w hS; go_simp⟩) hS ?_
        change wpAnyH _ _ _ _ _ _ _ { tmps := #[_, _, _, _, _, _, _, _, _, _, _, _, _, _, _, _, _, _, _, _, _, _, _, _, _, _, _, _, _, _, _, _, _, _, _, _, _, _, _, _, _, _, _, _, _, _, _, _, _, _, _, _, _, _, _, _, _, _, _, _, _, _, _, _, _, _, _, _, _, _, _, _, _, _, _, _, _, _, _], defers := [] } _
        refine wpAnyH_take (i := 7) (v := .bool true) rfl (by kernel_rfl) (by kernel_rfl) (by kernel_rfl) (fun _ _ _ h => h) (Or.inl ⟨rfl, by intro w hS; go_simp⟩) hS ?_
        change wpAnyH _ _ _ _ _ _ _ { tmps := #[_, _, _, _, _, _, _, _, _, _, _, _, _, _, _, _, _, _, _, _, _, _, _, _, _, _, _, _, _, _, _, _, _, _, _, _, _, _, _, _, _, _, _, _, _, _, _, _, _, _, _, _, _, _, _, _, _, _, _, _, _, _, _, _, _, _, _, _, _, _, _, _, _, _, _, _, _, _, _], defers := [] } _
        refine wpAnyH_take (i := 8) (v := .agg #[.int .i64 n, .string d2, .slice a1 rs.length c1, .int .i64 f, .bool false]) rfl (by kernel_rfl) (by kernel_rfl) (by kernel_rfl) (fun _ _ _ h => h) (Or.inl ⟨rfl, by intro w hS; obtain ⟨⟨hh0, hh1, hh2, hh3, hh4⟩, _⟩ := hS.2.of5; go_simp⟩) hS ?_
        change wpAnyH _ _ _ _ _ _ _ { tmps := #[_, _, _, _, _, _, _, _, _, _, _, _, _, _, _, _, _, _, _, _, _, _, _, _, _, _, _, _, _, _, _, _, _, _, _, _, _, _, _, _, _, _, _, _, _, _, _, _, _, _, _, _, _, _, _, _, _, _, _, _, _, _, _, _, _, _, _, _, _, _, _, _, _, _, _, _, _, _, _], defers := [] } _
        refine wpAnyH_ready (rs := [9]) (by kernel_rfl) (by simp) ?_
        refine AllReadyH.cons (i := 9) rfl (fun K hK => ?zq4) AllReadyH.nil
        rw [if_pos (by first | rfl | kernel_rfl)]
        go_simp
        clear hS
        refine (OK2.out a1 c1 _ (Row.ownV Nx9.out)).mono ?_
        rintro e v10 ⟨rfl, hb⟩
        have B10 := Lib.hid (B9.out.trans (hb.mono B9.out.size))
        have Ks10 := Lib.hid (Ks9.out.below hb)
        have Kx10 := Lib.hid (Kx9.out.below hb)
        have Ky10 := Lib.hid (Ky9.out.below hb)
        have Np10 := Lib.hid (own_below Np9.out hb)
        have Nx10 := Lib.hid (own_below Nx9.out hb)
        have Ny10 := Lib.hid (own_below Ny9.out hb)
        clear hb B9 Ks9 Kx9 Ky9 Np9 Nx9 Ny9
        refine hK.out _ _ ⟨Ks10.out, Kx10.out⟩ (fun hS => ?_)
        clear hK K
        change wpAnyH _ _ _ _ _ _ _ { tmps := #[_, _, _, _, _, _, _, _, _, _, _, _, _, _, _, _, _, _, _, _, _, _, _, _, _, _, _, _, _, _, _, _, _, _, _, _, _, _, _, _, _, _, _, _, _, _, _, _, _, _, _, _, _, _, _, _, _, _, _, _, _, _, _, _, _, _, _, _, _, _, _, _, _, _, _, _, _, _, _], defers := [] } _
        refine wpAnyH_take (i := 10) (v := .bool true) rfl (by kernel_rfl) (by kernel_rfl) (by kernel_rfl) (fun _ _ _ h => h) (Or.inl ⟨rfl, by intro w hS; go_simp⟩) hS ?_
        change wpAnyH _ _ _ _ _ _ _ { tmps := #[_, _, _, _, _, _, _, _, _, _, _, _, _, _, _, _, _, _, _, _, _, _, _, _, _, _, _, _, _, _, _, _, _, _, _, _, _, _, _, _, _, _, _, _, _, _, _, _, _, _, _, _, _, _, _, _, _, _, _, _, _, _, _, _, _, _, _, _, _, _, _, _, _, _, _, _, _, _, _], defers := [] } _
        refine wpAnyH_take (i := 11) (v := .bool true) rfl (by kernel_rfl) (by kernel_rfl) (by kernel_rfl) (fun _ _ _ h => h) (Or.inl ⟨rfl, by intro w hS; go_simp⟩) hS ?_
        change wpAnyH _ _ _ _ _ _ _ { tmps := #[_, _, _, _, _, _, _, _, _, _, _, _, _, _, _, _, _, _, _, _, _, _, _, _, _, _, _, _, _, _, _, _, _, _, _, _, _, _, _, _, _, _, _, _, _, _, _, _, _, _, _, _, _, _, _, _, _, _, _, _, _, _, _, _, _, _, _, _, _, _, _, _, _, _, _, _, _, _, _], defers := [] } _
        refine wpAnyH_take (i := 12) (v := .pointer (some ⟨g_s, 4, none⟩)) rfl (by kernel_rfl) (by kernel_rfl) (by kernel_rfl) (fun _ _ _ h => h) (Or.inl ⟨rfl, by intro w hS; go_simp⟩) hS ?_
        change wpAnyH _ _ _ _ _ _ _ { tmps := #[_, _, _, _, _, _, _, _, _, _, _, _, _, _, _, _, _, _, _, _, _, _, _, _, _, _, _, _, _, _, _, _, _, _, _, _, _, _, _, _, _, _, _, _, _, _, _, _, _, _, _, _, _, _, _, _, _, _, _, _, _, _, _, _, _, _, _, _, _, _, _, _, _, _, _, _, _, _, _], defers := [] } _
        refine wpAnyH_take (i := 13) (v := .bool false) rfl (by kernel_rfl) (by kernel_rfl) (by kernel_rfl) (fun _ _ _ h => h) (Or.inl ⟨rfl, by intro w hS; obtain ⟨⟨hh0, hh1, hh2, hh3, hh4⟩, _⟩ := hS.1.of5; go_simp⟩) hS ?_
        change wpAnyH _ _ _ _ _ _ _ { tmps := #[_, _, _, _, _, _, _, _, _, _, _, _, _, _, _, _, _, _, _, _, _, _, _, _, _, _, _, _, _, _, _, _, _, _, _, _, _, _, _, _, _, _, _, _, _, _, _, _, _, _, _, _, _, _, _, _, _, _, _, _, _, _, _, _, _, _, _, _, _, _, _, _, _, _, _, _, _, _, _], defers := [] } _
        refine wpAnyH_take (i := 14) (v := .bool false) rfl (by kernel_rfl) (by kernel_rfl) (by kernel_rfl) (fun _ _ _ h => h) (Or.inl ⟨rfl, by intro w hS; go_simp⟩) hS ?_
        change wpAnyH _ _ _ _ _ _ _ { tmps := #[_, _, _, _, _, _, _, _, _, _, _, _, _, _, _, _, _, _, _, _, _, _, _, _, _, _, _, _, _, _, _, _, _, _, _, _, _, _, _, _, _, _, _, _, _, _, _, _, _, _, _, _, _, _, _, _, _, _, _, _, _, _, _, _, _, _, _, _, _, _, _, _, _, _, _, _, _, _, _], defers := [] } _
        refine wpAnyH_take (i := 15) (v := .agg #[.int .i64 n, .string d2, .slice a1 rs.length c1, .int .i64 f, .bool false]) rfl (by kernel_rfl) (by kernel_rfl) (by kernel_rfl) (fun _ _ _ h => h) (Or.inl ⟨rfl, by intro w hS; obtain ⟨⟨hh0, hh1, hh2, hh3, hh4⟩, _⟩ := hS.2.of5; go_simp⟩) hS ?_
        change wpAnyH _ _ _ _ _ _ _ { tmps := #[_, _, _, _, _, _, _, _, _, _, _, _, _, _, _, _, _, _, _, _, _, _, _, _, _, _, _, _, _, _, _, _, _, _, _, _, _, _, _, _, _, _, _, _, _, _, _, _, _, _, _, _, _, _, _, _, _, _, _, _, _, _, _, _, _, _, _, _, _, _, _, _, _, _, _, _, _, _, _], defers := [] } _
        refine wpAnyH_take (i := 17) (v := .agg #[.int .i64 n, .string d, .slice a rs.length cap, .int .i64 f, .bool false]) rfl (by kernel_rfl) (by kernel_rfl) (by kernel_rfl) (fun _ _ _ h => h) (Or.inl ⟨rfl, by intro w hS; obtain ⟨⟨hh0, hh1, hh2, hh3, hh4⟩, _⟩ := hS.1.of5; go_simp⟩) hS ?_
        change wpAnyH _ _ _ _ _ _ _ { tmps := #[_, _, _, _, _, _, _, _, _, _, _, _, _, _, _, _, _, _, _, _, _, _, _, _, _, _, _, _, _, _, _, _, _, _, _, _, _, _, _, _, _, _, _, _, _, _, _, _, _, _, _, _, _, _, _, _, _, _, _, _, _, _, _, _, _, _, _, _, _, _, _, _, _, _, _, _, _, _, _], defers := [] } _
        refine wpAnyH_take (i := 19) (v := .string s) rfl (by kernel_rfl) (by kernel_rfl) (by kernel_rfl) (fun _ _ _ h => h) (Or.inl ⟨rfl, by intro w hS; go_simp⟩) hS ?_
        change wpAnyH _ _ _ _ _ _ _ { tmps := #[_, _, _, _, _, _, _, _, _, _, _, _, _, _, _, _, _, _, _, _, _, _, _, _, _, _, _, _, _, _, _, _, _, _, _, _, _, _, _, _, _, _, _, _, _, _, _, _, _, _, _, _, _, _, _, _, _, _, _, _, _, _, _, _, _, _, _, _, _, _, _, _, _, _, _, _, _, _, _], defers := [] } _
        refine wpAnyH_take (i := 20) (v := .int .i64 (s.size : Int)) rfl (by kernel_rfl) (by kernel_rfl) (by kernel_rfl) (fun _ _ _ h => h) (Or.inl ⟨rfl, by intro w hS; first | (go_simp; done) | (go_simp; omega)⟩) hS ?_
        change wpAnyH _ _ _ _ _ _ _ { tmps := #[_, _, _, _, _, _, _, _, _, _, _, _, _, _, _, _, _, _, _, _, _, _, _, _, _, _, _, _, _, _, _, _, _, _, _, _, _, _, _, _, _, _, _, _, _, _, _, _, _, _, _, _, _, _, _, _, _, _, _, _, _, _, _, _, _, _, _, _, _, _, _, _, _, _, _, _, _, _, _], defers := [] } _
        refine wpAnyH_ready (rs := [16]) (by kernel_rfl) (by simp) ?_
        refine AllReadyH.cons (i := 16) rfl (fun K hK => ?zq5) AllReadyH.nil
        rw [if_pos (by first | rfl | kernel_rfl)]
        go_simp
        clear hS
        refine (W2.out a1 c1 _).mono ?_
        rintro e v11 ⟨rfl, hb⟩
        have B11 := Lib.hid (B10.out.trans (hb.mono B10.out.size))
        have Ks11 := Lib.hid (Ks10.out.below hb)
        have Kx11 := Lib.hid (Kx10.out.below hb)
        have Ky11 := Lib.hid (Ky10.out.below hb)
        have Np11 := Lib.hid (own_below Np10.out hb)
        have Nx11 := Lib.hid (own_below Nx10.out hb)
        have Ny11 := Lib.hid (own_below Ny10.out hb)
        clear hb B10 Ks10 Kx10 Ky10 Np10 Nx10 Ny10
        refine hK.out _ _ ⟨Ks11.out, Kx11.out⟩ (fun hS => ?_)
        clear hK K
        change wpAnyH _ _ _ _ _ _ _ { tmps := #[_, _, _, _, _, _, _, _, _, _, _, _, _, _, _, _, _, _, _, _, _, _, _, _, _, _, _, _, _, _, _, _, _, _, _, _, _, _, _, _, _, _, _, _, _, _, _, _, _, _, _, _, _, _, _, _, _, _, _, _, _, _, _, _, _, _, _, _, _, _, _, _, _, _, _, _, _, _, _], defers := [] } _
        refine wpAnyH_ready (rs := [18]) (by kernel_rfl) (by simp) ?_
        refine AllReadyH.cons (i := 18) rfl (fun K hK => ?zq6) AllReadyH.nil
        rw [if_pos (by first | rfl | kernel_rfl)]
        go_simp
        clear hS
        refine (W1.out _).mono ?_
        rintro e v12 ⟨rfl, hb⟩
        have B12 := Lib.hid (B11.out.trans (hb.mono B11.out.size))
        have Ks12 := Lib.hid (Ks11.out.below hb)
        have Kx12 := Lib.hid (Kx11.out.below hb)
        have Ky12 := Lib.hid (Ky11.out.below hb)
        have Np12 := Lib.hid (own_below Np11.out hb)
        have Nx12 := Lib.hid (own_below Nx11.out hb)
        have Ny12 := Lib.hid (own_below Ny11.out hb)
        clear hb B11 Ks11 Kx11 Ky11 Np11 Nx11 Ny11
        refine hK.out _ _ ⟨Ks12.out, Kx12.out⟩ (fun hS => ?_)
        clear hK K
        change wpAnyH _ _ _ _ _ _ _ { tmps := #[_, _, _, _, _, _, _, _, _, _, _, _, _, _, _, _, _, _, _, _, _, _, _, _, _, _, _, _, _, _, _, _, _, _, _, _, _, _, _, _, _, _, _, _, _, _, _, _, _, _, _, _, _, _, _, _, _, _, _, _, _, _, _, _, _, _, _, _, _, _, _, _, _, _, _, _, _, _, _], defers := [] } _
        refine wpAnyH_take (i := 21) (v := .int .i64 (u + (s.size : Int))) rfl (by kernel_rfl) (by kernel_rfl) (by kernel_rfl) (fun _ _ _ h => h) (Or.inl ⟨rfl, by intro w hS; first | (go_simp; done) | (go_simp; exact IntWalk.i64_in _ (by omega)) | (go_simp; omega)⟩) hS ?_
        change wpAnyH _ _ _ _ _ _ _ { tmps := #[_, _, _, _, _, _, _, _, _, _, _, _, _, _, _, _, _, _, _, _, _, _, _, _, _, _, _, _, _, _, _, _, _, _, _, _, _, _, _, _, _, _, _, _, _, _, _, _, _, _, _, _, _, _, _, _, _, _, _, _, _, _, _, _, _, _, _, _, _, _, _, _, _, _, _, _, _, _, _], defers := [] } _
        refine wpAnyH_take (i := 22) (v := .bool true) rfl (by kernel_rfl) (by kernel_rfl) (by kernel_rfl) (fun _ _ _ h => h) (Or.inl ⟨rfl, by intro w hS; go_simp⟩) hS ?_
        change wpAnyH _ _ _ _ _ _ _ { tmps := #[_, _, _, _, _, _, _, _, _, _, _, _, _, _, _, _, _, _, _, _, _, _, _, _, _, _, _, _, _, _, _, _, _, _, _, _, _, _, _, _, _, _, _, _, _, _, _, _, _, _, _, _, _, _, _, _, _, _, _, _, _, _, _, _, _, _, _, _, _, _, _, _, _, _, _, _, _, _, _], defers := [] } _
        refine wpAnyH_take (i := 23) (v := .bool true) rfl (by kernel_rfl) (by kernel_rfl) (by kernel_rfl) (fun _ _ _ h => h) (Or.inl ⟨rfl, by intro w hS; go_simp⟩) hS ?_
        change wpAnyH _ _ _ _ _ _ _ { tmps := #[_, _, _, _, _, _, _, _, _, _, _, _, _, _, _, _, _, _, _, _, _, _, _, _, _, _, _, _, _, _, _, _, _, _, _, _, _, _, _, _, _, _, _, _, _, _, _, _, _, _, _, _, _, _, _, _, _, _, _, _, _, _, _, _, _, _, _, _, _, _, _, _, _, _, _, _, _, _, _], defers := [] } _
        refine wpAnyH_take (i := 24) (v := .bool true) rfl (by kernel_rfl) (by kernel_rfl) (by kernel_rfl) (fun _ _ _ h => h) (Or.inl ⟨rfl, by intro w hS; go_simp⟩) hS ?_
        change wpAnyH _ _ _ _ _ _ _ { tmps := #[_, _, _, _, _, _, _, _, _, _, _, _, _, _, _, _, _, _, _, _, _, _, _, _, _, _, _, _, _, _, _, _, _, _, _, _, _, _, _, _, _, _, _, _, _, _, _, _, _, _, _, _, _, _, _, _, _, _, _, _, _, _, _, _, _, _, _, _, _, _, _, _, _, _, _, _, _, _, _], defers := [] } _
        refine wpAnyH_take (i := 25) (v := .bool true) rfl (by kernel_rfl) (by kernel_rfl) (by kernel_rfl) (fun _ _ _ h => h) (Or.inl ⟨rfl, by intro w hS; go_simp⟩) hS ?_
        change wpAnyH _ _ _ _ _ _ _ { tmps := #[_, _, _, _, _, _, _, _, _, _, _, _, _, _, _, _, _, _, _, _, _, _, _, _, _, _, _, _, _, _, _, _, _, _, _, _, _, _, _, _, _, _, _, _, _, _, _, _, _, _, _, _, _, _, _, _, _, _, _, _, _, _, _, _, _, _, _, _, _, _, _, _, _, _, _, _, _, _, _], defers := [] } _
        refine wpAnyH_take (i := 26) (v := .pointer (some ⟨g_x, 0, none⟩)) rfl (by kernel_rfl) (by kernel_rfl) (by kernel_rfl) (fun _ _ _ h => h) (Or.inl ⟨rfl, by intro w hS; go_simp⟩) hS ?_
        change wpAnyH _ _ _ _ _ _ _ { tmps := #[_, _, _, _, _, _, _, _, _, _, _, _, _, _, _, _, _, _, _, _, _, _, _, _, _, _, _, _, _, _, _, _, _, _, _, _, _, _, _, _, _, _, _, _, _, _, _, _, _, _, _, _, _, _, _, _, _, _, _, _, _, _, _, _, _, _, _, _, _, _, _, _, _, _, _, _, _, _, _], defers := [] } _
        refine wpAnyH_take (i := 27) (v := .int .i64 n) rfl (by kernel_rfl) (by kernel_rfl) (by kernel_rfl) (fun _ _ _ h => h) (Or.inl ⟨rfl, by intro w hS; obtain ⟨⟨hh0, hh1, hh2, hh3, hh4⟩, _⟩ := hS.2.of5; go_simp⟩) hS ?_
        change wpAnyH _ _ _ _ _ _ _ { tmps := #[_, _, _, _, _, _, _, _, _, _, _, _, _, _, _, _, _, _, _, _, _, _, _, _, _, _, _, _, _, _, _, _, _, _, _, _, _, _, _, _, _, _, _, _, _, _, _, _, _, _, _, _, _, _, _, _, _, _, _, _, _, _, _, _, _, _, _, _, _, _, _, _, _, _, _, _, _, _, _], defers := [] } _
        refine wpAnyH_take (i := 28) (v := .pointer (some ⟨g_s, 0, none⟩)) rfl (by kernel_rfl) (by kernel_rfl) (by kernel_rfl) (fun _ _ _ h => h) (Or.inl ⟨rfl, by intro w hS; go_simp⟩) hS ?_
        change wpAnyH _ _ _ _ _ _ _ { tmps := #[_, _, _, _, _, _, _, _, _, _, _, _, _, _, _, _, _, _, _, _, _, _, _, _, _, _, _, _, _, _, _, _, _, _, _, _, _, _, _, _, _, _, _, _, _, _, _, _, _, _, _, _, _, _, _, _, _, _, _, _, _, _, _, _, _, _, _, _, _, _, _, _, _, _, _, _, _, _, _], defers := [] } _
        refine wpAnyH_take (i := 29) (v := .int .i64 n) rfl (by kernel_rfl) (by kernel_rfl) (by kernel_rfl) (fun _ _ _ h => h) (Or.inl ⟨rfl, by intro w hS; obtain ⟨⟨hh0, hh1, hh2, hh3, hh4⟩, _⟩ := hS.1.of5; go_simp⟩) hS ?_
        change wpAnyH _ _ _ _ _ _ _ { tmps := #[_, _, _, _, _, _, _, _, _, _, _, _, _, _, _, _, _, _, _, _, _, _, _, _, _, _, _, _, _, _, _, _, _, _, _, _, _, _, _, _, _, _, _, _, _, _, _, _, _, _, _, _, _, _, _, _, _, _, _, _, _, _, _, _, _, _, _, _, _, _, _, _, _, _, _, _, _, _, _], defers := [] } _
        refine wpAnyH_take (i := 30) (v := .bool true) rfl (by kernel_rfl) (by kernel_rfl) (by kernel_rfl) (fun _ _ _ h => h) (Or.inl ⟨rfl, by intro w hS; go_simp⟩) hS ?_
        change wpAnyH _ _ _ _ _ _ _ { tmps := #[_, _, _, _, _, _, _, _, _, _, _, _, _, _, _, _, _, _, _, _, _, _, _, _, _, _, _, _, _, _, _, _, _, _, _, _, _, _, _, _, _, _, _, _, _, _, _, _, _, _, _, _, _, _, _, _, _, _, _, _, _, _, _, _, _, _, _, _, _, _, _, _, _, _, _, _, _, _, _], defers := [] } _
        refine wpAnyH_take (i := 31) (v := .bool true) rfl (by kernel_rfl) (by kernel_rfl) (by kernel_rfl) (fun _ _ _ h => h) (Or.inl ⟨rfl, by intro w hS; go_simp⟩) hS ?_
        change wpAnyH _ _ _ _ _ _ _ { tmps := #[_, _, _, _, _, _, _, _, _, _, _, _, _, _, _, _, _, _, _, _, _, _, _, _, _, _, _, _, _, _, _, _, _, _, _, _, _, _, _, _, _, _, _, _, _, _, _, _, _, _, _, _, _, _, _, _, _, _, _, _, _, _, _, _, _, _, _, _, _, _, _, _, _, _, _, _, _, _, _], defers := [] } _
        refine wpAnyH_take (i := 32) (v := .bool true) rfl (by kernel_rfl) (by kernel_rfl) (by kernel_rfl) (fun _ _ _ h => h) (Or.inl ⟨rfl, by intro w hS; go_simp⟩) hS ?_
        change wpAnyH _ _ _ _ _ _ _ { tmps := #[_, _, _, _, _, _, _, _, _, _, _, _, _, _, _, _, _, _, _, _, _, _, _, _, _, _, _, _, _, _, _, _, _, _, _, _, _, _, _, _, _, _, _, _, _, _, _, _, _, _, _, _, _, _, _, _, _, _, _, _, _, _, _, _, _, _, _, _, _, _, _, _, _, _, _, _, _, _, _], defers := [] } _
        refine wpAnyH_done (by kernel_rfl) ?_ _
        refine NoPanic.normal ?_
        obtain ⟨⟨cs0, cs1, cs2, cs3, cs4⟩, ds0, ds1, ds2, ds3, ds4⟩ := Ks12.out.of5
        obtain ⟨⟨cx0, cx1, cx2, cx3, cx4⟩, dx0, dx1, dx2, dx3, dx4⟩ := Kx12.out.of5
        obtain ⟨⟨cy0, cy1, cy2, cy3, cy4⟩, dy0, dy1, dy2, dy3, dy4⟩ := Ky12.out.of5
        go_wp2_with fail
        go_ret
        exact ⟨rfl, B12.out⟩
  · have h1 : 1048576 < s0.length := by omega
    go_enter Try.func6, Try.ntmps6
    go_wp2_with fail
    refine (big_yes _ _ _ _ h1 hm).mono ?_
    rintro e w' ⟨rfl, rfl⟩
    go_wp2_with fail
    go_ret
    exact ⟨rfl, Below.refl _ _⟩
theorem own : ownKnob Try.prog.godebug = none := by kernel_rfl
theorem laidOut : laidOutB Try.prog = true := by kernel_rfl

set_option maxRecDepth 100000 in
theorem lifted (os : Os) (started : os.Started) (H : Type) (enc : TypeId × Value → H) :
    ReturnsInHanded {} Try.checked os 6 .any (Rows.fnTakenInSpec.pre6 enc Try.prog Try.f6 Rows.fnTakenInRow.domain false) (Rows.fnTakenInSpec.post enc Try.prog Try.f6 false true false false) := by
  refine returnsInHanded_of_change (C := Try.checked) own started (by kernel_rfl) Try.func6
    (ChangeSpec.witness6 (enc := enc) (C := Try.checked) false ⟨#[], #[.slice none 0 0], []⟩ 8 (by kernel_rfl) (by kernel_rfl) (by kernel_rfl) (by kernel_rfl)) ?_
  intro W base args ds gs before hval0 hW _ _
  have hval : ∀ (j : Nat) t v, Try.f6.params[j]? = some t → args[j]? = some v → Value.okWide Try.prog W .any base t v := hval0
  have hW' := hW
  obtain ⟨p, q, hA0, hV, rfl, _, _⟩ := hW
  have hA : DataW.TrodAll enc Try.prog W 0 (fun _ => true) true Try.f6.params.toList args.toList ds p := hA0
  rw [Try.params6] at hA hval
  obtain ⟨v0, vs0, d0, ds0, p0, q0, hargs, rfl, rfl, h0, r0⟩ := trodAll_cons hA
  obtain ⟨rfl, rfl, rfl⟩ := trodAll_nil r0
  obtain rfl : args = #[v0] := by cases args; simp_all
  obtain ⟨rfl, rfl⟩ := trodVars_none hV
  obtain ⟨a0, len0, cap0, rfl⟩ := okWide_slice Try.underlying22 (hval 0 22 v0 rfl rfl)
  have k0 := h0
  have lt0 : ∀ x ∈ p0, x.block < W.heap.size := by obtain ⟨m, hm⟩ := k0; exact DataW.trod_lt m _ _ _ hm
  obtain ⟨s0, w0⟩ : ∃ bs : List UInt8, IsBytes W a0 len0 bs := by obtain ⟨fuel, hf⟩ := h0; exact openBytes Try.underlying22 Try.underlying5 (by kernel_rfl) hf
  clear hA0 hval0
  refine (walk a0 len0 cap0 s0 w0).mono fun e W' ⟨he, bel⟩ => ?_
  subst he
  exact ⟨_, rfl, _, _, _, [], _, [], hW', trodAll_mk1 (shut_bool Try.underlying4 _), (trodAll_cons_mk (Below.trod laidOut (by kernel_rfl) (of_decide_eq_true (by kernel_rfl)) k0 bel lt0) trodAll_mk0), rfl, bel.frame _, fun h => by cases h⟩

theorem over : Rows.fnTakenInRow.holds Try.pinned (OpenSpec.ofChange Rows.fnTakenInSpec) :=
  OpenClaim.holds_of_wide 6 Try.f6 rfl rfl rfl rfl rfl rfl rfl ⟨rfl, rfl, rfl, rfl, rfl⟩ rfl rfl rfl rfl rfl (by kernel_rfl) Try.func6 (by kernel_rfl)
    (of_decide_eq_true (by kernel_rfl)) (by unfold Func.isWrapper; first | (rw [if_pos (by decide +kernel)]; kernel_rfl) | (rw [if_neg (by decide +kernel)]; exact ⟨rfl, rfl⟩))
    (fun os started H enc _ => lifted os started H enc)

theorem proved : Rows.FnTakenInSaid := over
#print axioms proved
end Go.Proofs.Ytpbnkkgfjmkcdaa.fnTakenIn
