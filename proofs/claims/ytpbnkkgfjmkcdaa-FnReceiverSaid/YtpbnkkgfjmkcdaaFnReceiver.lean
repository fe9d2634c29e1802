/- Proved here: for every code of at most 1048576 bytes, with the Receiver, the place, the text and the FIN that are drawn from it, impl.Arrived answers what the model answers, and so does impl.ReceiverOk; what is not a valid receiver is handed back as it is; else the answer is valid, its bytes begin with those that had come, Next has gone on by what is new (and by one where the stream is done now), and there is no more room than before (a longer code is not asked); the call returns true for every argument, without condition. -/
import Derived.Test.YtpbnkkgfjmkcdaaRows
import Derived.Test.YtpbnkkgfjmkcdaaPkFnReceiver
import Derived.Test.YtpbnkkgfjmkcdaaArrI
import Derived.Test.YtpbnkkgfjmkcdaaArrS
import Derived.Deep.RegionHeld3
import Derived.ProofKit
import Derived.OpenShut
import Derived.ChangeSame
import Derived.ShutString
import Derived.ChangeOld
import Derived.Below
namespace Go.Proofs.Ytpbnkkgfjmkcdaa.fnReceiver
open Go.ChangeShapes Go.WideShapes Go.ChangeAt Go.RowKit Go.Lib

/-- The law's word: true, and what lay before the call lies as it lay. -/
def OkB (w : World) (e : Ending) (w' : World) : Prop := e = .returned (.bool true) ∧ Below w.heap.size w w'

set_option maxRecDepth 100000 in
set_option maxHeartbeats 8000000 in
theorem walk (a0 : Option Addr) (len0 cap0 : Nat) (s0 : List UInt8) {w : World} (w0 : IsBytes w a0 len0 s0) :
    Calls Try.prog 3 #[.slice a0 len0 cap0] w (OkB w) := by
  obtain ⟨⟨rfl, hm⟩, hrow⟩ := w0
  unfold maxLen at hm
  have HR := Lib.hid hrow
  clear hrow
  by_cases hs : s0.length ≤ 1048576
  · go_enter Try.func3, Try.ntmps3
    go_wp2_with fail
    refine (big_no _ _ _ _ hs).mono ?_
    rintro e w' ⟨rfl, rfl⟩
    go_wp2_with fail
    have B0 := Lib.hid (Below.refl w.heap.size w)
    refine (drawArrived a0 s0 cap0 w HR.out hs).mono ?_
    rintro e v1 ⟨n, d, rs, f, z, a, cap, sq, x, b, rfl, ⟨hbd, hx⟩, ho, hb⟩
    have Np1 := Lib.hid ho
    clear ho
    have B1 := Lib.hid (B0.out.trans (hb.mono B0.out.size))
    clear hb B0
    clear HR hs hm
    have HB := Lib.hid hbd.rb
    have hl4 := hbd.2.1
    have hd33 := hbd.1
    have hl5 := Lib.hid (show rs.length ≤ 1048577 by omega)
    clear hbd
    have AI := fun w h => arrI n f sq z b d x a cap rs HB.out w h
    have AS := fun w h => arrS n f sq z b d x a cap rs HB.out (by omega) w h
    have OKS := fun w h => rcvOkS n f z d a cap rs HB.out w h
    have OKI := fun w h => rcvOkI n f z d a cap rs HB.out w h
    unfold NewRE at AI AS
    clear hx
    cases hok : rcvOk ⟨n, d, rs, f, z⟩ with
    | false =>
      have e : arrived ⟨n, d, rs, f, z⟩ sq x b = ⟨n, d, rs, f, z⟩ := by unfold arrived; rw [hok]; rfl
      simp only [e] at AI AS
      simp only [hok] at OKS OKI
      have SS := fun a1 a2 c1 c2 w ha hb => sameRcvS n n f f d d z z a1 a2 c1 c2 rs rs w ha hb hl5.out
      simp only [sameR_self] at SS
      clear e hok
      replace AI := Lib.hid AI
      replace AS := Lib.hid AS
      replace OKS := Lib.hid OKS
      replace OKI := Lib.hid OKI
      replace SS := Lib.hid SS
      have m_p_s : (.slice a rs.length cap : Value).ownBlock ≠ some v1.heap.size := fun e => by have h1 := (Np1.out.lt _ e).2; omega
      have Npn := Lib.hid (own_below Np1.out ((Below.refl _ v1).alloc (Nat.le_refl _) (.cells #[.int .i64 n, .string d, .slice a rs.length cap, .int .i64 f, .bool z] 26)))
      clear Np1
      have Ksn := Lib.hid (Blk.new v1 [.int .i64 n, .string d, .slice a rs.length cap, .int .i64 f, .bool z] 26)
      have l_s : w.heap.size ≤ v1.heap.size := B1.out.size
      have Bn := Lib.hid (B1.out.alloc B1.out.size (.cells #[.int .i64 n, .string d, .slice a rs.length cap, .int .i64 f, .bool z] 26))
      clear B1
      go_wp2_with fail
      change Calls _ _ _ (v1.alloc (.cells #[.int .i64 n, .string d, .slice a rs.length cap, .int .i64 f, .bool z] 26)) _
      generalize v1.alloc (.cells #[.int .i64 n, .string d, .slice a rs.length cap, .int .i64 f, .bool z] 26) = v2 at Ksn Bn Npn ⊢
      generalize v1.heap.size = g_s at Ksn l_s m_p_s ⊢
      clear v1
      have Ks2 := Ksn
      clear Ksn
      have B2 := Bn
      clear Bn
      have Np2 := Npn
      clear Npn
      refine (AI.out _ (HasP.own Np2.out)).mono ?_
      rintro e v3 ⟨a1, c1, rfl, ho, hb⟩
      have Nx3 := Lib.hid ho
      clear ho
      have B3 := Lib.hid (B2.out.trans (hb.mono B2.out.size))
      have Ks3 := Lib.hid (Ks2.out.below hb)
      have Np3 := Lib.hid (own_below Np2.out hb)
      clear hb B2 Ks2 Np2
      have m_p_x : (.slice a rs.length cap : Value).ownBlock ≠ some v3.heap.size := fun e => by have h1 := (Np3.out.lt _ e).2; omega
      have Npn := Lib.hid (own_below Np3.out ((Below.refl _ v3).alloc (Nat.le_refl _) (.cells #[.int .i64 n, .string d, .slice a1 rs.length c1, .int .i64 f, .bool z] 26)))
      clear Np3
      have m_x_x : (.slice a1 rs.length c1 : Value).ownBlock ≠ some v3.heap.size := fun e => by have h1 := (Nx3.out.lt _ e).2; omega
      have Nxn := Lib.hid (own_below Nx3.out ((Below.refl _ v3).alloc (Nat.le_refl _) (.cells #[.int .i64 n, .string d, .slice a1 rs.length c1, .int .i64 f, .bool z] 26)))
      clear Nx3
      have Kxn := Lib.hid (Blk.new v3 [.int .i64 n, .string d, .slice a1 rs.length c1, .int .i64 f, .bool z] 26)
      have l_x : w.heap.size ≤ v3.heap.size := B3.out.size
      have n_s_x : g_s ≠ v3.heap.size := by have h1 := Ks3.out.lt; omega
      have Bn := Lib.hid (B3.out.alloc B3.out.size (.cells #[.int .i64 n, .string d, .slice a1 rs.length c1, .int .i64 f, .bool z] 26))
      have Ksn := Lib.hid (Ks3.out.alloc (.cells #[.int .i64 n, .string d, .slice a1 rs.length c1, .int .i64 f, .bool z] 26))
      clear B3 Ks3
      obtain ⟨⟨cs0, cs1, cs2, cs3, cs4⟩, ds0, ds1, ds2, ds3, ds4⟩ := Ksn.out.of5
      go_upto_region 5 with fail
      clear cs0 cs1 cs2 cs3 cs4 ds0 ds1 ds2 ds3 ds4
      generalize v3.alloc (.cells #[.int .i64 n, .string d, .slice a1 rs.length c1, .int .i64 f, .bool z] 26) = v4 at Kxn Bn Ksn Npn Nxn ⊢
      generalize v3.heap.size = g_x at Kxn l_x n_s_x m_p_x m_x_x ⊢
      clear v3
      have Ks4 := Ksn
      clear Ksn
      have Kx4 := Kxn
      clear Kxn
      have B4 := Bn
      clear Bn
      have Np4 := Npn
      clear Npn
      have Nx4 := Nxn
      clear Nxn
      refine wp_region_noPanic ?_
      refine wp_region_held_drew (S := fun w' => Blk w' g_x [.int .i64 n, .string d, .slice a1 rs.length c1, .int .i64 f, .bool z] ∧ Blk w' g_s [.int .i64 n, .string d, .slice a rs.length cap, .int .i64 f, .bool z]) (by kernel_rfl) ⟨Kx4.out, Ks4.out⟩ (fun hS => ?_)
      have B5 := Lib.hid (show Below w.heap.size w v4.drew from B4.out.drew)
      have Ks5 := Lib.hid (show Blk v4.drew g_s [.int .i64 n, .string d, .slice a rs.length cap, .int .i64 f, .bool z] from Ks4.out.drew)
      have Kx5 := Lib.hid (show Blk v4.drew g_x [.int .i64 n, .string d, .slice a1 rs.length c1, .int .i64 f, .bool z] from Kx4.out.drew)
      have Np5 := Lib.hid (own_below Np4.out (Below.refl _ v4).drew)
      have Nx5 := Lib.hid (own_below Nx4.out (Below.refl _ v4).drew)
      clear hS B4 Ks4 Kx4 Np4 Nx4
      generalize v4.drew = v5 at B5 Ks5 Kx5 Np5 Nx5 ⊢
      have hS : Blk v5 g_x [.int .i64 n, .string d, .slice a1 rs.length c1, .int .i64 f, .bool z] ∧ Blk v5 g_s [.int .i64 n, .string d, .slice a rs.length cap, .int .i64 f, .bool z] := ⟨Kx5.out, Ks5.out⟩
      refine wpAnyH_take (i := 0) (v := .agg #[.int .i64 n, .string d, .slice a1 rs.length c1, .int .i64 f, .bool z]) rfl (by kernel_rfl) (by kernel_rfl) (by kernel_rfl) (fun _ _ _ h => h) (Or.inl ⟨rfl, by intro w hS; obtain ⟨⟨hh0, hh1, hh2, hh3, hh4⟩, _⟩ := hS.1.of5; go_simp⟩) hS ?_
      change wpAnyH _ _ _ _ _ _ _ { tmps := #[_, _, _, _, _, _, _, _, _, _, _, _, _, _, _, _, _, _, _, _, _, _, _, _, _, _, _, _, _, _, _, _, _, _, _, _, _, _, _, _, _, _, _, _, _, _, _, _, _, _, _, _, _, _, _, _, _, _, _, _, _, _, _, _, _, _, _, _, _, _, _, _, _, _, _, _, _, _, _, _, _, _, _, _, _, _, _, _, _, _, _, _], defers := [] } _
      refine wpAnyH_take (i := 1) (v := .agg #[.int .i64 n, .string d, .slice a rs.length cap, .int .i64 f, .bool z]) rfl (by kernel_rfl) (by kernel_rfl) (by kernel_rfl) (fun _ _ _ h => h) (Or.inl ⟨rfl, by intro w hS; obtain ⟨⟨hh0, hh1, hh2, hh3, hh4⟩, _⟩ := hS.2.of5; go_simp⟩) hS ?_
      change wpAnyH _ _ _ _ _ _ _ { tmps := #[_, _, _, _, _, _, _, _, _, _, _, _, _, _, _, _, _, _, _, _, _, _, _, _, _, _, _, _, _, _, _, _, _, _, _, _, _, _, _, _, _, _, _, _, _, _, _, _, _, _, _, _, _, _, _, _, _, _, _, _, _, _, _, _, _, _, _, _, _, _, _, _, _, _, _, _, _, _, _, _, _, _, _, _, _, _, _, _, _, _, _, _], defers := [] } _
      refine wpAnyH_take (i := 2) (v := .int .i64 sq) rfl (by kernel_rfl) (by kernel_rfl) (by kernel_rfl) (fun _ _ _ h => h) (Or.inl ⟨rfl, by intro w hS; go_simp⟩) hS ?_
      change wpAnyH _ _ _ _ _ _ _ { tmps := #[_, _, _, _, _, _, _, _, _, _, _, _, _, _, _, _, _, _, _, _, _, _, _, _, _, _, _, _, _, _, _, _, _, _, _, _, _, _, _, _, _, _, _, _, _, _, _, _, _, _, _, _, _, _, _, _, _, _, _, _, _, _, _, _, _, _, _, _, _, _, _, _, _, _, _, _, _, _, _, _, _, _, _, _, _, _, _, _, _, _, _, _], defers := [] } _
      refine wpAnyH_take (i := 3) (v := .string x) rfl (by kernel_rfl) (by kernel_rfl) (by kernel_rfl) (fun _ _ _ h => h) (Or.inl ⟨rfl, by intro w hS; go_simp⟩) hS ?_
      change wpAnyH _ _ _ _ _ _ _ { tmps := #[_, _, _, _, _, _, _, _, _, _, _, _, _, _, _, _, _, _, _, _, _, _, _, _, _, _, _, _, _, _, _, _, _, _, _, _, _, _, _, _, _, _, _, _, _, _, _, _, _, _, _, _, _, _, _, _, _, _, _, _, _, _, _, _, _, _, _, _, _, _, _, _, _, _, _, _, _, _, _, _, _, _, _, _, _, _, _, _, _, _, _, _], defers := [] } _
      refine wpAnyH_take (i := 4) (v := .bool b) rfl (by kernel_rfl) (by kernel_rfl) (by kernel_rfl) (fun _ _ _ h => h) (Or.inl ⟨rfl, by intro w hS; go_simp⟩) hS ?_
      change wpAnyH _ _ _ _ _ _ _ { tmps := #[_, _, _, _, _, _, _, _, _, _, _, _, _, _, _, _, _, _, _, _, _, _, _, _, _, _, _, _, _, _, _, _, _, _, _, _, _, _, _, _, _, _, _, _, _, _, _, _, _, _, _, _, _, _, _, _, _, _, _, _, _, _, _, _, _, _, _, _, _, _, _, _, _, _, _, _, _, _, _, _, _, _, _, _, _, _, _, _, _, _, _, _], defers := [] } _
      refine wpAnyH_ready (rs := [5]) (by kernel_rfl) (by simp) ?_
      refine AllReadyH.cons (i := 5) rfl (fun K hK => ?zq1) AllReadyH.nil
      rw [if_pos (by first | rfl | kernel_rfl)]
      go_simp
      clear hS
      refine (AS.out _ (HasP.own Np5.out)).mono ?_
      rintro e v6 ⟨a2, c2, rfl, ho, hb⟩
      have Ny6 := Lib.hid ho
      clear ho
      have B6 := Lib.hid (B5.out.trans (hb.mono B5.out.size))
      have Ks6 := Lib.hid (Ks5.out.below hb)
      have Kx6 := Lib.hid (Kx5.out.below hb)
      have Np6 := Lib.hid (own_below Np5.out hb)
      have Nx6 := Lib.hid (own_below Nx5.out hb)
      clear hb B5 Ks5 Kx5 Np5 Nx5
      refine hK.out _ _ ⟨Kx6.out, Ks6.out⟩ (fun hS => ?_)
      clear hK K
      change wpAnyH _ _ _ _ _ _ _ { tmps := #[_, _, _, _, _, _, _, _, _, _, _, _, _, _, _, _, _, _, _, _, _, _, _, _, _, _, _, _, _, _, _, _, _, _, _, _, _, _, _, _, _, _, _, _, _, _, _, _, _, _, _, _, _, _, _, _, _, _, _, _, _, _, _, _, _, _, _, _, _, _, _, _, _, _, _, _, _, _, _, _, _, _, _, _, _, _, _, _, _, _, _, _], defers := [] } _
      refine wpAnyH_ready (rs := [6]) (by kernel_rfl) (by simp) ?_
      refine AllReadyH.cons (i := 6) rfl (fun K hK => ?zq2) AllReadyH.nil
      rw [if_pos (by first | rfl | kernel_rfl)]
      go_simp
      clear hS
      refine (SS.out a1 a2 c1 c2 _ (Row.ownV Nx6.out) (Row.ownV Ny6.out)).mono ?_
      rintro e v7 ⟨rfl, hb⟩
      have B7 := Lib.hid (B6.out.trans (hb.mono B6.out.size))
      have Ks7 := Lib.hid (Ks6.out.below hb)
      have Kx7 := Lib.hid (Kx6.out.below hb)
      have Np7 := Lib.hid (own_below Np6.out hb)
      have Nx7 := Lib.hid (own_below Nx6.out hb)
      have Ny7 := Lib.hid (own_below Ny6.out hb)
      clear hb B6 Ks6 Kx6 Np6 Nx6 Ny6
      refine hK.out _ _ ⟨Kx7.out, Ks7.out⟩ (fun hS => ?_)
      clear hK K
      change wpAnyH _ _ _ _ _ _ _ { tmps := #[_, _, _, _, _, _, _, _, _, _, _, _, _, _, _, _, _, _, _, _, _, _, _, _, _, _, _, _, _, _, _, _, _, _, _, _, _, _, _, _, _, _, _, _, _, _, _, _, _, _, _, _, _, _, _, _, _, _, _, _, _, _, _, _, _, _, _, _, _, _, _, _, _, _, _, _, _, _, _, _, _, _, _, _, _, _, _, _, _, _, _, _], defers := [] } _
      refine wpAnyH_take (i := 7) (v := .bool false) rfl (by kernel_rfl) (by kernel_rfl) (by kernel_rfl) (fun _ _ _ h => h) (Or.inl ⟨rfl, by intro w hS; go_simp⟩) hS ?_
      change wpAnyH _ _ _ _ _ _ _ { tmps := #[_, _, _, _, _, _, _, _, _, _, _, _, _, _, _, _, _, _, _, _, _, _, _, _, _, _, _, _, _, _, _, _, _, _, _, _, _, _, _, _, _, _, _, _, _, _, _, _, _, _, _, _, _, _, _, _, _, _, _, _, _, _, _, _, _, _, _, _, _, _, _, _, _, _, _, _, _, _, _, _, _, _, _, _, _, _, _, _, _, _, _, _], defers := [] } _
      refine wpAnyH_take (i := 8) (v := .bool false) rfl (by kernel_rfl) (by kernel_rfl) (by kernel_rfl) (fun _ _ _ h => h) (Or.inl ⟨rfl, by intro w hS; go_simp⟩) hS ?_
      change wpAnyH _ _ _ _ _ _ _ { tmps := #[_, _, _, _, _, _, _, _, _, _, _, _, _, _, _, _, _, _, _, _, _, _, _, _, _, _, _, _, _, _, _, _, _, _, _, _, _, _, _, _, _, _, _, _, _, _, _, _, _, _, _, _, _, _, _, _, _, _, _, _, _, _, _, _, _, _, _, _, _, _, _, _, _, _, _, _, _, _, _, _, _, _, _, _, _, _, _, _, _, _, _, _], defers := [] } _
      refine wpAnyH_take (i := 9) (v := .agg #[.int .i64 n, .string d, .slice a rs.length cap, .int .i64 f, .bool z]) rfl (by kernel_rfl) (by kernel_rfl) (by kernel_rfl) (fun _ _ _ h => h) (Or.inl ⟨rfl, by intro w hS; obtain ⟨⟨hh0, hh1, hh2, hh3, hh4⟩, _⟩ := hS.2.of5; go_simp⟩) hS ?_
      change wpAnyH _ _ _ _ _ _ _ { tmps := #[_, _, _, _, _, _, _, _, _, _, _, _, _, _, _, _, _, _, _, _, _, _, _, _, _, _, _, _, _, _, _, _, _, _, _, _, _, _, _, _, _, _, _, _, _, _, _, _, _, _, _, _, _, _, _, _, _, _, _, _, _, _, _, _, _, _, _, _, _, _, _, _, _, _, _, _, _, _, _, _, _, _, _, _, _, _, _, _, _, _, _, _], defers := [] } _
      refine wpAnyH_take (i := 11) (v := .agg #[.int .i64 n, .string d, .slice a rs.length cap, .int .i64 f, .bool z]) rfl (by kernel_rfl) (by kernel_rfl) (by kernel_rfl) (fun _ _ _ h => h) (Or.inl ⟨rfl, by intro w hS; obtain ⟨⟨hh0, hh1, hh2, hh3, hh4⟩, _⟩ := hS.2.of5; go_simp⟩) hS ?_
      change wpAnyH _ _ _ _ _ _ _ { tmps := #[_, _, _, _, _, _, _, _, _, _, _, _, _, _, _, _, _, _, _, _, _, _, _, _, _, _, _, _, _, _, _, _, _, _, _, _, _, _, _, _, _, _, _, _, _, _, _, _, _, _, _, _, _, _, _, _, _, _, _, _, _, _, _, _, _, _, _, _, _, _, _, _, _, _, _, _, _, _, _, _, _, _, _, _, _, _, _, _, _, _, _, _], defers := [] } _
      refine wpAnyH_ready (rs := [10]) (by kernel_rfl) (by simp) ?_
      refine AllReadyH.cons (i := 10) rfl (fun K hK => ?zq3) AllReadyH.nil
      rw [if_pos (by first | rfl | kernel_rfl)]
      go_simp
      clear hS
      refine (OKI.out _ (Row.ownV Np7.out)).mono ?_
      rintro e v8 ⟨rfl, hb⟩
      have B8 := Lib.hid (B7.out.trans (hb.mono B7.out.size))
      have Ks8 := Lib.hid (Ks7.out.below hb)
      have Kx8 := Lib.hid (Kx7.out.below hb)
      have Np8 := Lib.hid (own_below Np7.out hb)
      have Nx8 := Lib.hid (own_below Nx7.out hb)
      have Ny8 := Lib.hid (own_below Ny7.out hb)
      clear hb B7 Ks7 Kx7 Np7 Nx7 Ny7
      refine hK.out _ _ ⟨Kx8.out, Ks8.out⟩ (fun hS => ?_)
      clear hK K
      change wpAnyH _ _ _ _ _ _ _ { tmps := #[_, _, _, _, _, _, _, _, _, _, _, _, _, _, _, _, _, _, _, _, _, _, _, _, _, _, _, _, _, _, _, _, _, _, _, _, _, _, _, _, _, _, _, _, _, _, _, _, _, _, _, _, _, _, _, _, _, _, _, _, _, _, _, _, _, _, _, _, _, _, _, _, _, _, _, _, _, _, _, _, _, _, _, _, _, _, _, _, _, _, _, _], defers := [] } _
      refine wpAnyH_ready (rs := [12]) (by kernel_rfl) (by simp) ?_
      refine AllReadyH.cons (i := 12) rfl (fun K hK => ?zq4) AllReadyH.nil
      rw [if_pos (by first | rfl | kernel_rfl)]
      go_simp
      clear hS
      refine (OKS.out _ (Row.ownV Np8.out)).mono ?_
      rintro e v9 ⟨rfl, hb⟩
      have B9 := Lib.hid (B8.out.trans (hb.mono B8.out.size))
      have Ks9 := Lib.hid (Ks8.out.below hb)
      have Kx9 := Lib.hid (Kx8.out.below hb)
      have Np9 := Lib.hid (own_below Np8.out hb)
      have Nx9 := Lib.hid (own_below Nx8.out hb)
      have Ny9 := Lib.hid (own_below Ny8.out hb)
      clear hb B8 Ks8 Kx8 Np8 Nx8 Ny8
      refine hK.out _ _ ⟨Kx9.out, Ks9.out⟩ (fun hS => ?_)
      clear hK K
      change wpAnyH _ _ _ _ _ _ _ { tmps := #[_, _, _, _, _, _, _, _, _, _, _, _, _, _, _, _, _, _, _, _, _, _, _, _, _, _, _, _, _, _, _, _, _, _, _, _, _, _, _, _, _, _, _, _, _, _, _, _, _, _, _, _, _, _, _, _, _, _, _, _, _, _, _, _, _, _, _, _, _, _, _, _, _, _, _, _, _, _, _, _, _, _, _, _, _, _, _, _, _, _, _, _], defers := [] } _
      refine wpAnyH_take (i := 13) (v := .bool false) rfl (by kernel_rfl) (by kernel_rfl) (by kernel_rfl) (fun _ _ _ h => h) (Or.inl ⟨rfl, by intro w hS; go_simp⟩) hS ?_
      change wpAnyH _ _ _ _ _ _ _ { tmps := #[_, _, _, _, _, _, _, _, _, _, _, _, _, _, _, _, _, _, _, _, _, _, _, _, _, _, _, _, _, _, _, _, _, _, _, _, _, _, _, _, _, _, _, _, _, _, _, _, _, _, _, _, _, _, _, _, _, _, _, _, _, _, _, _, _, _, _, _, _, _, _, _, _, _, _, _, _, _, _, _, _, _, _, _, _, _, _, _, _, _, _, _], defers := [] } _
      refine wpAnyH_take (i := 14) (v := .bool false) rfl (by kernel_rfl) (by kernel_rfl) (by kernel_rfl) (fun _ _ _ h => h) (Or.inl ⟨rfl, by intro w hS; go_simp⟩) hS ?_
      change wpAnyH _ _ _ _ _ _ _ { tmps := #[_, _, _, _, _, _, _, _, _, _, _, _, _, _, _, _, _, _, _, _, _, _, _, _, _, _, _, _, _, _, _, _, _, _, _, _, _, _, _, _, _, _, _, _, _, _, _, _, _, _, _, _, _, _, _, _, _, _, _, _, _, _, _, _, _, _, _, _, _, _, _, _, _, _, _, _, _, _, _, _, _, _, _, _, _, _, _, _, _, _, _, _], defers := [] } _
      refine wpAnyH_done (by kernel_rfl) ?_ _
      refine NoPanic.normal ?_
      obtain ⟨⟨cs0, cs1, cs2, cs3, cs4⟩, ds0, ds1, ds2, ds3, ds4⟩ := Ks9.out.of5
      obtain ⟨⟨cx0, cx1, cx2, cx3, cx4⟩, dx0, dx1, dx2, dx3, dx4⟩ := Kx9.out.of5
      go_wp2_with fail
      clear cs0 cs1 cs2 cs3 cs4 ds0 ds1 ds2 ds3 ds4 cx0 cx1 cx2 cx3 cx4 dx0 dx1 dx2 dx3 dx4
      refine (OKS.out _ (Row.ownV Np9.out)).mono ?_
      rintro e v10 ⟨rfl, hb⟩
      have B10 := Lib.hid (B9.out.trans (hb.mono B9.out.size))
      have Ks10 := Lib.hid (Ks9.out.below hb)
      have Kx10 := Lib.hid (Kx9.out.below hb)
      have Np10 := Lib.hid (own_below Np9.out hb)
      have Nx10 := Lib.hid (own_below Nx9.out hb)
      clear hb B9 Ks9 Kx9 Np9 Nx9
      obtain ⟨⟨cs0, cs1, cs2, cs3, cs4⟩, ds0, ds1, ds2, ds3, ds4⟩ := Ks10.out.of5
      obtain ⟨⟨cx0, cx1, cx2, cx3, cx4⟩, dx0, dx1, dx2, dx3, dx4⟩ := Kx10.out.of5
      go_wp2_with fail
      clear cs0 cs1 cs2 cs3 cs4 ds0 ds1 ds2 ds3 ds4 cx0 cx1 cx2 cx3 cx4 dx0 dx1 dx2 dx3 dx4
      refine (SS.out a1 a c1 cap _ (Row.ownV Nx10.out) (Row.ownV Np10.out)).mono ?_
      rintro e v11 ⟨rfl, hb⟩
      have B11 := Lib.hid (B10.out.trans (hb.mono B10.out.size))
      have Ks11 := Lib.hid (Ks10.out.below hb)
      have Kx11 := Lib.hid (Kx10.out.below hb)
      have Np11 := Lib.hid (own_below Np10.out hb)
      have Nx11 := Lib.hid (own_below Nx10.out hb)
      clear hb B10 Ks10 Kx10 Np10 Nx10
      obtain ⟨⟨cs0, cs1, cs2, cs3, cs4⟩, ds0, ds1, ds2, ds3, ds4⟩ := Ks11.out.of5
      obtain ⟨⟨cx0, cx1, cx2, cx3, cx4⟩, dx0, dx1, dx2, dx3, dx4⟩ := Kx11.out.of5
      go_wp2_with fail
      go_ret
      exact ⟨rfl, B11.out⟩
    | true =>
      obtain ⟨⟨n2, d2, rs2, f2, z2⟩, hX⟩ : ∃ o : Rcv, arrived ⟨n, d, rs, f, z⟩ sq x b = o := ⟨_, rfl⟩
      have F := arr_facts (rcvOk_iff.1 hok) sq x b
      rw [hX] at F
      simp only [hX] at AI AS
      simp only [hok] at OKS OKI
      obtain ⟨ok2, hle, hpre, hnext, hroom⟩ := F
      have hr2 := rb_ok ok2
      have ok3 := rcvOk_yes ok2
      have hdd := (rb_ok (rcvOk_iff.1 hok)).2.1
      simp only at hle hpre hnext hroom hr2 hdd
      have hd2 := hr2.2.1
      have hl2 := Lib.hid (show rs2.length ≤ 1048577 by have := hr2.2.2.1; omega)
      have HB2 := Lib.hid hr2.1
      have SS := fun a1 a2 c1 c2 w ha hb => sameRcvS n2 n2 f2 f2 d2 d2 z2 z2 a1 a2 c1 c2 rs2 rs2 w ha hb hl2.out
      simp only [sameR_self] at SS
      have OK2 := fun a c w h => rcvOkI n2 f2 z2 d2 a c rs2 HB2.out w h
      simp only [ok3] at OK2
      have W1 := fun w => windowI n f z d a cap rs HB.out.1 w
      have W2 := fun a c w => windowI n2 f2 z2 d2 a c rs2 HB2.out.1 w
      obtain ⟨c, hc⟩ : ∃ c : Nat, d2.size = d.size + c := ⟨d2.size - d.size, by omega⟩
      rw [show (d2.size : Int) - d.size = (c : Int) by omega] at hnext
      have hwn : IntKind.i64.wrap ((d2.size : Int) - d.size) = (c : Int) := by rw [IntWalk.i64_in _ (by omega)]; omega
      have hc32 : c ≤ 32 := by omega
      generalize win d z = u1 at W1 hroom
      generalize win d2 z2 = u2 at W2 hroom
      clear hX hok ok2 ok3 hr2
      replace AI := Lib.hid AI
      replace AS := Lib.hid AS
      replace OKS := Lib.hid OKS
      replace OKI := Lib.hid OKI
      replace SS := Lib.hid SS
      replace OK2 := Lib.hid OK2
      replace W1 := Lib.hid W1
      replace W2 := Lib.hid W2
      replace hpre := Lib.hid hpre
      replace hnext := Lib.hid hnext
      replace hroom := Lib.hid hroom
      replace hle := Lib.hid hle
      replace hc := Lib.hid hc
      have m_p_s : (.slice a rs.length cap : Value).ownBlock ≠ some v1.heap.size := fun e => by have h1 := (Np1.out.lt _ e).2; omega
      have Npn := Lib.hid (own_below Np1.out ((Below.refl _ v1).alloc (Nat.le_refl _) (.cells #[.int .i64 n, .string d, .slice a rs.length cap, .int .i64 f, .bool z] 26)))
      clear Np1
      have Ksn := Lib.hid (Blk.new v1 [.int .i64 n, .string d, .slice a rs.length cap, .int .i64 f, .bool z] 26)
      have l_s : w.heap.size ≤ v1.heap.size := B1.out.size
      have Bn := Lib.hid (B1.out.alloc B1.out.size (.cells #[.int .i64 n, .string d, .slice a rs.length cap, .int .i64 f, .bool z] 26))
      clear B1
      go_wp2_with fail
      change Calls _ _ _ (v1.alloc (.cells #[.int .i64 n, .string d, .slice a rs.length cap, .int .i64 f, .bool z] 26)) _
      generalize v1.alloc (.cells #[.int .i64 n, .string d, .slice a rs.length cap, .int .i64 f, .bool z] 26) = v2 at Ksn Bn Npn ⊢
      generalize v1.heap.size = g_s at Ksn l_s m_p_s ⊢
      clear v1
      have Ks2 := Ksn
      clear Ksn
      have B2 := Bn
      clear Bn
      have Np2 := Npn
      clear Npn
      refine (AI.out _ (HasP.own Np2.out)).mono ?_
      rintro e v3 ⟨a1, c1, rfl, ho, hb⟩
      have Nx3 := Lib.hid ho
      clear ho
      have B3 := Lib.hid (B2.out.trans (hb.mono B2.out.size))
      have Ks3 := Lib.hid (Ks2.out.below hb)
      have Np3 := Lib.hid (own_below Np2.out hb)
      clear hb B2 Ks2 Np2
      have m_p_x : (.slice a rs.length cap : Value).ownBlock ≠ some v3.heap.size := fun e => by have h1 := (Np3.out.lt _ e).2; omega
      have Npn := Lib.hid (own_below Np3.out ((Below.refl _ v3).alloc (Nat.le_refl _) (.cells #[.int .i64 n2, .string d2, .slice a1 rs2.length c1, .int .i64 f2, .bool z2] 26)))
      clear Np3
      have m_x_x : (.slice a1 rs2.length c1 : Value).ownBlock ≠ some v3.heap.size := fun e => by have h1 := (Nx3.out.lt _ e).2; omega
      have Nxn := Lib.hid (own_below Nx3.out ((Below.refl _ v3).alloc (Nat.le_refl _) (.cells #[.int .i64 n2, .string d2, .slice a1 rs2.length c1, .int .i64 f2, .bool z2] 26)))
      clear Nx3
      have Kxn := Lib.hid (Blk.new v3 [.int .i64 n2, .string d2, .slice a1 rs2.length c1, .int .i64 f2, .bool z2] 26)
      have l_x : w.heap.size ≤ v3.heap.size := B3.out.size
      have n_s_x : g_s ≠ v3.heap.size := by have h1 := Ks3.out.lt; omega
      have Bn := Lib.hid (B3.out.alloc B3.out.size (.cells #[.int .i64 n2, .string d2, .slice a1 rs2.length c1, .int .i64 f2, .bool z2] 26))
      have Ksn := Lib.hid (Ks3.out.alloc (.cells #[.int .i64 n2, .string d2, .slice a1 rs2.length c1, .int .i64 f2, .bool z2] 26))
      clear B3 Ks3
      obtain ⟨⟨cs0, cs1, cs2, cs3, cs4⟩, ds0, ds1, ds2, ds3, ds4⟩ := Ksn.out.of5
      go_upto_region 5 with fail
      clear cs0 cs1 cs2 cs3 cs4 ds0 ds1 ds2 ds3 ds4
      generalize v3.alloc (.cells #[.int .i64 n2, .string d2, .slice a1 rs2.length c1, .int .i64 f2, .bool z2] 26) = v4 at Kxn Bn Ksn Npn Nxn ⊢
      generalize v3.heap.size = g_x at Kxn l_x n_s_x m_p_x m_x_x ⊢
      clear v3
      have Ks4 := Ksn
      clear Ksn
      have Kx4 := Kxn
      clear Kxn
      have B4 := Bn
      clear Bn
      have Np4 := Npn
      clear Npn
      have Nx4 := Nxn
      clear Nxn
      refine wp_region_noPanic ?_
      refine wp_region_held_drew (S := fun w' => Blk w' g_x [.int .i64 n2, .string d2, .slice a1 rs2.length c1, .int .i64 f2, .bool z2] ∧ Blk w' g_s [.int .i64 n, .string d, .slice a rs.length cap, .int .i64 f, .bool z]) (by kernel_rfl) ⟨Kx4.out, Ks4.out⟩ (fun hS => ?_)
      have B5 := Lib.hid (show Below w.heap.size w v4.drew from B4.out.drew)
      have Ks5 := Lib.hid (show Blk v4.drew g_s [.int .i64 n, .string d, .slice a rs.length cap, .int .i64 f, .bool z] from Ks4.out.drew)
      have Kx5 := Lib.hid (show Blk v4.drew g_x [.int .i64 n2, .string d2, .slice a1 rs2.length c1, .int .i64 f2, .bool z2] from Kx4.out.drew)
      have Np5 := Lib.hid (own_below Np4.out (Below.refl _ v4).drew)
      have Nx5 := Lib.hid (own_below Nx4.out (Below.refl _ v4).drew)
      clear hS B4 Ks4 Kx4 Np4 Nx4
      generalize v4.drew = v5 at B5 Ks5 Kx5 Np5 Nx5 ⊢
      have hS : Blk v5 g_x [.int .i64 n2, .string d2, .slice a1 rs2.length c1, .int .i64 f2, .bool z2] ∧ Blk v5 g_s [.int .i64 n, .string d, .slice a rs.length cap, .int .i64 f, .bool z] := ⟨Kx5.out, Ks5.out⟩
      refine wpAnyH_take (i := 0) (v := .agg #[.int .i64 n2, .string d2, .slice a1 rs2.length c1, .int .i64 f2, .bool z2]) rfl (by kernel_rfl) (by kernel_rfl) (by kernel_rfl) (fun _ _ _ h => h) (Or.inl ⟨rfl, by intro w hS; obtain ⟨⟨hh0, hh1, hh2, hh3, hh4⟩, _⟩ := hS.1.of5; go_simp⟩) hS ?_
      change wpAnyH _ _ _ _ _ _ _ { tmps := #[_, _, _, _, _, _, _, _, _, _, _, _, _, _, _, _, _, _, _, _, _, _, _, _, _, _, _, _, _, _, _, _, _, _, _, _, _, _, _, _, _, _, _, _, _, _, _, _, _, _, _, _, _, _, _, _, _, _, _, _, _, _, _, _, _, _, _, _, _, _, _, _, _, _, _, _, _, _, _, _, _, _, _, _, _, _, _, _, _, _, _, _], defers := [] } _
      refine wpAnyH_take (i := 1) (v := .agg #[.int .i64 n, .string d, .slice a rs.length cap, .int .i64 f, .bool z]) rfl (by kernel_rfl) (by kernel_rfl) (by kernel_rfl) (fun _ _ _ h => h) (Or.inl ⟨rfl, by intro w hS; obtain ⟨⟨hh0, hh1, hh2, hh3, hh4⟩, _⟩ := hS.2.of5; go_simp⟩) hS ?_
      change wpAnyH _ _ _ _ _ _ _ { tmps := #[_, _, _, _, _, _, _, _, _, _, _, _, _, _, _, _, _, _, _, _, _, _, _, _, _, _, _, _, _, _, _, _, _, _, _, _, _, _, _, _, _, _, _, _, _, _, _, _, _, _, _, _, _, _, _, _, _, _, _, _, _, _, _, _, _, _, _, _, _, _, _, _, _, _, _, _, _, _, _, _, _, _, _, _, _, _, _, _, _, _, _, _], defers := [] } _
      refine wpAnyH_take (i := 2) (v := .int .i64 sq) rfl (by kernel_rfl) (by kernel_rfl) (by kernel_rfl) (fun _ _ _ h => h) (Or.inl ⟨rfl, by intro w hS; go_simp⟩) hS ?_
      change wpAnyH _ _ _ _ _ _ _ { tmps := #[_, _, _, _, _, _, _, _, _, _, _, _, _, _, _, _, _, _, _, _, _, _, _, _, _, _, _, _, _, _, _, _, _, _, _, _, _, _, _, _, _, _, _, _, _, _, _, _, _, _, _, _, _, _, _, _, _, _, _, _, _, _, _, _, _, _, _, _, _, _, _, _, _, _, _, _, _, _, _, _, _, _, _, _, _, _, _, _, _, _, _, _], defers := [] } _
      refine wpAnyH_take (i := 3) (v := .string x) rfl (by kernel_rfl) (by kernel_rfl) (by kernel_rfl) (fun _ _ _ h => h) (Or.inl ⟨rfl, by intro w hS; go_simp⟩) hS ?_
      change wpAnyH _ _ _ _ _ _ _ { tmps := #[_, _, _, _, _, _, _, _, _, _, _, _, _, _, _, _, _, _, _, _, _, _, _, _, _, _, _, _, _, _, _, _, _, _, _, _, _, _, _, _, _, _, _, _, _, _, _, _, _, _, _, _, _, _, _, _, _, _, _, _, _, _, _, _, _, _, _, _, _, _, _, _, _, _, _, _, _, _, _, _, _, _, _, _, _, _, _, _, _, _, _, _], defers := [] } _
      refine wpAnyH_take (i := 4) (v := .bool b) rfl (by kernel_rfl) (by kernel_rfl) (by kernel_rfl) (fun _ _ _ h => h) (Or.inl ⟨rfl, by intro w hS; go_simp⟩) hS ?_
      change wpAnyH _ _ _ _ _ _ _ { tmps := #[_, _, _, _, _, _, _, _, _, _, _, _, _, _, _, _, _, _, _, _, _, _, _, _, _, _, _, _, _, _, _, _, _, _, _, _, _, _, _, _, _, _, _, _, _, _, _, _, _, _, _, _, _, _, _, _, _, _, _, _, _, _, _, _, _, _, _, _, _, _, _, _, _, _, _, _, _, _, _, _, _, _, _, _, _, _, _, _, _, _, _, _], defers := [] } _
      refine wpAnyH_ready (rs := [5]) (by kernel_rfl) (by simp) ?_
      refine AllReadyH.cons (i := 5) rfl (fun K hK => ?zq5) AllReadyH.nil
      rw [if_pos (by first | rfl | kernel_rfl)]
      go_simp
      clear hS
      refine (AS.out _ (HasP.own Np5.out)).mono ?_
      rintro e v6 ⟨a2, c2, rfl, ho, hb⟩
      have Ny6 := Lib.hid ho
      clear ho
      have B6 := Lib.hid (B5.out.trans (hb.mono B5.out.size))
      have Ks6 := Lib.hid (Ks5.out.below hb)
      have Kx6 := Lib.hid (Kx5.out.below hb)
      have Np6 := Lib.hid (own_below Np5.out hb)
      have Nx6 := Lib.hid (own_below Nx5.out hb)
      clear hb B5 Ks5 Kx5 Np5 Nx5
      refine hK.out _ _ ⟨Kx6.out, Ks6.out⟩ (fun hS => ?_)
      clear hK K
      change wpAnyH _ _ _ _ _ _ _ { tmps := #[_, _, _, _, _, _, _, _, _, _, _, _, _, _, _, _, _, _, _, _, _, _, _, _, _, _, _, _, _, _, _, _, _, _, _, _, _, _, _, _, _, _, _, _, _, _, _, _, _, _, _, _, _, _, _, _, _, _, _, _, _, _, _, _, _, _, _, _, _, _, _, _, _, _, _, _, _, _, _, _, _, _, _, _, _, _, _, _, _, _, _, _], defers := [] } _
      refine wpAnyH_ready (rs := [6]) (by kernel_rfl) (by simp) ?_
      refine AllReadyH.cons (i := 6) rfl (fun K hK => ?zq6) AllReadyH.nil
      rw [if_pos (by first | rfl | kernel_rfl)]
      go_simp
      clear hS
      refine (SS.out a1 a2 c1 c2 _ (Row.ownV Nx6.out) (Row.ownV Ny6.out)).mono ?_
      rintro e v7 ⟨rfl, hb⟩
      have B7 := Lib.hid (B6.out.trans (hb.mono B6.out.size))
      have Ks7 := Lib.hid (Ks6.out.below hb)
      have Kx7 := Lib.hid (Kx6.out.below hb)
      have Np7 := Lib.hid (own_below Np6.out hb)
      have Nx7 := Lib.hid (own_below Nx6.out hb)
      have Ny7 := Lib.hid (own_below Ny6.out hb)
      clear hb B6 Ks6 Kx6 Np6 Nx6 Ny6
      refine hK.out _ _ ⟨Kx7.out, Ks7.out⟩ (fun hS => ?_)
      clear hK K
      change wpAnyH _ _ _ _ _ _ _ { tmps := #[_, _, _, _, _, _, _, _, _, _, _, _, _, _, _, _, _, _, _, _, _, _, _, _, _, _, _, _, _, _, _, _, _, _, _, _, _, _, _, _, _, _, _, _, _, _, _, _, _, _, _, _, _, _, _, _, _, _, _, _, _, _, _, _, _, _, _, _, _, _, _, _, _, _, _, _, _, _, _, _, _, _, _, _, _, _, _, _, _, _, _, _], defers := [] } _
      refine wpAnyH_take (i := 7) (v := .bool false) rfl (by kernel_rfl) (by kernel_rfl) (by kernel_rfl) (fun _ _ _ h => h) (Or.inl ⟨rfl, by intro w hS; go_simp⟩) hS ?_
      change wpAnyH _ _ _ _ _ _ _ { tmps := #[_, _, _, _, _, _, _, _, _, _, _, _, _, _, _, _, _, _, _, _, _, _, _, _, _, _, _, _, _, _, _, _, _, _, _, _, _, _, _, _, _, _, _, _, _, _, _, _, _, _, _, _, _, _, _, _, _, _, _, _, _, _, _, _, _, _, _, _, _, _, _, _, _, _, _, _, _, _, _, _, _, _, _, _, _, _, _, _, _, _, _, _], defers := [] } _
      refine wpAnyH_take (i := 8) (v := .bool false) rfl (by kernel_rfl) (by kernel_rfl) (by kernel_rfl) (fun _ _ _ h => h) (Or.inl ⟨rfl, by intro w hS; go_simp⟩) hS ?_
      change wpAnyH _ _ _ _ _ _ _ { tmps := #[_, _, _, _, _, _, _, _, _, _, _, _, _, _, _, _, _, _, _, _, _, _, _, _, _, _, _, _, _, _, _, _, _, _, _, _, _, _, _, _, _, _, _, _, _, _, _, _, _, _, _, _, _, _, _, _, _, _, _, _, _, _, _, _, _, _, _, _, _, _, _, _, _, _, _, _, _, _, _, _, _, _, _, _, _, _, _, _, _, _, _, _], defers := [] } _
      refine wpAnyH_take (i := 9) (v := .agg #[.int .i64 n, .string d, .slice a rs.length cap, .int .i64 f, .bool z]) rfl (by kernel_rfl) (by kernel_rfl) (by kernel_rfl) (fun _ _ _ h => h) (Or.inl ⟨rfl, by intro w hS; obtain ⟨⟨hh0, hh1, hh2, hh3, hh4⟩, _⟩ := hS.2.of5; go_simp⟩) hS ?_
      change wpAnyH _ _ _ _ _ _ _ { tmps := #[_, _, _, _, _, _, _, _, _, _, _, _, _, _, _, _, _, _, _, _, _, _, _, _, _, _, _, _, _, _, _, _, _, _, _, _, _, _, _, _, _, _, _, _, _, _, _, _, _, _, _, _, _, _, _, _, _, _, _, _, _, _, _, _, _, _, _, _, _, _, _, _, _, _, _, _, _, _, _, _, _, _, _, _, _, _, _, _, _, _, _, _], defers := [] } _
      refine wpAnyH_take (i := 11) (v := .agg #[.int .i64 n, .string d, .slice a rs.length cap, .int .i64 f, .bool z]) rfl (by kernel_rfl) (by kernel_rfl) (by kernel_rfl) (fun _ _ _ h => h) (Or.inl ⟨rfl, by intro w hS; obtain ⟨⟨hh0, hh1, hh2, hh3, hh4⟩, _⟩ := hS.2.of5; go_simp⟩) hS ?_
      change wpAnyH _ _ _ _ _ _ _ { tmps := #[_, _, _, _, _, _, _, _, _, _, _, _, _, _, _, _, _, _, _, _, _, _, _, _, _, _, _, _, _, _, _, _, _, _, _, _, _, _, _, _, _, _, _, _, _, _, _, _, _, _, _, _, _, _, _, _, _, _, _, _, _, _, _, _, _, _, _, _, _, _, _, _, _, _, _, _, _, _, _, _, _, _, _, _, _, _, _, _, _, _, _, _], defers := [] } _
      refine wpAnyH_ready (rs := [10]) (by kernel_rfl) (by simp) ?_
      refine AllReadyH.cons (i := 10) rfl (fun K hK => ?zq7) AllReadyH.nil
      rw [if_pos (by first | rfl | kernel_rfl)]
      go_simp
      clear hS
      refine (OKI.out _ (Row.ownV Np7.out)).mono ?_
      rintro e v8 ⟨rfl, hb⟩
      have B8 := Lib.hid (B7.out.trans (hb.mono B7.out.size))
      have Ks8 := Lib.hid (Ks7.out.below hb)
      have Kx8 := Lib.hid (Kx7.out.below hb)
      have Np8 := Lib.hid (own_below Np7.out hb)
      have Nx8 := Lib.hid (own_below Nx7.out hb)
      have Ny8 := Lib.hid (own_below Ny7.out hb)
      clear hb B7 Ks7 Kx7 Np7 Nx7 Ny7
      refine hK.out _ _ ⟨Kx8.out, Ks8.out⟩ (fun hS => ?_)
      clear hK K
      change wpAnyH _ _ _ _ _ _ _ { tmps := #[_, _, _, _, _, _, _, _, _, _, _, _, _, _, _, _, _, _, _, _, _, _, _, _, _, _, _, _, _, _, _, _, _, _, _, _, _, _, _, _, _, _, _, _, _, _, _, _, _, _, _, _, _, _, _, _, _, _, _, _, _, _, _, _, _, _, _, _, _, _, _, _, _, _, _, _, _, _, _, _, _, _, _, _, _, _, _, _, _, _, _, _], defers := [] } _
      refine wpAnyH_ready (rs := [12]) (by kernel_rfl) (by simp) ?_
      refine AllReadyH.cons (i := 12) rfl (fun K hK => ?zq8) AllReadyH.nil
      rw [if_pos (by first | rfl | kernel_rfl)]
      go_simp
      clear hS
      refine (OKS.out _ (Row.ownV Np8.out)).mono ?_
      rintro e v9 ⟨rfl, hb⟩
      have B9 := Lib.hid (B8.out.trans (hb.mono B8.out.size))
      have Ks9 := Lib.hid (Ks8.out.below hb)
      have Kx9 := Lib.hid (Kx8.out.below hb)
      have Np9 := Lib.hid (own_below Np8.out hb)
      have Nx9 := Lib.hid (own_below Nx8.out hb)
      have Ny9 := Lib.hid (own_below Ny8.out hb)
      clear hb B8 Ks8 Kx8 Np8 Nx8 Ny8
      refine hK.out _ _ ⟨Kx9.out, Ks9.out⟩ (fun hS => ?_)
      clear hK K
      change wpAnyH _ _ _ _ _ _ _ { tmps := #[_, _, _, _, _, _, _, _, _, _, _, _, _, _, _, _, _, _, _, _, _, _, _, _, _, _, _, _, _, _, _, _, _, _, _, _, _, _, _, _, _, _, _, _, _, _, _, _, _, _, _, _, _, _, _, _, _, _, _, _, _, _, _, _, _, _, _, _, _, _, _, _, _, _, _, _, _, _, _, _, _, _, _, _, _, _, _, _, _, _, _, _], defers := [] } _
      refine wpAnyH_take (i := 13) (v := .bool false) rfl (by kernel_rfl) (by kernel_rfl) (by kernel_rfl) (fun _ _ _ h => h) (Or.inl ⟨rfl, by intro w hS; go_simp⟩) hS ?_
      change wpAnyH _ _ _ _ _ _ _ { tmps := #[_, _, _, _, _, _, _, _, _, _, _, _, _, _, _, _, _, _, _, _, _, _, _, _, _, _, _, _, _, _, _, _, _, _, _, _, _, _, _, _, _, _, _, _, _, _, _, _, _, _, _, _, _, _, _, _, _, _, _, _, _, _, _, _, _, _, _, _, _, _, _, _, _, _, _, _, _, _, _, _, _, _, _, _, _, _, _, _, _, _, _, _], defers := [] } _
      refine wpAnyH_take (i := 14) (v := .bool false) rfl (by kernel_rfl) (by kernel_rfl) (by kernel_rfl) (fun _ _ _ h => h) (Or.inl ⟨rfl, by intro w hS; go_simp⟩) hS ?_
      change wpAnyH _ _ _ _ _ _ _ { tmps := #[_, _, _, _, _, _, _, _, _, _, _, _, _, _, _, _, _, _, _, _, _, _, _, _, _, _, _, _, _, _, _, _, _, _, _, _, _, _, _, _, _, _, _, _, _, _, _, _, _, _, _, _, _, _, _, _, _, _, _, _, _, _, _, _, _, _, _, _, _, _, _, _, _, _, _, _, _, _, _, _, _, _, _, _, _, _, _, _, _, _, _, _], defers := [] } _
      refine wpAnyH_done (by kernel_rfl) ?_ _
      refine NoPanic.normal ?_
      obtain ⟨⟨cs0, cs1, cs2, cs3, cs4⟩, ds0, ds1, ds2, ds3, ds4⟩ := Ks9.out.of5
      obtain ⟨⟨cx0, cx1, cx2, cx3, cx4⟩, dx0, dx1, dx2, dx3, dx4⟩ := Kx9.out.of5
      go_wp2_with fail
      clear cs0 cs1 cs2 cs3 cs4 ds0 ds1 ds2 ds3 ds4 cx0 cx1 cx2 cx3 cx4 dx0 dx1 dx2 dx3 dx4
      refine (OKS.out _ (Row.ownV Np9.out)).mono ?_
      rintro e v10 ⟨rfl, hb⟩
      have B10 := Lib.hid (B9.out.trans (hb.mono B9.out.size))
      have Ks10 := Lib.hid (Ks9.out.below hb)
      have Kx10 := Lib.hid (Kx9.out.below hb)
      have Np10 := Lib.hid (own_below Np9.out hb)
      have Nx10 := Lib.hid (own_below Nx9.out hb)
      clear hb B9 Ks9 Kx9 Np9 Nx9
      obtain ⟨⟨cs0, cs1, cs2, cs3, cs4⟩, ds0, ds1, ds2, ds3, ds4⟩ := Ks10.out.of5
      obtain ⟨⟨cx0, cx1, cx2, cx3, cx4⟩, dx0, dx1, dx2, dx3, dx4⟩ := Kx10.out.of5
      go_upto_region 10 with fail
      clear cs0 cs1 cs2 cs3 cs4 ds0 ds1 ds2 ds3 ds4 cx0 cx1 cx2 cx3 cx4 dx0 dx1 dx2 dx3 dx4
      clear hwn
      refine wp_region_noPanic ?_
      refine wp_region_held_drew (S := fun w' => Blk w' g_x [.int .i64 n2, .string d2, .slice a1 rs2.length c1, .int .i64 f2, .bool z2] ∧ Blk w' g_s [.int .i64 n, .string d, .slice a rs.length cap, .int .i64 f, .bool z]) (by kernel_rfl) ⟨Kx10.out, Ks10.out⟩ (fun hS => ?_)
      have B11 := Lib.hid (show Below w.heap.size w v10.drew from B10.out.drew)
      have Ks11 := Lib.hid (show Blk v10.drew g_s [.int .i64 n, .string d, .slice a rs.length cap, .int .i64 f, .bool z] from Ks10.out.drew)
      have Kx11 := Lib.hid (show Blk v10.drew g_x [.int .i64 n2, .string d2, .slice a1 rs2.length c1, .int .i64 f2, .bool z2] from Kx10.out.drew)
      have Np11 := Lib.hid (own_below Np10.out (Below.refl _ v10).drew)
      have Nx11 := Lib.hid (own_below Nx10.out (Below.refl _ v10).drew)
      clear hS B10 Ks10 Kx10 Np10 Nx10
      generalize v10.drew = v11 at B11 Ks11 Kx11 Np11 Nx11 ⊢
      have hS : Blk v11 g_x [.int .i64 n2, .string d2, .slice a1 rs2.length c1, .int .i64 f2, .bool z2] ∧ Blk v11 g_s [.int .i64 n, .string d, .slice a rs.length cap, .int .i64 f, .bool z] := ⟨Kx11.out, Ks11.out⟩
      refine wpAnyH_take (i := 0) (v := .int .i64 (c : Int)) rfl (by kernel_rfl) (by kernel_rfl) (by kernel_rfl) (fun _ _ _ h => h) (Or.inl ⟨rfl, by intro w hS; go_simp⟩) hS ?_
      change wpAnyH _ _ _ _ _ _ _ { tmps := #[_, _, _, _, _, _, _, _, _, _, _, _, _, _, _, _, _, _, _, _, _, _, _, _, _, _, _, _, _, _, _, _, _, _, _, _, _, _, _, _, _, _, _, _, _, _, _, _, _, _, _, _, _, _, _, _, _, _, _, _, _, _, _, _, _, _, _, _, _, _, _, _, _, _, _, _, _, _, _, _, _, _, _, _, _, _, _, _, _, _, _, _], defers := [] } _
      refine wpAnyH_take (i := 1) (v := .bool false) rfl (by kernel_rfl) (by kernel_rfl) (by kernel_rfl) (fun _ _ _ h => h) (Or.inl ⟨rfl, by intro w hS; first | (go_simp; done) | (go_simp; omega)⟩) hS ?_
      change wpAnyH _ _ _ _ _ _ _ { tmps := #[_, _, _, _, _, _, _, _, _, _, _, _, _, _, _, _, _, _, _, _, _, _, _, _, _, _, _, _, _, _, _, _, _, _, _, _, _, _, _, _, _, _, _, _, _, _, _, _, _, _, _, _, _, _, _, _, _, _, _, _, _, _, _, _, _, _, _, _, _, _, _, _, _, _, _, _, _, _, _, _, _, _, _, _, _, _, _, _, _, _, _, _], defers := [] } _
      refine wpAnyH_take (i := 2) (v := .bool false) rfl (by kernel_rfl) (by kernel_rfl) (by kernel_rfl) (fun _ _ _ h => h) (Or.inl ⟨rfl, by intro w hS; go_simp⟩) hS ?_
      change wpAnyH _ _ _ _ _ _ _ { tmps := #[_, _, _, _, _, _, _, _, _, _, _, _, _, _, _, _, _, _, _, _, _, _, _, _, _, _, _, _, _, _, _, _, _, _, _, _, _, _, _, _, _, _, _, _, _, _, _, _, _, _, _, _, _, _, _, _, _, _, _, _, _, _, _, _, _, _, _, _, _, _, _, _, _, _, _, _, _, _, _, _, _, _, _, _, _, _, _, _, _, _, _, _], defers := [] } _
      refine wpAnyH_take (i := 3) (v := .pointer (some ⟨g_x, 1, none⟩)) rfl (by kernel_rfl) (by kernel_rfl) (by kernel_rfl) (fun _ _ _ h => h) (Or.inl ⟨rfl, by intro w hS; go_simp⟩) hS ?_
      change wpAnyH _ _ _ _ _ _ _ { tmps := #[_, _, _, _, _, _, _, _, _, _, _, _, _, _, _, _, _, _, _, _, _, _, _, _, _, _, _, _, _, _, _, _, _, _, _, _, _, _, _, _, _, _, _, _, _, _, _, _, _, _, _, _, _, _, _, _, _, _, _, _, _, _, _, _, _, _, _, _, _, _, _, _, _, _, _, _, _, _, _, _, _, _, _, _, _, _, _, _, _, _, _, _], defers := [] } _
      refine wpAnyH_take (i := 4) (v := .string d2) rfl (by kernel_rfl) (by kernel_rfl) (by kernel_rfl) (fun _ _ _ h => h) (Or.inl ⟨rfl, by intro w hS; obtain ⟨⟨hh0, hh1, hh2, hh3, hh4⟩, _⟩ := hS.1.of5; go_simp⟩) hS ?_
      change wpAnyH _ _ _ _ _ _ _ { tmps := #[_, _, _, _, _, _, _, _, _, _, _, _, _, _, _, _, _, _, _, _, _, _, _, _, _, _, _, _, _, _, _, _, _, _, _, _, _, _, _, _, _, _, _, _, _, _, _, _, _, _, _, _, _, _, _, _, _, _, _, _, _, _, _, _, _, _, _, _, _, _, _, _, _, _, _, _, _, _, _, _, _, _, _, _, _, _, _, _, _, _, _, _], defers := [] } _
      refine wpAnyH_take (i := 5) (v := .pointer (some ⟨g_s, 1, none⟩)) rfl (by kernel_rfl) (by kernel_rfl) (by kernel_rfl) (fun _ _ _ h => h) (Or.inl ⟨rfl, by intro w hS; go_simp⟩) hS ?_
      change wpAnyH _ _ _ _ _ _ _ { tmps := #[_, _, _, _, _, _, _, _, _, _, _, _, _, _, _, _, _, _, _, _, _, _, _, _, _, _, _, _, _, _, _, _, _, _, _, _, _, _, _, _, _, _, _, _, _, _, _, _, _, _, _, _, _, _, _, _, _, _, _, _, _, _, _, _, _, _, _, _, _, _, _, _, _, _, _, _, _, _, _, _, _, _, _, _, _, _, _, _, _, _, _, _], defers := [] } _
      refine wpAnyH_take (i := 6) (v := .string d) rfl (by kernel_rfl) (by kernel_rfl) (by kernel_rfl) (fun _ _ _ h => h) (Or.inl ⟨rfl, by intro w hS; obtain ⟨⟨hh0, hh1, hh2, hh3, hh4⟩, _⟩ := hS.2.of5; go_simp⟩) hS ?_
      change wpAnyH _ _ _ _ _ _ _ { tmps := #[_, _, _, _, _, _, _, _, _, _, _, _, _, _, _, _, _, _, _, _, _, _, _, _, _, _, _, _, _, _, _, _, _, _, _, _, _, _, _, _, _, _, _, _, _, _, _, _, _, _, _, _, _, _, _, _, _, _, _, _, _, _, _, _, _, _, _, _, _, _, _, _, _, _, _, _, _, _, _, _, _, _, _, _, _, _, _, _, _, _, _, _], defers := [] } _
      refine wpAnyH_take (i := 7) (v := .int .i64 (d.size : Int)) rfl (by kernel_rfl) (by kernel_rfl) (by kernel_rfl) (fun _ _ _ h => h) (Or.inl ⟨rfl, by intro w hS; first | (go_simp; done) | (go_simp; omega)⟩) hS ?_
      change wpAnyH _ _ _ _ _ _ _ { tmps := #[_, _, _, _, _, _, _, _, _, _, _, _, _, _, _, _, _, _, _, _, _, _, _, _, _, _, _, _, _, _, _, _, _, _, _, _, _, _, _, _, _, _, _, _, _, _, _, _, _, _, _, _, _, _, _, _, _, _, _, _, _, _, _, _, _, _, _, _, _, _, _, _, _, _, _, _, _, _, _, _, _, _, _, _, _, _, _, _, _, _, _, _], defers := [] } _
      refine wpAnyH_take (i := 8) (v := .string d) rfl (by kernel_rfl) (by kernel_rfl) (by kernel_rfl) (fun _ _ _ h => h) (Or.inl ⟨rfl, by intro w hS; have hle' := hle.out; go_simp; first | rw [if_pos (by omega), hpre.out] | (rw [hpre.out]) | (rw [if_pos (by omega), if_pos (by omega), hpre.out])⟩) hS ?_
      change wpAnyH _ _ _ _ _ _ _ { tmps := #[_, _, _, _, _, _, _, _, _, _, _, _, _, _, _, _, _, _, _, _, _, _, _, _, _, _, _, _, _, _, _, _, _, _, _, _, _, _, _, _, _, _, _, _, _, _, _, _, _, _, _, _, _, _, _, _, _, _, _, _, _, _, _, _, _, _, _, _, _, _, _, _, _, _, _, _, _, _, _, _, _, _, _, _, _, _, _, _, _, _, _, _], defers := [] } _
      refine wpAnyH_take (i := 9) (v := .pointer (some ⟨g_s, 1, none⟩)) rfl (by kernel_rfl) (by kernel_rfl) (by kernel_rfl) (fun _ _ _ h => h) (Or.inl ⟨rfl, by intro w hS; go_simp⟩) hS ?_
      change wpAnyH _ _ _ _ _ _ _ { tmps := #[_, _, _, _, _, _, _, _, _, _, _, _, _, _, _, _, _, _, _, _, _, _, _, _, _, _, _, _, _, _, _, _, _, _, _, _, _, _, _, _, _, _, _, _, _, _, _, _, _, _, _, _, _, _, _, _, _, _, _, _, _, _, _, _, _, _, _, _, _, _, _, _, _, _, _, _, _, _, _, _, _, _, _, _, _, _, _, _, _, _, _, _], defers := [] } _
      refine wpAnyH_take (i := 10) (v := .string d) rfl (by kernel_rfl) (by kernel_rfl) (by kernel_rfl) (fun _ _ _ h => h) (Or.inl ⟨rfl, by intro w hS; obtain ⟨⟨hh0, hh1, hh2, hh3, hh4⟩, _⟩ := hS.2.of5; go_simp⟩) hS ?_
      change wpAnyH _ _ _ _ _ _ _ { tmps := #[_, _, _, _, _, _, _, _, _, _, _, _, _, _, _, _, _, _, _, _, _, _, _, _, _, _, _, _, _, _, _, _, _, _, _, _, _, _, _, _, _, _, _, _, _, _, _, _, _, _, _, _, _, _, _, _, _, _, _, _, _, _, _, _, _, _, _, _, _, _, _, _, _, _, _, _, _, _, _, _, _, _, _, _, _, _, _, _, _, _, _, _], defers := [] } _
      refine wpAnyH_take (i := 11) (v := .bool false) rfl (by kernel_rfl) (by kernel_rfl) (by kernel_rfl) (fun _ _ _ h => h) (Or.inl ⟨rfl, by intro w hS; go_simp⟩) hS ?_
      change wpAnyH _ _ _ _ _ _ _ { tmps := #[_, _, _, _, _, _, _, _, _, _, _, _, _, _, _, _, _, _, _, _, _, _, _, _, _, _, _, _, _, _, _, _, _, _, _, _, _, _, _, _, _, _, _, _, _, _, _, _, _, _, _, _, _, _, _, _, _, _, _, _, _, _, _, _, _, _, _, _, _, _, _, _, _, _, _, _, _, _, _, _, _, _, _, _, _, _, _, _, _, _, _, _], defers := [] } _
      refine wpAnyH_take (i := 12) (v := .bool false) rfl (by kernel_rfl) (by kernel_rfl) (by kernel_rfl) (fun _ _ _ h => h) (Or.inl ⟨rfl, by intro w hS; go_simp⟩) hS ?_
      change wpAnyH _ _ _ _ _ _ _ { tmps := #[_, _, _, _, _, _, _, _, _, _, _, _, _, _, _, _, _, _, _, _, _, _, _, _, _, _, _, _, _, _, _, _, _, _, _, _, _, _, _, _, _, _, _, _, _, _, _, _, _, _, _, _, _, _, _, _, _, _, _, _, _, _, _, _, _, _, _, _, _, _, _, _, _, _, _, _, _, _, _, _, _, _, _, _, _, _, _, _, _, _, _, _], defers := [] } _
      refine wpAnyH_take (i := 13) (v := .bool false) rfl (by kernel_rfl) (by kernel_rfl) (by kernel_rfl) (fun _ _ _ h => h) (Or.inl ⟨rfl, by intro w hS; go_simp⟩) hS ?_
      change wpAnyH _ _ _ _ _ _ _ { tmps := #[_, _, _, _, _, _, _, _, _, _, _, _, _, _, _, _, _, _, _, _, _, _, _, _, _, _, _, _, _, _, _, _, _, _, _, _, _, _, _, _, _, _, _, _, _, _, _, _, _, _, _, _, _, _, _, _, _, _, _, _, _, _, _, _, _, _, _, _, _, _, _, _, _, _, _, _, _, _, _, _, _, _, _, _, _, _, _, _, _, _, _, _], defers := [] } _
      refine wpAnyH_take (i := 14) (v := .agg #[.int .i64 n2, .string d2, .slice a1 rs2.length c1, .int .i64 f2, .bool z2]) rfl (by kernel_rfl) (by kernel_rfl) (by kernel_rfl) (fun _ _ _ h => h) (Or.inl ⟨rfl, by intro w hS; obtain ⟨⟨hh0, hh1, hh2, hh3, hh4⟩, _⟩ := hS.1.of5; go_simp⟩) hS ?_
      change wpAnyH _ _ _ _ _ _ _ { tmps := #[_, _, _, _, _, _, _, _, _, _, _, _, _, _, _, _, _, _, _, _, _, _, _, _, _, _, _, _, _, _, _, _, _, _, _, _, _, _, _, _, _, _, _, _, _, _, _, _, _, _, _, _, _, _, _, _, _, _, _, _, _, _, _, _, _, _, _, _, _, _, _, _, _, _, _, _, _, _, _, _, _, _, _, _, _, _, _, _, _, _, _, _], defers := [] } _
      refine wpAnyH_ready (rs := [15]) (by kernel_rfl) (by simp) ?_
      refine AllReadyH.cons (i := 15) rfl (fun K hK => ?zq9) AllReadyH.nil
      rw [if_pos (by first | rfl | kernel_rfl)]
      go_simp
      clear hS
      refine (OK2.out a1 c1 _ (Row.ownV Nx11.out)).mono ?_
      rintro e v12 ⟨rfl, hb⟩
      have B12 := Lib.hid (B11.out.trans (hb.mono B11.out.size))
      have Ks12 := Lib.hid (Ks11.out.below hb)
      have Kx12 := Lib.hid (Kx11.out.below hb)
      have Np12 := Lib.hid (own_below Np11.out hb)
      have Nx12 := Lib.hid (own_below Nx11.out hb)
      clear hb B11 Ks11 Kx11 Np11 Nx11
      refine hK.out _ _ ⟨Kx12.out, Ks12.out⟩ (fun hS => ?_)
      clear hK K
      change wpAnyH _ _ _ _ _ _ _ { tmps := #[_, _, _, _, _, _, _, _, _, _, _, _, _, _, _, _, _, _, _, _, _, _, _, _, _, _, _, _, _, _, _, _, _, _, _, _, _, _, _, _, _, _, _, _, _, _, _, _, _, _, _, _, _, _, _, _, _, _, _, _, _, _, _, _, _, _, _, _, _, _, _, _, _, _, _, _, _, _, _, _, _, _, _, _, _, _, _, _, _, _, _, _], defers := [] } _
      refine wpAnyH_take (i := 16) (v := .bool false) rfl (by kernel_rfl) (by kernel_rfl) (by kernel_rfl) (fun _ _ _ h => h) (Or.inl ⟨rfl, by intro w hS; go_simp⟩) hS ?_
      change wpAnyH _ _ _ _ _ _ _ { tmps := #[_, _, _, _, _, _, _, _, _, _, _, _, _, _, _, _, _, _, _, _, _, _, _, _, _, _, _, _, _, _, _, _, _, _, _, _, _, _, _, _, _, _, _, _, _, _, _, _, _, _, _, _, _, _, _, _, _, _, _, _, _, _, _, _, _, _, _, _, _, _, _, _, _, _, _, _, _, _, _, _, _, _, _, _, _, _, _, _, _, _, _, _], defers := [] } _
      refine wpAnyH_take (i := 17) (v := .bool false) rfl (by kernel_rfl) (by kernel_rfl) (by kernel_rfl) (fun _ _ _ h => h) (Or.inl ⟨rfl, by intro w hS; go_simp⟩) hS ?_
      change wpAnyH _ _ _ _ _ _ _ { tmps := #[_, _, _, _, _, _, _, _, _, _, _, _, _, _, _, _, _, _, _, _, _, _, _, _, _, _, _, _, _, _, _, _, _, _, _, _, _, _, _, _, _, _, _, _, _, _, _, _, _, _, _, _, _, _, _, _, _, _, _, _, _, _, _, _, _, _, _, _, _, _, _, _, _, _, _, _, _, _, _, _, _, _, _, _, _, _, _, _, _, _, _, _], defers := [] } _
      refine wpAnyH_done (by kernel_rfl) ?_ _
      refine NoPanic.normal ?_
      obtain ⟨⟨cs0, cs1, cs2, cs3, cs4⟩, ds0, ds1, ds2, ds3, ds4⟩ := Ks12.out.of5
      obtain ⟨⟨cx0, cx1, cx2, cx3, cx4⟩, dx0, dx1, dx2, dx3, dx4⟩ := Kx12.out.of5
      go_upto_region 12 with fail
      clear cs0 cs1 cs2 cs3 cs4 ds0 ds1 ds2 ds3 ds4 cx0 cx1 cx2 cx3 cx4 dx0 dx1 dx2 dx3 dx4
      cases z2 with
      | false =>
        have hn2 := hnext.out
        rw [if_neg (by simp), Int.add_zero] at hn2
        have SA := seqAddI_s n ((c : Int))
        rw [show pl (n + ((c : Int))) = n2 from hn2] at SA
        clear hn2
        replace SA := Lib.hid SA
        obtain ⟨⟨cs0, cs1, cs2, cs3, cs4⟩, ds0, ds1, ds2, ds3, ds4⟩ := Ks12.out.of5
        obtain ⟨⟨cx0, cx1, cx2, cx3, cx4⟩, dx0, dx1, dx2, dx3, dx4⟩ := Kx12.out.of5
        go_upto_region 14 with fail
        clear cs0 cs1 cs2 cs3 cs4 ds0 ds1 ds2 ds3 ds4 cx0 cx1 cx2 cx3 cx4 dx0 dx1 dx2 dx3 dx4
        refine wp_region_noPanic ?_
        refine wp_region_held_drew (S := fun w' => Blk w' g_x [.int .i64 n2, .string d2, .slice a1 rs2.length c1, .int .i64 f2, .bool false] ∧ Blk w' g_s [.int .i64 n, .string d, .slice a rs.length cap, .int .i64 f, .bool z]) (by kernel_rfl) ⟨Kx12.out, Ks12.out⟩ (fun hS => ?_)
        have B13 := Lib.hid (show Below w.heap.size w v12.drew from B12.out.drew)
        have Ks13 := Lib.hid (show Blk v12.drew g_s [.int .i64 n, .string d, .slice a rs.length cap, .int .i64 f, .bool z] from Ks12.out.drew)
        have Kx13 := Lib.hid (show Blk v12.drew g_x [.int .i64 n2, .string d2, .slice a1 rs2.length c1, .int .i64 f2, .bool false] from Kx12.out.drew)
        have Np13 := Lib.hid (own_below Np12.out (Below.refl _ v12).drew)
        have Nx13 := Lib.hid (own_below Nx12.out (Below.refl _ v12).drew)
        clear hS B12 Ks12 Kx12 Np12 Nx12
        generalize v12.drew = v13 at B13 Ks13 Kx13 Np13 Nx13 ⊢
        have hS : Blk v13 g_x [.int .i64 n2, .string d2, .slice a1 rs2.length c1, .int .i64 f2, .bool false] ∧ Blk v13 g_s [.int .i64 n, .string d, .slice a rs.length cap, .int .i64 f, .bool z] := ⟨Kx13.out, Ks13.out⟩
        refine wpAnyH_take (i := 0) (v := .pointer (some ⟨g_s, 0, none⟩)) rfl (by kernel_rfl) (by kernel_rfl) (by kernel_rfl) (fun _ _ _ h => h) (Or.inl ⟨rfl, by intro w hS; go_simp⟩) hS ?_
        change wpAnyH _ _ _ _ _ _ _ { tmps := #[_, _, _, _, _, _, _, _, _, _, _, _, _, _, _, _, _, _, _, _, _, _, _, _, _, _, _, _, _, _, _, _, _, _, _, _, _, _, _, _, _, _, _, _, _, _, _, _, _, _, _, _, _, _, _, _, _, _, _, _, _, _, _, _, _, _, _, _, _, _, _, _, _, _, _, _, _, _, _, _, _, _, _, _, _, _, _, _, _, _, _, _], defers := [] } _
        refine wpAnyH_take (i := 1) (v := .int .i64 n) rfl (by kernel_rfl) (by kernel_rfl) (by kernel_rfl) (fun _ _ _ h => h) (Or.inl ⟨rfl, by intro w hS; obtain ⟨⟨hh0, hh1, hh2, hh3, hh4⟩, _⟩ := hS.2.of5; go_simp⟩) hS ?_
        change wpAnyH _ _ _ _ _ _ _ { tmps := #[_, _, _, _, _, _, _, _, _, _, _, _, _, _, _, _, _, _, _, _, _, _, _, _, _, _, _, _, _, _, _, _, _, _, _, _, _, _, _, _, _, _, _, _, _, _, _, _, _, _, _, _, _, _, _, _, _, _, _, _, _, _, _, _, _, _, _, _, _, _, _, _, _, _, _, _, _, _, _, _, _, _, _, _, _, _, _, _, _, _, _, _], defers := [] } _
        refine wpAnyH_take (i := 2) (v := .int .i64 ((c : Int))) rfl (by kernel_rfl) (by kernel_rfl) (by kernel_rfl) (fun _ _ _ h => h) (Or.inl ⟨rfl, by intro w hS; go_simp⟩) hS ?_
        change wpAnyH _ _ _ _ _ _ _ { tmps := #[_, _, _, _, _, _, _, _, _, _, _, _, _, _, _, _, _, _, _, _, _, _, _, _, _, _, _, _, _, _, _, _, _, _, _, _, _, _, _, _, _, _, _, _, _, _, _, _, _, _, _, _, _, _, _, _, _, _, _, _, _, _, _, _, _, _, _, _, _, _, _, _, _, _, _, _, _, _, _, _, _, _, _, _, _, _, _, _, _, _, _, _], defers := [] } _
        refine wpAnyH_take (i := 4) (v := .pointer (some ⟨g_x, 0, none⟩)) rfl (by kernel_rfl) (by kernel_rfl) (by kernel_rfl) (fun _ _ _ h => h) (Or.inl ⟨rfl, by intro w hS; go_simp⟩) hS ?_
        change wpAnyH _ _ _ _ _ _ _ { tmps := #[_, _, _, _, _, _, _, _, _, _, _, _, _, _, _, _, _, _, _, _, _, _, _, _, _, _, _, _, _, _, _, _, _, _, _, _, _, _, _, _, _, _, _, _, _, _, _, _, _, _, _, _, _, _, _, _, _, _, _, _, _, _, _, _, _, _, _, _, _, _, _, _, _, _, _, _, _, _, _, _, _, _, _, _, _, _, _, _, _, _, _, _], defers := [] } _
        refine wpAnyH_take (i := 5) (v := .int .i64 n2) rfl (by kernel_rfl) (by kernel_rfl) (by kernel_rfl) (fun _ _ _ h => h) (Or.inl ⟨rfl, by intro w hS; obtain ⟨⟨hh0, hh1, hh2, hh3, hh4⟩, _⟩ := hS.1.of5; go_simp⟩) hS ?_
        change wpAnyH _ _ _ _ _ _ _ { tmps := #[_, _, _, _, _, _, _, _, _, _, _, _, _, _, _, _, _, _, _, _, _, _, _, _, _, _, _, _, _, _, _, _, _, _, _, _, _, _, _, _, _, _, _, _, _, _, _, _, _, _, _, _, _, _, _, _, _, _, _, _, _, _, _, _, _, _, _, _, _, _, _, _, _, _, _, _, _, _, _, _, _, _, _, _, _, _, _, _, _, _, _, _], defers := [] } _
        refine wpAnyH_ready (rs := [3]) (by kernel_rfl) (by simp) ?_
        refine AllReadyH.cons (i := 3) rfl (fun K hK => ?zq10) AllReadyH.nil
        rw [if_pos (by first | rfl | kernel_rfl)]
        go_simp
        clear hS
        refine (SA.out _).mono ?_
        rintro e v14 ⟨rfl, hb⟩
        have B14 := Lib.hid (B13.out.trans (hb.mono B13.out.size))
        have Ks14 := Lib.hid (Ks13.out.below hb)
        have Kx14 := Lib.hid (Kx13.out.below hb)
        have Np14 := Lib.hid (own_below Np13.out hb)
        have Nx14 := Lib.hid (own_below Nx13.out hb)
        clear hb B13 Ks13 Kx13 Np13 Nx13
        refine hK.out _ _ ⟨Kx14.out, Ks14.out⟩ (fun hS => ?_)
        clear hK K
        change wpAnyH _ _ _ _ _ _ _ { tmps := #[_, _, _, _, _, _, _, _, _, _, _, _, _, _, _, _, _, _, _, _, _, _, _, _, _, _, _, _, _, _, _, _, _, _, _, _, _, _, _, _, _, _, _, _, _, _, _, _, _, _, _, _, _, _, _, _, _, _, _, _, _, _, _, _, _, _, _, _, _, _, _, _, _, _, _, _, _, _, _, _, _, _, _, _, _, _, _, _, _, _, _, _], defers := [] } _
        refine wpAnyH_take (i := 6) (v := .bool true) rfl (by kernel_rfl) (by kernel_rfl) (by kernel_rfl) (fun _ _ _ h => h) (Or.inl ⟨rfl, by intro w hS; go_simp⟩) hS ?_
        change wpAnyH _ _ _ _ _ _ _ { tmps := #[_, _, _, _, _, _, _, _, _, _, _, _, _, _, _, _, _, _, _, _, _, _, _, _, _, _, _, _, _, _, _, _, _, _, _, _, _, _, _, _, _, _, _, _, _, _, _, _, _, _, _, _, _, _, _, _, _, _, _, _, _, _, _, _, _, _, _, _, _, _, _, _, _, _, _, _, _, _, _, _, _, _, _, _, _, _, _, _, _, _, _, _], defers := [] } _
        refine wpAnyH_take (i := 7) (v := .bool true) rfl (by kernel_rfl) (by kernel_rfl) (by kernel_rfl) (fun _ _ _ h => h) (Or.inl ⟨rfl, by intro w hS; go_simp⟩) hS ?_
        change wpAnyH _ _ _ _ _ _ _ { tmps := #[_, _, _, _, _, _, _, _, _, _, _, _, _, _, _, _, _, _, _, _, _, _, _, _, _, _, _, _, _, _, _, _, _, _, _, _, _, _, _, _, _, _, _, _, _, _, _, _, _, _, _, _, _, _, _, _, _, _, _, _, _, _, _, _, _, _, _, _, _, _, _, _, _, _, _, _, _, _, _, _, _, _, _, _, _, _, _, _, _, _, _, _], defers := [] } _
        refine wpAnyH_take (i := 8) (v := .agg #[.int .i64 n2, .string d2, .slice a1 rs2.length c1, .int .i64 f2, .bool false]) rfl (by kernel_rfl) (by kernel_rfl) (by kernel_rfl) (fun _ _ _ h => h) (Or.inl ⟨rfl, by intro w hS; obtain ⟨⟨hh0, hh1, hh2, hh3, hh4⟩, _⟩ := hS.1.of5; go_simp⟩) hS ?_
        change wpAnyH _ _ _ _ _ _ _ { tmps := #[_, _, _, _, _, _, _, _, _, _, _, _, _, _, _, _, _, _, _, _, _, _, _, _, _, _, _, _, _, _, _, _, _, _, _, _, _, _, _, _, _, _, _, _, _, _, _, _, _, _, _, _, _, _, _, _, _, _, _, _, _, _, _, _, _, _, _, _, _, _, _, _, _, _, _, _, _, _, _, _, _, _, _, _, _, _, _, _, _, _, _, _], defers := [] } _
        refine wpAnyH_take (i := 10) (v := .agg #[.int .i64 n, .string d, .slice a rs.length cap, .int .i64 f, .bool z]) rfl (by kernel_rfl) (by kernel_rfl) (by kernel_rfl) (fun _ _ _ h => h) (Or.inl ⟨rfl, by intro w hS; obtain ⟨⟨hh0, hh1, hh2, hh3, hh4⟩, _⟩ := hS.2.of5; go_simp⟩) hS ?_
        change wpAnyH _ _ _ _ _ _ _ { tmps := #[_, _, _, _, _, _, _, _, _, _, _, _, _, _, _, _, _, _, _, _, _, _, _, _, _, _, _, _, _, _, _, _, _, _, _, _, _, _, _, _, _, _, _, _, _, _, _, _, _, _, _, _, _, _, _, _, _, _, _, _, _, _, _, _, _, _, _, _, _, _, _, _, _, _, _, _, _, _, _, _, _, _, _, _, _, _, _, _, _, _, _, _], defers := [] } _
        refine wpAnyH_ready (rs := [9]) (by kernel_rfl) (by simp) ?_
        refine AllReadyH.cons (i := 9) rfl (fun K hK => ?zq11) AllReadyH.nil
        rw [if_pos (by first | rfl | kernel_rfl)]
        go_simp
        clear hS
        refine (W2.out a1 c1 _).mono ?_
        rintro e v15 ⟨rfl, hb⟩
        have B15 := Lib.hid (B14.out.trans (hb.mono B14.out.size))
        have Ks15 := Lib.hid (Ks14.out.below hb)
        have Kx15 := Lib.hid (Kx14.out.below hb)
        have Np15 := Lib.hid (own_below Np14.out hb)
        have Nx15 := Lib.hid (own_below Nx14.out hb)
        clear hb B14 Ks14 Kx14 Np14 Nx14
        refine hK.out _ _ ⟨Kx15.out, Ks15.out⟩ (fun hS => ?_)
        clear hK K
        change wpAnyH _ _ _ _ _ _ _ { tmps := #[_, _, _, _, _, _, _, _, _, _, _, _, _, _, _, _, _, _, _, _, _, _, _, _, _, _, _, _, _, _, _, _, _, _, _, _, _, _, _, _, _, _, _, _, _, _, _, _, _, _, _, _, _, _, _, _, _, _, _, _, _, _, _, _, _, _, _, _, _, _, _, _, _, _, _, _, _, _, _, _, _, _, _, _, _, _, _, _, _, _, _, _], defers := [] } _
        refine wpAnyH_ready (rs := [11]) (by kernel_rfl) (by simp) ?_
        refine AllReadyH.cons (i := 11) rfl (fun K hK => ?zq12) AllReadyH.nil
        rw [if_pos (by first | rfl | kernel_rfl)]
        go_simp
        clear hS
        refine (W1.out _).mono ?_
        rintro e v16 ⟨rfl, hb⟩
        have B16 := Lib.hid (B15.out.trans (hb.mono B15.out.size))
        have Ks16 := Lib.hid (Ks15.out.below hb)
        have Kx16 := Lib.hid (Kx15.out.below hb)
        have Np16 := Lib.hid (own_below Np15.out hb)
        have Nx16 := Lib.hid (own_below Nx15.out hb)
        clear hb B15 Ks15 Kx15 Np15 Nx15
        refine hK.out _ _ ⟨Kx16.out, Ks16.out⟩ (fun hS => ?_)
        clear hK K
        change wpAnyH _ _ _ _ _ _ _ { tmps := #[_, _, _, _, _, _, _, _, _, _, _, _, _, _, _, _, _, _, _, _, _, _, _, _, _, _, _, _, _, _, _, _, _, _, _, _, _, _, _, _, _, _, _, _, _, _, _, _, _, _, _, _, _, _, _, _, _, _, _, _, _, _, _, _, _, _, _, _, _, _, _, _, _, _, _, _, _, _, _, _, _, _, _, _, _, _, _, _, _, _, _, _], defers := [] } _
        refine wpAnyH_take (i := 12) (v := .bool true) rfl (by kernel_rfl) (by kernel_rfl) (by kernel_rfl) (fun _ _ _ h => h) (Or.inl ⟨rfl, by intro w hS; have hr := hroom.out; first | (go_simp; done) | (go_simp; omega)⟩) hS ?_
        change wpAnyH _ _ _ _ _ _ _ { tmps := #[_, _, _, _, _, _, _, _, _, _, _, _, _, _, _, _, _, _, _, _, _, _, _, _, _, _, _, _, _, _, _, _, _, _, _, _, _, _, _, _, _, _, _, _, _, _, _, _, _, _, _, _, _, _, _, _, _, _, _, _, _, _, _, _, _, _, _, _, _, _, _, _, _, _, _, _, _, _, _, _, _, _, _, _, _, _, _, _, _, _, _, _], defers := [] } _
        refine wpAnyH_take (i := 13) (v := .bool true) rfl (by kernel_rfl) (by kernel_rfl) (by kernel_rfl) (fun _ _ _ h => h) (Or.inl ⟨rfl, by intro w hS; go_simp⟩) hS ?_
        change wpAnyH _ _ _ _ _ _ _ { tmps := #[_, _, _, _, _, _, _, _, _, _, _, _, _, _, _, _, _, _, _, _, _, _, _, _, _, _, _, _, _, _, _, _, _, _, _, _, _, _, _, _, _, _, _, _, _, _, _, _, _, _, _, _, _, _, _, _, _, _, _, _, _, _, _, _, _, _, _, _, _, _, _, _, _, _, _, _, _, _, _, _, _, _, _, _, _, _, _, _, _, _, _, _], defers := [] } _
        refine wpAnyH_take (i := 14) (v := .bool true) rfl (by kernel_rfl) (by kernel_rfl) (by kernel_rfl) (fun _ _ _ h => h) (Or.inl ⟨rfl, by intro w hS; go_simp⟩) hS ?_
        change wpAnyH _ _ _ _ _ _ _ { tmps := #[_, _, _, _, _, _, _, _, _, _, _, _, _, _, _, _, _, _, _, _, _, _, _, _, _, _, _, _, _, _, _, _, _, _, _, _, _, _, _, _, _, _, _, _, _, _, _, _, _, _, _, _, _, _, _, _, _, _, _, _, _, _, _, _, _, _, _, _, _, _, _, _, _, _, _, _, _, _, _, _, _, _, _, _, _, _, _, _, _, _, _, _], defers := [] } _
        refine wpAnyH_done (by kernel_rfl) ?_ _
        refine NoPanic.normal ?_
        obtain ⟨⟨cs0, cs1, cs2, cs3, cs4⟩, ds0, ds1, ds2, ds3, ds4⟩ := Ks16.out.of5
        obtain ⟨⟨cx0, cx1, cx2, cx3, cx4⟩, dx0, dx1, dx2, dx3, dx4⟩ := Kx16.out.of5
        go_wp2_with fail
        go_ret
        exact ⟨rfl, B16.out⟩
      | true =>
        cases z with
        | true =>
          have hn2 := hnext.out
          rw [if_neg (by simp), Int.add_zero] at hn2
          have SA := seqAddI_s n ((c : Int))
          rw [show pl (n + ((c : Int))) = n2 from hn2] at SA
          clear hn2
          replace SA := Lib.hid SA
          obtain ⟨⟨cs0, cs1, cs2, cs3, cs4⟩, ds0, ds1, ds2, ds3, ds4⟩ := Ks12.out.of5
          obtain ⟨⟨cx0, cx1, cx2, cx3, cx4⟩, dx0, dx1, dx2, dx3, dx4⟩ := Kx12.out.of5
          go_upto_region 14 with fail
          clear cs0 cs1 cs2 cs3 cs4 ds0 ds1 ds2 ds3 ds4 cx0 cx1 cx2 cx3 cx4 dx0 dx1 dx2 dx3 dx4
          refine wp_region_noPanic ?_
          refine wp_region_held_drew (S := fun w' => Blk w' g_x [.int .i64 n2, .string d2, .slice a1 rs2.length c1, .int .i64 f2, .bool true] ∧ Blk w' g_s [.int .i64 n, .string d, .slice a rs.length cap, .int .i64 f, .bool true]) (by kernel_rfl) ⟨Kx12.out, Ks12.out⟩ (fun hS => ?_)
          have B13 := Lib.hid (show Below w.heap.size w v12.drew from B12.out.drew)
          have Ks13 := Lib.hid (show Blk v12.drew g_s [.int .i64 n, .string d, .slice a rs.length cap, .int .i64 f, .bool true] from Ks12.out.drew)
          have Kx13 := Lib.hid (show Blk v12.drew g_x [.int .i64 n2, .string d2, .slice a1 rs2.length c1, .int .i64 f2, .bool true] from Kx12.out.drew)
          have Np13 := Lib.hid (own_below Np12.out (Below.refl _ v12).drew)
          have Nx13 := Lib.hid (own_below Nx12.out (Below.refl _ v12).drew)
          clear hS B12 Ks12 Kx12 Np12 Nx12
          generalize v12.drew = v13 at B13 Ks13 Kx13 Np13 Nx13 ⊢
          have hS : Blk v13 g_x [.int .i64 n2, .string d2, .slice a1 rs2.length c1, .int .i64 f2, .bool true] ∧ Blk v13 g_s [.int .i64 n, .string d, .slice a rs.length cap, .int .i64 f, .bool true] := ⟨Kx13.out, Ks13.out⟩
          refine wpAnyH_take (i := 0) (v := .pointer (some ⟨g_s, 0, none⟩)) rfl (by kernel_rfl) (by kernel_rfl) (by kernel_rfl) (fun _ _ _ h => h) (Or.inl ⟨rfl, by intro w hS; go_simp⟩) hS ?_
          change wpAnyH _ _ _ _ _ _ _ { tmps := #[_, _, _, _, _, _, _, _, _, _, _, _, _, _, _, _, _, _, _, _, _, _, _, _, _, _, _, _, _, _, _, _, _, _, _, _, _, _, _, _, _, _, _, _, _, _, _, _, _, _, _, _, _, _, _, _, _, _, _, _, _, _, _, _, _, _, _, _, _, _, _, _, _, _, _, _, _, _, _, _, _, _, _, _, _, _, _, _, _, _, _, _], defers := [] } _
          refine wpAnyH_take (i := 1) (v := .int .i64 n) rfl (by kernel_rfl) (by kernel_rfl) (by kernel_rfl) (fun _ _ _ h => h) (Or.inl ⟨rfl, by intro w hS; obtain ⟨⟨hh0, hh1, hh2, hh3, hh4⟩, _⟩ := hS.2.of5; go_simp⟩) hS ?_
          change wpAnyH _ _ _ _ _ _ _ { tmps := #[_, _, _, _, _, _, _, _, _, _, _, _, _, _, _, _, _, _, _, _, _, _, _, _, _, _, _, _, _, _, _, _, _, _, _, _, _, _, _, _, _, _, _, _, _, _, _, _, _, _, _, _, _, _, _, _, _, _, _, _, _, _, _, _, _, _, _, _, _, _, _, _, _, _, _, _, _, _, _, _, _, _, _, _, _, _, _, _, _, _, _, _], defers := [] } _
          refine wpAnyH_take (i := 2) (v := .int .i64 ((c : Int))) rfl (by kernel_rfl) (by kernel_rfl) (by kernel_rfl) (fun _ _ _ h => h) (Or.inl ⟨rfl, by intro w hS; go_simp⟩) hS ?_
          change wpAnyH _ _ _ _ _ _ _ { tmps := #[_, _, _, _, _, _, _, _, _, _, _, _, _, _, _, _, _, _, _, _, _, _, _, _, _, _, _, _, _, _, _, _, _, _, _, _, _, _, _, _, _, _, _, _, _, _, _, _, _, _, _, _, _, _, _, _, _, _, _, _, _, _, _, _, _, _, _, _, _, _, _, _, _, _, _, _, _, _, _, _, _, _, _, _, _, _, _, _, _, _, _, _], defers := [] } _
          refine wpAnyH_take (i := 4) (v := .pointer (some ⟨g_x, 0, none⟩)) rfl (by kernel_rfl) (by kernel_rfl) (by kernel_rfl) (fun _ _ _ h => h) (Or.inl ⟨rfl, by intro w hS; go_simp⟩) hS ?_
          change wpAnyH _ _ _ _ _ _ _ { tmps := #[_, _, _, _, _, _, _, _, _, _, _, _, _, _, _, _, _, _, _, _, _, _, _, _, _, _, _, _, _, _, _, _, _, _, _, _, _, _, _, _, _, _, _, _, _, _, _, _, _, _, _, _, _, _, _, _, _, _, _, _, _, _, _, _, _, _, _, _, _, _, _, _, _, _, _, _, _, _, _, _, _, _, _, _, _, _, _, _, _, _, _, _], defers := [] } _
          refine wpAnyH_take (i := 5) (v := .int .i64 n2) rfl (by kernel_rfl) (by kernel_rfl) (by kernel_rfl) (fun _ _ _ h => h) (Or.inl ⟨rfl, by intro w hS; obtain ⟨⟨hh0, hh1, hh2, hh3, hh4⟩, _⟩ := hS.1.of5; go_simp⟩) hS ?_
          change wpAnyH _ _ _ _ _ _ _ { tmps := #[_, _, _, _, _, _, _, _, _, _, _, _, _, _, _, _, _, _, _, _, _, _, _, _, _, _, _, _, _, _, _, _, _, _, _, _, _, _, _, _, _, _, _, _, _, _, _, _, _, _, _, _, _, _, _, _, _, _, _, _, _, _, _, _, _, _, _, _, _, _, _, _, _, _, _, _, _, _, _, _, _, _, _, _, _, _, _, _, _, _, _, _], defers := [] } _
          refine wpAnyH_ready (rs := [3]) (by kernel_rfl) (by simp) ?_
          refine AllReadyH.cons (i := 3) rfl (fun K hK => ?zq13) AllReadyH.nil
          rw [if_pos (by first | rfl | kernel_rfl)]
          go_simp
          clear hS
          refine (SA.out _).mono ?_
          rintro e v14 ⟨rfl, hb⟩
          have B14 := Lib.hid (B13.out.trans (hb.mono B13.out.size))
          have Ks14 := Lib.hid (Ks13.out.below hb)
          have Kx14 := Lib.hid (Kx13.out.below hb)
          have Np14 := Lib.hid (own_below Np13.out hb)
          have Nx14 := Lib.hid (own_below Nx13.out hb)
          clear hb B13 Ks13 Kx13 Np13 Nx13
          refine hK.out _ _ ⟨Kx14.out, Ks14.out⟩ (fun hS => ?_)
          clear hK K
          change wpAnyH _ _ _ _ _ _ _ { tmps := #[_, _, _, _, _, _, _, _, _, _, _, _, _, _, _, _, _, _, _, _, _, _, _, _, _, _, _, _, _, _, _, _, _, _, _, _, _, _, _, _, _, _, _, _, _, _, _, _, _, _, _, _, _, _, _, _, _, _, _, _, _, _, _, _, _, _, _, _, _, _, _, _, _, _, _, _, _, _, _, _, _, _, _, _, _, _, _, _, _, _, _, _], defers := [] } _
          refine wpAnyH_take (i := 6) (v := .bool true) rfl (by kernel_rfl) (by kernel_rfl) (by kernel_rfl) (fun _ _ _ h => h) (Or.inl ⟨rfl, by intro w hS; go_simp⟩) hS ?_
          change wpAnyH _ _ _ _ _ _ _ { tmps := #[_, _, _, _, _, _, _, _, _, _, _, _, _, _, _, _, _, _, _, _, _, _, _, _, _, _, _, _, _, _, _, _, _, _, _, _, _, _, _, _, _, _, _, _, _, _, _, _, _, _, _, _, _, _, _, _, _, _, _, _, _, _, _, _, _, _, _, _, _, _, _, _, _, _, _, _, _, _, _, _, _, _, _, _, _, _, _, _, _, _, _, _], defers := [] } _
          refine wpAnyH_take (i := 7) (v := .bool true) rfl (by kernel_rfl) (by kernel_rfl) (by kernel_rfl) (fun _ _ _ h => h) (Or.inl ⟨rfl, by intro w hS; go_simp⟩) hS ?_
          change wpAnyH _ _ _ _ _ _ _ { tmps := #[_, _, _, _, _, _, _, _, _, _, _, _, _, _, _, _, _, _, _, _, _, _, _, _, _, _, _, _, _, _, _, _, _, _, _, _, _, _, _, _, _, _, _, _, _, _, _, _, _, _, _, _, _, _, _, _, _, _, _, _, _, _, _, _, _, _, _, _, _, _, _, _, _, _, _, _, _, _, _, _, _, _, _, _, _, _, _, _, _, _, _, _], defers := [] } _
          refine wpAnyH_take (i := 8) (v := .agg #[.int .i64 n2, .string d2, .slice a1 rs2.length c1, .int .i64 f2, .bool true]) rfl (by kernel_rfl) (by kernel_rfl) (by kernel_rfl) (fun _ _ _ h => h) (Or.inl ⟨rfl, by intro w hS; obtain ⟨⟨hh0, hh1, hh2, hh3, hh4⟩, _⟩ := hS.1.of5; go_simp⟩) hS ?_
          change wpAnyH _ _ _ _ _ _ _ { tmps := #[_, _, _, _, _, _, _, _, _, _, _, _, _, _, _, _, _, _, _, _, _, _, _, _, _, _, _, _, _, _, _, _, _, _, _, _, _, _, _, _, _, _, _, _, _, _, _, _, _, _, _, _, _, _, _, _, _, _, _, _, _, _, _, _, _, _, _, _, _, _, _, _, _, _, _, _, _, _, _, _, _, _, _, _, _, _, _, _, _, _, _, _], defers := [] } _
          refine wpAnyH_take (i := 10) (v := .agg #[.int .i64 n, .string d, .slice a rs.length cap, .int .i64 f, .bool true]) rfl (by kernel_rfl) (by kernel_rfl) (by kernel_rfl) (fun _ _ _ h => h) (Or.inl ⟨rfl, by intro w hS; obtain ⟨⟨hh0, hh1, hh2, hh3, hh4⟩, _⟩ := hS.2.of5; go_simp⟩) hS ?_
          change wpAnyH _ _ _ _ _ _ _ { tmps := #[_, _, _, _, _, _, _, _, _, _, _, _, _, _, _, _, _, _, _, _, _, _, _, _, _, _, _, _, _, _, _, _, _, _, _, _, _, _, _, _, _, _, _, _, _, _, _, _, _, _, _, _, _, _, _, _, _, _, _, _, _, _, _, _, _, _, _, _, _, _, _, _, _, _, _, _, _, _, _, _, _, _, _, _, _, _, _, _, _, _, _, _], defers := [] } _
          refine wpAnyH_ready (rs := [9]) (by kernel_rfl) (by simp) ?_
          refine AllReadyH.cons (i := 9) rfl (fun K hK => ?zq14) AllReadyH.nil
          rw [if_pos (by first | rfl | kernel_rfl)]
          go_simp
          clear hS
          refine (W2.out a1 c1 _).mono ?_
          rintro e v15 ⟨rfl, hb⟩
          have B15 := Lib.hid (B14.out.trans (hb.mono B14.out.size))
          have Ks15 := Lib.hid (Ks14.out.below hb)
          have Kx15 := Lib.hid (Kx14.out.below hb)
          have Np15 := Lib.hid (own_below Np14.out hb)
          have Nx15 := Lib.hid (own_below Nx14.out hb)
          clear hb B14 Ks14 Kx14 Np14 Nx14
          refine hK.out _ _ ⟨Kx15.out, Ks15.out⟩ (fun hS => ?_)
          clear hK K
          change wpAnyH _ _ _ _ _ _ _ { tmps := #[_, _, _, _, _, _, _, _, _, _, _, _, _, _, _, _, _, _, _, _, _, _, _, _, _, _, _, _, _, _, _, _, _, _, _, _, _, _, _, _, _, _, _, _, _, _, _, _, _, _, _, _, _, _, _, _, _, _, _, _, _, _, _, _, _, _, _, _, _, _, _, _, _, _, _, _, _, _, _, _, _, _, _, _, _, _, _, _, _, _, _, _], defers := [] } _
          refine wpAnyH_ready (rs := [11]) (by kernel_rfl) (by simp) ?_
          refine AllReadyH.cons (i := 11) rfl (fun K hK => ?zq15) AllReadyH.nil
          rw [if_pos (by first | rfl | kernel_rfl)]
          go_simp
          clear hS
          refine (W1.out _).mono ?_
          rintro e v16 ⟨rfl, hb⟩
          have B16 := Lib.hid (B15.out.trans (hb.mono B15.out.size))
          have Ks16 := Lib.hid (Ks15.out.below hb)
          have Kx16 := Lib.hid (Kx15.out.below hb)
          have Np16 := Lib.hid (own_below Np15.out hb)
          have Nx16 := Lib.hid (own_below Nx15.out hb)
          clear hb B15 Ks15 Kx15 Np15 Nx15
          refine hK.out _ _ ⟨Kx16.out, Ks16.out⟩ (fun hS => ?_)
          clear hK K
          change wpAnyH _ _ _ _ _ _ _ { tmps := #[_, _, _, _, _, _, _, _, _, _, _, _, _, _, _, _, _, _, _, _, _, _, _, _, _, _, _, _, _, _, _, _, _, _, _, _, _, _, _, _, _, _, _, _, _, _, _, _, _, _, _, _, _, _, _, _, _, _, _, _, _, _, _, _, _, _, _, _, _, _, _, _, _, _, _, _, _, _, _, _, _, _, _, _, _, _, _, _, _, _, _, _], defers := [] } _
          refine wpAnyH_take (i := 12) (v := .bool true) rfl (by kernel_rfl) (by kernel_rfl) (by kernel_rfl) (fun _ _ _ h => h) (Or.inl ⟨rfl, by intro w hS; have hr := hroom.out; first | (go_simp; done) | (go_simp; omega)⟩) hS ?_
          change wpAnyH _ _ _ _ _ _ _ { tmps := #[_, _, _, _, _, _, _, _, _, _, _, _, _, _, _, _, _, _, _, _, _, _, _, _, _, _, _, _, _, _, _, _, _, _, _, _, _, _, _, _, _, _, _, _, _, _, _, _, _, _, _, _, _, _, _, _, _, _, _, _, _, _, _, _, _, _, _, _, _, _, _, _, _, _, _, _, _, _, _, _, _, _, _, _, _, _, _, _, _, _, _, _], defers := [] } _
          refine wpAnyH_take (i := 13) (v := .bool true) rfl (by kernel_rfl) (by kernel_rfl) (by kernel_rfl) (fun _ _ _ h => h) (Or.inl ⟨rfl, by intro w hS; go_simp⟩) hS ?_
          change wpAnyH _ _ _ _ _ _ _ { tmps := #[_, _, _, _, _, _, _, _, _, _, _, _, _, _, _, _, _, _, _, _, _, _, _, _, _, _, _, _, _, _, _, _, _, _, _, _, _, _, _, _, _, _, _, _, _, _, _, _, _, _, _, _, _, _, _, _, _, _, _, _, _, _, _, _, _, _, _, _, _, _, _, _, _, _, _, _, _, _, _, _, _, _, _, _, _, _, _, _, _, _, _, _], defers := [] } _
          refine wpAnyH_take (i := 14) (v := .bool true) rfl (by kernel_rfl) (by kernel_rfl) (by kernel_rfl) (fun _ _ _ h => h) (Or.inl ⟨rfl, by intro w hS; go_simp⟩) hS ?_
          change wpAnyH _ _ _ _ _ _ _ { tmps := #[_, _, _, _, _, _, _, _, _, _, _, _, _, _, _, _, _, _, _, _, _, _, _, _, _, _, _, _, _, _, _, _, _, _, _, _, _, _, _, _, _, _, _, _, _, _, _, _, _, _, _, _, _, _, _, _, _, _, _, _, _, _, _, _, _, _, _, _, _, _, _, _, _, _, _, _, _, _, _, _, _, _, _, _, _, _, _, _, _, _, _, _], defers := [] } _
          refine wpAnyH_done (by kernel_rfl) ?_ _
          refine NoPanic.normal ?_
          obtain ⟨⟨cs0, cs1, cs2, cs3, cs4⟩, ds0, ds1, ds2, ds3, ds4⟩ := Ks16.out.of5
          obtain ⟨⟨cx0, cx1, cx2, cx3, cx4⟩, dx0, dx1, dx2, dx3, dx4⟩ := Kx16.out.of5
          go_wp2_with fail
          go_ret
          exact ⟨rfl, B16.out⟩
        | false =>
          have hn2 := hnext.out
          rw [if_pos ⟨rfl, rfl⟩] at hn2
          have hc1 : IntKind.i64.wrap ((c : Int) + 1) = (c : Int) + 1 := IntWalk.i64_in _ (by omega)
          have SA := seqAddI_s n ((c : Int) + 1)
          rw [show pl (n + ((c : Int) + 1)) = n2 from hn2] at SA
          clear hn2
          replace SA := Lib.hid SA
          obtain ⟨⟨cs0, cs1, cs2, cs3, cs4⟩, ds0, ds1, ds2, ds3, ds4⟩ := Ks12.out.of5
          obtain ⟨⟨cx0, cx1, cx2, cx3, cx4⟩, dx0, dx1, dx2, dx3, dx4⟩ := Kx12.out.of5
          go_upto_region 14 with fail
          clear cs0 cs1 cs2 cs3 cs4 ds0 ds1 ds2 ds3 ds4 cx0 cx1 cx2 cx3 cx4 dx0 dx1 dx2 dx3 dx4
          refine wp_region_noPanic ?_
          refine wp_region_held_drew (S := fun w' => Blk w' g_x [.int .i64 n2, .string d2, .slice a1 rs2.length c1, .int .i64 f2, .bool true] ∧ Blk w' g_s [.int .i64 n, .string d, .slice a rs.length cap, .int .i64 f, .bool false]) (by kernel_rfl) ⟨Kx12.out, Ks12.out⟩ (fun hS => ?_)
          have B13 := Lib.hid (show Below w.heap.size w v12.drew from B12.out.drew)
          have Ks13 := Lib.hid (show Blk v12.drew g_s [.int .i64 n, .string d, .slice a rs.length cap, .int .i64 f, .bool false] from Ks12.out.drew)
          have Kx13 := Lib.hid (show Blk v12.drew g_x [.int .i64 n2, .string d2, .slice a1 rs2.length c1, .int .i64 f2, .bool true] from Kx12.out.drew)
          have Np13 := Lib.hid (own_below Np12.out (Below.refl _ v12).drew)
          have Nx13 := Lib.hid (own_below Nx12.out (Below.refl _ v12).drew)
          clear hS B12 Ks12 Kx12 Np12 Nx12
          generalize v12.drew = v13 at B13 Ks13 Kx13 Np13 Nx13 ⊢
          have hS : Blk v13 g_x [.int .i64 n2, .string d2, .slice a1 rs2.length c1, .int .i64 f2, .bool true] ∧ Blk v13 g_s [.int .i64 n, .string d, .slice a rs.length cap, .int .i64 f, .bool false] := ⟨Kx13.out, Ks13.out⟩
          refine wpAnyH_take (i := 0) (v := .pointer (some ⟨g_s, 0, none⟩)) rfl (by kernel_rfl) (by kernel_rfl) (by kernel_rfl) (fun _ _ _ h => h) (Or.inl ⟨rfl, by intro w hS; go_simp⟩) hS ?_
          change wpAnyH _ _ _ _ _ _ _ { tmps := #[_, _, _, _, _, _, _, _, _, _, _, _, _, _, _, _, _, _, _, _, _, _, _, _, _, _, _, _, _, _, _, _, _, _, _, _, _, _, _, _, _, _, _, _, _, _, _, _, _, _, _, _, _, _, _, _, _, _, _, _, _, _, _, _, _, _, _, _, _, _, _, _, _, _, _, _, _, _, _, _, _, _, _, _, _, _, _, _, _, _, _, _], defers := [] } _
          refine wpAnyH_take (i := 1) (v := .int .i64 n) rfl (by kernel_rfl) (by kernel_rfl) (by kernel_rfl) (fun _ _ _ h => h) (Or.inl ⟨rfl, by intro w hS; obtain ⟨⟨hh0, hh1, hh2, hh3, hh4⟩, _⟩ := hS.2.of5; go_simp⟩) hS ?_
          change wpAnyH _ _ _ _ _ _ _ { tmps := #[_, _, _, _, _, _, _, _, _, _, _, _, _, _, _, _, _, _, _, _, _, _, _, _, _, _, _, _, _, _, _, _, _, _, _, _, _, _, _, _, _, _, _, _, _, _, _, _, _, _, _, _, _, _, _, _, _, _, _, _, _, _, _, _, _, _, _, _, _, _, _, _, _, _, _, _, _, _, _, _, _, _, _, _, _, _, _, _, _, _, _, _], defers := [] } _
          refine wpAnyH_take (i := 2) (v := .int .i64 ((c : Int) + 1)) rfl (by kernel_rfl) (by kernel_rfl) (by kernel_rfl) (fun _ _ _ h => h) (Or.inl ⟨rfl, by intro w hS; go_simp⟩) hS ?_
          change wpAnyH _ _ _ _ _ _ _ { tmps := #[_, _, _, _, _, _, _, _, _, _, _, _, _, _, _, _, _, _, _, _, _, _, _, _, _, _, _, _, _, _, _, _, _, _, _, _, _, _, _, _, _, _, _, _, _, _, _, _, _, _, _, _, _, _, _, _, _, _, _, _, _, _, _, _, _, _, _, _, _, _, _, _, _, _, _, _, _, _, _, _, _, _, _, _, _, _, _, _, _, _, _, _], defers := [] } _
          refine wpAnyH_take (i := 4) (v := .pointer (some ⟨g_x, 0, none⟩)) rfl (by kernel_rfl) (by kernel_rfl) (by kernel_rfl) (fun _ _ _ h => h) (Or.inl ⟨rfl, by intro w hS; go_simp⟩) hS ?_
          change wpAnyH _ _ _ _ _ _ _ { tmps := #[_, _, _, _, _, _, _, _, _, _, _, _, _, _, _, _, _, _, _, _, _, _, _, _, _, _, _, _, _, _, _, _, _, _, _, _, _, _, _, _, _, _, _, _, _, _, _, _, _, _, _, _, _, _, _, _, _, _, _, _, _, _, _, _, _, _, _, _, _, _, _, _, _, _, _, _, _, _, _, _, _, _, _, _, _, _, _, _, _, _, _, _], defers := [] } _
          refine wpAnyH_take (i := 5) (v := .int .i64 n2) rfl (by kernel_rfl) (by kernel_rfl) (by kernel_rfl) (fun _ _ _ h => h) (Or.inl ⟨rfl, by intro w hS; obtain ⟨⟨hh0, hh1, hh2, hh3, hh4⟩, _⟩ := hS.1.of5; go_simp⟩) hS ?_
          change wpAnyH _ _ _ _ _ _ _ { tmps := #[_, _, _, _, _, _, _, _, _, _, _, _, _, _, _, _, _, _, _, _, _, _, _, _, _, _, _, _, _, _, _, _, _, _, _, _, _, _, _, _, _, _, _, _, _, _, _, _, _, _, _, _, _, _, _, _, _, _, _, _, _, _, _, _, _, _, _, _, _, _, _, _, _, _, _, _, _, _, _, _, _, _, _, _, _, _, _, _, _, _, _, _], defers := [] } _
          refine wpAnyH_ready (rs := [3]) (by kernel_rfl) (by simp) ?_
          refine AllReadyH.cons (i := 3) rfl (fun K hK => ?zq16) AllReadyH.nil
          rw [if_pos (by first | rfl | kernel_rfl)]
          go_simp
          clear hS
          refine (SA.out _).mono ?_
          rintro e v14 ⟨rfl, hb⟩
          have B14 := Lib.hid (B13.out.trans (hb.mono B13.out.size))
          have Ks14 := Lib.hid (Ks13.out.below hb)
          have Kx14 := Lib.hid (Kx13.out.below hb)
          have Np14 := Lib.hid (own_below Np13.out hb)
          have Nx14 := Lib.hid (own_below Nx13.out hb)
          clear hb B13 Ks13 Kx13 Np13 Nx13
          refine hK.out _ _ ⟨Kx14.out, Ks14.out⟩ (fun hS => ?_)
          clear hK K
          change wpAnyH _ _ _ _ _ _ _ { tmps := #[_, _, _, _, _, _, _, _, _, _, _, _, _, _, _, _, _, _, _, _, _, _, _, _, _, _, _, _, _, _, _, _, _, _, _, _, _, _, _, _, _, _, _, _, _, _, _, _, _, _, _, _, _, _, _, _, _, _, _, _, _, _, _, _, _, _, _, _, _, _, _, _, _, _, _, _, _, _, _, _, _, _, _, _, _, _, _, _, _, _, _, _], defers := [] } _
          refine wpAnyH_take (i := 6) (v := .bool true) rfl (by kernel_rfl) (by kernel_rfl) (by kernel_rfl) (fun _ _ _ h => h) (Or.inl ⟨rfl, by intro w hS; go_simp⟩) hS ?_
          change wpAnyH _ _ _ _ _ _ _ { tmps := #[_, _, _, _, _, _, _, _, _, _, _, _, _, _, _, _, _, _, _, _, _, _, _, _, _, _, _, _, _, _, _, _, _, _, _, _, _, _, _, _, _, _, _, _, _, _, _, _, _, _, _, _, _, _, _, _, _, _, _, _, _, _, _, _, _, _, _, _, _, _, _, _, _, _, _, _, _, _, _, _, _, _, _, _, _, _, _, _, _, _, _, _], defers := [] } _
          refine wpAnyH_take (i := 7) (v := .bool true) rfl (by kernel_rfl) (by kernel_rfl) (by kernel_rfl) (fun _ _ _ h => h) (Or.inl ⟨rfl, by intro w hS; go_simp⟩) hS ?_
          change wpAnyH _ _ _ _ _ _ _ { tmps := #[_, _, _, _, _, _, _, _, _, _, _, _, _, _, _, _, _, _, _, _, _, _, _, _, _, _, _, _, _, _, _, _, _, _, _, _, _, _, _, _, _, _, _, _, _, _, _, _, _, _, _, _, _, _, _, _, _, _, _, _, _, _, _, _, _, _, _, _, _, _, _, _, _, _, _, _, _, _, _, _, _, _, _, _, _, _, _, _, _, _, _, _], defers := [] } _
          refine wpAnyH_take (i := 8) (v := .agg #[.int .i64 n2, .string d2, .slice a1 rs2.length c1, .int .i64 f2, .bool true]) rfl (by kernel_rfl) (by kernel_rfl) (by kernel_rfl) (fun _ _ _ h => h) (Or.inl ⟨rfl, by intro w hS; obtain ⟨⟨hh0, hh1, hh2, hh3, hh4⟩, _⟩ := hS.1.of5; go_simp⟩) hS ?_
          change wpAnyH _ _ _ _ _ _ _ { tmps := #[_, _, _, _, _, _, _, _, _, _, _, _, _, _, _, _, _, _, _, _, _, _, _, _, _, _, _, _, _, _, _, _, _, _, _, _, _, _, _, _, _, _, _, _, _, _, _, _, _, _, _, _, _, _, _, _, _, _, _, _, _, _, _, _, _, _, _, _, _, _, _, _, _, _, _, _, _, _, _, _, _, _, _, _, _, _, _, _, _, _, _, _], defers := [] } _
          refine wpAnyH_take (i := 10) (v := .agg #[.int .i64 n, .string d, .slice a rs.length cap, .int .i64 f, .bool false]) rfl (by kernel_rfl) (by kernel_rfl) (by kernel_rfl) (fun _ _ _ h => h) (Or.inl ⟨rfl, by intro w hS; obtain ⟨⟨hh0, hh1, hh2, hh3, hh4⟩, _⟩ := hS.2.of5; go_simp⟩) hS ?_
          change wpAnyH _ _ _ _ _ _ _ { tmps := #[_, _, _, _, _, _, _, _, _, _, _, _, _, _, _, _, _, _, _, _, _, _, _, _, _, _, _, _, _, _, _, _, _, _, _, _, _, _, _, _, _, _, _, _, _, _, _, _, _, _, _, _, _, _, _, _, _, _, _, _, _, _, _, _, _, _, _, _, _, _, _, _, _, _, _, _, _, _, _, _, _, _, _, _, _, _, _, _, _, _, _, _], defers := [] } _
          refine wpAnyH_ready (rs := [9]) (by kernel_rfl) (by simp) ?_
          refine AllReadyH.cons (i := 9) rfl (fun K hK => ?zq17) AllReadyH.nil
          rw [if_pos (by first | rfl | kernel_rfl)]
          go_simp
          clear hS
          refine (W2.out a1 c1 _).mono ?_
          rintro e v15 ⟨rfl, hb⟩
          have B15 := Lib.hid (B14.out.trans (hb.mono B14.out.size))
          have Ks15 := Lib.hid (Ks14.out.below hb)
          have Kx15 := Lib.hid (Kx14.out.below hb)
          have Np15 := Lib.hid (own_below Np14.out hb)
          have Nx15 := Lib.hid (own_below Nx14.out hb)
          clear hb B14 Ks14 Kx14 Np14 Nx14
          refine hK.out _ _ ⟨Kx15.out, Ks15.out⟩ (fun hS => ?_)
          clear hK K
          change wpAnyH _ _ _ _ _ _ _ { tmps := #[_, _, _, _, _, _, _, _, _, _, _, _, _, _, _, _, _, _, _, _, _, _, _, _, _, _, _, _, _, _, _, _, _, _, _, _, _, _, _, _, _, _, _, _, _, _, _, _, _, _, _, _, _, _, _, _, _, _, _, _, _, _, _, _, _, _, _, _, _, _, _, _, _, _, _, _, _, _, _, _, _, _, _, _, _, _, _, _, _, _, _, _], defers := [] } _
          refine wpAnyH_ready (rs := [11]) (by kernel_rfl) (by simp) ?_
          refine AllReadyH.cons (i := 11) rfl (fun K hK => ?zq18) AllReadyH.nil
          rw [if_pos (by first | rfl | kernel_rfl)]
          go_simp
          clear hS
          refine (W1.out _).mono ?_
          rintro e v16 ⟨rfl, hb⟩
          have B16 := Lib.hid (B15.out.trans (hb.mono B15.out.size))
          have Ks16 := Lib.hid (Ks15.out.below hb)
          have Kx16 := Lib.hid (Kx15.out.below hb)
          have Np16 := Lib.hid (own_below Np15.out hb)
          have Nx16 := Lib.hid (own_below Nx15.out hb)
          clear hb B15 Ks15 Kx15 Np15 Nx15
          refine hK.out _ _ ⟨Kx16.out, Ks16.out⟩ (fun hS => ?_)
          clear hK K
          change wpAnyH _ _ _ _ _ _ _ { tmps := #[_, _, _, _, _, _, _, _, _, _, _, _, _, _, _, _, _, _, _, _, _, _, _, _, _, _, _, _, _, _, _, _, _, _, _, _, _, _, _, _, _, _, _, _, _, _, _, _, _, _, _, _, _, _, _, _, _, _, _, _, _, _, _, _, _, _, _, _, _, _, _, _, _, _, _, _, _, _, _, _, _, _, _, _, _, _, _, _, _, _, _, _], defers := [] } _
          refine wpAnyH_take (i := 12) (v := .bool true) rfl (by kernel_rfl) (by kernel_rfl) (by kernel_rfl) (fun _ _ _ h => h) (Or.inl ⟨rfl, by intro w hS; have hr := hroom.out; first | (go_simp; done) | (go_simp; omega)⟩) hS ?_
          change wpAnyH _ _ _ _ _ _ _ { tmps := #[_, _, _, _, _, _, _, _, _, _, _, _, _, _, _, _, _, _, _, _, _, _, _, _, _, _, _, _, _, _, _, _, _, _, _, _, _, _, _, _, _, _, _, _, _, _, _, _, _, _, _, _, _, _, _, _, _, _, _, _, _, _, _, _, _, _, _, _, _, _, _, _, _, _, _, _, _, _, _, _, _, _, _, _, _, _, _, _, _, _, _, _], defers := [] } _
          refine wpAnyH_take (i := 13) (v := .bool true) rfl (by kernel_rfl) (by kernel_rfl) (by kernel_rfl) (fun _ _ _ h => h) (Or.inl ⟨rfl, by intro w hS; go_simp⟩) hS ?_
          change wpAnyH _ _ _ _ _ _ _ { tmps := #[_, _, _, _, _, _, _, _, _, _, _, _, _, _, _, _, _, _, _, _, _, _, _, _, _, _, _, _, _, _, _, _, _, _, _, _, _, _, _, _, _, _, _, _, _, _, _, _, _, _, _, _, _, _, _, _, _, _, _, _, _, _, _, _, _, _, _, _, _, _, _, _, _, _, _, _, _, _, _, _, _, _, _, _, _, _, _, _, _, _, _, _], defers := [] } _
          refine wpAnyH_take (i := 14) (v := .bool true) rfl (by kernel_rfl) (by kernel_rfl) (by kernel_rfl) (fun _ _ _ h => h) (Or.inl ⟨rfl, by intro w hS; go_simp⟩) hS ?_
          change wpAnyH _ _ _ _ _ _ _ { tmps := #[_, _, _, _, _, _, _, _, _, _, _, _, _, _, _, _, _, _, _, _, _, _, _, _, _, _, _, _, _, _, _, _, _, _, _, _, _, _, _, _, _, _, _, _, _, _, _, _, _, _, _, _, _, _, _, _, _, _, _, _, _, _, _, _, _, _, _, _, _, _, _, _, _, _, _, _, _, _, _, _, _, _, _, _, _, _, _, _, _, _, _, _], defers := [] } _
          refine wpAnyH_done (by kernel_rfl) ?_ _
          refine NoPanic.normal ?_
          obtain ⟨⟨cs0, cs1, cs2, cs3, cs4⟩, ds0, ds1, ds2, ds3, ds4⟩ := Ks16.out.of5
          obtain ⟨⟨cx0, cx1, cx2, cx3, cx4⟩, dx0, dx1, dx2, dx3, dx4⟩ := Kx16.out.of5
          go_wp2_with fail
          go_ret
          exact ⟨rfl, B16.out⟩
  · have h1 : 1048576 < s0.length := by omega
    go_enter Try.func3, Try.ntmps3
    go_wp2_with fail
    refine (big_yes _ _ _ _ h1 hm).mono ?_
    rintro e w' ⟨rfl, rfl⟩
    go_wp2_with fail
    go_ret
    exact ⟨rfl, Below.refl _ _⟩
theorem own : ownKnob Try.prog.godebug = none := by kernel_rfl
theorem laidOut : laidOutB Try.prog = true := by kernel_rfl

set_option maxRecDepth 100000 in
theorem lifted (os : Os) (started : os.Started) (H : Type) (enc : TypeId × Value → H) :
    ReturnsInHanded {} Try.checked os 3 .any (Rows.fnReceiverSpec.pre6 enc Try.prog Try.f3 Rows.fnReceiverRow.domain false) (Rows.fnReceiverSpec.post enc Try.prog Try.f3 false true false false) := by
  refine returnsInHanded_of_change (C := Try.checked) own started (by kernel_rfl) Try.func3
    (ChangeSpec.witness6 (enc := enc) (C := Try.checked) false ⟨#[], #[.slice none 0 0], []⟩ 8 (by kernel_rfl) (by kernel_rfl) (by kernel_rfl) (by kernel_rfl)) ?_
  intro W base args ds gs before hval0 hW _ _
  have hval : ∀ (j : Nat) t v, Try.f3.params[j]? = some t → args[j]? = some v → Value.okWide Try.prog W .any base t v := hval0
  have hW' := hW
  obtain ⟨p, q, hA0, hV, rfl, _, _⟩ := hW
  have hA : DataW.TrodAll enc Try.prog W 0 (fun _ => true) true Try.f3.params.toList args.toList ds p := hA0
  rw [Try.params3] at hA hval
  obtain ⟨v0, vs0, d0, ds0, p0, q0, hargs, rfl, rfl, h0, r0⟩ := trodAll_cons hA
  obtain ⟨rfl, rfl, rfl⟩ := trodAll_nil r0
  obtain rfl : args = #[v0] := by cases args; simp_all
  obtain ⟨rfl, rfl⟩ := trodVars_none hV
  obtain ⟨a0, len0, cap0, rfl⟩ := okWide_slice Try.underlying22 (hval 0 22 v0 rfl rfl)
  have k0 := h0
  have lt0 : ∀ x ∈ p0, x.block < W.heap.size := by obtain ⟨m, hm⟩ := k0; exact DataW.trod_lt m _ _ _ hm
  obtain ⟨s0, w0⟩ : ∃ bs : List UInt8, IsBytes W a0 len0 bs := by obtain ⟨fuel, hf⟩ := h0; exact openBytes Try.underlying22 Try.underlying5 (by kernel_rfl) hf
  clear hA0 hval0
  refine (walk a0 len0 cap0 s0 w0).mono fun e W' ⟨he, bel⟩ => ?_
  subst he
  exact ⟨_, rfl, _, _, _, [], _, [], hW', trodAll_mk1 (shut_bool Try.underlying4 _), (trodAll_cons_mk (Below.trod laidOut (by kernel_rfl) (of_decide_eq_true (by kernel_rfl)) k0 bel lt0) trodAll_mk0), rfl, bel.frame _, fun h => by cases h⟩

theorem over : Rows.fnReceiverRow.holds Try.pinned (OpenSpec.ofChange Rows.fnReceiverSpec) :=
  OpenClaim.holds_of_wide 3 Try.f3 rfl rfl rfl rfl rfl rfl rfl ⟨rfl, rfl, rfl, rfl, rfl⟩ rfl rfl rfl rfl rfl (by kernel_rfl) Try.func3 (by kernel_rfl)
    (of_decide_eq_true (by kernel_rfl)) (by unfold Func.isWrapper; first | (rw [if_pos (by decide +kernel)]; kernel_rfl) | (rw [if_neg (by decide +kernel)]; exact ⟨rfl, rfl⟩))
    (fun os started H enc _ => lifted os started H enc)

theorem proved : Rows.FnReceiverSaid := over
#print axioms proved
end Go.Proofs.Ytpbnkkgfjmkcdaa.fnReceiver
