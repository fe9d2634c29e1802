/- Proved here: for every code of at most 1048576 bytes, with the Receiver, the place and the text that are drawn from it, impl.Arrived answers what the model answers; where nothing was held, no end was known and the stream was not done, a second text of other bytes at the same place changes nothing (a longer code is not asked); the call returns true for every argument, without condition. -/
import Derived.Test.YtpbnkkgfjmkcdaaRows
import Derived.Test.YtpbnkkgfjmkcdaaPkFnFirstWins
import Derived.Test.YtpbnkkgfjmkcdaaArrI
import Derived.Test.YtpbnkkgfjmkcdaaArrS
import Derived.Deep.RegionHeld3
import Derived.ProofKit
import Derived.OpenShut
import Derived.ChangeSame
import Derived.ShutString
import Derived.ChangeOld
import Derived.Below
namespace Go.Proofs.Ytpbnkkgfjmkcdaa.fnFirstWins
open Go.ChangeShapes Go.WideShapes Go.ChangeAt Go.RowKit Go.Lib

/-- The law's word: true, and what lay before the call lies as it lay. -/
def OkB (w : World) (e : Ending) (w' : World) : Prop := e = .returned (.bool true) ∧ Below w.heap.size w w'

set_option maxRecDepth 100000 in
set_option maxHeartbeats 8000000 in
theorem walk (a0 : Option Addr) (len0 cap0 : Nat) (s0 : List UInt8) {w : World} (w0 : IsBytes w a0 len0 s0) :
    Calls Try.prog 5 #[.slice a0 len0 cap0] w (OkB w) := by
  obtain ⟨⟨rfl, hm⟩, hrow⟩ := w0
  unfold maxLen at hm
  have HR := Lib.hid hrow
  clear hrow
  by_cases hs : s0.length ≤ 1048576
  · go_enter Try.func5, Try.ntmps5
    go_wp2_with fail
    refine (big_no _ _ _ _ hs).mono ?_
    rintro e w' ⟨rfl, rfl⟩
    go_wp2_with fail
    have B0 := Lib.hid (Below.refl w.heap.size w)
    refine (drawArrived a0 s0 cap0 w HR.out hs).mono ?_
    rintro e v1 ⟨n, d, rs, f, z, a, cap, sq, x, b, rfl, ⟨hbd, hx⟩, ho, hb⟩
    have Np1 := Lib.hid ho
    clear ho
    have B1 := Lib.hid (B0.out.trans (hb.mono B0.out.size))
    clear hb B0
    clear HR hs hm
    have HB := Lib.hid hbd.rb
    have hl4 := hbd.2.1
    have HX := Lib.hid hx
    have AI := fun w h => arrI n f sq z false d x a cap rs HB.out w h
    have AS := fun w h => arrS n f sq z false d x a cap rs HB.out (by omega) w h
    have OKS := fun w h => rcvOkS n f z d a cap rs HB.out w h
    unfold NewRE at AI AS
    obtain ⟨⟨n2, d2, rs2, f2, z2⟩, hX⟩ : ∃ o : Rcv, arrived ⟨n, d, rs, f, z⟩ sq x false = o := ⟨_, rfl⟩
    simp only [hX] at AI AS
    have hB2 : RB d2 rs2 ∧ rs2.length ≤ 1048577 := by
      cases hok : rcvOk ⟨n, d, rs, f, z⟩ with
      | false =>
        have e : arrived ⟨n, d, rs, f, z⟩ sq x false = ⟨n, d, rs, f, z⟩ := by unfold arrived; rw [hok]; rfl
        have e2 := hX.symm.trans e
        injection e2 with e3 e4 e5
        subst e4; subst e5
        exact ⟨HB.out, by omega⟩
      | true =>
        have F := (arr_facts (rcvOk_iff.1 hok) sq x false).ok
        rw [hX] at F
        have q := rb_ok F
        exact ⟨q.1, by have := q.2.2.1; simp only at this; omega⟩
    have HB2 := Lib.hid hB2.1
    have hl2 := Lib.hid hB2.2
    clear hB2 hbd
    have SS := fun a1 a2 c1 c2 w ha hb => sameRcvS n2 n2 f2 f2 d2 d2 z2 z2 a1 a2 c1 c2 rs2 rs2 w ha hb hl2.out
    simp only [sameR_self] at SS
    replace AI := Lib.hid AI
    replace AS := Lib.hid AS
    replace OKS := Lib.hid OKS
    replace SS := Lib.hid SS
    replace hX := Lib.hid hX
    have m_p_s : (.slice a rs.length cap : Value).ownBlock ≠ some v1.heap.size := fun e => by have h1 := (Np1.out.lt _ e).2; omega
    have Npn := Lib.hid (own_below Np1.out ((Below.refl _ v1).alloc (Nat.le_refl _) (.cells #[.int .i64 n, .string d, .slice a rs.length cap, .int .i64 f, .bool z] 26)))
    clear Np1
    have Ksn := Lib.hid (Blk.new v1 [.int .i64 n, .string d, .slice a rs.length cap, .int .i64 f, .bool z] 26)
    have l_s : w.heap.size ≤ v1.heap.size := B1.out.size
    have Bn := Lib.hid (B1.out.alloc B1.out.size (.cells #[.int .i64 n, .string d, .slice a rs.length cap, .int .i64 f, .bool z] 26))
    clear B1
    go_wp2_with fail
    change Calls _ _ _ (v1.alloc (.cells #[.int .i64 n, .string d, .slice a rs.length cap, .int .i64 f, .bool z] 26)) _
    generalize v1.alloc (.cells #[.int .i64 n, .string d, .slice a rs.length cap, .int .i64 f, .bool z] 26) = v2 at Ksn Bn Npn ⊢
    generalize v1.heap.size = g_s at Ksn l_s m_p_s ⊢
    clear v1
    have Ks2 := Ksn
    clear Ksn
    have B2 := Bn
    clear Bn
    have Np2 := Npn
    clear Npn
    refine (AI.out _ (HasP.own Np2.out)).mono ?_
    rintro e v3 ⟨a1, c1, rfl, ho, hb⟩
    have Nx3 := Lib.hid ho
    clear ho
    have B3 := Lib.hid (B2.out.trans (hb.mono B2.out.size))
    have Ks3 := Lib.hid (Ks2.out.below hb)
    have Np3 := Lib.hid (own_below Np2.out hb)
    clear hb B2 Ks2 Np2
    have m_p_x : (.slice a rs.length cap : Value).ownBlock ≠ some v3.heap.size := fun e => by have h1 := (Np3.out.lt _ e).2; omega
    have Npn := Lib.hid (own_below Np3.out ((Below.refl _ v3).alloc (Nat.le_refl _) (.cells #[.int .i64 n2, .string d2, .slice a1 rs2.length c1, .int .i64 f2, .bool z2] 26)))
    clear Np3
    have m_x_x : (.slice a1 rs2.length c1 : Value).ownBlock ≠ some v3.heap.size := fun e => by have h1 := (Nx3.out.lt _ e).2; omega
    have Nxn := Lib.hid (own_below Nx3.out ((Below.refl _ v3).alloc (Nat.le_refl _) (.cells #[.int .i64 n2, .string d2, .slice a1 rs2.length c1, .int .i64 f2, .bool z2] 26)))
    clear Nx3
    have Kxn := Lib.hid (Blk.new v3 [.int .i64 n2, .string d2, .slice a1 rs2.length c1, .int .i64 f2, .bool z2] 26)
    have l_x : w.heap.size ≤ v3.heap.size := B3.out.size
    have n_s_x : g_s ≠ v3.heap.size := by have h1 := Ks3.out.lt; omega
    have Bn := Lib.hid (B3.out.alloc B3.out.size (.cells #[.int .i64 n2, .string d2, .slice a1 rs2.length c1, .int .i64 f2, .bool z2] 26))
    have Ksn := Lib.hid (Ks3.out.alloc (.cells #[.int .i64 n2, .string d2, .slice a1 rs2.length c1, .int .i64 f2, .bool z2] 26))
    clear B3 Ks3
    obtain ⟨⟨cs0, cs1, cs2, cs3, cs4⟩, ds0, ds1, ds2, ds3, ds4⟩ := Ksn.out.of5
    go_upto_region 5 with fail
    clear cs0 cs1 cs2 cs3 cs4 ds0 ds1 ds2 ds3 ds4
    generalize v3.alloc (.cells #[.int .i64 n2, .string d2, .slice a1 rs2.length c1, .int .i64 f2, .bool z2] 26) = v4 at Kxn Bn Ksn Npn Nxn ⊢
    generalize v3.heap.size = g_x at Kxn l_x n_s_x m_p_x m_x_x ⊢
    clear v3
    have Ks4 := Ksn
    clear Ksn
    have Kx4 := Kxn
    clear Kxn
    have B4 := Bn
    clear Bn
    have Np4 := Npn
    clear Npn
    have Nx4 := Nxn
    clear Nxn
    refine wp_region_noPanic ?_
    refine wp_region_held_drew (S := fun w' => Blk w' g_x [.int .i64 n2, .string d2, .slice a1 rs2.length c1, .int .i64 f2, .bool z2] ∧ Blk w' g_s [.int .i64 n, .string d, .slice a rs.length cap, .int .i64 f, .bool z]) (by kernel_rfl) ⟨Kx4.out, Ks4.out⟩ (fun hS => ?_)
    have B5 := Lib.hid (show Below w.heap.size w v4.drew from B4.out.drew)
    have Ks5 := Lib.hid (show Blk v4.drew g_s [.int .i64 n, .string d, .slice a rs.length cap, .int .i64 f, .bool z] from Ks4.out.drew)
    have Kx5 := Lib.hid (show Blk v4.drew g_x [.int .i64 n2, .string d2, .slice a1 rs2.length c1, .int .i64 f2, .bool z2] from Kx4.out.drew)
    have Np5 := Lib.hid (own_below Np4.out (Below.refl _ v4).drew)
    have Nx5 := Lib.hid (own_below Nx4.out (Below.refl _ v4).drew)
    clear hS B4 Ks4 Kx4 Np4 Nx4
    generalize v4.drew = v5 at B5 Ks5 Kx5 Np5 Nx5 ⊢
    have hS : Blk v5 g_x [.int .i64 n2, .string d2, .slice a1 rs2.length c1, .int .i64 f2, .bool z2] ∧ Blk v5 g_s [.int .i64 n, .string d, .slice a rs.length cap, .int .i64 f, .bool z] := ⟨Kx5.out, Ks5.out⟩
    refine wpAnyH_take (i := 0) (v := .agg #[.int .i64 n2, .string d2, .slice a1 rs2.length c1, .int .i64 f2, .bool z2]) rfl (by kernel_rfl) (by kernel_rfl) (by kernel_rfl) (fun _ _ _ h => h) (Or.inl ⟨rfl, by intro w hS; obtain ⟨⟨hh0, hh1, hh2, hh3, hh4⟩, _⟩ := hS.1.of5; go_simp⟩) hS ?_
    change wpAnyH _ _ _ _ _ _ _ { tmps := #[_, _, _, _, _, _, _, _, _, _, _, _, _, _, _, _, _, _, _, _, _, _, _, _, _, _, _, _, _, _, _, _, _, _, _, _, _, _, _, _, _, _, _, _, _, _, _, _, _, _, _, _, _, _, _, _, _, _, _, _, _, _, _, _, _, _, _, _, _, _, _, _, _, _], defers := [] } _
    refine wpAnyH_take (i := 1) (v := .agg #[.int .i64 n, .string d, .slice a rs.length cap, .int .i64 f, .bool z]) rfl (by kernel_rfl) (by kernel_rfl) (by kernel_rfl) (fun _ _ _ h => h) (Or.inl ⟨rfl, by intro w hS; obtain ⟨⟨hh0, hh1, hh2, hh3, hh4⟩, _⟩ := hS.2.of5; go_simp⟩) hS ?_
    change wpAnyH _ _ _ _ _ _ _ { tmps := #[_, _, _, _, _, _, _, _, _, _, _, _, _, _, _, _, _, _, _, _, _, _, _, _, _, _, _, _, _, _, _, _, _, _, _, _, _, _, _, _, _, _, _, _, _, _, _, _, _, _, _, _, _, _, _, _, _, _, _, _, _, _, _, _, _, _, _, _, _, _, _, _, _, _], defers := [] } _
    refine wpAnyH_take (i := 2) (v := .int .i64 sq) rfl (by kernel_rfl) (by kernel_rfl) (by kernel_rfl) (fun _ _ _ h => h) (Or.inl ⟨rfl, by intro w hS; go_simp⟩) hS ?_
    change wpAnyH _ _ _ _ _ _ _ { tmps := #[_, _, _, _, _, _, _, _, _, _, _, _, _, _, _, _, _, _, _, _, _, _, _, _, _, _, _, _, _, _, _, _, _, _, _, _, _, _, _, _, _, _, _, _, _, _, _, _, _, _, _, _, _, _, _, _, _, _, _, _, _, _, _, _, _, _, _, _, _, _, _, _, _, _], defers := [] } _
    refine wpAnyH_take (i := 3) (v := .string x) rfl (by kernel_rfl) (by kernel_rfl) (by kernel_rfl) (fun _ _ _ h => h) (Or.inl ⟨rfl, by intro w hS; go_simp⟩) hS ?_
    change wpAnyH _ _ _ _ _ _ _ { tmps := #[_, _, _, _, _, _, _, _, _, _, _, _, _, _, _, _, _, _, _, _, _, _, _, _, _, _, _, _, _, _, _, _, _, _, _, _, _, _, _, _, _, _, _, _, _, _, _, _, _, _, _, _, _, _, _, _, _, _, _, _, _, _, _, _, _, _, _, _, _, _, _, _, _, _], defers := [] } _
    refine wpAnyH_ready (rs := [4]) (by kernel_rfl) (by simp) ?_
    refine AllReadyH.cons (i := 4) rfl (fun K hK => ?zq1) AllReadyH.nil
    rw [if_pos (by first | rfl | kernel_rfl)]
    go_simp
    clear hS
    refine (AS.out _ (HasP.own Np5.out)).mono ?_
    rintro e v6 ⟨a2, c2, rfl, ho, hb⟩
    have Ny6 := Lib.hid ho
    clear ho
    have B6 := Lib.hid (B5.out.trans (hb.mono B5.out.size))
    have Ks6 := Lib.hid (Ks5.out.below hb)
    have Kx6 := Lib.hid (Kx5.out.below hb)
    have Np6 := Lib.hid (own_below Np5.out hb)
    have Nx6 := Lib.hid (own_below Nx5.out hb)
    clear hb B5 Ks5 Kx5 Np5 Nx5
    refine hK.out _ _ ⟨Kx6.out, Ks6.out⟩ (fun hS => ?_)
    clear hK K
    change wpAnyH _ _ _ _ _ _ _ { tmps := #[_, _, _, _, _, _, _, _, _, _, _, _, _, _, _, _, _, _, _, _, _, _, _, _, _, _, _, _, _, _, _, _, _, _, _, _, _, _, _, _, _, _, _, _, _, _, _, _, _, _, _, _, _, _, _, _, _, _, _, _, _, _, _, _, _, _, _, _, _, _, _, _, _, _], defers := [] } _
    refine wpAnyH_ready (rs := [5]) (by kernel_rfl) (by simp) ?_
    refine AllReadyH.cons (i := 5) rfl (fun K hK => ?zq2) AllReadyH.nil
    rw [if_pos (by first | rfl | kernel_rfl)]
    go_simp
    clear hS
    refine (SS.out a1 a2 c1 c2 _ (Row.ownV Nx6.out) (Row.ownV Ny6.out)).mono ?_
    rintro e v7 ⟨rfl, hb⟩
    have B7 := Lib.hid (B6.out.trans (hb.mono B6.out.size))
    have Ks7 := Lib.hid (Ks6.out.below hb)
    have Kx7 := Lib.hid (Kx6.out.below hb)
    have Np7 := Lib.hid (own_below Np6.out hb)
    have Nx7 := Lib.hid (own_below Nx6.out hb)
    have Ny7 := Lib.hid (own_below Ny6.out hb)
    clear hb B6 Ks6 Kx6 Np6 Nx6 Ny6
    refine hK.out _ _ ⟨Kx7.out, Ks7.out⟩ (fun hS => ?_)
    clear hK K
    change wpAnyH _ _ _ _ _ _ _ { tmps := #[_, _, _, _, _, _, _, _, _, _, _, _, _, _, _, _, _, _, _, _, _, _, _, _, _, _, _, _, _, _, _, _, _, _, _, _, _, _, _, _, _, _, _, _, _, _, _, _, _, _, _, _, _, _, _, _, _, _, _, _, _, _, _, _, _, _, _, _, _, _, _, _, _, _], defers := [] } _
    refine wpAnyH_take (i := 6) (v := .bool false) rfl (by kernel_rfl) (by kernel_rfl) (by kernel_rfl) (fun _ _ _ h => h) (Or.inl ⟨rfl, by intro w hS; go_simp⟩) hS ?_
    change wpAnyH _ _ _ _ _ _ _ { tmps := #[_, _, _, _, _, _, _, _, _, _, _, _, _, _, _, _, _, _, _, _, _, _, _, _, _, _, _, _, _, _, _, _, _, _, _, _, _, _, _, _, _, _, _, _, _, _, _, _, _, _, _, _, _, _, _, _, _, _, _, _, _, _, _, _, _, _, _, _, _, _, _, _, _, _], defers := [] } _
    refine wpAnyH_done (by kernel_rfl) ?_ _
    refine NoPanic.normal ?_
    clear AS SS
    obtain ⟨cp, v8, hcv, hcap, hlaid, hb⟩ := bytes_new2 (P := Try.prog) v7 9 22 5 x Try.underlying9 Try.underlying22 Try.underlying5
    have hlb : v7.heap.size ≤ v7.heap.size := Nat.le_refl _
    have l_b := B7.out.size
    have n_s_b : g_s ≠ v7.heap.size := by have h1 := Ks7.out.lt; omega
    have Ks8 := Lib.hid (Ks7.out.below hb)
    have n_x_b : g_x ≠ v7.heap.size := by have h1 := Kx7.out.lt; omega
    have Kx8 := Lib.hid (Kx7.out.below hb)
    have m_p_b : (.slice a rs.length cap : Value).ownBlock ≠ some v7.heap.size := fun e => by have h1 := (Np7.out.lt _ e).2; omega
    have Np8 := Lib.hid (own_below Np7.out hb)
    have m_x_b : (.slice a1 rs2.length c1 : Value).ownBlock ≠ some v7.heap.size := fun e => by have h1 := (Nx7.out.lt _ e).2; omega
    have Nx8 := Lib.hid (own_below Nx7.out hb)
    have B8 := Lib.hid (B7.out.trans (hb.mono B7.out.size))
    clear hb hlb B7 Ks7 Kx7 Np7 Nx7
    generalize v7.heap.size = g_b at hcv hlaid l_b n_s_b n_x_b m_p_b m_x_b
    have hl : x.data.toList.length = x.size := by simp
    have L0 := Lib.hid hlaid
    clear hlaid
    have hx8 := HX.out
    go_wp2_with fail
    clear hcv
    go_loopw [9] (fun i wr => ∃ k : Nat, k ≤ x.size ∧ i = .int .i64 k ∧ ∃ l : List UInt8, Hid (l.length = x.size) ∧ Hid (Laid8 wr g_b l) ∧ Hid (v8.grownBy wr (some g_b)))
      (fun i _ => x.size - (RowKit.intOf i).toNat)
    case atStart => exact ⟨0, Nat.zero_le _, rfl, x.data.toList, hl, L0, World.grownBy.refl _ _⟩
    case round =>
      obtain ⟨k, hk, rfl, l, HL, HLd, HGr⟩ := hrel
      by_cases hlt : k < x.size
      case pos =>
        have hlk : k < l.length := by have := HL.out; omega
        have hcell := HLd.out.1 k hlk
        have hfz := HLd.out.2 k hlk
        have hxx : bits .xor .u8 (l[k].toNat : Int) 255 = ((l[k] ^^^ 255).toNat : Int) := xor_bits l[k] 255
        have L2 := Lib.hid (HLd.out.set hlk (l[k] ^^^ 255))
        have G2 := Lib.hid (grown_set HGr.out k (.int .u8 ((l[k] ^^^ 255).toNat : Int)))
        have HL2 := Lib.hid (show (l.set k (l[k] ^^^ 255)).length = x.size by rw [List.length_set]; exact HL.out)
        generalize l.set k (l[k] ^^^ 255) = l2 at L2 HL2
        generalize l[k] ^^^ 255 = q at hxx L2 G2
        generalize l[k] = q0 at hcell hxx
        clear hlk HL HLd HGr
        go_wp2_with fail
        go_roundw
        case rel => exact ⟨k + 1, by omega, by go_num, l2, HL2.out, L2, G2⟩
        case measure => simp [RowKit.intOf]; omega
      obtain rfl : k = x.size := by omega
      have Ks9 := Lib.hid (Ks8.out.grown HGr.out n_s_b)
      have Kx9 := Lib.hid (Kx8.out.grown HGr.out n_x_b)
      have Np9 := Lib.hid (Np8.out.kept HGr.out (.inr m_p_b))
      have Nx9 := Lib.hid (Nx8.out.kept HGr.out (.inr m_x_b))
      have B9 := Lib.hid (B8.out.trans (grown_below HGr.out l_b B8.out.size))
      have hlx := HL.out
      have hcv := HLd.out.conv (P := Try.prog) 22 9 5 cp x.size (by omega) Try.underlying22 Try.underlying5 Try.underlying9
      rw [List.take_of_length_le (by omega)] at hcv
      have hys : (⟨l.toArray⟩ : ByteArray).size = x.size := by show l.toArray.size = _; simpa using hlx
      generalize (⟨l.toArray⟩ : ByteArray) = x2 at hcv hys
      have HY := Lib.hid hys
      have AI2 := fun a1 c1 w h => arrI n2 f2 sq z2 false d2 x2 a1 c1 rs2 HB2.out w h
      unfold NewRE at AI2
      obtain ⟨⟨n3, d3, rs3, f3, z3⟩, hX3⟩ : ∃ o : Rcv, arrived ⟨n2, d2, rs2, f2, z2⟩ sq x2 false = o := ⟨_, rfl⟩
      simp only [hX3] at AI2
      clear hys hlx HLd HGr HL L0 hl B8 Ks8 Kx8 Np8 Nx8
      replace AI2 := Lib.hid AI2
      replace hX3 := Lib.hid hX3
      obtain ⟨⟨cs0, cs1, cs2, cs3, cs4⟩, ds0, ds1, ds2, ds3, ds4⟩ := Ks9.out.of5
      obtain ⟨⟨cx0, cx1, cx2, cx3, cx4⟩, dx0, dx1, dx2, dx3, dx4⟩ := Kx9.out.of5
      go_wp2_with fail
      clear cs0 cs1 cs2 cs3 cs4 ds0 ds1 ds2 ds3 ds4 cx0 cx1 cx2 cx3 cx4 dx0 dx1 dx2 dx3 dx4
      clear hcv
      refine (AI2.out a1 c1 _ (HasP.own Nx9.out)).mono ?_
      rintro e v10 ⟨a3, c3, rfl, ho, hb⟩
      have Ny10 := Lib.hid ho
      clear ho
      have B10 := Lib.hid (B9.out.trans (hb.mono B9.out.size))
      have Ks10 := Lib.hid (Ks9.out.below hb)
      have Kx10 := Lib.hid (Kx9.out.below hb)
      have Np10 := Lib.hid (own_below Np9.out hb)
      have Nx10 := Lib.hid (own_below Nx9.out hb)
      clear hb B9 Ks9 Kx9 Np9 Nx9
      have m_p_y : (.slice a rs.length cap : Value).ownBlock ≠ some v10.heap.size := fun e => by have h1 := (Np10.out.lt _ e).2; omega
      have Npn := Lib.hid (own_below Np10.out ((Below.refl _ v10).alloc (Nat.le_refl _) (.cells #[.int .i64 n3, .string d3, .slice a3 rs3.length c3, .int .i64 f3, .bool z3] 26)))
      clear Np10
      have m_x_y : (.slice a1 rs2.length c1 : Value).ownBlock ≠ some v10.heap.size := fun e => by have h1 := (Nx10.out.lt _ e).2; omega
      have Nxn := Lib.hid (own_below Nx10.out ((Below.refl _ v10).alloc (Nat.le_refl _) (.cells #[.int .i64 n3, .string d3, .slice a3 rs3.length c3, .int .i64 f3, .bool z3] 26)))
      clear Nx10
      have m_y_y : (.slice a3 rs3.length c3 : Value).ownBlock ≠ some v10.heap.size := fun e => by have h1 := (Ny10.out.lt _ e).2; omega
      have Nyn := Lib.hid (own_below Ny10.out ((Below.refl _ v10).alloc (Nat.le_refl _) (.cells #[.int .i64 n3, .string d3, .slice a3 rs3.length c3, .int .i64 f3, .bool z3] 26)))
      clear Ny10
      have Kyn := Lib.hid (Blk.new v10 [.int .i64 n3, .string d3, .slice a3 rs3.length c3, .int .i64 f3, .bool z3] 26)
      have l_y : w.heap.size ≤ v10.heap.size := B10.out.size
      have n_s_y : g_s ≠ v10.heap.size := by have h1 := Ks10.out.lt; omega
      have n_x_y : g_x ≠ v10.heap.size := by have h1 := Kx10.out.lt; omega
      have Bn := Lib.hid (B10.out.alloc B10.out.size (.cells #[.int .i64 n3, .string d3, .slice a3 rs3.length c3, .int .i64 f3, .bool z3] 26))
      have Ksn := Lib.hid (Ks10.out.alloc (.cells #[.int .i64 n3, .string d3, .slice a3 rs3.length c3, .int .i64 f3, .bool z3] 26))
      have Kxn := Lib.hid (Kx10.out.alloc (.cells #[.int .i64 n3, .string d3, .slice a3 rs3.length c3, .int .i64 f3, .bool z3] 26))
      clear B10 Ks10 Kx10
      obtain ⟨⟨cs0, cs1, cs2, cs3, cs4⟩, ds0, ds1, ds2, ds3, ds4⟩ := Ksn.out.of5
      obtain ⟨⟨cx0, cx1, cx2, cx3, cx4⟩, dx0, dx1, dx2, dx3, dx4⟩ := Kxn.out.of5
      go_wp2_with fail
      clear cs0 cs1 cs2 cs3 cs4 ds0 ds1 ds2 ds3 ds4 cx0 cx1 cx2 cx3 cx4 dx0 dx1 dx2 dx3 dx4
      change Calls _ _ _ (v10.alloc (.cells #[.int .i64 n3, .string d3, .slice a3 rs3.length c3, .int .i64 f3, .bool z3] 26)) _
      generalize v10.alloc (.cells #[.int .i64 n3, .string d3, .slice a3 rs3.length c3, .int .i64 f3, .bool z3] 26) = v11 at Kyn Bn Ksn Kxn Npn Nxn Nyn ⊢
      generalize v10.heap.size = g_y at Kyn l_y n_s_y n_x_y m_p_y m_x_y m_y_y ⊢
      clear v10
      have Ks11 := Ksn
      clear Ksn
      have Kx11 := Kxn
      clear Kxn
      have Ky11 := Kyn
      clear Kyn
      have B11 := Bn
      clear Bn
      have Np11 := Npn
      clear Npn
      have Nx11 := Nxn
      clear Nxn
      have Ny11 := Nyn
      clear Nyn
      refine (OKS.out _ (Row.ownV Np11.out)).mono ?_
      rintro e v12 ⟨rfl, hb⟩
      have B12 := Lib.hid (B11.out.trans (hb.mono B11.out.size))
      have Ks12 := Lib.hid (Ks11.out.below hb)
      have Kx12 := Lib.hid (Kx11.out.below hb)
      have Ky12 := Lib.hid (Ky11.out.below hb)
      have Np12 := Lib.hid (own_below Np11.out hb)
      have Nx12 := Lib.hid (own_below Nx11.out hb)
      have Ny12 := Lib.hid (own_below Ny11.out hb)
      clear hb B11 Ks11 Kx11 Ky11 Np11 Nx11 Ny11
      clear OKS AI AI2
      cases hok : rcvOk ⟨n, d, rs, f, z⟩ with
      | false =>
        obtain ⟨⟨cs0, cs1, cs2, cs3, cs4⟩, ds0, ds1, ds2, ds3, ds4⟩ := Ks12.out.of5
        obtain ⟨⟨cx0, cx1, cx2, cx3, cx4⟩, dx0, dx1, dx2, dx3, dx4⟩ := Kx12.out.of5
        obtain ⟨⟨cy0, cy1, cy2, cy3, cy4⟩, dy0, dy1, dy2, dy3, dy4⟩ := Ky12.out.of5
        go_wp2_with fail
        go_ret
        exact ⟨rfl, B12.out⟩
      | true =>
        by_cases hr0 : rs.length = 0
        case neg =>
          have hpos : 0 < rs.length := by omega
          obtain ⟨⟨cs0, cs1, cs2, cs3, cs4⟩, ds0, ds1, ds2, ds3, ds4⟩ := Ks12.out.of5
          obtain ⟨⟨cx0, cx1, cx2, cx3, cx4⟩, dx0, dx1, dx2, dx3, dx4⟩ := Kx12.out.of5
          obtain ⟨⟨cy0, cy1, cy2, cy3, cy4⟩, dy0, dy1, dy2, dy3, dy4⟩ := Ky12.out.of5
          go_wp2_with fail
          go_ret
          exact ⟨rfl, B12.out⟩
        obtain rfl : rs = [] := List.eq_nil_of_length_eq_zero hr0
        clear hr0
        have hfc := (rcvOk_iff.1 hok).2.2.2.1
        simp only at hfc
        cases z with
        | true =>
          clear hfc
          obtain ⟨⟨cs0, cs1, cs2, cs3, cs4⟩, ds0, ds1, ds2, ds3, ds4⟩ := Ks12.out.of5
          obtain ⟨⟨cx0, cx1, cx2, cx3, cx4⟩, dx0, dx1, dx2, dx3, dx4⟩ := Kx12.out.of5
          obtain ⟨⟨cy0, cy1, cy2, cy3, cy4⟩, dy0, dy1, dy2, dy3, dy4⟩ := Ky12.out.of5
          go_wp2_with fail
          go_ret
          exact ⟨rfl, B12.out⟩
        | false =>
          by_cases hf : f = -1
          case neg =>
            have hf0 : 0 ≤ f := by omega
            clear hfc hf
            obtain ⟨⟨cs0, cs1, cs2, cs3, cs4⟩, ds0, ds1, ds2, ds3, ds4⟩ := Ks12.out.of5
            obtain ⟨⟨cx0, cx1, cx2, cx3, cx4⟩, dx0, dx1, dx2, dx3, dx4⟩ := Kx12.out.of5
            obtain ⟨⟨cy0, cy1, cy2, cy3, cy4⟩, dy0, dy1, dy2, dy3, dy4⟩ := Ky12.out.of5
            go_wp2_with fail
            go_ret
            exact ⟨rfl, B12.out⟩
          subst hf
          have e := hX3.out.symm.trans ((congrArg (fun r => arrived r sq x2 false) hX.out.symm).trans ((first_wins (rcvOk_iff.1 hok) HY.out).trans hX.out))
          injection e with e1 e2 e3 e4 e5
          subst e1 e2 e3 e4 e5
          clear hfc hok
          have SS := fun a1 a2 c1 c2 w ha hb => sameRcvS n3 n3 f3 f3 d3 d3 z3 z3 a1 a2 c1 c2 rs3 rs3 w ha hb hl2.out
          simp only [sameR_self] at SS
          replace SS := Lib.hid SS
          obtain ⟨⟨cs0, cs1, cs2, cs3, cs4⟩, ds0, ds1, ds2, ds3, ds4⟩ := Ks12.out.of5
          obtain ⟨⟨cx0, cx1, cx2, cx3, cx4⟩, dx0, dx1, dx2, dx3, dx4⟩ := Kx12.out.of5
          obtain ⟨⟨cy0, cy1, cy2, cy3, cy4⟩, dy0, dy1, dy2, dy3, dy4⟩ := Ky12.out.of5
          go_wp2_with fail
          clear cs0 cs1 cs2 cs3 cs4 ds0 ds1 ds2 ds3 ds4 cx0 cx1 cx2 cx3 cx4 dx0 dx1 dx2 dx3 dx4 cy0 cy1 cy2 cy3 cy4 dy0 dy1 dy2 dy3 dy4
          refine (SS.out a3 a1 c3 c1 _ (Row.ownV Ny12.out) (Row.ownV Nx12.out)).mono ?_
          rintro e v13 ⟨rfl, hb⟩
          have B13 := Lib.hid (B12.out.trans (hb.mono B12.out.size))
          have Ks13 := Lib.hid (Ks12.out.below hb)
          have Kx13 := Lib.hid (Kx12.out.below hb)
          have Ky13 := Lib.hid (Ky12.out.below hb)
          have Np13 := Lib.hid (own_below Np12.out hb)
          have Nx13 := Lib.hid (own_below Nx12.out hb)
          have Ny13 := Lib.hid (own_below Ny12.out hb)
          clear hb B12 Ks12 Kx12 Ky12 Np12 Nx12 Ny12
          obtain ⟨⟨cs0, cs1, cs2, cs3, cs4⟩, ds0, ds1, ds2, ds3, ds4⟩ := Ks13.out.of5
          obtain ⟨⟨cx0, cx1, cx2, cx3, cx4⟩, dx0, dx1, dx2, dx3, dx4⟩ := Kx13.out.of5
          obtain ⟨⟨cy0, cy1, cy2, cy3, cy4⟩, dy0, dy1, dy2, dy3, dy4⟩ := Ky13.out.of5
          go_wp2_with fail
          go_ret
          exact ⟨rfl, B13.out⟩
  · have h1 : 1048576 < s0.length := by omega
    go_enter Try.func5, Try.ntmps5
    go_wp2_with fail
    refine (big_yes _ _ _ _ h1 hm).mono ?_
    rintro e w' ⟨rfl, rfl⟩
    go_wp2_with fail
    go_ret
    exact ⟨rfl, Below.refl _ _⟩
theorem own : ownKnob Try.prog.godebug = none := by kernel_rfl
theorem laidOut : laidOutB Try.prog = true := by kernel_rfl

set_option maxRecDepth 100000 in
theorem lifted (os : Os) (started : os.Started) (H : Type) (enc : TypeId × Value → H) :
    ReturnsInHanded {} Try.checked os 5 .any (Rows.fnFirstWinsSpec.pre6 enc Try.prog Try.f5 Rows.fnFirstWinsRow.domain false) (Rows.fnFirstWinsSpec.post enc Try.prog Try.f5 false true false false) := by
  refine returnsInHanded_of_change (C := Try.checked) own started (by kernel_rfl) Try.func5
    (ChangeSpec.witness6 (enc := enc) (C := Try.checked) false ⟨#[], #[.slice none 0 0], []⟩ 8 (by kernel_rfl) (by kernel_rfl) (by kernel_rfl) (by kernel_rfl)) ?_
  intro W base args ds gs before hval0 hW _ _
  have hval : ∀ (j : Nat) t v, Try.f5.params[j]? = some t → args[j]? = some v → Value.okWide Try.prog W .any base t v := hval0
  have hW' := hW
  obtain ⟨p, q, hA0, hV, rfl, _, _⟩ := hW
  have hA : DataW.TrodAll enc Try.prog W 0 (fun _ => true) true Try.f5.params.toList args.toList ds p := hA0
  rw [Try.params5] at hA hval
  obtain ⟨v0, vs0, d0, ds0, p0, q0, hargs, rfl, rfl, h0, r0⟩ := trodAll_cons hA
  obtain ⟨rfl, rfl, rfl⟩ := trodAll_nil r0
  obtain rfl : args = #[v0] := by cases args; simp_all
  obtain ⟨rfl, rfl⟩ := trodVars_none hV
  obtain ⟨a0, len0, cap0, rfl⟩ := okWide_slice Try.underlying22 (hval 0 22 v0 rfl rfl)
  have k0 := h0
  have lt0 : ∀ x ∈ p0, x.block < W.heap.size := by obtain ⟨m, hm⟩ := k0; exact DataW.trod_lt m _ _ _ hm
  obtain ⟨s0, w0⟩ : ∃ bs : List UInt8, IsBytes W a0 len0 bs := by obtain ⟨fuel, hf⟩ := h0; exact openBytes Try.underlying22 Try.underlying5 (by kernel_rfl) hf
  clear hA0 hval0
  refine (walk a0 len0 cap0 s0 w0).mono fun e W' ⟨he, bel⟩ => ?_
  subst he
  exact ⟨_, rfl, _, _, _, [], _, [], hW', trodAll_mk1 (shut_bool Try.underlying4 _), (trodAll_cons_mk (Below.trod laidOut (by kernel_rfl) (of_decide_eq_true (by kernel_rfl)) k0 bel lt0) trodAll_mk0), rfl, bel.frame _, fun h => by cases h⟩

theorem over : Rows.fnFirstWinsRow.holds Try.pinned (OpenSpec.ofChange Rows.fnFirstWinsSpec) :=
  OpenClaim.holds_of_wide 5 Try.f5 rfl rfl rfl rfl rfl rfl rfl ⟨rfl, rfl, rfl, rfl, rfl⟩ rfl rfl rfl rfl rfl (by kernel_rfl) Try.func5 (by kernel_rfl)
    (of_decide_eq_true (by kernel_rfl)) (by unfold Func.isWrapper; first | (rw [if_pos (by decide +kernel)]; kernel_rfl) | (rw [if_neg (by decide +kernel)]; exact ⟨rfl, rfl⟩))
    (fun os started H enc _ => lifted os started H enc)

theorem proved : Rows.FnFirstWinsSaid := over
#print axioms proved
end Go.Proofs.Ytpbnkkgfjmkcdaa.fnFirstWins
