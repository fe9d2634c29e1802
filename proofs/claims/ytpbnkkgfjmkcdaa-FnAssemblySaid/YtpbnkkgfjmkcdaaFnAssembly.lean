/- Proved here: for every code of at most 1048576 bytes a receiver that takes fourteen pieces of one stream, in an order and at places that the code gives, answers as the model each time; what has been taken and what has come in order is the beginning of that stream and nothing else, Next stands behind it, and the receiver is valid (a longer code is not asked); the call returns true for every argument, without condition. -/
import Derived.Test.YtpbnkkgfjmkcdaaRows
import Derived.Test.YtpbnkkgfjmkcdaaPkFnAssembly
import Derived.Test.YtpbnkkgfjmkcdaaArrI
import Derived.Test.YtpbnkkgfjmkcdaaArrS
import Derived.Deep.RegionHeld3
import Derived.ProofKit
import Derived.OpenShut
import Derived.ChangeSame
import Derived.Deep.DeepCutAuto
import Derived.ShutString
import Derived.ChangeOld
import Derived.Below
namespace Go.Proofs.Ytpbnkkgfjmkcdaa.fnAssembly
open Go.ChangeShapes Go.WideShapes Go.ChangeAt Go.RowKit Go.Lib

theorem app_letter {l : List UInt8} {off : Int} {c : UInt8} (h : ∀ (i : Nat) (b : UInt8), l[i]? = some b → b = letterU (off + i)) (hc : c = letterU (off + (l.length : Nat))) (i : Nat) (b : UInt8) (hb : (l ++ [c])[i]? = some b) : b = letterU (off + i) := by
  rw [List.getElem?_append] at hb
  split at hb
  · exact h i b hb
  · next hge =>
    by_cases e : i - l.length = 0
    · rw [e] at hb
      have e2 : c = b := by simpa using hb
      rw [← e2, hc]
      congr 2
      omega
    · have : ([c] : List UInt8)[i - l.length]? = none := List.getElem?_eq_none (by simp; omega)
      rw [this] at hb
      cases hb

/-- The law's word: true, and what lay before the call lies as it lay. -/
def OkB (w : World) (e : Ending) (w' : World) : Prop := e = .returned (.bool true) ∧ Below w.heap.size w w'

set_option maxRecDepth 100000 in
set_option maxHeartbeats 16000000 in
theorem walk (a0 : Option Addr) (len0 cap0 : Nat) (s0 : List UInt8) {w : World} (w0 : IsBytes w a0 len0 s0) :
    Calls Try.prog 4 #[.slice a0 len0 cap0] w (OkB w) := by
  obtain ⟨⟨rfl, hm⟩, hrow⟩ := w0
  unfold maxLen at hm
  have HR := Lib.hid hrow
  clear hrow
  by_cases hs : s0.length ≤ 1048576
  · go_enter Try.func4, Try.ntmps4
    obtain ⟨i0, hi, hz0, hz1, hz2⟩ := info_parts Try.info5
    go_wp2_with fail
    refine (big_no _ _ _ _ hs).mono ?_
    rintro e w' ⟨rfl, rfl⟩
    go_wp2_with fail
    have B0 := Lib.hid (Below.refl w.heap.size w)
    refine (drawArrived a0 s0 cap0 w HR.out hs).mono ?_
    rintro e v1 ⟨n, d, rs, f, z, a, cap, sq, x, b, rfl, ⟨hbd, hx⟩, ho, hb⟩
    clear ho hbd hx
    have B1 := Lib.hid (B0.out.trans (hb.mono B0.out.size))
    clear hb B0
    clear hm
    have AT0 : ∀ (i : Nat) (v : World), i ≤ 100 → Below w.heap.size w v → Calls Try.prog 18 #[.slice a0 s0.length cap0, .int .i64 i] v (fun e w' => ∃ q : Int, e = .returned (.int .i64 q) ∧ (0 ≤ q ∧ q ≤ 255) ∧ Below v.heap.size v w') := fun i v hi hb => (at0_any a0 s0 cap0 i hi _ v (HR.out.below hb) hs).mono (fun e w' ⟨q, h1, h2, h3⟩ => ⟨q, h1, h2, by rw [← h3]; exact Below.refl _ _⟩)
    replace AT0 := Lib.hid AT0
    clear HR hs
    obtain ⟨st, hst⟩ : ∃ st : Int, (if 0 ≤ n ∧ n ≤ 4294967295 then n else 5) = st := ⟨_, rfl⟩
    have hst1 : 0 ≤ st ∧ st ≤ 4294967295 := by rw [← hst]; split <;> omega
    have HS := Lib.hid hst1
    replace hst := Lib.hid hst
    clear hst1
    have Ksn := Lib.hid (Blk.new v1 [.int .i64 n, .string d, .slice a rs.length cap, .int .i64 f, .bool z] 26)
    have l_s : w.heap.size ≤ v1.heap.size := B1.out.size
    have Bn := Lib.hid (B1.out.alloc B1.out.size (.cells #[.int .i64 n, .string d, .slice a rs.length cap, .int .i64 f, .bool z] 26))
    clear B1
    go_upto_region 4 with fail
    generalize v1.alloc (.cells #[.int .i64 n, .string d, .slice a rs.length cap, .int .i64 f, .bool z] 26) = v2 at Ksn Bn ⊢
    generalize v1.heap.size = g_s at Ksn l_s ⊢
    clear v1
    have Ks2 := Ksn
    clear Ksn
    have B2 := Bn
    clear Bn
    obtain ⟨⟨cs0, cs1, cs2, cs3, cs4⟩, ds0, ds1, ds2, ds3, ds4⟩ := Ks2.out.of5
    go_upto_region 5 with fail
    clear cs0 cs1 cs2 cs3 cs4 ds0 ds1 ds2 ds3 ds4
    go_cut [35] (fun s35 wx => ∃ q : Bool, s35 = .bool q ∧ Hid (st = bif q then 5 else n) ∧ v2 = wx)
    case first =>
      have h0 := hst.out
      by_cases hc : n < 0
      case pos =>
        have hq := Lib.hid (show st = bif true then 5 else n from by rw [← h0]; exact if_neg (by omega))
        clear h0
        go_wp2_with fail
        go_meet
        exact ⟨true, rfl, hq, rfl⟩
      by_cases hc : 4294967295 < n
      case pos =>
        have hq := Lib.hid (show st = bif true then 5 else n from by rw [← h0]; exact if_neg (by omega))
        clear h0
        go_wp2_with fail
        go_meet
        exact ⟨true, rfl, hq, rfl⟩
      have hq := Lib.hid (show st = bif false then 5 else n from by rw [← h0]; exact if_pos (by omega))
      clear h0
      go_wp2_with fail
      go_meet
      exact ⟨false, rfl, hq, rfl⟩
    case rest =>
    obtain ⟨q, rfl, hq, rfl⟩ := hcut
    go_upto_if 35 with fail
    go_cut [7] (fun s7 wx => s7 = .int .i64 st ∧ v2 = wx)
    case first =>
      cases q with
      | false =>
        go_wp2_with fail
        go_meet
        rw [show st = n from hq.out]
        exact ⟨rfl, rfl⟩
      | true =>
        go_wp2_with fail
        go_meet
        rw [show st = 5 from hq.out]
        exact ⟨rfl, rfl⟩
    case rest =>
    obtain ⟨rfl, rfl⟩ := hcut
    clear hq hst
    obtain ⟨⟨cs0, cs1, cs2, cs3, cs4⟩, ds0, ds1, ds2, ds3, ds4⟩ := Ks2.out.of5
    go_wp2_with fail
    clear cs0 cs1 cs2 cs3 cs4 ds0 ds1 ds2 ds3 ds4
    refine (rcvNewI st _).mono ?_
    rintro e v3 ⟨rfl, hb⟩
    have B3 := Lib.hid (B2.out.trans (hb.mono B2.out.size))
    have Ks3 := Lib.hid (Ks2.out.below hb)
    clear hb B2 Ks2
    have Kxn := Lib.hid (Blk.new v3 [.int .i64 (pl st), .string ⟨#[]⟩, .slice none 0 0, .int .i64 (-1), .bool false] 26)
    have l_x : w.heap.size ≤ v3.heap.size := B3.out.size
    have n_s_x : g_s ≠ v3.heap.size := by have h1 := Ks3.out.lt; omega
    have Bn := Lib.hid (B3.out.alloc B3.out.size (.cells #[.int .i64 (pl st), .string ⟨#[]⟩, .slice none 0 0, .int .i64 (-1), .bool false] 26))
    have Ksn := Lib.hid (Ks3.out.alloc (.cells #[.int .i64 (pl st), .string ⟨#[]⟩, .slice none 0 0, .int .i64 (-1), .bool false] 26))
    clear B3 Ks3
    obtain ⟨⟨cs0, cs1, cs2, cs3, cs4⟩, ds0, ds1, ds2, ds3, ds4⟩ := Ksn.out.of5
    go_upto_region 8 with fail
    clear cs0 cs1 cs2 cs3 cs4 ds0 ds1 ds2 ds3 ds4
    generalize v3.alloc (.cells #[.int .i64 (pl st), .string ⟨#[]⟩, .slice none 0 0, .int .i64 (-1), .bool false] 26) = v4 at Kxn Bn Ksn ⊢
    generalize v3.heap.size = g_x at Kxn l_x n_s_x ⊢
    clear v3
    have Ks4 := Ksn
    clear Ksn
    have Kx4 := Kxn
    clear Kxn
    have B4 := Bn
    clear Bn
    obtain ⟨⟨cs0, cs1, cs2, cs3, cs4⟩, ds0, ds1, ds2, ds3, ds4⟩ := Ks4.out.of5
    obtain ⟨⟨cx0, cx1, cx2, cx3, cx4⟩, dx0, dx1, dx2, dx3, dx4⟩ := Kx4.out.of5
    go_wp2_with fail
    have hs0 := asm_new st
    go_loopw [9, 10] (fun gv iv wr => ∃ (G : ByteArray) (k : Nat), gv = .string G ∧ k ≤ 14 ∧ iv = .int .i64 k ∧ ∃ (n1 f1 : Int) (d1 : ByteArray) (rs1 : List HP) (z1 : Bool) (a1 : Option Addr) (c1 : Nat), Hid (Asm st ⟨n1, d1, rs1, f1, z1⟩ G ∧ G.size + d1.size ≤ 33 * k) ∧ Hid (Blk wr g_x [.int .i64 n1, .string d1, .slice a1 rs1.length c1, .int .i64 f1, .bool z1]) ∧ Hid (wr.ownsRow (g_x + 1) 64 2 (.slice a1 rs1.length c1) rs1.length (hps rs1)) ∧ Hid (Below w.heap.size w wr))
      (fun _ i _ => 14 - (RowKit.intOf i).toNat)
    case atStart => exact ⟨⟨#[]⟩, 0, rfl, Nat.zero_le _, rfl, pl st, -1, ⟨#[]⟩, [], false, none, 0, ⟨hs0, Nat.le_refl _⟩, Kx4, ⟨rfl, .inl ⟨rfl, rfl⟩⟩, B4⟩
    case round =>
      obtain ⟨G, k, rfl, hk, rfl, n1, f1, d1, rs1, z1, a1, c1, HA, Kx100, Nr100, B100⟩ := hrel
      clear Ks4 Kx4 B4 hs0
      have m_r_x : (.slice a1 rs1.length c1 : Value).ownBlock ≠ some g_x := fun e => by have h1 := (Nr100.out.lt _ e).1; omega
      by_cases hlt : k < 14
      case neg =>
        obtain rfl : k = 14 := by omega
        have hA := HA.out.1
        have hn := hA.n
        have hall := hA.all
        have hok := hA.ok
        have hbd := HA.out.2
        have hgs : (G ++ d1).size = G.size + d1.size := ByteArray.size_append
        have hcc : ¬ 9223372036854775807 < G.size + d1.size := by omega
        have hb600 : (G ++ d1).size ≤ 600 := by omega
        simp only at hn hall
        have hn2 : pl (st + ((G ++ d1).size : Int)) = n1 := by rw [hn, hgs]
        obtain ⟨A, hAA⟩ : ∃ A : ByteArray, G ++ d1 = A := ⟨_, rfl⟩
        rw [hAA] at hall hn2 hb600
        have hRB := Lib.hid (rb_ok hok).1
        have OKX := fun w h => rcvOkI n1 f1 z1 d1 a1 c1 rs1 hRB.out w h
        simp only [rcvOk_yes hok] at OKX
        have SA := seqAddI_s st (A.size : Int)
        rw [hn2] at SA
        replace hall := Lib.hid hall
        have HAA := Lib.hid hAA
        replace OKX := Lib.hid OKX
        replace SA := Lib.hid SA
        clear hA hn hok hgs hn2 HA hbd hAA
        obtain ⟨⟨cx0, cx1, cx2, cx3, cx4⟩, dx0, dx1, dx2, dx3, dx4⟩ := Kx100.out.of5
        go_upto_region 26 with fail
        clear cx0 cx1 cx2 cx3 cx4 dx0 dx1 dx2 dx3 dx4
        rw [HAA.out]
        clear hcc
        go_wp2_with fail
        go_loop [18] (fun i => ∃ j : Nat, j ≤ A.size ∧ i = .int .i64 j) (fun i => A.size - (RowKit.intOf i).toNat)
        case atStart => exact ⟨0, Nat.zero_le _, rfl⟩
        case round =>
          obtain ⟨j, hj, rfl⟩ := hrel
          by_cases hlt2 : j < A.size
          case pos =>
            have hch := hall.out j A[j] (by show A.data[j]? = _; rw [Array.getElem?_eq_getElem hlt2]; rfl)
            have hv := letterU_val (j : Int)
            rw [← hch] at hv
            clear hch
            have hw1 : IntKind.i64.wrap ((j : Int) + 100) = (j : Int) + 100 := IntWalk.i64_in _ (by omega)
            have hw2 : ((j : Int) + 100).tmod 26 = ((j : Int) + 100) % 26 := Int.tmod_eq_emod_of_nonneg (by omega)
            have hw3 : IntKind.i64.wrap (97 + ((j : Int) + 100) % 26) = (A[j].toNat : Int) := by rw [IntWalk.i64_in _ (by omega)]; omega
            have h8 := A[j].toNat_lt
            have hw4 : (A[j].toNat : Int) % 256 = (A[j].toNat : Int) := by omega
            clear hv h8
            go_wp2_with fail
            go_roundw
            case rel => exact ⟨j + 1, by omega, by go_num⟩
            case measure => simp [RowKit.intOf]; omega
          obtain rfl : j = A.size := by omega
          obtain ⟨⟨cx0, cx1, cx2, cx3, cx4⟩, dx0, dx1, dx2, dx3, dx4⟩ := Kx100.out.of5
          go_upto_region 31 with fail
          clear cx0 cx1 cx2 cx3 cx4 dx0 dx1 dx2 dx3 dx4
          refine wp_region_noPanic ?_
          refine wp_region_held_drew (S := fun w' => Blk w' g_x [.int .i64 n1, .string d1, .slice a1 rs1.length c1, .int .i64 f1, .bool z1]) (by kernel_rfl) Kx100.out (fun hS => ?_)
          have B101 := Lib.hid (show Below w.heap.size w wr.drew from B100.out.drew)
          have Kx101 := Lib.hid (show Blk wr.drew g_x [.int .i64 n1, .string d1, .slice a1 rs1.length c1, .int .i64 f1, .bool z1] from Kx100.out.drew)
          have Nr101 := Lib.hid (own_below Nr100.out (Below.refl _ wr).drew)
          clear hS B100 Kx100 Nr100
          generalize wr.drew = v101 at B101 Kx101 Nr101 ⊢
          have hS : Blk v101 g_x [.int .i64 n1, .string d1, .slice a1 rs1.length c1, .int .i64 f1, .bool z1] := Kx101.out
          refine wpAnyH_take (i := 0) (v := .int .i64 st) rfl (by kernel_rfl) (by kernel_rfl) (by kernel_rfl) (fun _ _ _ h => h) (Or.inl ⟨rfl, by intro w hS; go_simp⟩) hS ?_
          change wpAnyH _ _ _ _ _ _ _ { tmps := #[_, _, _, _, _, _, _, _, _, _, _, _, _, _, _, _, _, _, _, _, _, _, _, _, _, _, _, _, _, _, _, _, _, _, _, _, _, _, _, _, _, _, _, _, _, _, _, _, _, _, _, _, _, _, _, _, _, _, _, _, _, _, _, _, _, _, _, _, _, _, _, _, _, _, _, _, _, _, _, _, _, _, _, _, _, _, _, _, _, _, _, _, _, _, _, _, _, _, _, _, _, _, _, _, _, _, _, _, _, _, _, _, _, _, _, _, _, _, _, _, _, _, _, _, _, _, _, _, _, _, _, _], defers := [] } _
          refine wpAnyH_take (i := 1) (v := .string A) rfl (by kernel_rfl) (by kernel_rfl) (by kernel_rfl) (fun _ _ _ h => h) (Or.inl ⟨rfl, by intro w hS; go_simp⟩) hS ?_
          change wpAnyH _ _ _ _ _ _ _ { tmps := #[_, _, _, _, _, _, _, _, _, _, _, _, _, _, _, _, _, _, _, _, _, _, _, _, _, _, _, _, _, _, _, _, _, _, _, _, _, _, _, _, _, _, _, _, _, _, _, _, _, _, _, _, _, _, _, _, _, _, _, _, _, _, _, _, _, _, _, _, _, _, _, _, _, _, _, _, _, _, _, _, _, _, _, _, _, _, _, _, _, _, _, _, _, _, _, _, _, _, _, _, _, _, _, _, _, _, _, _, _, _, _, _, _, _, _, _, _, _, _, _, _, _, _, _, _, _, _, _, _, _, _, _], defers := [] } _
          refine wpAnyH_take (i := 2) (v := .int .i64 (A.size : Int)) rfl (by kernel_rfl) (by kernel_rfl) (by kernel_rfl) (fun _ _ _ h => h) (Or.inl ⟨rfl, by intro w hS; first | (go_simp; done) | (go_simp; omega)⟩) hS ?_
          change wpAnyH _ _ _ _ _ _ _ { tmps := #[_, _, _, _, _, _, _, _, _, _, _, _, _, _, _, _, _, _, _, _, _, _, _, _, _, _, _, _, _, _, _, _, _, _, _, _, _, _, _, _, _, _, _, _, _, _, _, _, _, _, _, _, _, _, _, _, _, _, _, _, _, _, _, _, _, _, _, _, _, _, _, _, _, _, _, _, _, _, _, _, _, _, _, _, _, _, _, _, _, _, _, _, _, _, _, _, _, _, _, _, _, _, _, _, _, _, _, _, _, _, _, _, _, _, _, _, _, _, _, _, _, _, _, _, _, _, _, _, _, _, _, _], defers := [] } _
          refine wpAnyH_take (i := 4) (v := .pointer (some ⟨g_x, 0, none⟩)) rfl (by kernel_rfl) (by kernel_rfl) (by kernel_rfl) (fun _ _ _ h => h) (Or.inl ⟨rfl, by intro w hS; go_simp⟩) hS ?_
          change wpAnyH _ _ _ _ _ _ _ { tmps := #[_, _, _, _, _, _, _, _, _, _, _, _, _, _, _, _, _, _, _, _, _, _, _, _, _, _, _, _, _, _, _, _, _, _, _, _, _, _, _, _, _, _, _, _, _, _, _, _, _, _, _, _, _, _, _, _, _, _, _, _, _, _, _, _, _, _, _, _, _, _, _, _, _, _, _, _, _, _, _, _, _, _, _, _, _, _, _, _, _, _, _, _, _, _, _, _, _, _, _, _, _, _, _, _, _, _, _, _, _, _, _, _, _, _, _, _, _, _, _, _, _, _, _, _, _, _, _, _, _, _, _, _], defers := [] } _
          refine wpAnyH_take (i := 5) (v := .int .i64 n1) rfl (by kernel_rfl) (by kernel_rfl) (by kernel_rfl) (fun _ _ _ h => h) (Or.inl ⟨rfl, by intro w hS; obtain ⟨⟨hh0, hh1, hh2, hh3, hh4⟩, _⟩ := hS.of5; go_simp⟩) hS ?_
          change wpAnyH _ _ _ _ _ _ _ { tmps := #[_, _, _, _, _, _, _, _, _, _, _, _, _, _, _, _, _, _, _, _, _, _, _, _, _, _, _, _, _, _, _, _, _, _, _, _, _, _, _, _, _, _, _, _, _, _, _, _, _, _, _, _, _, _, _, _, _, _, _, _, _, _, _, _, _, _, _, _, _, _, _, _, _, _, _, _, _, _, _, _, _, _, _, _, _, _, _, _, _, _, _, _, _, _, _, _, _, _, _, _, _, _, _, _, _, _, _, _, _, _, _, _, _, _, _, _, _, _, _, _, _, _, _, _, _, _, _, _, _, _, _, _], defers := [] } _
          refine wpAnyH_ready (rs := [3]) (by kernel_rfl) (by simp) ?_
          refine AllReadyH.cons (i := 3) rfl (fun K hK => ?zq1) AllReadyH.nil
          rw [if_pos (by first | rfl | kernel_rfl)]
          go_simp
          clear hS
          refine (SA.out _).mono ?_
          rintro e v102 ⟨rfl, hb⟩
          have B102 := Lib.hid (B101.out.trans (hb.mono B101.out.size))
          have Kx102 := Lib.hid (Kx101.out.below hb)
          have Nr102 := Lib.hid (own_below Nr101.out hb)
          clear hb B101 Kx101 Nr101
          refine hK.out _ _ Kx102.out (fun hS => ?_)
          clear hK K
          change wpAnyH _ _ _ _ _ _ _ { tmps := #[_, _, _, _, _, _, _, _, _, _, _, _, _, _, _, _, _, _, _, _, _, _, _, _, _, _, _, _, _, _, _, _, _, _, _, _, _, _, _, _, _, _, _, _, _, _, _, _, _, _, _, _, _, _, _, _, _, _, _, _, _, _, _, _, _, _, _, _, _, _, _, _, _, _, _, _, _, _, _, _, _, _, _, _, _, _, _, _, _, _, _, _, _, _, _, _, _, _, _, _, _, _, _, _, _, _, _, _, _, _, _, _, _, _, _, _, _, _, _, _, _, _, _, _, _, _, _, _, _, _, _, _], defers := [] } _
          refine wpAnyH_take (i := 6) (v := .bool true) rfl (by kernel_rfl) (by kernel_rfl) (by kernel_rfl) (fun _ _ _ h => h) (Or.inl ⟨rfl, by intro w hS; go_simp⟩) hS ?_
          change wpAnyH _ _ _ _ _ _ _ { tmps := #[_, _, _, _, _, _, _, _, _, _, _, _, _, _, _, _, _, _, _, _, _, _, _, _, _, _, _, _, _, _, _, _, _, _, _, _, _, _, _, _, _, _, _, _, _, _, _, _, _, _, _, _, _, _, _, _, _, _, _, _, _, _, _, _, _, _, _, _, _, _, _, _, _, _, _, _, _, _, _, _, _, _, _, _, _, _, _, _, _, _, _, _, _, _, _, _, _, _, _, _, _, _, _, _, _, _, _, _, _, _, _, _, _, _, _, _, _, _, _, _, _, _, _, _, _, _, _, _, _, _, _, _], defers := [] } _
          refine wpAnyH_take (i := 7) (v := .bool true) rfl (by kernel_rfl) (by kernel_rfl) (by kernel_rfl) (fun _ _ _ h => h) (Or.inl ⟨rfl, by intro w hS; go_simp⟩) hS ?_
          change wpAnyH _ _ _ _ _ _ _ { tmps := #[_, _, _, _, _, _, _, _, _, _, _, _, _, _, _, _, _, _, _, _, _, _, _, _, _, _, _, _, _, _, _, _, _, _, _, _, _, _, _, _, _, _, _, _, _, _, _, _, _, _, _, _, _, _, _, _, _, _, _, _, _, _, _, _, _, _, _, _, _, _, _, _, _, _, _, _, _, _, _, _, _, _, _, _, _, _, _, _, _, _, _, _, _, _, _, _, _, _, _, _, _, _, _, _, _, _, _, _, _, _, _, _, _, _, _, _, _, _, _, _, _, _, _, _, _, _, _, _, _, _, _, _], defers := [] } _
          refine wpAnyH_take (i := 8) (v := .agg #[.int .i64 n1, .string d1, .slice a1 rs1.length c1, .int .i64 f1, .bool z1]) rfl (by kernel_rfl) (by kernel_rfl) (by kernel_rfl) (fun _ _ _ h => h) (Or.inl ⟨rfl, by intro w hS; obtain ⟨⟨hh0, hh1, hh2, hh3, hh4⟩, _⟩ := hS.of5; go_simp⟩) hS ?_
          change wpAnyH _ _ _ _ _ _ _ { tmps := #[_, _, _, _, _, _, _, _, _, _, _, _, _, _, _, _, _, _, _, _, _, _, _, _, _, _, _, _, _, _, _, _, _, _, _, _, _, _, _, _, _, _, _, _, _, _, _, _, _, _, _, _, _, _, _, _, _, _, _, _, _, _, _, _, _, _, _, _, _, _, _, _, _, _, _, _, _, _, _, _, _, _, _, _, _, _, _, _, _, _, _, _, _, _, _, _, _, _, _, _, _, _, _, _, _, _, _, _, _, _, _, _, _, _, _, _, _, _, _, _, _, _, _, _, _, _, _, _, _, _, _, _], defers := [] } _
          refine wpAnyH_ready (rs := [9]) (by kernel_rfl) (by simp) ?_
          refine AllReadyH.cons (i := 9) rfl (fun K hK => ?zq2) AllReadyH.nil
          rw [if_pos (by first | rfl | kernel_rfl)]
          go_simp
          clear hS
          refine (OKX.out _ (Row.ownV Nr102.out)).mono ?_
          rintro e v103 ⟨rfl, hb⟩
          have B103 := Lib.hid (B102.out.trans (hb.mono B102.out.size))
          have Kx103 := Lib.hid (Kx102.out.below hb)
          have Nr103 := Lib.hid (own_below Nr102.out hb)
          clear hb B102 Kx102 Nr102
          refine hK.out _ _ Kx103.out (fun hS => ?_)
          clear hK K
          change wpAnyH _ _ _ _ _ _ _ { tmps := #[_, _, _, _, _, _, _, _, _, _, _, _, _, _, _, _, _, _, _, _, _, _, _, _, _, _, _, _, _, _, _, _, _, _, _, _, _, _, _, _, _, _, _, _, _, _, _, _, _, _, _, _, _, _, _, _, _, _, _, _, _, _, _, _, _, _, _, _, _, _, _, _, _, _, _, _, _, _, _, _, _, _, _, _, _, _, _, _, _, _, _, _, _, _, _, _, _, _, _, _, _, _, _, _, _, _, _, _, _, _, _, _, _, _, _, _, _, _, _, _, _, _, _, _, _, _, _, _, _, _, _, _], defers := [] } _
          refine wpAnyH_take (i := 10) (v := .bool true) rfl (by kernel_rfl) (by kernel_rfl) (by kernel_rfl) (fun _ _ _ h => h) (Or.inl ⟨rfl, by intro w hS; go_simp⟩) hS ?_
          change wpAnyH _ _ _ _ _ _ _ { tmps := #[_, _, _, _, _, _, _, _, _, _, _, _, _, _, _, _, _, _, _, _, _, _, _, _, _, _, _, _, _, _, _, _, _, _, _, _, _, _, _, _, _, _, _, _, _, _, _, _, _, _, _, _, _, _, _, _, _, _, _, _, _, _, _, _, _, _, _, _, _, _, _, _, _, _, _, _, _, _, _, _, _, _, _, _, _, _, _, _, _, _, _, _, _, _, _, _, _, _, _, _, _, _, _, _, _, _, _, _, _, _, _, _, _, _, _, _, _, _, _, _, _, _, _, _, _, _, _, _, _, _, _, _], defers := [] } _
          refine wpAnyH_take (i := 11) (v := .bool true) rfl (by kernel_rfl) (by kernel_rfl) (by kernel_rfl) (fun _ _ _ h => h) (Or.inl ⟨rfl, by intro w hS; go_simp⟩) hS ?_
          change wpAnyH _ _ _ _ _ _ _ { tmps := #[_, _, _, _, _, _, _, _, _, _, _, _, _, _, _, _, _, _, _, _, _, _, _, _, _, _, _, _, _, _, _, _, _, _, _, _, _, _, _, _, _, _, _, _, _, _, _, _, _, _, _, _, _, _, _, _, _, _, _, _, _, _, _, _, _, _, _, _, _, _, _, _, _, _, _, _, _, _, _, _, _, _, _, _, _, _, _, _, _, _, _, _, _, _, _, _, _, _, _, _, _, _, _, _, _, _, _, _, _, _, _, _, _, _, _, _, _, _, _, _, _, _, _, _, _, _, _, _, _, _, _, _], defers := [] } _
          refine wpAnyH_done (by kernel_rfl) ?_ _
          refine NoPanic.normal ?_
          obtain ⟨⟨cx0, cx1, cx2, cx3, cx4⟩, dx0, dx1, dx2, dx3, dx4⟩ := Kx103.out.of5
          go_wp2_with fail
          go_ret
          exact ⟨rfl, B103.out⟩
      have hw1 : IntKind.i64.wrap (3 * (k : Int)) = ((3 * k : Nat) : Int) := by rw [IntWalk.i64_in _ (by omega)]; omega
      have hw2 : IntKind.i64.wrap (((3 * k : Nat) : Int) + 1) = ((3 * k + 1 : Nat) : Int) := by rw [IntWalk.i64_in _ (by omega)]; omega
      have hw3 : IntKind.i64.wrap (((3 * k : Nat) : Int) + 2) = ((3 * k + 2 : Nat) : Int) := by rw [IntWalk.i64_in _ (by omega)]; omega
      have hw4 : IntKind.i64.wrap (((3 * k : Nat) : Int) + 3) = ((3 * k + 3 : Nat) : Int) := by rw [IntWalk.i64_in _ (by omega)]; omega
      obtain ⟨⟨cx0, cx1, cx2, cx3, cx4⟩, dx0, dx1, dx2, dx3, dx4⟩ := Kx100.out.of5
      go_wp2_with fail
      clear cx0 cx1 cx2 cx3 cx4 dx0 dx1 dx2 dx3 dx4
      refine (AT0.out (3 * k + 1) _ (by omega) B100.out).mono ?_
      rintro e v101 ⟨q1, rfl, hq1, hb⟩
      have B101 := Lib.hid (B100.out.trans (hb.mono B100.out.size))
      have Kx101 := Lib.hid (Kx100.out.below hb)
      have Nr101 := Lib.hid (own_below Nr100.out hb)
      clear hb B100 Kx100 Nr100
      obtain ⟨off, ho1, ho2⟩ : ∃ off : Int, q1 % 40 - 4 = off ∧ (-4 ≤ off ∧ off ≤ 40) := ⟨_, rfl, by omega⟩
      obtain ⟨⟨cx0, cx1, cx2, cx3, cx4⟩, dx0, dx1, dx2, dx3, dx4⟩ := Kx101.out.of5
      go_wp2_with fail
      clear ho1
      clear cx0 cx1 cx2 cx3 cx4 dx0 dx1 dx2 dx3 dx4
      refine (AT0.out (3 * k + 2) _ (by omega) B101.out).mono ?_
      rintro e v102 ⟨q2, rfl, hq2, hb⟩
      have B102 := Lib.hid (B101.out.trans (hb.mono B101.out.size))
      have Kx102 := Lib.hid (Kx101.out.below hb)
      have Nr102 := Lib.hid (own_below Nr101.out hb)
      clear hb B101 Kx101 Nr101
      obtain ⟨m, hm1, hm8⟩ : ∃ m : Nat, q2 % 9 = (m : Int) ∧ m ≤ 8 := ⟨(q2 % 9).toNat, by omega, by omega⟩
      obtain ⟨⟨cx0, cx1, cx2, cx3, cx4⟩, dx0, dx1, dx2, dx3, dx4⟩ := Kx102.out.of5
      go_wp2_with fail
      rw [hm1]
      clear hq1 hq2 hm1 hw2 hw3
      go_loopw [13, 14] (fun bv jv wq => ∃ (V : Value) (j : Nat), V = bv ∧ j ≤ m ∧ jv = .int .i64 j ∧ ∃ l : List UInt8, Hid (l.length = j ∧ ∀ (i : Nat) (b : UInt8), l[i]? = some b → b = letterU (off + i)) ∧ Hid (wq.ownsRow v102.heap.size 5 1 V l.length (byteCells l)) ∧ Hid (Below v102.heap.size v102 wq))
        (fun _ i _ => m - (RowKit.intOf i).toNat)
      case atStart => exact ⟨_, 0, rfl, Nat.zero_le _, rfl, [], ⟨rfl, fun i b h => by cases h⟩, World.ownsRow_lit v102 #[] 0 (Nat.le_refl _) (by simp [maxLen]) rfl, (Below.refl _ _).alloc (Nat.le_refl _) _⟩
      case round =>
        obtain ⟨V, j, rfl, hj, rfl, l, HL, HO, HBq⟩ := hrel
        by_cases hlt2 : j < m
        case pos =>
          have hlj := HL.out.1
          obtain ⟨p, hp⟩ : ∃ p : Int, off + (j : Int) = p := ⟨_, rfl⟩
          have hv1 : IntKind.i64.wrap (off + (j : Int)) = p := by rw [IntWalk.i64_in _ (by omega)]; exact hp
          have hpb : -4 ≤ p ∧ p ≤ 60 := by omega
          have hv2 : IntKind.i64.wrap (p + 100) = p + 100 := IntWalk.i64_in _ (by omega)
          have hv3 : (p + 100).tmod 26 = (p + 100) % 26 := Int.tmod_eq_emod_of_nonneg (by omega)
          have hv4 : IntKind.i64.wrap (97 + (p + 100) % 26) = ((letterU p).toNat : Int) := by rw [IntWalk.i64_in _ (by omega), letterU_val]
          have hu := letterU_val p
          obtain ⟨c, hc⟩ : ∃ c, letterU p = c := ⟨_, rfl⟩
          rw [hc] at hv4 hu
          have hv5 : (c.toNat : Int) % 256 = (c.toNat : Int) := by omega
          have HC := Lib.hid (show c = letterU (off + (l.length : Nat)) by rw [hlj, hp, hc])
          have hsz : v102.heap.size ≤ wr.heap.size := HBq.out.size
          replace hp := Lib.hid hp
          replace hlj := Lib.hid hlj
          clear hu hc hpb
          go_wp2_with (at_builtin; refine wpList_append_lies _ rfl _ _ _ rfl v102.heap.size 5 i0 _ 1 1 Try.underlying22 hi hz0 hz1 hz2 rfl (by omega) _ l.length _ rfl (HO.out.alloc _) ⟨wr.heap.size, 0, none⟩ 1 1 [.int .u8 c.toNat] rfl rfl (World.news_of_block (cs := #[.int .u8 c.toNat]) (t := 5) (fr := (0, 0)) (heap_alloc_new wr _)) (by simp [Value.oneCell']) (by omega) (by have := hlj.out; unfold maxLen; omega) (by have := hlj.out; omega) (by simp; omega) (wr.heap.size + 1) (by simp) ?_; intro gg cp w2 hown2 hgrow hat hlt')
          have hB2 := Lib.hid ((HBq.out.alloc hsz (.cells #[.int .u8 c.toNat] 5)).grown hgrow (by simp; omega) (fun j e => (HO.out.lt j e).1))
          have O2 := Lib.hid (show w2.ownsRow v102.heap.size 5 1 (.slice (some ⟨gg, 0, none⟩) (l.length + 1) cp) (l ++ [c]).length (byteCells (l ++ [c])) by rw [byteCells_append, List.length_append]; exact hown2)
          clear hown2 hgrow hat hlt'
          go_roundw
          case rel => exact ⟨_, j + 1, rfl, by omega, by go_num, l ++ [c], ⟨by rw [List.length_append, hlj.out]; rfl, fun i b h => app_letter HL.out.2 HC.out i b h⟩, O2, hB2⟩
          case measure => simp [RowKit.intOf]; omega
        obtain rfl : j = m := by omega
        have B120 := Lib.hid (B102.out.trans (HBq.out.mono B102.out.size))
        have Kx120 := Lib.hid (Kx102.out.below HBq.out)
        have m_b_x : (V : Value).ownBlock ≠ some g_x := fun e => by have h1 := (HO.out.lt _ e).1; have h2 := Kx102.out.lt; omega
        have Nr120 := Lib.hid (own_below Nr102.out HBq.out)
        clear HBq B102 Kx102 Nr102
        have hlj := HL.out.1
        have hlet := HL.out.2
        obtain ⟨t, ht⟩ : ∃ t : ByteArray, (⟨l.toArray⟩ : ByteArray) = t := ⟨_, rfl⟩
        have hts : t.size ≤ 8 := by rw [← ht]; show l.toArray.size ≤ 8; simp; omega
        have hAs := asm_arr (t := t) (off := off) HA.out.1 (by have := HA.out.2; omega) ho2.1 ho2.2 hts (fun i b h => hlet i b (by rw [← ht] at h; simpa using h))
        obtain ⟨sq, hsq⟩ : ∃ sq : Int, pl (st + off) = sq := ⟨_, rfl⟩
        rw [hsq] at hAs
        have SI := seqAddI_s st off
        have SS := seqAddS_s st off
        rw [hsq] at SI SS
        have hRB := (rb_ok HA.out.1.ok).1
        have AI := fun w h => arrI n1 f1 sq z1 false d1 t a1 c1 rs1 hRB w h
        have AS := fun w h => arrS n1 f1 sq z1 false d1 t a1 c1 rs1 hRB (by omega) w h
        unfold NewRE at AI AS
        obtain ⟨⟨n2, d2, rs2, f2, z2⟩, hX⟩ : ∃ o : Rcv, arrived ⟨n1, d1, rs1, f1, z1⟩ sq t false = o := ⟨_, rfl⟩
        rw [hX] at hAs
        simp only [hX] at AI AS
        have HAs := Lib.hid hAs
        have hq2 := rb_ok hAs.1.ok
        have hl2 := Lib.hid (show rs2.length ≤ 1048577 by have := hq2.2.2.1; simp only at this; omega)
        have SR := fun a1 a2 c1 c2 w ha hb => sameRcvS n2 n2 f2 f2 d2 d2 z2 z2 a1 a2 c1 c2 rs2 rs2 w ha hb hl2.out
        simp only [sameR_self] at SR
        have HB2 := Lib.hid hq2.1
        simp only at HB2
        have CV := Lib.hid (fun (w' : World) (h : w'.ownsRow v102.heap.size 5 1 V l.length (byteCells l)) => ht ▸ run_string_own (P := Try.prog) Try.underlying22 Try.underlying5 Try.underlying9 h)
        clear hlj hlet hts hAs hsq hRB hX hq2 ht HL
        replace SI := Lib.hid SI
        replace SS := Lib.hid SS
        replace AI := Lib.hid AI
        replace AS := Lib.hid AS
        replace SR := Lib.hid SR
        clear cx0 cx1 cx2 cx3 cx4 dx0 dx1 dx2 dx3 dx4
        obtain ⟨⟨cx0, cx1, cx2, cx3, cx4⟩, dx0, dx1, dx2, dx3, dx4⟩ := Kx120.out.of5
        go_upto_region 19 with fail
        clear cx0 cx1 cx2 cx3 cx4 dx0 dx1 dx2 dx3 dx4
        go_cut [15] (fun s15 wx => ∃ (g_y : Nat) (a2 : Option Addr) (c2 : Nat), s15 = .pointer (some ⟨g_y, 0, none⟩) ∧ Hid (Below w.heap.size w wx) ∧ Hid (Blk wx g_x [.int .i64 n1, .string d1, .slice a1 rs1.length c1, .int .i64 f1, .bool z1]) ∧ Hid (Blk wx g_y [.int .i64 n2, .string d2, .slice a2 rs2.length c2, .int .i64 f2, .bool z2]) ∧ Hid (wx.ownsRow (g_x + 1) 64 2 (.slice a1 rs1.length c1) rs1.length (hps rs1)) ∧ Hid (wx.ownsRow (g_x + 1) 64 2 (.slice a2 rs2.length c2) rs2.length (hps rs2)) ∧ Hid (wx.ownsRow v102.heap.size 5 1 V l.length (byteCells l)) ∧ (g_x ≠ g_y ∧ (.slice a2 rs2.length c2 : Value).ownBlock ≠ some g_x))
        case first =>
          refine wp_region_noPanic ?_
          refine wp_region_held_drew (S := fun w' => Blk w' g_x [.int .i64 n1, .string d1, .slice a1 rs1.length c1, .int .i64 f1, .bool z1] ∧ w'.ownsRow v102.heap.size 5 1 V l.length (byteCells l)) (by kernel_rfl) ⟨Kx120.out, (own_drewn HO.out)⟩ (fun hS => ?_)
          have B121 := Lib.hid (show Below w.heap.size w wr.drew from B120.out.drew)
          have Kx121 := Lib.hid (show Blk wr.drew g_x [.int .i64 n1, .string d1, .slice a1 rs1.length c1, .int .i64 f1, .bool z1] from Kx120.out.drew)
          have Nr121 := Lib.hid (own_drewn Nr120.out)
          have Nb121 := Lib.hid (own_drewn HO.out)
          clear hS B120 Kx120 Nr120 HO
          generalize wr.drew = v121 at B121 Kx121 Nr121 Nb121 ⊢
          have hS : Blk v121 g_x [.int .i64 n1, .string d1, .slice a1 rs1.length c1, .int .i64 f1, .bool z1] ∧ v121.ownsRow v102.heap.size 5 1 V l.length (byteCells l) := ⟨Kx121.out, Nb121.out⟩
          refine wpAnyH_take (i := 0) (v := .agg #[.int .i64 n1, .string d1, .slice a1 rs1.length c1, .int .i64 f1, .bool z1]) rfl (by kernel_rfl) (by kernel_rfl) (by kernel_rfl) (fun _ _ _ h => h) (Or.inl ⟨rfl, by intro w hS; obtain ⟨⟨h0, h1, h2, h3, h4⟩, _⟩ := hS.1.of5; go_simp⟩) hS ?_
          refine wpAnyH_take (i := 1) (v := .int .i64 st) rfl (by kernel_rfl) (by kernel_rfl) (by kernel_rfl) (fun _ _ _ h => h) (Or.inl ⟨rfl, by intro w hS; go_simp⟩) hS ?_
          refine wpAnyH_take (i := 2) (v := .int .i64 off) rfl (by kernel_rfl) (by kernel_rfl) (by kernel_rfl) (fun _ _ _ h => h) (Or.inl ⟨rfl, by intro w hS; go_simp⟩) hS ?_
          refine wpAnyH_take (i := 4) (v := V) rfl (by kernel_rfl) (by kernel_rfl) (by kernel_rfl) (fun _ _ _ h => h) (Or.inl ⟨rfl, by intro w hS; go_simp⟩) hS ?_
          refine wpAnyH_take (i := 5) (v := .string t) rfl (by kernel_rfl) (by kernel_rfl) (by kernel_rfl) (fun _ _ _ h => h) (Or.inl ⟨rfl, by intro w hS; have hcv := CV.out _ hS.2; go_simp⟩) hS ?_
          refine wpAnyH_ready (rs := [3, 7]) (by kernel_rfl) (by simp) ?_
          refine AllReadyH.cons (i := 3) rfl (fun K hK => ?zw2) (AllReadyH.cons (i := 7) rfl (fun K hK => ?zw1) AllReadyH.nil)
          · rw [if_pos (by rfl)]
            go_simp
            clear hS
            refine (SI.out _).mono ?_
            rintro e v122 ⟨rfl, hb⟩
            have B122 := Lib.hid (B121.out.trans (hb.mono B121.out.size))
            have Kx122 := Lib.hid (Kx121.out.below hb)
            have Nr122 := Lib.hid (own_below Nr121.out hb)
            have Nb122 := Lib.hid (own_below Nb121.out hb)
            clear hb B121 Kx121 Nr121 Nb121
            refine hK.out _ _ ⟨Kx122.out, Nb122.out⟩ (fun hS => ?_)
            clear hK K
            refine wpAnyH_ready (rs := [6, 7]) (by kernel_rfl) (by simp) ?_
            refine AllReadyH.cons (i := 6) rfl (fun K hK => ?zw4) (AllReadyH.cons (i := 7) rfl (fun K hK => ?zw3) AllReadyH.nil)
            · rw [if_pos (by rfl)]
              go_simp
              clear hS
              refine (AI.out _ (HasP.own Nr122.out)).mono ?_
              rintro e v123 ⟨a2, c2, rfl, ho, hb⟩
              have m_y_x : (.slice a2 rs2.length c2 : Value).ownBlock ≠ some g_x := fun e => by have h1 := (ho.lt _ e).1; have h2 := Kx122.out.lt; omega
              have Ny123 := Lib.hid (own_down ho (show g_x + 1 ≤ _ from Kx122.out.lt))
              clear ho
              have B123 := Lib.hid (B122.out.trans (hb.mono B122.out.size))
              have Kx123 := Lib.hid (Kx122.out.below hb)
              have Nr123 := Lib.hid (own_below Nr122.out hb)
              have Nb123 := Lib.hid (own_below Nb122.out hb)
              clear hb B122 Kx122 Nr122 Nb122
              refine hK.out _ _ ⟨Kx123.out, Nb123.out⟩ (fun hS => ?_)
              clear hK K
              refine wpAnyH_ready (rs := [7]) (by kernel_rfl) (by simp) ?_
              refine AllReadyH.cons (i := 7) rfl (fun K hK => ?zw5) AllReadyH.nil
              rw [if_pos (by rfl)]
              go_simp
              clear hS
              have B124 := Lib.hid (B123.out.alloc B123.out.size (.cells #[.int .i64 0, .string ⟨#[]⟩, .slice none 0 0, .int .i64 0, .bool false] 26))
              have l_y : w.heap.size ≤ v123.heap.size := B123.out.size
              have n_x_y : g_x ≠ v123.heap.size := by have h1 := Kx123.out.lt; omega
              have m_r_y : (.slice a1 rs1.length c1 : Value).ownBlock ≠ some v123.heap.size := fun e => by have h1 := (Nr123.out.lt _ e).2; omega
              have m_b_y : (V : Value).ownBlock ≠ some v123.heap.size := fun e => by have h1 := (Nb123.out.lt _ e).2; omega
              have m_y_y : (.slice a2 rs2.length c2 : Value).ownBlock ≠ some v123.heap.size := fun e => by have h1 := (Ny123.out.lt _ e).2; omega
              have Kx124 := Lib.hid (Kx123.out.alloc (.cells #[.int .i64 0, .string ⟨#[]⟩, .slice none 0 0, .int .i64 0, .bool false] 26))
              have Nr124 := Lib.hid (Nr123.out.alloc (.cells #[.int .i64 0, .string ⟨#[]⟩, .slice none 0 0, .int .i64 0, .bool false] 26))
              have Nb124 := Lib.hid (Nb123.out.alloc (.cells #[.int .i64 0, .string ⟨#[]⟩, .slice none 0 0, .int .i64 0, .bool false] 26))
              have Ny124 := Lib.hid (Ny123.out.alloc (.cells #[.int .i64 0, .string ⟨#[]⟩, .slice none 0 0, .int .i64 0, .bool false] 26))
              have Ky124 := Lib.hid (Blk.new v123 [.int .i64 0, .string ⟨#[]⟩, .slice none 0 0, .int .i64 0, .bool false] 26)
              clear B123 Kx123 Nr123 Nb123 Ny123
              refine hK.out _ _ ⟨Kx124.out, Nb124.out⟩ (fun hS => ?_)
              clear hK K
              generalize v123.alloc (.cells #[.int .i64 0, .string ⟨#[]⟩, .slice none 0 0, .int .i64 0, .bool false] 26) = v124 at hS B124 Kx124 Ky124 Nr124 Nb124 Ny124 ⊢
              generalize v123.heap.size = g_y at Ky124 l_y n_x_y m_r_y m_b_y m_y_y ⊢
              obtain ⟨⟨cy0, cy1, cy2, cy3, cy4⟩, dy0, dy1, dy2, dy3, dy4⟩ := Ky124.out.of5
              refine wpAnyH_ready (rs := [8]) (by kernel_rfl) (by simp) ?_
              refine AllReadyH.cons (i := 8) rfl (fun K hK => ?zw6) AllReadyH.nil
              rw [if_pos (by rfl)]
              go_simp
              clear hS
              have B125 := Lib.hid (show Below w.heap.size w (((((v124.setCell ⟨g_y, 0, none⟩ (.int .i64 n2)).setCell ⟨g_y, 1, none⟩ (.string d2)).setCell ⟨g_y, 2, none⟩ (.slice a2 rs2.length c2)).setCell ⟨g_y, 3, none⟩ (.int .i64 f2)).setCell ⟨g_y, 4, none⟩ (.bool z2)) from (((((B124.out.setCell l_y (.int .i64 n2)).setCell l_y (.string d2)).setCell l_y (.slice a2 rs2.length c2)).setCell l_y (.int .i64 f2)).setCell l_y (.bool z2)))
              have Kx125 := Lib.hid (show Blk (((((v124.setCell ⟨g_y, 0, none⟩ (.int .i64 n2)).setCell ⟨g_y, 1, none⟩ (.string d2)).setCell ⟨g_y, 2, none⟩ (.slice a2 rs2.length c2)).setCell ⟨g_y, 3, none⟩ (.int .i64 f2)).setCell ⟨g_y, 4, none⟩ (.bool z2)) g_x [.int .i64 n1, .string d1, .slice a1 rs1.length c1, .int .i64 f1, .bool z1] from (((((Kx124.out.setOther ⟨g_y, 0, none⟩ (.int .i64 n2) (n_x_y)).setOther ⟨g_y, 1, none⟩ (.string d2) (n_x_y)).setOther ⟨g_y, 2, none⟩ (.slice a2 rs2.length c2) (n_x_y)).setOther ⟨g_y, 3, none⟩ (.int .i64 f2) (n_x_y)).setOther ⟨g_y, 4, none⟩ (.bool z2) (n_x_y)))
              have Ky125 := Lib.hid (show Blk (((((v124.setCell ⟨g_y, 0, none⟩ (.int .i64 n2)).setCell ⟨g_y, 1, none⟩ (.string d2)).setCell ⟨g_y, 2, none⟩ (.slice a2 rs2.length c2)).setCell ⟨g_y, 3, none⟩ (.int .i64 f2)).setCell ⟨g_y, 4, none⟩ (.bool z2)) g_y [.int .i64 n2, .string d2, .slice a2 rs2.length c2, .int .i64 f2, .bool z2] from (((((Ky124.out.set 0 (.int .i64 n2)).set 1 (.string d2)).set 2 (.slice a2 rs2.length c2)).set 3 (.int .i64 f2)).set 4 (.bool z2)))
              have Nr125 := Lib.hid (own_setn (own_setn (own_setn (own_setn (own_setn Nr124.out (g := g_y) (k := 0) m_r_y (.int .i64 n2)) (g := g_y) (k := 1) m_r_y (.string d2)) (g := g_y) (k := 2) m_r_y (.slice a2 rs2.length c2)) (g := g_y) (k := 3) m_r_y (.int .i64 f2)) (g := g_y) (k := 4) m_r_y (.bool z2))
              have Nb125 := Lib.hid (own_setn (own_setn (own_setn (own_setn (own_setn Nb124.out (g := g_y) (k := 0) m_b_y (.int .i64 n2)) (g := g_y) (k := 1) m_b_y (.string d2)) (g := g_y) (k := 2) m_b_y (.slice a2 rs2.length c2)) (g := g_y) (k := 3) m_b_y (.int .i64 f2)) (g := g_y) (k := 4) m_b_y (.bool z2))
              have Ny125 := Lib.hid (own_setn (own_setn (own_setn (own_setn (own_setn Ny124.out (g := g_y) (k := 0) m_y_y (.int .i64 n2)) (g := g_y) (k := 1) m_y_y (.string d2)) (g := g_y) (k := 2) m_y_y (.slice a2 rs2.length c2)) (g := g_y) (k := 3) m_y_y (.int .i64 f2)) (g := g_y) (k := 4) m_y_y (.bool z2))
              refine hK.out _ _ ⟨Kx125.out, Nb125.out⟩ (fun hS => ?_)
              clear hK K
              clear B124 Kx124 Ky124 Nr124 Nb124 Ny124
              clear cy0 cy1 cy2 cy3 cy4 dy0 dy1 dy2 dy3 dy4
              generalize ((((v124.setCell ⟨g_y, 0, none⟩ (.int .i64 n2)).setCell ⟨g_y, 1, none⟩ (.string d2)).setCell ⟨g_y, 2, none⟩ (.slice a2 rs2.length c2)).setCell ⟨g_y, 3, none⟩ (.int .i64 f2)).setCell ⟨g_y, 4, none⟩ (.bool z2) = v125 at hS B125 Kx125 Ky125 Nr125 Nb125 Ny125 ⊢
              refine wpAnyH_done (by kernel_rfl) ?_ _
              refine NoPanic.normal ?_
              go_wp2_with fail
              go_meet
              case rel => exact ⟨g_y, a2, c2, rfl, B125, Kx125, Ky125, Nr125, Ny125, Nb125, ⟨n_x_y, m_y_x⟩⟩
            · rw [if_pos (by rfl)]
              go_simp
              clear hS
              have B123 := Lib.hid (B122.out.alloc B122.out.size (.cells #[.int .i64 0, .string ⟨#[]⟩, .slice none 0 0, .int .i64 0, .bool false] 26))
              have l_y : w.heap.size ≤ v122.heap.size := B122.out.size
              have n_x_y : g_x ≠ v122.heap.size := by have h1 := Kx122.out.lt; omega
              have m_r_y : (.slice a1 rs1.length c1 : Value).ownBlock ≠ some v122.heap.size := fun e => by have h1 := (Nr122.out.lt _ e).2; omega
              have m_b_y : (V : Value).ownBlock ≠ some v122.heap.size := fun e => by have h1 := (Nb122.out.lt _ e).2; omega
              have Kx123 := Lib.hid (Kx122.out.alloc (.cells #[.int .i64 0, .string ⟨#[]⟩, .slice none 0 0, .int .i64 0, .bool false] 26))
              have Nr123 := Lib.hid (Nr122.out.alloc (.cells #[.int .i64 0, .string ⟨#[]⟩, .slice none 0 0, .int .i64 0, .bool false] 26))
              have Nb123 := Lib.hid (Nb122.out.alloc (.cells #[.int .i64 0, .string ⟨#[]⟩, .slice none 0 0, .int .i64 0, .bool false] 26))
              have Ky123 := Lib.hid (Blk.new v122 [.int .i64 0, .string ⟨#[]⟩, .slice none 0 0, .int .i64 0, .bool false] 26)
              clear B122 Kx122 Nr122 Nb122
              refine hK.out _ _ ⟨Kx123.out, Nb123.out⟩ (fun hS => ?_)
              clear hK K
              generalize v122.alloc (.cells #[.int .i64 0, .string ⟨#[]⟩, .slice none 0 0, .int .i64 0, .bool false] 26) = v123 at hS B123 Kx123 Ky123 Nr123 Nb123 ⊢
              generalize v122.heap.size = g_y at Ky123 l_y n_x_y m_r_y m_b_y ⊢
              refine wpAnyH_ready (rs := [6]) (by kernel_rfl) (by simp) ?_
              refine AllReadyH.cons (i := 6) rfl (fun K hK => ?zw7) AllReadyH.nil
              rw [if_pos (by rfl)]
              go_simp
              clear hS
              refine (AI.out _ (HasP.own Nr123.out)).mono ?_
              rintro e v124 ⟨a2, c2, rfl, ho, hb⟩
              have m_y_x : (.slice a2 rs2.length c2 : Value).ownBlock ≠ some g_x := fun e => by have h1 := (ho.lt _ e).1; have h2 := Kx123.out.lt; omega
              have m_y_y : (.slice a2 rs2.length c2 : Value).ownBlock ≠ some g_y := fun e => by have h1 := (ho.lt _ e).1; have h2 := Ky123.out.lt; omega
              have Ny124 := Lib.hid (own_down ho (show g_x + 1 ≤ _ from Kx123.out.lt))
              clear ho
              have B124 := Lib.hid (B123.out.trans (hb.mono B123.out.size))
              have Kx124 := Lib.hid (Kx123.out.below hb)
              have Ky124 := Lib.hid (Ky123.out.below hb)
              have Nr124 := Lib.hid (own_below Nr123.out hb)
              have Nb124 := Lib.hid (own_below Nb123.out hb)
              clear hb B123 Kx123 Ky123 Nr123 Nb123
              refine hK.out _ _ ⟨Kx124.out, Nb124.out⟩ (fun hS => ?_)
              clear hK K
              obtain ⟨⟨cy0, cy1, cy2, cy3, cy4⟩, dy0, dy1, dy2, dy3, dy4⟩ := Ky124.out.of5
              refine wpAnyH_ready (rs := [8]) (by kernel_rfl) (by simp) ?_
              refine AllReadyH.cons (i := 8) rfl (fun K hK => ?zw8) AllReadyH.nil
              rw [if_pos (by rfl)]
              go_simp
              clear hS
              have B125 := Lib.hid (show Below w.heap.size w (((((v124.setCell ⟨g_y, 0, none⟩ (.int .i64 n2)).setCell ⟨g_y, 1, none⟩ (.string d2)).setCell ⟨g_y, 2, none⟩ (.slice a2 rs2.length c2)).setCell ⟨g_y, 3, none⟩ (.int .i64 f2)).setCell ⟨g_y, 4, none⟩ (.bool z2)) from (((((B124.out.setCell l_y (.int .i64 n2)).setCell l_y (.string d2)).setCell l_y (.slice a2 rs2.length c2)).setCell l_y (.int .i64 f2)).setCell l_y (.bool z2)))
              have Kx125 := Lib.hid (show Blk (((((v124.setCell ⟨g_y, 0, none⟩ (.int .i64 n2)).setCell ⟨g_y, 1, none⟩ (.string d2)).setCell ⟨g_y, 2, none⟩ (.slice a2 rs2.length c2)).setCell ⟨g_y, 3, none⟩ (.int .i64 f2)).setCell ⟨g_y, 4, none⟩ (.bool z2)) g_x [.int .i64 n1, .string d1, .slice a1 rs1.length c1, .int .i64 f1, .bool z1] from (((((Kx124.out.setOther ⟨g_y, 0, none⟩ (.int .i64 n2) (n_x_y)).setOther ⟨g_y, 1, none⟩ (.string d2) (n_x_y)).setOther ⟨g_y, 2, none⟩ (.slice a2 rs2.length c2) (n_x_y)).setOther ⟨g_y, 3, none⟩ (.int .i64 f2) (n_x_y)).setOther ⟨g_y, 4, none⟩ (.bool z2) (n_x_y)))
              have Ky125 := Lib.hid (show Blk (((((v124.setCell ⟨g_y, 0, none⟩ (.int .i64 n2)).setCell ⟨g_y, 1, none⟩ (.string d2)).setCell ⟨g_y, 2, none⟩ (.slice a2 rs2.length c2)).setCell ⟨g_y, 3, none⟩ (.int .i64 f2)).setCell ⟨g_y, 4, none⟩ (.bool z2)) g_y [.int .i64 n2, .string d2, .slice a2 rs2.length c2, .int .i64 f2, .bool z2] from (((((Ky124.out.set 0 (.int .i64 n2)).set 1 (.string d2)).set 2 (.slice a2 rs2.length c2)).set 3 (.int .i64 f2)).set 4 (.bool z2)))
              have Nr125 := Lib.hid (own_setn (own_setn (own_setn (own_setn (own_setn Nr124.out (g := g_y) (k := 0) m_r_y (.int .i64 n2)) (g := g_y) (k := 1) m_r_y (.string d2)) (g := g_y) (k := 2) m_r_y (.slice a2 rs2.length c2)) (g := g_y) (k := 3) m_r_y (.int .i64 f2)) (g := g_y) (k := 4) m_r_y (.bool z2))
              have Nb125 := Lib.hid (own_setn (own_setn (own_setn (own_setn (own_setn Nb124.out (g := g_y) (k := 0) m_b_y (.int .i64 n2)) (g := g_y) (k := 1) m_b_y (.string d2)) (g := g_y) (k := 2) m_b_y (.slice a2 rs2.length c2)) (g := g_y) (k := 3) m_b_y (.int .i64 f2)) (g := g_y) (k := 4) m_b_y (.bool z2))
              have Ny125 := Lib.hid (own_setn (own_setn (own_setn (own_setn (own_setn Ny124.out (g := g_y) (k := 0) m_y_y (.int .i64 n2)) (g := g_y) (k := 1) m_y_y (.string d2)) (g := g_y) (k := 2) m_y_y (.slice a2 rs2.length c2)) (g := g_y) (k := 3) m_y_y (.int .i64 f2)) (g := g_y) (k := 4) m_y_y (.bool z2))
              refine hK.out _ _ ⟨Kx125.out, Nb125.out⟩ (fun hS => ?_)
              clear hK K
              clear B124 Kx124 Ky124 Nr124 Nb124 Ny124
              clear cy0 cy1 cy2 cy3 cy4 dy0 dy1 dy2 dy3 dy4
              generalize ((((v124.setCell ⟨g_y, 0, none⟩ (.int .i64 n2)).setCell ⟨g_y, 1, none⟩ (.string d2)).setCell ⟨g_y, 2, none⟩ (.slice a2 rs2.length c2)).setCell ⟨g_y, 3, none⟩ (.int .i64 f2)).setCell ⟨g_y, 4, none⟩ (.bool z2) = v125 at hS B125 Kx125 Ky125 Nr125 Nb125 Ny125 ⊢
              refine wpAnyH_done (by kernel_rfl) ?_ _
              refine NoPanic.normal ?_
              go_wp2_with fail
              go_meet
              case rel => exact ⟨g_y, a2, c2, rfl, B125, Kx125, Ky125, Nr125, Ny125, Nb125, ⟨n_x_y, m_y_x⟩⟩
          · rw [if_pos (by rfl)]
            go_simp
            clear hS
            have B122 := Lib.hid (B121.out.alloc B121.out.size (.cells #[.int .i64 0, .string ⟨#[]⟩, .slice none 0 0, .int .i64 0, .bool false] 26))
            have l_y : w.heap.size ≤ v121.heap.size := B121.out.size
            have n_x_y : g_x ≠ v121.heap.size := by have h1 := Kx121.out.lt; omega
            have m_r_y : (.slice a1 rs1.length c1 : Value).ownBlock ≠ some v121.heap.size := fun e => by have h1 := (Nr121.out.lt _ e).2; omega
            have m_b_y : (V : Value).ownBlock ≠ some v121.heap.size := fun e => by have h1 := (Nb121.out.lt _ e).2; omega
            have Kx122 := Lib.hid (Kx121.out.alloc (.cells #[.int .i64 0, .string ⟨#[]⟩, .slice none 0 0, .int .i64 0, .bool false] 26))
            have Nr122 := Lib.hid (Nr121.out.alloc (.cells #[.int .i64 0, .string ⟨#[]⟩, .slice none 0 0, .int .i64 0, .bool false] 26))
            have Nb122 := Lib.hid (Nb121.out.alloc (.cells #[.int .i64 0, .string ⟨#[]⟩, .slice none 0 0, .int .i64 0, .bool false] 26))
            have Ky122 := Lib.hid (Blk.new v121 [.int .i64 0, .string ⟨#[]⟩, .slice none 0 0, .int .i64 0, .bool false] 26)
            clear B121 Kx121 Nr121 Nb121
            refine hK.out _ _ ⟨Kx122.out, Nb122.out⟩ (fun hS => ?_)
            clear hK K
            generalize v121.alloc (.cells #[.int .i64 0, .string ⟨#[]⟩, .slice none 0 0, .int .i64 0, .bool false] 26) = v122 at hS B122 Kx122 Ky122 Nr122 Nb122 ⊢
            generalize v121.heap.size = g_y at Ky122 l_y n_x_y m_r_y m_b_y ⊢
            refine wpAnyH_ready (rs := [3]) (by kernel_rfl) (by simp) ?_
            refine AllReadyH.cons (i := 3) rfl (fun K hK => ?zw9) AllReadyH.nil
            rw [if_pos (by rfl)]
            go_simp
            clear hS
            refine (SI.out _).mono ?_
            rintro e v123 ⟨rfl, hb⟩
            have B123 := Lib.hid (B122.out.trans (hb.mono B122.out.size))
            have Kx123 := Lib.hid (Kx122.out.below hb)
            have Ky123 := Lib.hid (Ky122.out.below hb)
            have Nr123 := Lib.hid (own_below Nr122.out hb)
            have Nb123 := Lib.hid (own_below Nb122.out hb)
            clear hb B122 Kx122 Ky122 Nr122 Nb122
            refine hK.out _ _ ⟨Kx123.out, Nb123.out⟩ (fun hS => ?_)
            clear hK K
            refine wpAnyH_ready (rs := [6]) (by kernel_rfl) (by simp) ?_
            refine AllReadyH.cons (i := 6) rfl (fun K hK => ?zw10) AllReadyH.nil
            rw [if_pos (by rfl)]
            go_simp
            clear hS
            refine (AI.out _ (HasP.own Nr123.out)).mono ?_
            rintro e v124 ⟨a2, c2, rfl, ho, hb⟩
            have m_y_x : (.slice a2 rs2.length c2 : Value).ownBlock ≠ some g_x := fun e => by have h1 := (ho.lt _ e).1; have h2 := Kx123.out.lt; omega
            have m_y_y : (.slice a2 rs2.length c2 : Value).ownBlock ≠ some g_y := fun e => by have h1 := (ho.lt _ e).1; have h2 := Ky123.out.lt; omega
            have Ny124 := Lib.hid (own_down ho (show g_x + 1 ≤ _ from Kx123.out.lt))
            clear ho
            have B124 := Lib.hid (B123.out.trans (hb.mono B123.out.size))
            have Kx124 := Lib.hid (Kx123.out.below hb)
            have Ky124 := Lib.hid (Ky123.out.below hb)
            have Nr124 := Lib.hid (own_below Nr123.out hb)
            have Nb124 := Lib.hid (own_below Nb123.out hb)
            clear hb B123 Kx123 Ky123 Nr123 Nb123
            refine hK.out _ _ ⟨Kx124.out, Nb124.out⟩ (fun hS => ?_)
            clear hK K
            obtain ⟨⟨cy0, cy1, cy2, cy3, cy4⟩, dy0, dy1, dy2, dy3, dy4⟩ := Ky124.out.of5
            refine wpAnyH_ready (rs := [8]) (by kernel_rfl) (by simp) ?_
            refine AllReadyH.cons (i := 8) rfl (fun K hK => ?zw11) AllReadyH.nil
            rw [if_pos (by rfl)]
            go_simp
            clear hS
            have B125 := Lib.hid (show Below w.heap.size w (((((v124.setCell ⟨g_y, 0, none⟩ (.int .i64 n2)).setCell ⟨g_y, 1, none⟩ (.string d2)).setCell ⟨g_y, 2, none⟩ (.slice a2 rs2.length c2)).setCell ⟨g_y, 3, none⟩ (.int .i64 f2)).setCell ⟨g_y, 4, none⟩ (.bool z2)) from (((((B124.out.setCell l_y (.int .i64 n2)).setCell l_y (.string d2)).setCell l_y (.slice a2 rs2.length c2)).setCell l_y (.int .i64 f2)).setCell l_y (.bool z2)))
            have Kx125 := Lib.hid (show Blk (((((v124.setCell ⟨g_y, 0, none⟩ (.int .i64 n2)).setCell ⟨g_y, 1, none⟩ (.string d2)).setCell ⟨g_y, 2, none⟩ (.slice a2 rs2.length c2)).setCell ⟨g_y, 3, none⟩ (.int .i64 f2)).setCell ⟨g_y, 4, none⟩ (.bool z2)) g_x [.int .i64 n1, .string d1, .slice a1 rs1.length c1, .int .i64 f1, .bool z1] from (((((Kx124.out.setOther ⟨g_y, 0, none⟩ (.int .i64 n2) (n_x_y)).setOther ⟨g_y, 1, none⟩ (.string d2) (n_x_y)).setOther ⟨g_y, 2, none⟩ (.slice a2 rs2.length c2) (n_x_y)).setOther ⟨g_y, 3, none⟩ (.int .i64 f2) (n_x_y)).setOther ⟨g_y, 4, none⟩ (.bool z2) (n_x_y)))
            have Ky125 := Lib.hid (show Blk (((((v124.setCell ⟨g_y, 0, none⟩ (.int .i64 n2)).setCell ⟨g_y, 1, none⟩ (.string d2)).setCell ⟨g_y, 2, none⟩ (.slice a2 rs2.length c2)).setCell ⟨g_y, 3, none⟩ (.int .i64 f2)).setCell ⟨g_y, 4, none⟩ (.bool z2)) g_y [.int .i64 n2, .string d2, .slice a2 rs2.length c2, .int .i64 f2, .bool z2] from (((((Ky124.out.set 0 (.int .i64 n2)).set 1 (.string d2)).set 2 (.slice a2 rs2.length c2)).set 3 (.int .i64 f2)).set 4 (.bool z2)))
            have Nr125 := Lib.hid (own_setn (own_setn (own_setn (own_setn (own_setn Nr124.out (g := g_y) (k := 0) m_r_y (.int .i64 n2)) (g := g_y) (k := 1) m_r_y (.string d2)) (g := g_y) (k := 2) m_r_y (.slice a2 rs2.length c2)) (g := g_y) (k := 3) m_r_y (.int .i64 f2)) (g := g_y) (k := 4) m_r_y (.bool z2))
            have Nb125 := Lib.hid (own_setn (own_setn (own_setn (own_setn (own_setn Nb124.out (g := g_y) (k := 0) m_b_y (.int .i64 n2)) (g := g_y) (k := 1) m_b_y (.string d2)) (g := g_y) (k := 2) m_b_y (.slice a2 rs2.length c2)) (g := g_y) (k := 3) m_b_y (.int .i64 f2)) (g := g_y) (k := 4) m_b_y (.bool z2))
            have Ny125 := Lib.hid (own_setn (own_setn (own_setn (own_setn (own_setn Ny124.out (g := g_y) (k := 0) m_y_y (.int .i64 n2)) (g := g_y) (k := 1) m_y_y (.string d2)) (g := g_y) (k := 2) m_y_y (.slice a2 rs2.length c2)) (g := g_y) (k := 3) m_y_y (.int .i64 f2)) (g := g_y) (k := 4) m_y_y (.bool z2))
            refine hK.out _ _ ⟨Kx125.out, Nb125.out⟩ (fun hS => ?_)
            clear hK K
            clear B124 Kx124 Ky124 Nr124 Nb124 Ny124
            clear cy0 cy1 cy2 cy3 cy4 dy0 dy1 dy2 dy3 dy4
            generalize ((((v124.setCell ⟨g_y, 0, none⟩ (.int .i64 n2)).setCell ⟨g_y, 1, none⟩ (.string d2)).setCell ⟨g_y, 2, none⟩ (.slice a2 rs2.length c2)).setCell ⟨g_y, 3, none⟩ (.int .i64 f2)).setCell ⟨g_y, 4, none⟩ (.bool z2) = v125 at hS B125 Kx125 Ky125 Nr125 Nb125 Ny125 ⊢
            refine wpAnyH_done (by kernel_rfl) ?_ _
            refine NoPanic.normal ?_
            go_wp2_with fail
            go_meet
            case rel => exact ⟨g_y, a2, c2, rfl, B125, Kx125, Ky125, Nr125, Ny125, Nb125, ⟨n_x_y, m_y_x⟩⟩
        case rest =>
        clear B120 Kx120 Nr120 HO SI AI m_b_x
        obtain ⟨g_y, a2, c2, rfl, B140, Kx140, Ky140, Nr140, Ny140, Nb140, ⟨n_x_y, m_y_x⟩⟩ := hcut
        generalize wc = v140 at B140 Kx140 Ky140 Nr140 Ny140 Nb140 ⊢
        obtain ⟨⟨cx0, cx1, cx2, cx3, cx4⟩, dx0, dx1, dx2, dx3, dx4⟩ := Kx140.out.of5
        obtain ⟨⟨cy0, cy1, cy2, cy3, cy4⟩, dy0, dy1, dy2, dy3, dy4⟩ := Ky140.out.of5
        go_upto_region 20 with fail
        clear cx0 cx1 cx2 cx3 cx4 dx0 dx1 dx2 dx3 dx4 cy0 cy1 cy2 cy3 cy4 dy0 dy1 dy2 dy3 dy4
        refine wp_region_noPanic ?_
        refine wp_region_held_drew (S := fun w' => Blk w' g_x [.int .i64 n1, .string d1, .slice a1 rs1.length c1, .int .i64 f1, .bool z1] ∧ Blk w' g_y [.int .i64 n2, .string d2, .slice a2 rs2.length c2, .int .i64 f2, .bool z2] ∧ w'.ownsRow v102.heap.size 5 1 V l.length (byteCells l)) (by kernel_rfl) ⟨Kx140.out, Ky140.out, (own_drewn Nb140.out)⟩ (fun hS => ?_)
        have B141 := Lib.hid (show Below w.heap.size w v140.drew from B140.out.drew)
        have Kx141 := Lib.hid (show Blk v140.drew g_x [.int .i64 n1, .string d1, .slice a1 rs1.length c1, .int .i64 f1, .bool z1] from Kx140.out.drew)
        have Ky141 := Lib.hid (show Blk v140.drew g_y [.int .i64 n2, .string d2, .slice a2 rs2.length c2, .int .i64 f2, .bool z2] from Ky140.out.drew)
        have Nr141 := Lib.hid (own_below Nr140.out (Below.refl _ v140).drew)
        have Ny141 := Lib.hid (own_below Ny140.out (Below.refl _ v140).drew)
        have Nb141 := Lib.hid (own_below Nb140.out (Below.refl _ v140).drew)
        clear hS B140 Kx140 Ky140 Nr140 Ny140 Nb140
        generalize v140.drew = v141 at B141 Kx141 Ky141 Nr141 Ny141 Nb141 ⊢
        have hS : Blk v141 g_x [.int .i64 n1, .string d1, .slice a1 rs1.length c1, .int .i64 f1, .bool z1] ∧ Blk v141 g_y [.int .i64 n2, .string d2, .slice a2 rs2.length c2, .int .i64 f2, .bool z2] ∧ v141.ownsRow v102.heap.size 5 1 V l.length (byteCells l) := ⟨Kx141.out, Ky141.out, Nb141.out⟩
        refine wpAnyH_take (i := 0) (v := .agg #[.int .i64 n2, .string d2, .slice a2 rs2.length c2, .int .i64 f2, .bool z2]) rfl (by kernel_rfl) (by kernel_rfl) (by kernel_rfl) (fun _ _ _ h => h) (Or.inl ⟨rfl, by intro w hS; obtain ⟨⟨hh0, hh1, hh2, hh3, hh4⟩, _⟩ := hS.2.1.of5; go_simp⟩) hS ?_
        change wpAnyH _ _ _ _ _ _ _ { tmps := #[_, _, _, _, _, _, _, _, _, _, _, _, _, _, _, _, _, _, _, _, _, _, _, _, _, _, _, _, _, _, _, _, _, _, _, _, _, _, _, _, _, _, _, _, _, _, _, _, _, _, _, _, _, _, _, _, _, _, _, _, _, _, _, _, _, _, _, _, _, _, _, _, _, _, _, _, _, _, _, _, _, _, _, _, _, _, _, _, _, _, _, _, _, _, _, _, _, _, _, _, _, _, _, _, _, _, _, _, _, _, _, _, _, _, _, _, _, _, _, _, _, _, _, _, _, _, _, _, _, _, _, _], defers := [] } _
        refine wpAnyH_take (i := 1) (v := .agg #[.int .i64 n1, .string d1, .slice a1 rs1.length c1, .int .i64 f1, .bool z1]) rfl (by kernel_rfl) (by kernel_rfl) (by kernel_rfl) (fun _ _ _ h => h) (Or.inl ⟨rfl, by intro w hS; obtain ⟨⟨hh0, hh1, hh2, hh3, hh4⟩, _⟩ := hS.1.of5; go_simp⟩) hS ?_
        change wpAnyH _ _ _ _ _ _ _ { tmps := #[_, _, _, _, _, _, _, _, _, _, _, _, _, _, _, _, _, _, _, _, _, _, _, _, _, _, _, _, _, _, _, _, _, _, _, _, _, _, _, _, _, _, _, _, _, _, _, _, _, _, _, _, _, _, _, _, _, _, _, _, _, _, _, _, _, _, _, _, _, _, _, _, _, _, _, _, _, _, _, _, _, _, _, _, _, _, _, _, _, _, _, _, _, _, _, _, _, _, _, _, _, _, _, _, _, _, _, _, _, _, _, _, _, _, _, _, _, _, _, _, _, _, _, _, _, _, _, _, _, _, _, _], defers := [] } _
        refine wpAnyH_take (i := 2) (v := .int .i64 st) rfl (by kernel_rfl) (by kernel_rfl) (by kernel_rfl) (fun _ _ _ h => h) (Or.inl ⟨rfl, by intro w hS; go_simp⟩) hS ?_
        change wpAnyH _ _ _ _ _ _ _ { tmps := #[_, _, _, _, _, _, _, _, _, _, _, _, _, _, _, _, _, _, _, _, _, _, _, _, _, _, _, _, _, _, _, _, _, _, _, _, _, _, _, _, _, _, _, _, _, _, _, _, _, _, _, _, _, _, _, _, _, _, _, _, _, _, _, _, _, _, _, _, _, _, _, _, _, _, _, _, _, _, _, _, _, _, _, _, _, _, _, _, _, _, _, _, _, _, _, _, _, _, _, _, _, _, _, _, _, _, _, _, _, _, _, _, _, _, _, _, _, _, _, _, _, _, _, _, _, _, _, _, _, _, _, _], defers := [] } _
        refine wpAnyH_take (i := 3) (v := .int .i64 off) rfl (by kernel_rfl) (by kernel_rfl) (by kernel_rfl) (fun _ _ _ h => h) (Or.inl ⟨rfl, by intro w hS; go_simp⟩) hS ?_
        change wpAnyH _ _ _ _ _ _ _ { tmps := #[_, _, _, _, _, _, _, _, _, _, _, _, _, _, _, _, _, _, _, _, _, _, _, _, _, _, _, _, _, _, _, _, _, _, _, _, _, _, _, _, _, _, _, _, _, _, _, _, _, _, _, _, _, _, _, _, _, _, _, _, _, _, _, _, _, _, _, _, _, _, _, _, _, _, _, _, _, _, _, _, _, _, _, _, _, _, _, _, _, _, _, _, _, _, _, _, _, _, _, _, _, _, _, _, _, _, _, _, _, _, _, _, _, _, _, _, _, _, _, _, _, _, _, _, _, _, _, _, _, _, _, _], defers := [] } _
        refine wpAnyH_take (i := 5) (v := V) rfl (by kernel_rfl) (by kernel_rfl) (by kernel_rfl) (fun _ _ _ h => h) (Or.inl ⟨rfl, by intro w hS; go_simp⟩) hS ?_
        change wpAnyH _ _ _ _ _ _ _ { tmps := #[_, _, _, _, _, _, _, _, _, _, _, _, _, _, _, _, _, _, _, _, _, _, _, _, _, _, _, _, _, _, _, _, _, _, _, _, _, _, _, _, _, _, _, _, _, _, _, _, _, _, _, _, _, _, _, _, _, _, _, _, _, _, _, _, _, _, _, _, _, _, _, _, _, _, _, _, _, _, _, _, _, _, _, _, _, _, _, _, _, _, _, _, _, _, _, _, _, _, _, _, _, _, _, _, _, _, _, _, _, _, _, _, _, _, _, _, _, _, _, _, _, _, _, _, _, _, _, _, _, _, _, _], defers := [] } _
        refine wpAnyH_take (i := 6) (v := .string t) rfl (by kernel_rfl) (by kernel_rfl) (by kernel_rfl) (fun _ _ _ h => h) (Or.inl ⟨rfl, by intro w hS; have hcv := CV.out _ hS.2.2; go_simp⟩) hS ?_
        change wpAnyH _ _ _ _ _ _ _ { tmps := #[_, _, _, _, _, _, _, _, _, _, _, _, _, _, _, _, _, _, _, _, _, _, _, _, _, _, _, _, _, _, _, _, _, _, _, _, _, _, _, _, _, _, _, _, _, _, _, _, _, _, _, _, _, _, _, _, _, _, _, _, _, _, _, _, _, _, _, _, _, _, _, _, _, _, _, _, _, _, _, _, _, _, _, _, _, _, _, _, _, _, _, _, _, _, _, _, _, _, _, _, _, _, _, _, _, _, _, _, _, _, _, _, _, _, _, _, _, _, _, _, _, _, _, _, _, _, _, _, _, _, _, _], defers := [] } _
        refine wpAnyH_ready (rs := [4]) (by kernel_rfl) (by simp) ?_
        refine AllReadyH.cons (i := 4) rfl (fun K hK => ?zq3) AllReadyH.nil
        rw [if_pos (by first | rfl | kernel_rfl)]
        go_simp
        clear hS
        refine (SS.out _).mono ?_
        rintro e v142 ⟨rfl, hb⟩
        have B142 := Lib.hid (B141.out.trans (hb.mono B141.out.size))
        have Kx142 := Lib.hid (Kx141.out.below hb)
        have Ky142 := Lib.hid (Ky141.out.below hb)
        have Nr142 := Lib.hid (own_below Nr141.out hb)
        have Ny142 := Lib.hid (own_below Ny141.out hb)
        have Nb142 := Lib.hid (own_below Nb141.out hb)
        clear hb B141 Kx141 Ky141 Nr141 Ny141 Nb141
        refine hK.out _ _ ⟨Kx142.out, Ky142.out, Nb142.out⟩ (fun hS => ?_)
        clear hK K
        change wpAnyH _ _ _ _ _ _ _ { tmps := #[_, _, _, _, _, _, _, _, _, _, _, _, _, _, _, _, _, _, _, _, _, _, _, _, _, _, _, _, _, _, _, _, _, _, _, _, _, _, _, _, _, _, _, _, _, _, _, _, _, _, _, _, _, _, _, _, _, _, _, _, _, _, _, _, _, _, _, _, _, _, _, _, _, _, _, _, _, _, _, _, _, _, _, _, _, _, _, _, _, _, _, _, _, _, _, _, _, _, _, _, _, _, _, _, _, _, _, _, _, _, _, _, _, _, _, _, _, _, _, _, _, _, _, _, _, _, _, _, _, _, _, _], defers := [] } _
        refine wpAnyH_ready (rs := [7]) (by kernel_rfl) (by simp) ?_
        refine AllReadyH.cons (i := 7) rfl (fun K hK => ?zq4) AllReadyH.nil
        rw [if_pos (by first | rfl | kernel_rfl)]
        go_simp
        clear hS
        refine (AS.out _ (HasP.own Nr142.out)).mono ?_
        rintro e v143 ⟨a3, c3, rfl, ho, hb⟩
        have Nq143 := Lib.hid ho
        clear ho
        have B143 := Lib.hid (B142.out.trans (hb.mono B142.out.size))
        have Kx143 := Lib.hid (Kx142.out.below hb)
        have Ky143 := Lib.hid (Ky142.out.below hb)
        have Nr143 := Lib.hid (own_below Nr142.out hb)
        have Ny143 := Lib.hid (own_below Ny142.out hb)
        have Nb143 := Lib.hid (own_below Nb142.out hb)
        clear hb B142 Kx142 Ky142 Nr142 Ny142 Nb142
        refine hK.out _ _ ⟨Kx143.out, Ky143.out, Nb143.out⟩ (fun hS => ?_)
        clear hK K
        change wpAnyH _ _ _ _ _ _ _ { tmps := #[_, _, _, _, _, _, _, _, _, _, _, _, _, _, _, _, _, _, _, _, _, _, _, _, _, _, _, _, _, _, _, _, _, _, _, _, _, _, _, _, _, _, _, _, _, _, _, _, _, _, _, _, _, _, _, _, _, _, _, _, _, _, _, _, _, _, _, _, _, _, _, _, _, _, _, _, _, _, _, _, _, _, _, _, _, _, _, _, _, _, _, _, _, _, _, _, _, _, _, _, _, _, _, _, _, _, _, _, _, _, _, _, _, _, _, _, _, _, _, _, _, _, _, _, _, _, _, _, _, _, _, _], defers := [] } _
        refine wpAnyH_ready (rs := [8]) (by kernel_rfl) (by simp) ?_
        refine AllReadyH.cons (i := 8) rfl (fun K hK => ?zq5) AllReadyH.nil
        rw [if_pos (by first | rfl | kernel_rfl)]
        go_simp
        clear hS
        refine (SR.out a2 a3 c2 c3 _ (Row.ownV Ny143.out) (Row.ownV Nq143.out)).mono ?_
        rintro e v144 ⟨rfl, hb⟩
        have B144 := Lib.hid (B143.out.trans (hb.mono B143.out.size))
        have Kx144 := Lib.hid (Kx143.out.below hb)
        have Ky144 := Lib.hid (Ky143.out.below hb)
        have Nr144 := Lib.hid (own_below Nr143.out hb)
        have Ny144 := Lib.hid (own_below Ny143.out hb)
        have Nb144 := Lib.hid (own_below Nb143.out hb)
        have Nq144 := Lib.hid (own_below Nq143.out hb)
        clear hb B143 Kx143 Ky143 Nr143 Ny143 Nb143 Nq143
        refine hK.out _ _ ⟨Kx144.out, Ky144.out, Nb144.out⟩ (fun hS => ?_)
        clear hK K
        change wpAnyH _ _ _ _ _ _ _ { tmps := #[_, _, _, _, _, _, _, _, _, _, _, _, _, _, _, _, _, _, _, _, _, _, _, _, _, _, _, _, _, _, _, _, _, _, _, _, _, _, _, _, _, _, _, _, _, _, _, _, _, _, _, _, _, _, _, _, _, _, _, _, _, _, _, _, _, _, _, _, _, _, _, _, _, _, _, _, _, _, _, _, _, _, _, _, _, _, _, _, _, _, _, _, _, _, _, _, _, _, _, _, _, _, _, _, _, _, _, _, _, _, _, _, _, _, _, _, _, _, _, _, _, _, _, _, _, _, _, _, _, _, _, _], defers := [] } _
        refine wpAnyH_take (i := 9) (v := .bool false) rfl (by kernel_rfl) (by kernel_rfl) (by kernel_rfl) (fun _ _ _ h => h) (Or.inl ⟨rfl, by intro w hS; go_simp⟩) hS ?_
        change wpAnyH _ _ _ _ _ _ _ { tmps := #[_, _, _, _, _, _, _, _, _, _, _, _, _, _, _, _, _, _, _, _, _, _, _, _, _, _, _, _, _, _, _, _, _, _, _, _, _, _, _, _, _, _, _, _, _, _, _, _, _, _, _, _, _, _, _, _, _, _, _, _, _, _, _, _, _, _, _, _, _, _, _, _, _, _, _, _, _, _, _, _, _, _, _, _, _, _, _, _, _, _, _, _, _, _, _, _, _, _, _, _, _, _, _, _, _, _, _, _, _, _, _, _, _, _, _, _, _, _, _, _, _, _, _, _, _, _, _, _, _, _, _, _], defers := [] } _
        refine wpAnyH_done (by kernel_rfl) ?_ _
        refine NoPanic.normal ?_
        obtain ⟨⟨cx0, cx1, cx2, cx3, cx4⟩, dx0, dx1, dx2, dx3, dx4⟩ := Kx144.out.of5
        obtain ⟨⟨cy0, cy1, cy2, cy3, cy4⟩, dy0, dy1, dy2, dy3, dy4⟩ := Ky144.out.of5
        go_upto_region 23 with fail
        clear cx0 cx1 cx2 cx3 cx4 dx0 dx1 dx2 dx3 dx4 cy0 cy1 cy2 cy3 cy4 dy0 dy1 dy2 dy3 dy4
        clear SS AS SR CV
        refine wp_region_noPanic ?_
        refine wp_region_held_drew (S := fun w' => Blk w' g_y [.int .i64 n2, .string d2, .slice a2 rs2.length c2, .int .i64 f2, .bool z2]) (by kernel_rfl) Ky144.out (fun hS => ?_)
        have B145 := Lib.hid (show Below w.heap.size w v144.drew from B144.out.drew)
        have Kx145 := Lib.hid (show Blk v144.drew g_x [.int .i64 n1, .string d1, .slice a1 rs1.length c1, .int .i64 f1, .bool z1] from Kx144.out.drew)
        have Ky145 := Lib.hid (show Blk v144.drew g_y [.int .i64 n2, .string d2, .slice a2 rs2.length c2, .int .i64 f2, .bool z2] from Ky144.out.drew)
        have Nr145 := Lib.hid (own_drewn Nr144.out)
        have Ny145 := Lib.hid (own_drewn Ny144.out)
        clear hS B144 Kx144 Ky144 Nr144 Ny144
        generalize v144.drew = v145 at B145 Kx145 Ky145 Nr145 Ny145 ⊢
        have hS : Blk v145 g_y [.int .i64 n2, .string d2, .slice a2 rs2.length c2, .int .i64 f2, .bool z2] := Ky145.out
        refine wpAnyH_take (i := 0) (v := .agg #[.int .i64 n2, .string d2, .slice a2 rs2.length c2, .int .i64 f2, .bool z2]) rfl (by kernel_rfl) (by kernel_rfl) (by kernel_rfl) (fun _ _ _ h => h) (Or.inl ⟨rfl, by intro w hS; obtain ⟨⟨h0, h1, h2, h3, h4⟩, _⟩ := hS.of5; go_simp⟩) hS ?_
        refine wpAnyH_take (i := 1) (v := .slice a0 s0.length cap0) rfl (by kernel_rfl) (by kernel_rfl) (by kernel_rfl) (fun _ _ _ h => h) (Or.inl ⟨rfl, by intro w hS; go_simp⟩) hS ?_
        refine wpAnyH_take (i := 2) (v := .int .i64 k) rfl (by kernel_rfl) (by kernel_rfl) (by kernel_rfl) (fun _ _ _ h => h) (Or.inl ⟨rfl, by intro w hS; go_simp⟩) hS ?_
        refine wpAnyH_take (i := 3) (v := .int .i64 ((3 * k : Nat) : Int)) rfl (by kernel_rfl) (by kernel_rfl) (by kernel_rfl) (fun _ _ _ h => h) (Or.inl ⟨rfl, by intro w hS; first | (go_simp; done) | (go_simp; exact hw1)⟩) hS ?_
        refine wpAnyH_take (i := 4) (v := .int .i64 ((3 * k + 3 : Nat) : Int)) rfl (by kernel_rfl) (by kernel_rfl) (by kernel_rfl) (fun _ _ _ h => h) (Or.inl ⟨rfl, by intro w hS; first | (go_simp; done) | (go_simp; exact hw4)⟩) hS ?_
        refine wpAnyH_ready (rs := [5]) (by kernel_rfl) (by simp) ?_
        refine AllReadyH.cons (i := 5) rfl (fun K hK => ?zw12) AllReadyH.nil
        rw [if_pos (by rfl)]
        go_simp
        clear hS
        refine (AT0.out (3 * k + 3) _ (by omega) B145.out).mono ?_
        rintro e v146 ⟨q3, rfl, hq3, hb⟩
        have B146 := Lib.hid (B145.out.trans (hb.mono B145.out.size))
        have Kx146 := Lib.hid (Kx145.out.below hb)
        have Ky146 := Lib.hid (Ky145.out.below hb)
        have Nr146 := Lib.hid (own_below Nr145.out hb)
        have Ny146 := Lib.hid (own_below Ny145.out hb)
        clear hb B145 Kx145 Ky145 Nr145 Ny145
        refine hK.out _ _ Ky146.out (fun hS => ?_)
        clear hK K
        obtain ⟨q5, hq5⟩ : ∃ q5 : Int, q3.tmod 5 = q5 := ⟨_, rfl⟩
        refine wpAnyH_take (i := 6) (v := .int .i64 q5) rfl (by kernel_rfl) (by kernel_rfl) (by kernel_rfl) (fun _ _ _ h => h) (Or.inl ⟨rfl, by intro w hS; first | (go_simp; done) | (go_simp; exact hq5)⟩) hS ?_
        clear hq3 hq5 hw1 hw4
        have TI := fun w h => takenInI n2 f2 z2 d2 a2 c2 rs2 q5 HB2.out w h
        unfold EndTk at TI
        obtain ⟨s4, d4, e1, e2, hA4, hsz4, hs4⟩ := asm_tak HAs.out.1 q5
        simp only [e1, e2] at TI
        have HA4 := Lib.hid (show Asm st ⟨n2, d4, rs2, f2, z2⟩ (G ++ s4) ∧ (G ++ s4).size + d4.size ≤ 33 * (k + 1) from ⟨hA4, by have h1 := HAs.out.2; have h2 := HA.out.2; simp only at h1; omega⟩)
        have hcc : ¬ 9223372036854775807 < G.size + s4.size := by have h2 := HA.out.2; omega
        clear e1 e2 hA4 hsz4 hs4 HAs HA
        replace TI := Lib.hid TI
        refine wpAnyH_ready (rs := [7]) (by kernel_rfl) (by simp) ?_
        refine AllReadyH.cons (i := 7) rfl (fun K hK => ?zw13) AllReadyH.nil
        rw [if_pos (by rfl)]
        go_simp
        clear hS
        refine (TI.out _ (HasP.own Ny146.out)).mono ?_
        rintro e v147 ⟨a4, c4, rfl, ho, hb⟩
        have m_u_x : (.slice a4 rs2.length c4 : Value).ownBlock ≠ some g_x := fun e => by have h1 := (ho.lt _ e).1; have h2 := Kx146.out.lt; omega
        have m_u_y : (.slice a4 rs2.length c4 : Value).ownBlock ≠ some g_y := fun e => by have h1 := (ho.lt _ e).1; have h2 := Ky146.out.lt; omega
        have Nu147 := Lib.hid (own_down ho (show g_x + 1 ≤ _ from Kx146.out.lt))
        clear ho
        have B147 := Lib.hid (B146.out.trans (hb.mono B146.out.size))
        have Kx147 := Lib.hid (Kx146.out.below hb)
        have Ky147 := Lib.hid (Ky146.out.below hb)
        have Nr147 := Lib.hid (own_below Nr146.out hb)
        have Ny147 := Lib.hid (own_below Ny146.out hb)
        clear hb B146 Kx146 Ky146 Nr146 Ny146
        refine hK.out _ _ Ky147.out (fun hS => ?_)
        clear hK K
        refine wpAnyH_take (i := 8) (v := .tuple #[.agg #[.int .i64 n2, .string d4, .slice a4 rs2.length c4, .int .i64 f2, .bool z2], .string s4]) rfl (by kernel_rfl) (by kernel_rfl) (by kernel_rfl) (fun _ _ _ h => h) (Or.inl ⟨rfl, by intro w hS; go_simp⟩) hS ?_
        refine wpAnyH_take (i := 9) (v := .agg #[.int .i64 n2, .string d4, .slice a4 rs2.length c4, .int .i64 f2, .bool z2]) rfl (by kernel_rfl) (by kernel_rfl) (by kernel_rfl) (fun _ _ _ h => h) (Or.inl ⟨rfl, by intro w hS; go_simp⟩) hS ?_
        refine wpAnyH_take (i := 10) (v := .string s4) rfl (by kernel_rfl) (by kernel_rfl) (by kernel_rfl) (fun _ _ _ h => h) (Or.inl ⟨rfl, by intro w hS; go_simp⟩) hS ?_
        obtain ⟨⟨cx0, cx1, cx2, cx3, cx4⟩, dx0, dx1, dx2, dx3, dx4⟩ := Kx147.out.of5
        refine wpAnyH_ready (rs := [11]) (by kernel_rfl) (by simp) ?_
        refine AllReadyH.cons (i := 11) rfl (fun K hK => ?zw14) AllReadyH.nil
        rw [if_pos (by rfl)]
        go_simp
        clear hS
        have B148 := Lib.hid (show Below w.heap.size w (((((v147.setCell ⟨g_x, 0, none⟩ (.int .i64 n2)).setCell ⟨g_x, 1, none⟩ (.string d4)).setCell ⟨g_x, 2, none⟩ (.slice a4 rs2.length c4)).setCell ⟨g_x, 3, none⟩ (.int .i64 f2)).setCell ⟨g_x, 4, none⟩ (.bool z2)) from (((((B147.out.setCell l_x (.int .i64 n2)).setCell l_x (.string d4)).setCell l_x (.slice a4 rs2.length c4)).setCell l_x (.int .i64 f2)).setCell l_x (.bool z2)))
        have Kx148 := Lib.hid (show Blk (((((v147.setCell ⟨g_x, 0, none⟩ (.int .i64 n2)).setCell ⟨g_x, 1, none⟩ (.string d4)).setCell ⟨g_x, 2, none⟩ (.slice a4 rs2.length c4)).setCell ⟨g_x, 3, none⟩ (.int .i64 f2)).setCell ⟨g_x, 4, none⟩ (.bool z2)) g_x [.int .i64 n2, .string d4, .slice a4 rs2.length c4, .int .i64 f2, .bool z2] from (((((Kx147.out.set 0 (.int .i64 n2)).set 1 (.string d4)).set 2 (.slice a4 rs2.length c4)).set 3 (.int .i64 f2)).set 4 (.bool z2)))
        have Ky148 := Lib.hid (show Blk (((((v147.setCell ⟨g_x, 0, none⟩ (.int .i64 n2)).setCell ⟨g_x, 1, none⟩ (.string d4)).setCell ⟨g_x, 2, none⟩ (.slice a4 rs2.length c4)).setCell ⟨g_x, 3, none⟩ (.int .i64 f2)).setCell ⟨g_x, 4, none⟩ (.bool z2)) g_y [.int .i64 n2, .string d2, .slice a2 rs2.length c2, .int .i64 f2, .bool z2] from (((((Ky147.out.setOther ⟨g_x, 0, none⟩ (.int .i64 n2) (fun e => n_x_y e.symm)).setOther ⟨g_x, 1, none⟩ (.string d4) (fun e => n_x_y e.symm)).setOther ⟨g_x, 2, none⟩ (.slice a4 rs2.length c4) (fun e => n_x_y e.symm)).setOther ⟨g_x, 3, none⟩ (.int .i64 f2) (fun e => n_x_y e.symm)).setOther ⟨g_x, 4, none⟩ (.bool z2) (fun e => n_x_y e.symm)))
        have Nu148 := Lib.hid (own_setn (own_setn (own_setn (own_setn (own_setn Nu147.out (g := g_x) (k := 0) m_u_x (.int .i64 n2)) (g := g_x) (k := 1) m_u_x (.string d4)) (g := g_x) (k := 2) m_u_x (.slice a4 rs2.length c4)) (g := g_x) (k := 3) m_u_x (.int .i64 f2)) (g := g_x) (k := 4) m_u_x (.bool z2))
        refine hK.out _ _ Ky148.out (fun hS => ?_)
        clear hK K
        clear B147 Kx147 Ky147 Nu147
        clear cx0 cx1 cx2 cx3 cx4 dx0 dx1 dx2 dx3 dx4
        generalize ((((v147.setCell ⟨g_x, 0, none⟩ (.int .i64 n2)).setCell ⟨g_x, 1, none⟩ (.string d4)).setCell ⟨g_x, 2, none⟩ (.slice a4 rs2.length c4)).setCell ⟨g_x, 3, none⟩ (.int .i64 f2)).setCell ⟨g_x, 4, none⟩ (.bool z2) = v148 at hS B148 Kx148 Ky148 Nu148 ⊢
        refine wpAnyH_take (i := 12) (v := .string s4) rfl (by kernel_rfl) (by kernel_rfl) (by kernel_rfl) (fun _ _ _ h => h) (Or.inl ⟨rfl, by intro w hS; go_simp⟩) hS ?_
        refine wpAnyH_done (by kernel_rfl) ?_ _
        refine NoPanic.normal ?_
        obtain ⟨⟨cx0, cx1, cx2, cx3, cx4⟩, dx0, dx1, dx2, dx3, dx4⟩ := Kx148.out.of5
        obtain ⟨⟨cy0, cy1, cy2, cy3, cy4⟩, dy0, dy1, dy2, dy3, dy4⟩ := Ky148.out.of5
        go_wp2_with fail
        clear cx0 cx1 cx2 cx3 cx4 dx0 dx1 dx2 dx3 dx4 cy0 cy1 cy2 cy3 cy4 dy0 dy1 dy2 dy3 dy4
        go_roundw
        case rel => exact ⟨G ++ s4, k + 1, rfl, by omega, by go_num, n2, f2, d4, rs2, z2, a4, c4, HA4, Kx148, Nu148, B148⟩
        case measure => simp [RowKit.intOf]; omega
  · have h1 : 1048576 < s0.length := by omega
    go_enter Try.func4, Try.ntmps4
    go_wp2_with fail
    refine (big_yes _ _ _ _ h1 hm).mono ?_
    rintro e w' ⟨rfl, rfl⟩
    go_wp2_with fail
    go_ret
    exact ⟨rfl, Below.refl _ _⟩
theorem own : ownKnob Try.prog.godebug = none := by kernel_rfl
theorem laidOut : laidOutB Try.prog = true := by kernel_rfl

set_option maxRecDepth 100000 in
theorem lifted (os : Os) (started : os.Started) (H : Type) (enc : TypeId × Value → H) :
    ReturnsInHanded {} Try.checked os 4 .any (Rows.fnAssemblySpec.pre6 enc Try.prog Try.f4 Rows.fnAssemblyRow.domain false) (Rows.fnAssemblySpec.post enc Try.prog Try.f4 false true false false) := by
  refine returnsInHanded_of_change (C := Try.checked) own started (by kernel_rfl) Try.func4
    (ChangeSpec.witness6 (enc := enc) (C := Try.checked) false ⟨#[], #[.slice none 0 0], []⟩ 8 (by kernel_rfl) (by kernel_rfl) (by kernel_rfl) (by kernel_rfl)) ?_
  intro W base args ds gs before hval0 hW _ _
  have hval : ∀ (j : Nat) t v, Try.f4.params[j]? = some t → args[j]? = some v → Value.okWide Try.prog W .any base t v := hval0
  have hW' := hW
  obtain ⟨p, q, hA0, hV, rfl, _, _⟩ := hW
  have hA : DataW.TrodAll enc Try.prog W 0 (fun _ => true) true Try.f4.params.toList args.toList ds p := hA0
  rw [Try.params4] at hA hval
  obtain ⟨v0, vs0, d0, ds0, p0, q0, hargs, rfl, rfl, h0, r0⟩ := trodAll_cons hA
  obtain ⟨rfl, rfl, rfl⟩ := trodAll_nil r0
  obtain rfl : args = #[v0] := by cases args; simp_all
  obtain ⟨rfl, rfl⟩ := trodVars_none hV
  obtain ⟨a0, len0, cap0, rfl⟩ := okWide_slice Try.underlying22 (hval 0 22 v0 rfl rfl)
  have k0 := h0
  have lt0 : ∀ x ∈ p0, x.block < W.heap.size := by obtain ⟨m, hm⟩ := k0; exact DataW.trod_lt m _ _ _ hm
  obtain ⟨s0, w0⟩ : ∃ bs : List UInt8, IsBytes W a0 len0 bs := by obtain ⟨fuel, hf⟩ := h0; exact openBytes Try.underlying22 Try.underlying5 (by kernel_rfl) hf
  clear hA0 hval0
  refine (walk a0 len0 cap0 s0 w0).mono fun e W' ⟨he, bel⟩ => ?_
  subst he
  exact ⟨_, rfl, _, _, _, [], _, [], hW', trodAll_mk1 (shut_bool Try.underlying4 _), (trodAll_cons_mk (Below.trod laidOut (by kernel_rfl) (of_decide_eq_true (by kernel_rfl)) k0 bel lt0) trodAll_mk0), rfl, bel.frame _, fun h => by cases h⟩

theorem over : Rows.fnAssemblyRow.holds Try.pinned (OpenSpec.ofChange Rows.fnAssemblySpec) :=
  OpenClaim.holds_of_wide 4 Try.f4 rfl rfl rfl rfl rfl rfl rfl ⟨rfl, rfl, rfl, rfl, rfl⟩ rfl rfl rfl rfl rfl (by kernel_rfl) Try.func4 (by kernel_rfl)
    (of_decide_eq_true (by kernel_rfl)) (by unfold Func.isWrapper; first | (rw [if_pos (by decide +kernel)]; kernel_rfl) | (rw [if_neg (by decide +kernel)]; exact ⟨rfl, rfl⟩))
    (fun os started H enc _ => lifted os started H enc)

theorem proved : Rows.FnAssemblySaid := over
#print axioms proved
end Go.Proofs.Ytpbnkkgfjmkcdaa.fnAssembly
