/- ReadSegment of the model, by cases. Nothing here is a claim. -/
import Derived.Test.YtlfbcfhekfmkfaaSegTxt
import Derived.Test.YtlfbcfhekfmkfaaSegOk
import Derived.Test.YtlfbcfhekfmkfaaReadOptS
import Derived.Test.YtlfbcfhekfmkfaaSum
import Derived.Test.YtlfbcfhekfmkfaaGetS
import Derived.Test.YtlfbcfhekfmkfaaPseudo
import Derived.Test.YtlfbcfhekfmkfaaCurA
import Derived.Test.YtlfbcfhekfmkfaaKit
import Derived.Deep.RegionWith
import Derived.Deep.DeepCutAuto
namespace Go.Proofs.Ytlfbcfhekfmkfaa
open Go.RowKit Go.Lib

set_option maxRecDepth 100000 in
set_option maxHeartbeats 4000000 in
theorem readSegS_bad (s : ByteArray) (x z : Int) (w : World) (hs : s.size ≤ 1048576) (h : 20 ≤ s.size) (hn : 20 ≤ segN s ∧ segN s ≤ s.size) (hp : segPs x z s.size ≠ ⟨#[]⟩) (hr : sumRight (segPs x z s.size ++ s) = true) (ho : (optRead (s.extract 20 (segN s))).2 = true) (hc : segOk (segCand s) = false) :
    Calls Try.prog 19 #[.string s, .int .i64 x, .int .i64 z] w fun e w' => e = .returned (.tuple #[.agg #[.int .i64 0, .int .i64 0, .int .i64 0, .int .i64 0, .int .i64 0, .int .i64 0, .int .i64 0, .int .i64 0, .bool false, .bool false, .int .i64 0, .int .i64 0, .string ⟨#[]⟩], .bool false]) ∧ Below w.heap.size w w' := by
  have h0 : ¬ (s.size : Int) < 20 := by omega
  have h12 : 12 < s.size := by omega
  have i12 : (12 : Int) < s.size := by omega
  have w12 := byte_wrap s[12]
  have b12 := s[12].toNat_lt
  obtain ⟨n, hn'⟩ : ∃ n, segN s = n := ⟨_, rfl⟩
  rw [hn'] at hn
  have q0 : IntKind.i64.wrap ((s[12].toNat : Int) / 16) = (s[12].toNat : Int) / 16 := by rw [IntKind.wrap_i64]; omega
  have q1 : IntKind.i64.wrap ((s[12].toNat : Int) / 16 * 4) = (n : Int) := by rw [IntKind.wrap_i64, ← hn']; unfold segN; rw [← at8_eq s 12 h12]; omega
  have CP := Lib.hid (pseudoHeadS x z s.size)
  have e0 : segPs x z s.size = pseudo (putW x 4) (putW z 4) (putW s.size 2) := rfl
  rw [← e0] at CP
  clear e0
  have zp := pseudo_le x z s.size
  have CI := Lib.hid (l1In_any (n : Int) 20 (s.size : Int))
  obtain ⟨P, hP⟩ : ∃ P, segPs x z s.size = P := ⟨_, rfl⟩
  simp only [hP] at *
  clear hP
  have ep := empty_no hp
  clear hp
  have ms : ¬ 9223372036854775807 < P.size + s.size := by omega
  have CR := Lib.hid (sumRightS (P ++ s) (by rw [ByteArray.size_append]; omega))
  rw [hn'] at ho
  rw [hr] at CR
  rw [decide_eq_true (show (20 : Int) ≤ n ∧ (n : Int) ≤ s.size by omega)] at CI
  have j1 : (20 : Int) ≤ n := by omega
  have j2 : (n : Int) ≤ s.size := by omega
  have i13 : (13 : Int) < s.size := by omega
  have h13 : 13 < s.size := by omega
  have w13 := byte_wrap s[13]
  have b13 := s[13].toNat_lt
  have t13 : IntKind.i64.wrap (Int.tmod (s[13].toNat : Int) 64) = ((s[13].toNat % 64 : Nat) : Int) := by rw [Int.tmod_eq_emod_of_nonneg (by omega), IntKind.wrap_i64]; omega
  have t13' : Int.tmod (s[13].toNat : Int) 64 = ((s[13].toNat % 64 : Nat) : Int) := by rw [Int.tmod_eq_emod_of_nonneg (by omega)]; omega
  have CO := (fun w => readOptionsS (s.extract 20 n) w (by rw [ByteArray.size_extract]; omega))
  obtain ⟨⟨⟨m, c, k, t, v, u⟩, ok⟩, hy⟩ : ∃ r, optRead (s.extract 20 n) = r := ⟨_, rfl⟩
  rw [hy] at CO
  simp only [Opt.cs] at CO
  have CO := Lib.hid CO
  rw [hy] at ho
  obtain rfl : ok = true := ho
  have hcand : segCand s = ⟨(gw s 0 2 : Nat), (gw s 2 2 : Nat), (gw s 4 4 : Nat), (gw s 8 4 : Nat), (s[13].toNat : Int) % 64, (gw s 14 2 : Nat), ⟨m, c, k, t, v, u⟩, s.extract n s.size⟩ := by unfold segCand; rw [hn', hy, ← at8_eq s 13 h13]; simp
  rw [hcand] at hc
  have G0 := Lib.hid (fun w => get3S s 0 2 w hs (by omega) (by omega))
  generalize gw s 0 2 = x0 at *
  have G2 := Lib.hid (fun w => get3S s 2 2 w hs (by omega) (by omega))
  generalize gw s 2 2 = x2 at *
  have G4 := Lib.hid (fun w => get3S s 4 4 w hs (by omega) (by omega))
  generalize gw s 4 4 = x4 at *
  have G8 := Lib.hid (fun w => get3S s 8 4 w hs (by omega) (by omega))
  generalize gw s 8 4 = x8 at *
  have G14 := Lib.hid (fun w => get3S s 14 2 w hs (by omega) (by omega))
  generalize gw s 14 2 = x14 at *
  have CS := Lib.hid (segOkS (x0 : Int) (x2 : Int) (x4 : Int) (x8 : Int) ((s[13].toNat : Int) % 64) (x14 : Int) m c k t v u (s.extract n s.size))
  rw [hc] at CS
  clear hn hn' zp hr hy hc hcand
  go_enter Try.func19, Try.ntmps19
  go_wp2_with fail
  refine (CP.out _).mono ?_
  rintro e w1 ⟨rfl, hb1⟩
  have B1 := Lib.hid (((Below.refl w.heap.size w).alloc (Nat.le_refl _) _).trans (hb1.mono (by simp)))
  have E1 := Lib.hid ((Blk.new w [.int .i64 0, .int .i64 0, .int .i64 0, .int .i64 0, .int .i64 0, .int .i64 0, .int .i64 0, .int .i64 0, .bool false, .bool false, .int .i64 0, .int .i64 0, .string ⟨#[]⟩] 27).below hb1)
  clear hb1
  go_wp2_with fail
  refine (CI.out _).mono ?_
  rintro e w2 ⟨rfl, rfl⟩
  go_wp2_with fail
  refine (CR.out _).mono ?_
  rintro e w2 ⟨rfl, rfl⟩
  go_wp2_with fail
  refine (CO.out _).mono ?_
  rintro e w3 ⟨rfl, hb3⟩
  have B3 := Lib.hid (B1.out.trans (hb3.mono B1.out.size))
  have E3 := Lib.hid (E1.out.below hb3)
  clear hb3 B1 E1
  have hgE := E3.out.lt
  have n1 : ¬ w3.heap.size = w.heap.size := by omega
  have n2 : ¬ w.heap.size = w3.heap.size := by omega
  have n3 : ¬ w3.heap.size + 1 = w.heap.size := by omega
  have n4 : ¬ w.heap.size = w3.heap.size + 1 := by omega
  go_upto_region 8 with fail
  go_cut [12] (fun r wx => r = .pointer (some ⟨w3.heap.size + 1, 0, none⟩) ∧ wx = ((w3.alloc (.cells #[.int .i64 m, .int .i64 c, .bool k, .bool t, .int .i64 v, .int .i64 u] 25)).alloc (.cells #[.int .i64 0, .int .i64 0, .int .i64 0, .int .i64 0, .int .i64 ((s[13].toNat : Int) % 64), .int .i64 0, .int .i64 m, .int .i64 c, .bool k, .bool t, .int .i64 v, .int .i64 u, .string (s.extract n s.size)] 27)).drew)
  case first =>
    go_region_with fail
    all_goals (go_wp2_with fail; go_meet; exact ⟨rfl, rfl⟩)
  case rest =>
    obtain ⟨rfl, rfl⟩ := hcut
    go_wp2_with fail
    refine (G0.out _).mono ?_
    rintro e w2 ⟨rfl, rfl⟩
    go_wp2_with fail
    refine (G2.out _).mono ?_
    rintro e w2 ⟨rfl, rfl⟩
    go_wp2_with fail
    refine (G4.out _).mono ?_
    rintro e w2 ⟨rfl, rfl⟩
    go_wp2_with fail
    refine (G8.out _).mono ?_
    rintro e w2 ⟨rfl, rfl⟩
    go_wp2_with fail
    refine (G14.out _).mono ?_
    rintro e w2 ⟨rfl, rfl⟩
    go_wp2_with fail
    refine (CS.out _).mono ?_
    rintro e w5 ⟨rfl, hb5⟩
    have B4 : Below w.heap.size w ((w3.alloc (.cells #[.int .i64 m, .int .i64 c, .bool k, .bool t, .int .i64 v, .int .i64 u] 25)).alloc (.cells #[.int .i64 (x0 : Int), .int .i64 (x2 : Int), .int .i64 (x4 : Int), .int .i64 (x8 : Int), .int .i64 ((s[13].toNat : Int) % 64), .int .i64 (x14 : Int), .int .i64 m, .int .i64 c, .bool k, .bool t, .int .i64 v, .int .i64 u, .string (s.extract n s.size)] 27)).drew := (((B3.out.alloc B3.out.size _).alloc (by simp; exact Nat.le_succ_of_le B3.out.size) _).drew)
    have B5 := Lib.hid (B4.trans (hb5.mono B4.size))
    have E5 := Lib.hid ((((E3.out.alloc (.cells #[.int .i64 m, .int .i64 c, .bool k, .bool t, .int .i64 v, .int .i64 u] 25)).alloc (.cells #[.int .i64 (x0 : Int), .int .i64 (x2 : Int), .int .i64 (x4 : Int), .int .i64 (x8 : Int), .int .i64 ((s[13].toNat : Int) % 64), .int .i64 (x14 : Int), .int .i64 m, .int .i64 c, .bool k, .bool t, .int .i64 v, .int .i64 u, .string (s.extract n s.size)] 27)).drew).below hb5)
    have k5 := ((HasC.new (w3.alloc (.cells #[.int .i64 m, .int .i64 c, .bool k, .bool t, .int .i64 v, .int .i64 u] 25)) (#[.int .i64 (x0 : Int), .int .i64 (x2 : Int), .int .i64 (x4 : Int), .int .i64 (x8 : Int), .int .i64 ((s[13].toNat : Int) % 64), .int .i64 (x14 : Int), .int .i64 m, .int .i64 c, .bool k, .bool t, .int .i64 v, .int .i64 u, .string (s.extract n s.size)]) 27).drew).keep hb5
    rw [show (w3.alloc (.cells #[.int .i64 m, .int .i64 c, .bool k, .bool t, .int .i64 v, .int .i64 u] 25)).heap.size = w3.heap.size + 1 by simp] at k5
    have K5 := Lib.hid k5
    clear k5
    clear B4 hb5 hgE n1 n2 n3 n4 B3 E3
    obtain ⟨⟨c0, c1, c2, c3, c4, c5, c6, c7, c8, c9, c10, c11, c12⟩, f0, f1, f2, f3, f4, f5, f6, f7, f8, f9, f10, f11, f12⟩ := E5.out.of13
    have hgE := E5.out.lt
    go_wp2_with fail
    exact bodyPost_ret (v := .tuple #[.agg #[.int .i64 0, .int .i64 0, .int .i64 0, .int .i64 0, .int .i64 0, .int .i64 0, .int .i64 0, .int .i64 0, .bool false, .bool false, .int .i64 0, .int .i64 0, .string ⟨#[]⟩], .bool false]) (by simp [results, Try.results19, go_sem, c0, c1, c2, c3, c4, c5, c6, c7, c8, c9, c10, c11, c12]) rfl ⟨rfl, (((((((((((((B5.out).setCell (Nat.le_refl _) _).setCell (Nat.le_refl _) _).setCell (Nat.le_refl _) _).setCell (Nat.le_refl _) _).setCell (Nat.le_refl _) _).setCell (Nat.le_refl _) _).setCell (Nat.le_refl _) _).setCell (Nat.le_refl _) _).setCell (Nat.le_refl _) _).setCell (Nat.le_refl _) _).setCell (Nat.le_refl _) _).setCell (Nat.le_refl _) _).setCell (Nat.le_refl _) _⟩

set_option maxRecDepth 100000 in
set_option maxHeartbeats 4000000 in
theorem readSegS_ok (s : ByteArray) (x z : Int) (w : World) (hs : s.size ≤ 1048576) (h : 20 ≤ s.size) (hn : 20 ≤ segN s ∧ segN s ≤ s.size) (hp : segPs x z s.size ≠ ⟨#[]⟩) (hr : sumRight (segPs x z s.size ++ s) = true) (ho : (optRead (s.extract 20 (segN s))).2 = true) (hc : segOk (segCand s) = true) :
    Calls Try.prog 19 #[.string s, .int .i64 x, .int .i64 z] w fun e w' => e = .returned (.tuple #[.agg (segCand s).cs, .bool true]) ∧ Below w.heap.size w w' := by
  have h13' : 13 < s.size := by omega
  have h0 : ¬ (s.size : Int) < 20 := by omega
  have h12 : 12 < s.size := by omega
  have i12 : (12 : Int) < s.size := by omega
  have w12 := byte_wrap s[12]
  have b12 := s[12].toNat_lt
  obtain ⟨n, hn'⟩ : ∃ n, segN s = n := ⟨_, rfl⟩
  rw [hn'] at hn
  have q0 : IntKind.i64.wrap ((s[12].toNat : Int) / 16) = (s[12].toNat : Int) / 16 := by rw [IntKind.wrap_i64]; omega
  have q1 : IntKind.i64.wrap ((s[12].toNat : Int) / 16 * 4) = (n : Int) := by rw [IntKind.wrap_i64, ← hn']; unfold segN; rw [← at8_eq s 12 h12]; omega
  have CP := Lib.hid (pseudoHeadS x z s.size)
  have e0 : segPs x z s.size = pseudo (putW x 4) (putW z 4) (putW s.size 2) := rfl
  rw [← e0] at CP
  clear e0
  have zp := pseudo_le x z s.size
  have CI := Lib.hid (l1In_any (n : Int) 20 (s.size : Int))
  obtain ⟨P, hP⟩ : ∃ P, segPs x z s.size = P := ⟨_, rfl⟩
  simp only [hP] at *
  clear hP
  have ep := empty_no hp
  clear hp
  have ms : ¬ 9223372036854775807 < P.size + s.size := by omega
  have CR := Lib.hid (sumRightS (P ++ s) (by rw [ByteArray.size_append]; omega))
  rw [hn'] at ho
  rw [hr] at CR
  rw [decide_eq_true (show (20 : Int) ≤ n ∧ (n : Int) ≤ s.size by omega)] at CI
  have j1 : (20 : Int) ≤ n := by omega
  have j2 : (n : Int) ≤ s.size := by omega
  have i13 : (13 : Int) < s.size := by omega
  have h13 : 13 < s.size := by omega
  have w13 := byte_wrap s[13]
  have b13 := s[13].toNat_lt
  have t13 : IntKind.i64.wrap (Int.tmod (s[13].toNat : Int) 64) = ((s[13].toNat % 64 : Nat) : Int) := by rw [Int.tmod_eq_emod_of_nonneg (by omega), IntKind.wrap_i64]; omega
  have t13' : Int.tmod (s[13].toNat : Int) 64 = ((s[13].toNat % 64 : Nat) : Int) := by rw [Int.tmod_eq_emod_of_nonneg (by omega)]; omega
  have CO := (fun w => readOptionsS (s.extract 20 n) w (by rw [ByteArray.size_extract]; omega))
  obtain ⟨⟨⟨m, c, k, t, v, u⟩, ok⟩, hy⟩ : ∃ r, optRead (s.extract 20 n) = r := ⟨_, rfl⟩
  rw [hy] at CO
  simp only [Opt.cs] at CO
  have CO := Lib.hid CO
  rw [hy] at ho
  obtain rfl : ok = true := ho
  have hcand : segCand s = ⟨(gw s 0 2 : Nat), (gw s 2 2 : Nat), (gw s 4 4 : Nat), (gw s 8 4 : Nat), (s[13].toNat : Int) % 64, (gw s 14 2 : Nat), ⟨m, c, k, t, v, u⟩, s.extract n s.size⟩ := by unfold segCand; rw [hn', hy, ← at8_eq s 13 h13]; simp
  have er : (segCand s).cs = #[.int .i64 (gw s 0 2 : Nat), .int .i64 (gw s 2 2 : Nat), .int .i64 (gw s 4 4 : Nat), .int .i64 (gw s 8 4 : Nat), .int .i64 ((s[13].toNat : Int) % 64), .int .i64 (gw s 14 2 : Nat), .int .i64 m, .int .i64 c, .bool k, .bool t, .int .i64 v, .int .i64 u, .string (s.extract n s.size)] := by rw [hcand]; rfl
  rw [er]
  clear er
  rw [hcand] at hc
  have G0 := Lib.hid (fun w => get3S s 0 2 w hs (by omega) (by omega))
  generalize gw s 0 2 = x0 at *
  have G2 := Lib.hid (fun w => get3S s 2 2 w hs (by omega) (by omega))
  generalize gw s 2 2 = x2 at *
  have G4 := Lib.hid (fun w => get3S s 4 4 w hs (by omega) (by omega))
  generalize gw s 4 4 = x4 at *
  have G8 := Lib.hid (fun w => get3S s 8 4 w hs (by omega) (by omega))
  generalize gw s 8 4 = x8 at *
  have G14 := Lib.hid (fun w => get3S s 14 2 w hs (by omega) (by omega))
  generalize gw s 14 2 = x14 at *
  have CS := Lib.hid (segOkS (x0 : Int) (x2 : Int) (x4 : Int) (x8 : Int) ((s[13].toNat : Int) % 64) (x14 : Int) m c k t v u (s.extract n s.size))
  rw [hc] at CS
  clear hn hn' zp hr hy hc hcand
  go_enter Try.func19, Try.ntmps19
  go_wp2_with fail
  refine (CP.out _).mono ?_
  rintro e w1 ⟨rfl, hb1⟩
  have B1 := Lib.hid (((Below.refl w.heap.size w).alloc (Nat.le_refl _) _).trans (hb1.mono (by simp)))
  have E1 := Lib.hid ((Blk.new w [.int .i64 0, .int .i64 0, .int .i64 0, .int .i64 0, .int .i64 0, .int .i64 0, .int .i64 0, .int .i64 0, .bool false, .bool false, .int .i64 0, .int .i64 0, .string ⟨#[]⟩] 27).below hb1)
  clear hb1
  go_wp2_with fail
  refine (CI.out _).mono ?_
  rintro e w2 ⟨rfl, rfl⟩
  go_wp2_with fail
  refine (CR.out _).mono ?_
  rintro e w2 ⟨rfl, rfl⟩
  go_wp2_with fail
  refine (CO.out _).mono ?_
  rintro e w3 ⟨rfl, hb3⟩
  have B3 := Lib.hid (B1.out.trans (hb3.mono B1.out.size))
  have E3 := Lib.hid (E1.out.below hb3)
  clear hb3 B1 E1
  have hgE := E3.out.lt
  have n1 : ¬ w3.heap.size = w.heap.size := by omega
  have n2 : ¬ w.heap.size = w3.heap.size := by omega
  have n3 : ¬ w3.heap.size + 1 = w.heap.size := by omega
  have n4 : ¬ w.heap.size = w3.heap.size + 1 := by omega
  go_upto_region 8 with fail
  go_cut [12] (fun r wx => r = .pointer (some ⟨w3.heap.size + 1, 0, none⟩) ∧ wx = ((w3.alloc (.cells #[.int .i64 m, .int .i64 c, .bool k, .bool t, .int .i64 v, .int .i64 u] 25)).alloc (.cells #[.int .i64 0, .int .i64 0, .int .i64 0, .int .i64 0, .int .i64 ((s[13].toNat : Int) % 64), .int .i64 0, .int .i64 m, .int .i64 c, .bool k, .bool t, .int .i64 v, .int .i64 u, .string (s.extract n s.size)] 27)).drew)
  case first =>
    go_region_with fail
    all_goals (go_wp2_with fail; go_meet; exact ⟨rfl, rfl⟩)
  case rest =>
    obtain ⟨rfl, rfl⟩ := hcut
    go_wp2_with fail
    refine (G0.out _).mono ?_
    rintro e w2 ⟨rfl, rfl⟩
    go_wp2_with fail
    refine (G2.out _).mono ?_
    rintro e w2 ⟨rfl, rfl⟩
    go_wp2_with fail
    refine (G4.out _).mono ?_
    rintro e w2 ⟨rfl, rfl⟩
    go_wp2_with fail
    refine (G8.out _).mono ?_
    rintro e w2 ⟨rfl, rfl⟩
    go_wp2_with fail
    refine (G14.out _).mono ?_
    rintro e w2 ⟨rfl, rfl⟩
    go_wp2_with fail
    refine (CS.out _).mono ?_
    rintro e w5 ⟨rfl, hb5⟩
    have B4 : Below w.heap.size w ((w3.alloc (.cells #[.int .i64 m, .int .i64 c, .bool k, .bool t, .int .i64 v, .int .i64 u] 25)).alloc (.cells #[.int .i64 (x0 : Int), .int .i64 (x2 : Int), .int .i64 (x4 : Int), .int .i64 (x8 : Int), .int .i64 ((s[13].toNat : Int) % 64), .int .i64 (x14 : Int), .int .i64 m, .int .i64 c, .bool k, .bool t, .int .i64 v, .int .i64 u, .string (s.extract n s.size)] 27)).drew := (((B3.out.alloc B3.out.size _).alloc (by simp; exact Nat.le_succ_of_le B3.out.size) _).drew)
    have B5 := Lib.hid (B4.trans (hb5.mono B4.size))
    have E5 := Lib.hid ((((E3.out.alloc (.cells #[.int .i64 m, .int .i64 c, .bool k, .bool t, .int .i64 v, .int .i64 u] 25)).alloc (.cells #[.int .i64 (x0 : Int), .int .i64 (x2 : Int), .int .i64 (x4 : Int), .int .i64 (x8 : Int), .int .i64 ((s[13].toNat : Int) % 64), .int .i64 (x14 : Int), .int .i64 m, .int .i64 c, .bool k, .bool t, .int .i64 v, .int .i64 u, .string (s.extract n s.size)] 27)).drew).below hb5)
    have k5 := ((HasC.new (w3.alloc (.cells #[.int .i64 m, .int .i64 c, .bool k, .bool t, .int .i64 v, .int .i64 u] 25)) (#[.int .i64 (x0 : Int), .int .i64 (x2 : Int), .int .i64 (x4 : Int), .int .i64 (x8 : Int), .int .i64 ((s[13].toNat : Int) % 64), .int .i64 (x14 : Int), .int .i64 m, .int .i64 c, .bool k, .bool t, .int .i64 v, .int .i64 u, .string (s.extract n s.size)]) 27).drew).keep hb5
    rw [show (w3.alloc (.cells #[.int .i64 m, .int .i64 c, .bool k, .bool t, .int .i64 v, .int .i64 u] 25)).heap.size = w3.heap.size + 1 by simp] at k5
    have K5 := Lib.hid k5
    clear k5
    clear B4 hb5 hgE n1 n2 n3 n4 B3 E3
    obtain ⟨⟨c0, c1, c2, c3, c4, c5, c6, c7, c8, c9, c10, c11, c12⟩, f0, f1, f2, f3, f4, f5, f6, f7, f8, f9, f10, f11, f12⟩ := E5.out.of13
    have hgE := E5.out.lt
    have kc0 := K5.out.at 0 rfl
    have kc1 := K5.out.at 1 rfl
    have kc2 := K5.out.at 2 rfl
    have kc3 := K5.out.at 3 rfl
    have kc4 := K5.out.at 4 rfl
    have kc5 := K5.out.at 5 rfl
    have kc6 := K5.out.at 6 rfl
    have kc7 := K5.out.at 7 rfl
    have kc8 := K5.out.at 8 rfl
    have kc9 := K5.out.at 9 rfl
    have kc10 := K5.out.at 10 rfl
    have kc11 := K5.out.at 11 rfl
    have kc12 := K5.out.at 12 rfl
    have hgK := K5.out.1
    skip
    go_wp2_with fail
    exact bodyPost_ret (v := .tuple #[.agg #[.int .i64 (x0 : Int), .int .i64 (x2 : Int), .int .i64 (x4 : Int), .int .i64 (x8 : Int), .int .i64 ((s[13].toNat : Int) % 64), .int .i64 (x14 : Int), .int .i64 m, .int .i64 c, .bool k, .bool t, .int .i64 v, .int .i64 u, .string (s.extract n s.size)], .bool true]) (by simp [results, Try.results19, go_sem, c0, c1, c2, c3, c4, c5, c6, c7, c8, c9, c10, c11, c12]) rfl ⟨rfl, (((((((((((((B5.out).setCell (Nat.le_refl _) _).setCell (Nat.le_refl _) _).setCell (Nat.le_refl _) _).setCell (Nat.le_refl _) _).setCell (Nat.le_refl _) _).setCell (Nat.le_refl _) _).setCell (Nat.le_refl _) _).setCell (Nat.le_refl _) _).setCell (Nat.le_refl _) _).setCell (Nat.le_refl _) _).setCell (Nat.le_refl _) _).setCell (Nat.le_refl _) _).setCell (Nat.le_refl _) _⟩

end Go.Proofs.Ytlfbcfhekfmkfaa
