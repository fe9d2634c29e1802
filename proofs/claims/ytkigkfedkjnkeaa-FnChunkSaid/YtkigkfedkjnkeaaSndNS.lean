/- NextChunk, of the model. Nothing here is a claim. -/
import Derived.Test.YtkigkfedkjnkeaaSndNK
import Derived.Test.YtkigkfedkjnkeaaSndOk
import Derived.Test.YtkigkfedkjnkeaaSndPos
import Derived.Test.YtkigkfedkjnkeaaSndMin
import Derived.Test.YtkigkfedkjnkeaaBlk10
import Derived.Deep.DeepCutAuto
import Derived.Deep.RegionHeld3
namespace Go.Proofs.Ytkigkfedkjnkeaa
open Go.RowKit Go.Lib


set_option maxRecDepth 100000 in
set_option maxHeartbeats 8000000 in
theorem nextChunkS (u : Int) (d : ByteArray) (t : Int) (f g h : Bool) (v m : Int) (w : World) : Calls Try.prog 23 #[.agg #[.int .i64 u, .string d, .int .i64 t, .bool f, .bool g, .bool h], .int .i64 v, .int .i64 m] w (EndNx ⟨u, d, t, f, g, h⟩ v m w) := by
  have OK := (sndOkS u d t f g h)
  cases hok : sndOk ⟨u, d, t, f, g, h⟩ with
  | false =>
    rw [hok] at OK
    replace OK := Lib.hid OK
    unfold EndNx
    rw [(ck_bad hok).1, (ck_bad hok).2]
    simp only [Chk.cs]
    clear hok
    go_enter Try.func23, Try.ntmps23
    have B0 := Lib.hid (show Below w.heap.size w ((w.alloc (.cells #[.int .i64 u, .string d, .int .i64 t, .bool f, .bool g, .bool h] 25)).alloc (.cells #[.int .i64 0, .string ⟨#[]⟩, .bool false] 35)) from (((Below.refl _ w).alloc (by simp) _).alloc (by simp) _))
    have Ks0 := Lib.hid (show Blk ((w.alloc (.cells #[.int .i64 u, .string d, .int .i64 t, .bool f, .bool g, .bool h] 25)).alloc (.cells #[.int .i64 0, .string ⟨#[]⟩, .bool false] 35)) (w.heap.size) [.int .i64 u, .string d, .int .i64 t, .bool f, .bool g, .bool h] from (Blk.new w [.int .i64 u, .string d, .int .i64 t, .bool f, .bool g, .bool h] 25).alloc (.cells #[.int .i64 0, .string ⟨#[]⟩, .bool false] 35))
    have s1 : (w.alloc (.cells #[.int .i64 u, .string d, .int .i64 t, .bool f, .bool g, .bool h] 25)).heap.size = w.heap.size + 1 := by simp
    have Kr0 := Lib.hid (show Blk ((w.alloc (.cells #[.int .i64 u, .string d, .int .i64 t, .bool f, .bool g, .bool h] 25)).alloc (.cells #[.int .i64 0, .string ⟨#[]⟩, .bool false] 35)) (w.heap.size + 1) [.int .i64 0, .string ⟨#[]⟩, .bool false] by have h0 := Blk.new (w.alloc (.cells #[.int .i64 u, .string d, .int .i64 t, .bool f, .bool g, .bool h] 25)) [.int .i64 0, .string ⟨#[]⟩, .bool false] 35; rwa [s1] at h0)
    have n_s_r : w.heap.size ≠ w.heap.size + 1 := by omega
    clear s1
    go_wp2_with fail
    change Calls _ _ _ ((w.alloc (.cells #[.int .i64 u, .string d, .int .i64 t, .bool f, .bool g, .bool h] 25)).alloc (.cells #[.int .i64 0, .string ⟨#[]⟩, .bool false] 35)) _
    generalize (w.alloc (.cells #[.int .i64 u, .string d, .int .i64 t, .bool f, .bool g, .bool h] 25)).alloc (.cells #[.int .i64 0, .string ⟨#[]⟩, .bool false] 35) = v0 at B0 Ks0 Kr0 ⊢
    generalize hh_r : w.heap.size + 1 = g_r at Kr0 n_s_r ⊢
    generalize hh_s : w.heap.size = g_s at Ks0 n_s_r ⊢
    have l_s : w.heap.size ≤ g_s := by omega
    have l_r : w.heap.size ≤ g_r := by omega
    clear hh_s hh_r
    refine (OK.out _).mono ?_
    rintro e v1 ⟨rfl, hb⟩
    have B1 := Lib.hid (B0.out.trans (hb.mono B0.out.size))
    have Ks1 := Lib.hid (Ks0.out.below hb)
    have Kr1 := Lib.hid (Kr0.out.below hb)
    clear hb B0 Ks0 Kr0
    obtain ⟨⟨cs0, cs1, cs2, cs3, cs4, cs5⟩, ds0, ds1, ds2, ds3, ds4, ds5⟩ := Ks1.out.of6
    obtain ⟨⟨cr0, cr1, cr2⟩, dr0, dr1, dr2⟩ := Kr1.out.o3
    go_wp2_with fail
    exact bodyPost_ret (v := .tuple #[.agg #[.int .i64 0, .string ⟨#[]⟩, .bool false], .bool false]) (by simp [results, Try.results23, go_sem, cr0, cr1, cr2]) rfl ⟨rfl, (((B1.out.setCell l_r (.int .i64 0)).setCell l_r (.string ⟨#[]⟩)).setCell l_r (.bool false))⟩
  | true =>
    rw [hok] at OK
    replace OK := Lib.hid OK
    obtain ⟨-, ⟨hd, ht0, ht1⟩, -, -⟩ := sndOk_of hok
    obtain ⟨p, rfl⟩ : ∃ p : Nat, t = (p : Int) := ⟨t.toNat, by omega⟩
    have hfl := fl_bd hok
    simp only at hfl
    have P := Lib.hid (flownS u d p f g h)
    have N := Lib.hid (nextOfS u d p f g h)
    have C1 := l1Min_s v 1000000
    generalize hx1 : min v 1000000 = x1 at C1
    have C2 := l1Max_s 0 x1
    generalize ha : max 0 x1 = a at C2
    have ha0 : 0 ≤ a ∧ a ≤ 1000000 := by omega
    have C3 := l1Max_s 0 (IntKind.i64.wrap (a - fl p g))
    have e3 : max 0 (IntKind.i64.wrap (a - fl p g)) = ckW ⟨u, d, p, f, g, h⟩ v := by rw [IntWalk.i64_in _ (by omega)]; unfold ckW; simp only; omega
    rw [e3] at C3
    have C4 := l1Min_s m (ckW ⟨u, d, p, f, g, h⟩ v)
    generalize hn1 : min m (ckW ⟨u, d, p, f, g, h⟩ v) = n1 at C4
    have C5 := l1Min_s n1 (IntKind.i64.wrap (d.size - p))
    have e5 : IntKind.i64.wrap ((d.size : Int) - p) = (d.size : Int) - p := IntWalk.i64_in _ (by omega)
    generalize hn2 : min n1 (IntKind.i64.wrap ((d.size : Int) - p)) = n2 at C5
    rw [e5] at hn2
    have C6 := l1Max_s 0 n2
    have e6 : max 0 n2 = (ckN ⟨u, d, p, f, g, h⟩ v m : Int) := by unfold ckN; simp only; omega
    rw [e6] at C6
    have hkd : p + ckN ⟨u, d, p, f, g, h⟩ v m ≤ d.size := by unfold ckN; simp only; omega
    have EF : ckF ⟨u, d, p, f, g, h⟩ v m = ((f && (!g && !h)) && (decide ((p : Int) + ckN ⟨u, d, p, f, g, h⟩ v m = d.size) && decide ((ckN ⟨u, d, p, f, g, h⟩ v m : Int) < ckW ⟨u, d, p, f, g, h⟩ v))) := rfl
    have eo := ck_ok (v := v) (m := m) hok
    have ey := chk_yes (s := ⟨u, d, p, f, g, h⟩) (v := v) (m := m)
    have en := chk_no (s := ⟨u, d, p, f, g, h⟩) (v := v) (m := m)
    simp only [Int.toNat_natCast] at ey
    clear e3 e5 e6 hn1 hn2 ha hx1
    unfold EndNx
    generalize chk ⟨u, d, p, f, g, h⟩ v m = c at ey en ⊢
    generalize ckOk ⟨u, d, p, f, g, h⟩ v m = ok at eo ey en ⊢
    generalize ckF ⟨u, d, p, f, g, h⟩ v m = F at eo EF ey
    generalize hyy : d.extract p (p + ckN ⟨u, d, p, f, g, h⟩ v m) = y at ey
    generalize ckN ⟨u, d, p, f, g, h⟩ v m = k at eo hkd hyy C6 EF
    generalize ckW ⟨u, d, p, f, g, h⟩ v = W at C3 C4 EF
    generalize nxt u p g = q at N ey
    generalize fl p g = b at P C3 hfl
    obtain ⟨hb0, hb1, -, -⟩ := hfl
    obtain ⟨ha1, ha2⟩ := ha0
    replace C1 := Lib.hid C1
    replace C2 := Lib.hid C2
    replace C3 := Lib.hid C3
    replace C4 := Lib.hid C4
    replace C5 := Lib.hid C5
    replace C6 := Lib.hid C6
    have EO := Lib.hid eo
    have EY := Lib.hid ey
    have EN := Lib.hid en
    replace EF := Lib.hid EF
    have hpd : p ≤ d.size := by omega
    clear hok ht0 ht1 eo ey en
    go_enter Try.func23, Try.ntmps23
    have B0 := Lib.hid (show Below w.heap.size w ((w.alloc (.cells #[.int .i64 u, .string d, .int .i64 p, .bool f, .bool g, .bool h] 25)).alloc (.cells #[.int .i64 0, .string ⟨#[]⟩, .bool false] 35)) from (((Below.refl _ w).alloc (by simp) _).alloc (by simp) _))
    have Ks0 := Lib.hid (show Blk ((w.alloc (.cells #[.int .i64 u, .string d, .int .i64 p, .bool f, .bool g, .bool h] 25)).alloc (.cells #[.int .i64 0, .string ⟨#[]⟩, .bool false] 35)) (w.heap.size) [.int .i64 u, .string d, .int .i64 p, .bool f, .bool g, .bool h] from (Blk.new w [.int .i64 u, .string d, .int .i64 p, .bool f, .bool g, .bool h] 25).alloc (.cells #[.int .i64 0, .string ⟨#[]⟩, .bool false] 35))
    have s1 : (w.alloc (.cells #[.int .i64 u, .string d, .int .i64 p, .bool f, .bool g, .bool h] 25)).heap.size = w.heap.size + 1 := by simp
    have Kr0 := Lib.hid (show Blk ((w.alloc (.cells #[.int .i64 u, .string d, .int .i64 p, .bool f, .bool g, .bool h] 25)).alloc (.cells #[.int .i64 0, .string ⟨#[]⟩, .bool false] 35)) (w.heap.size + 1) [.int .i64 0, .string ⟨#[]⟩, .bool false] by have h0 := Blk.new (w.alloc (.cells #[.int .i64 u, .string d, .int .i64 p, .bool f, .bool g, .bool h] 25)) [.int .i64 0, .string ⟨#[]⟩, .bool false] 35; rwa [s1] at h0)
    have n_s_r : w.heap.size ≠ w.heap.size + 1 := by omega
    clear s1
    go_wp2_with fail
    change Calls _ _ _ ((w.alloc (.cells #[.int .i64 u, .string d, .int .i64 p, .bool f, .bool g, .bool h] 25)).alloc (.cells #[.int .i64 0, .string ⟨#[]⟩, .bool false] 35)) _
    generalize (w.alloc (.cells #[.int .i64 u, .string d, .int .i64 p, .bool f, .bool g, .bool h] 25)).alloc (.cells #[.int .i64 0, .string ⟨#[]⟩, .bool false] 35) = v0 at B0 Ks0 Kr0 ⊢
    generalize hh_r : w.heap.size + 1 = g_r at Kr0 n_s_r ⊢
    generalize hh_s : w.heap.size = g_s at Ks0 n_s_r ⊢
    have l_s : w.heap.size ≤ g_s := by omega
    have l_r : w.heap.size ≤ g_r := by omega
    clear hh_s hh_r
    refine (OK.out _).mono ?_
    rintro e v1 ⟨rfl, hb⟩
    have B1 := Lib.hid (B0.out.trans (hb.mono B0.out.size))
    have Ks1 := Lib.hid (Ks0.out.below hb)
    have Kr1 := Lib.hid (Kr0.out.below hb)
    clear hb B0 Ks0 Kr0
    obtain ⟨⟨cs0, cs1, cs2, cs3, cs4, cs5⟩, ds0, ds1, ds2, ds3, ds4, ds5⟩ := Ks1.out.of6
    obtain ⟨⟨cr0, cr1, cr2⟩, dr0, dr1, dr2⟩ := Kr1.out.o3
    go_upto_region 3 with fail
    clear cs0 cs1 cs2 cs3 cs4 cs5 ds0 ds1 ds2 ds3 ds4 ds5 cr0 cr1 cr2 dr0 dr1 dr2
    obtain ⟨⟨cs0, cs1, cs2, cs3, cs4, cs5⟩, ds0, ds1, ds2, ds3, ds4, ds5⟩ := Ks1.out.of6
    have P1_0 : True := trivial
    have P1_1 : True := trivial
    have P1_2 : True := trivial
    have P1_3 : True := trivial
    go_region_held3 (fun w' => (w'.cell? ⟨g_s, 0, none⟩ = some (.int .i64 u) ∧ w'.cell? ⟨g_s, 1, none⟩ = some (.string d) ∧ w'.cell? ⟨g_s, 2, none⟩ = some (.int .i64 p) ∧ w'.cell? ⟨g_s, 3, none⟩ = some (.bool f) ∧ w'.cell? ⟨g_s, 4, none⟩ = some (.bool g) ∧ w'.cell? ⟨g_s, 5, none⟩ = some (.bool h)))
      (first | go_keep | (exact Ks2.out.of6.1) | (exact Ks3.out.of6.1) | (exact Ks4.out.of6.1) | (exact Ks5.out.of6.1))
      (first | (have q := P1_0; go_at_call 46; clear q P1_0; refine (C1.out _).mono ?_; rintro e v2 ⟨rfl, hb⟩; replace hb := (Below.refl _ v1).drew.trans hb; have B2 := Lib.hid (B1.out.trans (hb.mono B1.out.size)); have Ks2 := Lib.hid (Ks1.out.below hb); have Kr2 := Lib.hid (Kr1.out.below hb); clear hb B1 Ks1 Kr1) | (have q := P1_1; go_at_call 54; clear q P1_1; refine (C2.out _).mono ?_; rintro e v3 ⟨rfl, hb⟩; have B3 := Lib.hid (B2.out.trans (hb.mono B2.out.size)); have Ks3 := Lib.hid (Ks2.out.below hb); have Kr3 := Lib.hid (Kr2.out.below hb); clear hb B2 Ks2 Kr2) | (have q := P1_2; go_at_call 55; clear q P1_2; refine (P.out _).mono ?_; rintro e v4 ⟨rfl, hb⟩; have B4 := Lib.hid (B3.out.trans (hb.mono B3.out.size)); have Ks4 := Lib.hid (Ks3.out.below hb); have Kr4 := Lib.hid (Kr3.out.below hb); clear hb B3 Ks3 Kr3) | (have q := P1_3; go_at_call 54; clear q P1_3; refine (C3.out _).mono ?_; rintro e v5 ⟨rfl, hb⟩; have B5 := Lib.hid (B4.out.trans (hb.mono B4.out.size)); have Ks5 := Lib.hid (Ks4.out.below hb); have Kr5 := Lib.hid (Kr4.out.below hb); clear hb B4 Ks4 Kr4))
    try clear cs0 cs1 cs2 cs3 cs4 cs5 ds0 ds1 ds2 ds3 ds4 ds5
    obtain ⟨⟨cs0, cs1, cs2, cs3, cs4, cs5⟩, ds0, ds1, ds2, ds3, ds4, ds5⟩ := Ks5.out.of6
    obtain ⟨⟨cr0, cr1, cr2⟩, dr0, dr1, dr2⟩ := Kr5.out.o3
    go_upto_region 4 with fail
    clear cs0 cs1 cs2 cs3 cs4 cs5 ds0 ds1 ds2 ds3 ds4 ds5 cr0 cr1 cr2 dr0 dr1 dr2
    obtain ⟨⟨cs0, cs1, cs2, cs3, cs4, cs5⟩, ds0, ds1, ds2, ds3, ds4, ds5⟩ := Ks5.out.of6
    have P5_0 : True := trivial
    have P5_1 : True := trivial
    have P5_2 : True := trivial
    go_region_held3 (fun w' => (w'.cell? ⟨g_s, 0, none⟩ = some (.int .i64 u) ∧ w'.cell? ⟨g_s, 1, none⟩ = some (.string d) ∧ w'.cell? ⟨g_s, 2, none⟩ = some (.int .i64 p) ∧ w'.cell? ⟨g_s, 3, none⟩ = some (.bool f) ∧ w'.cell? ⟨g_s, 4, none⟩ = some (.bool g) ∧ w'.cell? ⟨g_s, 5, none⟩ = some (.bool h)))
      (first | go_keep | (exact Ks6.out.of6.1) | (exact Ks7.out.of6.1) | (exact Ks8.out.of6.1))
      (first | (have q := P5_0; go_at_call 46; clear q P5_0; refine (C4.out _).mono ?_; rintro e v6 ⟨rfl, hb⟩; replace hb := (Below.refl _ v5).drew.trans hb; have B6 := Lib.hid (B5.out.trans (hb.mono B5.out.size)); have Ks6 := Lib.hid (Ks5.out.below hb); have Kr6 := Lib.hid (Kr5.out.below hb); clear hb B5 Ks5 Kr5) | (have q := P5_1; go_at_call 46; clear q P5_1; refine (C5.out _).mono ?_; rintro e v7 ⟨rfl, hb⟩; have B7 := Lib.hid (B6.out.trans (hb.mono B6.out.size)); have Ks7 := Lib.hid (Ks6.out.below hb); have Kr7 := Lib.hid (Kr6.out.below hb); clear hb B6 Ks6 Kr6) | (have q := P5_2; go_at_call 54; clear q P5_2; refine (C6.out _).mono ?_; rintro e v8 ⟨rfl, hb⟩; have B8 := Lib.hid (B7.out.trans (hb.mono B7.out.size)); have Ks8 := Lib.hid (Ks7.out.below hb); have Kr8 := Lib.hid (Kr7.out.below hb); clear hb B7 Ks7 Kr7))
    try clear cs0 cs1 cs2 cs3 cs4 cs5 ds0 ds1 ds2 ds3 ds4 ds5
    obtain ⟨⟨cs0, cs1, cs2, cs3, cs4, cs5⟩, ds0, ds1, ds2, ds3, ds4, ds5⟩ := Ks8.out.of6
    obtain ⟨⟨cr0, cr1, cr2⟩, dr0, dr1, dr2⟩ := Kr8.out.o3
    go_upto_region 5 with fail
    clear cs0 cs1 cs2 cs3 cs4 cs5 ds0 ds1 ds2 ds3 ds4 ds5 cr0 cr1 cr2 dr0 dr1 dr2
    go_cut [10] (fun s10 wx => ∃ (g_c : Nat), s10 = .pointer (some ⟨g_c, 0, none⟩) ∧ Hid (Below w.heap.size w wx) ∧ Hid (Blk wx g_s [.int .i64 u, .string d, .int .i64 p, .bool f, .bool g, .bool h]) ∧ Hid (Blk wx g_r [.int .i64 0, .string ⟨#[]⟩, .bool false]) ∧ Hid (Blk wx g_c [.int .i64 q, .string y, .bool false]) ∧ (g_s ≠ g_c ∧ g_r ≠ g_c ∧ w.heap.size ≤ g_c))
    case first =>
      refine wp_region_noPanic ?_
      refine wp_region_held_drew (S := fun w' => Blk w' g_s [.int .i64 u, .string d, .int .i64 p, .bool f, .bool g, .bool h]) (by kernel_rfl) Ks8.out (fun hS => ?_)
      have B9 := Lib.hid (show Below w.heap.size w v8.drew from B8.out.drew)
      have Ks9 := Lib.hid (show Blk v8.drew g_s [.int .i64 u, .string d, .int .i64 p, .bool f, .bool g, .bool h] from Ks8.out.drew)
      have Kr9 := Lib.hid (show Blk v8.drew g_r [.int .i64 0, .string ⟨#[]⟩, .bool false] from Kr8.out.drew)
      clear hS B8 Ks8 Kr8
      generalize v8.drew = v9 at B9 Ks9 Kr9 ⊢
      have hS : Blk v9 g_s [.int .i64 u, .string d, .int .i64 p, .bool f, .bool g, .bool h] := Ks9.out
      refine wpAnyH_take (i := 0) (v := .agg #[.int .i64 u, .string d, .int .i64 p, .bool f, .bool g, .bool h]) rfl (by kernel_rfl) (by kernel_rfl) (by kernel_rfl) (fun _ _ _ h => h) (Or.inl ⟨by kernel_rfl, by intro w hS; obtain ⟨⟨h0, h1, h2, h3, h4, h5⟩, _⟩ := hS.of6; go_simp⟩) hS ?_
      refine wpAnyH_take (i := 2) (v := .pointer (some ⟨g_s, 1, none⟩)) rfl (by kernel_rfl) (by kernel_rfl) (by kernel_rfl) (fun _ _ _ h => h) (Or.inl ⟨by kernel_rfl, by intro w hS; go_simp⟩) hS ?_
      refine wpAnyH_take (i := 3) (v := .string d) rfl (by kernel_rfl) (by kernel_rfl) (by kernel_rfl) (fun _ _ _ h => h) (Or.inl ⟨by kernel_rfl, by intro w hS; obtain ⟨⟨h0, h1, h2, h3, h4, h5⟩, _⟩ := hS.of6; go_simp⟩) hS ?_
      refine wpAnyH_take (i := 4) (v := .pointer (some ⟨g_s, 2, none⟩)) rfl (by kernel_rfl) (by kernel_rfl) (by kernel_rfl) (fun _ _ _ h => h) (Or.inl ⟨by kernel_rfl, by intro w hS; go_simp⟩) hS ?_
      refine wpAnyH_take (i := 5) (v := .int .i64 p) rfl (by kernel_rfl) (by kernel_rfl) (by kernel_rfl) (fun _ _ _ h => h) (Or.inl ⟨by kernel_rfl, by intro w hS; obtain ⟨⟨h0, h1, h2, h3, h4, h5⟩, _⟩ := hS.of6; go_simp⟩) hS ?_
      refine wpAnyH_take (i := 6) (v := .pointer (some ⟨g_s, 2, none⟩)) rfl (by kernel_rfl) (by kernel_rfl) (by kernel_rfl) (fun _ _ _ h => h) (Or.inl ⟨by kernel_rfl, by intro w hS; go_simp⟩) hS ?_
      refine wpAnyH_take (i := 7) (v := .int .i64 p) rfl (by kernel_rfl) (by kernel_rfl) (by kernel_rfl) (fun _ _ _ h => h) (Or.inl ⟨by kernel_rfl, by intro w hS; obtain ⟨⟨h0, h1, h2, h3, h4, h5⟩, _⟩ := hS.of6; go_simp⟩) hS ?_
      refine wpAnyH_take (i := 8) (v := .int .i64 k) rfl (by kernel_rfl) (by kernel_rfl) (by kernel_rfl) (fun _ _ _ h => h) (Or.inl ⟨by kernel_rfl, by intro w hS; go_simp⟩) hS ?_
      refine wpAnyH_take (i := 9) (v := .int .i64 (p + k)) rfl (by kernel_rfl) (by kernel_rfl) (by kernel_rfl) (fun _ _ _ h => h) (Or.inl ⟨by kernel_rfl, by intro w hS; go_simp; exact IntWalk.i64_in _ (by omega)⟩) hS ?_
      refine wpAnyH_take (i := 10) (v := .string y) rfl (by kernel_rfl) (by kernel_rfl) (by kernel_rfl) (fun _ _ _ h => h) (Or.inl ⟨by kernel_rfl, by intro w hS; go_simp; rw [if_pos (by omega), if_pos (by omega), show ((p : Int) + k).toNat = p + k by omega, hyy]⟩) hS ?_
      refine wpAnyH_ready (rs := [1, 12]) (by kernel_rfl) (by simp) ?_
      refine AllReadyH.cons (i := 1) rfl (fun K hK => ?zy2) (AllReadyH.cons (i := 12) rfl (fun K hK => ?zy1) AllReadyH.nil)
      · rw [if_pos (by rfl)]
        go_simp
        clear hS
        refine (N.out _).mono ?_
        rintro e v10 ⟨rfl, hb⟩
        have B10 := Lib.hid (B9.out.trans (hb.mono B9.out.size))
        have Ks10 := Lib.hid (Ks9.out.below hb)
        have Kr10 := Lib.hid (Kr9.out.below hb)
        clear hb B9 Ks9 Kr9
        refine hK.out _ _ Ks10.out (fun hS => ?_)
        clear hK K
        refine wpAnyH_take (i := 11) (v := .agg #[.int .i64 q, .string y, .bool false]) rfl (by kernel_rfl) (by kernel_rfl) (by kernel_rfl) (fun _ _ _ h => h) (Or.inl ⟨by kernel_rfl, by intro w hS; go_simp⟩) hS ?_
        refine wpAnyH_ready (rs := [12]) (by kernel_rfl) (by simp) ?_
        refine AllReadyH.cons (i := 12) rfl (fun K hK => ?zy3) AllReadyH.nil
        rw [if_pos (by rfl)]
        go_simp
        clear hS
        have B11 := Lib.hid (B10.out.alloc B10.out.size (.cells #[.int .i64 0, .string ⟨#[]⟩, .bool false] 35))
        have l_c : w.heap.size ≤ v10.heap.size := B10.out.size
        have n_s_c : g_s ≠ v10.heap.size := by have h1 := Ks10.out.lt; omega
        have n_r_c : g_r ≠ v10.heap.size := by have h1 := Kr10.out.lt; omega
        have Ks11 := Lib.hid (Ks10.out.alloc (.cells #[.int .i64 0, .string ⟨#[]⟩, .bool false] 35))
        have Kr11 := Lib.hid (Kr10.out.alloc (.cells #[.int .i64 0, .string ⟨#[]⟩, .bool false] 35))
        have Kc11 := Lib.hid (Blk.new v10 [.int .i64 0, .string ⟨#[]⟩, .bool false] 35)
        clear B10 Ks10 Kr10
        refine hK.out _ _ Ks11.out (fun hS => ?_)
        clear hK K
        generalize v10.alloc (.cells #[.int .i64 0, .string ⟨#[]⟩, .bool false] 35) = v11 at hS B11 Ks11 Kr11 Kc11 ⊢
        generalize v10.heap.size = g_c at Kc11 l_c n_s_c n_r_c ⊢
        obtain ⟨⟨cc0, cc1, cc2⟩, dc0, dc1, dc2⟩ := Kc11.out.o3
        refine wpAnyH_ready (rs := [13]) (by kernel_rfl) (by simp) ?_
        refine AllReadyH.cons (i := 13) rfl (fun K hK => ?zy4) AllReadyH.nil
        rw [if_pos (by rfl)]
        go_simp
        clear hS
        have B12 := Lib.hid (show Below w.heap.size w (((v11.setCell ⟨g_c, 0, none⟩ (.int .i64 q)).setCell ⟨g_c, 1, none⟩ (.string y)).setCell ⟨g_c, 2, none⟩ (.bool false)) from (((B11.out.setCell l_c (.int .i64 q)).setCell l_c (.string y)).setCell l_c (.bool false)))
        have Ks12 := Lib.hid (show Blk (((v11.setCell ⟨g_c, 0, none⟩ (.int .i64 q)).setCell ⟨g_c, 1, none⟩ (.string y)).setCell ⟨g_c, 2, none⟩ (.bool false)) g_s [.int .i64 u, .string d, .int .i64 p, .bool f, .bool g, .bool h] from (((Ks11.out.setOther ⟨g_c, 0, none⟩ (.int .i64 q) (n_s_c)).setOther ⟨g_c, 1, none⟩ (.string y) (n_s_c)).setOther ⟨g_c, 2, none⟩ (.bool false) (n_s_c)))
        have Kr12 := Lib.hid (show Blk (((v11.setCell ⟨g_c, 0, none⟩ (.int .i64 q)).setCell ⟨g_c, 1, none⟩ (.string y)).setCell ⟨g_c, 2, none⟩ (.bool false)) g_r [.int .i64 0, .string ⟨#[]⟩, .bool false] from (((Kr11.out.setOther ⟨g_c, 0, none⟩ (.int .i64 q) (n_r_c)).setOther ⟨g_c, 1, none⟩ (.string y) (n_r_c)).setOther ⟨g_c, 2, none⟩ (.bool false) (n_r_c)))
        have Kc12 := Lib.hid (show Blk (((v11.setCell ⟨g_c, 0, none⟩ (.int .i64 q)).setCell ⟨g_c, 1, none⟩ (.string y)).setCell ⟨g_c, 2, none⟩ (.bool false)) g_c [.int .i64 q, .string y, .bool false] from (((Kc11.out.set 0 (.int .i64 q)).set 1 (.string y)).set 2 (.bool false)))
        refine hK.out _ _ Ks12.out (fun hS => ?_)
        clear hK K
        clear B11 Ks11 Kr11 Kc11
        clear cc0 cc1 cc2 dc0 dc1 dc2
        generalize ((v11.setCell ⟨g_c, 0, none⟩ (.int .i64 q)).setCell ⟨g_c, 1, none⟩ (.string y)).setCell ⟨g_c, 2, none⟩ (.bool false) = v12 at hS B12 Ks12 Kr12 Kc12 ⊢
        refine wpAnyH_done (by kernel_rfl) ?_ _
        refine NoPanic.normal ?_
        go_wp2_with fail
        go_meet
        case rel => exact ⟨g_c, rfl, B12, Ks12, Kr12, Kc12, ⟨n_s_c, n_r_c, l_c⟩⟩
      · rw [if_pos (by rfl)]
        go_simp
        clear hS
        have B10 := Lib.hid (B9.out.alloc B9.out.size (.cells #[.int .i64 0, .string ⟨#[]⟩, .bool false] 35))
        have l_c : w.heap.size ≤ v9.heap.size := B9.out.size
        have n_s_c : g_s ≠ v9.heap.size := by have h1 := Ks9.out.lt; omega
        have n_r_c : g_r ≠ v9.heap.size := by have h1 := Kr9.out.lt; omega
        have Ks10 := Lib.hid (Ks9.out.alloc (.cells #[.int .i64 0, .string ⟨#[]⟩, .bool false] 35))
        have Kr10 := Lib.hid (Kr9.out.alloc (.cells #[.int .i64 0, .string ⟨#[]⟩, .bool false] 35))
        have Kc10 := Lib.hid (Blk.new v9 [.int .i64 0, .string ⟨#[]⟩, .bool false] 35)
        clear B9 Ks9 Kr9
        refine hK.out _ _ Ks10.out (fun hS => ?_)
        clear hK K
        generalize v9.alloc (.cells #[.int .i64 0, .string ⟨#[]⟩, .bool false] 35) = v10 at hS B10 Ks10 Kr10 Kc10 ⊢
        generalize v9.heap.size = g_c at Kc10 l_c n_s_c n_r_c ⊢
        refine wpAnyH_ready (rs := [1]) (by kernel_rfl) (by simp) ?_
        refine AllReadyH.cons (i := 1) rfl (fun K hK => ?zy5) AllReadyH.nil
        rw [if_pos (by rfl)]
        go_simp
        clear hS
        refine (N.out _).mono ?_
        rintro e v11 ⟨rfl, hb⟩
        have B11 := Lib.hid (B10.out.trans (hb.mono B10.out.size))
        have Ks11 := Lib.hid (Ks10.out.below hb)
        have Kr11 := Lib.hid (Kr10.out.below hb)
        have Kc11 := Lib.hid (Kc10.out.below hb)
        clear hb B10 Ks10 Kr10 Kc10
        refine hK.out _ _ Ks11.out (fun hS => ?_)
        clear hK K
        refine wpAnyH_take (i := 11) (v := .agg #[.int .i64 q, .string y, .bool false]) rfl (by kernel_rfl) (by kernel_rfl) (by kernel_rfl) (fun _ _ _ h => h) (Or.inl ⟨by kernel_rfl, by intro w hS; go_simp⟩) hS ?_
        obtain ⟨⟨cc0, cc1, cc2⟩, dc0, dc1, dc2⟩ := Kc11.out.o3
        refine wpAnyH_ready (rs := [13]) (by kernel_rfl) (by simp) ?_
        refine AllReadyH.cons (i := 13) rfl (fun K hK => ?zy6) AllReadyH.nil
        rw [if_pos (by rfl)]
        go_simp
        clear hS
        have B12 := Lib.hid (show Below w.heap.size w (((v11.setCell ⟨g_c, 0, none⟩ (.int .i64 q)).setCell ⟨g_c, 1, none⟩ (.string y)).setCell ⟨g_c, 2, none⟩ (.bool false)) from (((B11.out.setCell l_c (.int .i64 q)).setCell l_c (.string y)).setCell l_c (.bool false)))
        have Ks12 := Lib.hid (show Blk (((v11.setCell ⟨g_c, 0, none⟩ (.int .i64 q)).setCell ⟨g_c, 1, none⟩ (.string y)).setCell ⟨g_c, 2, none⟩ (.bool false)) g_s [.int .i64 u, .string d, .int .i64 p, .bool f, .bool g, .bool h] from (((Ks11.out.setOther ⟨g_c, 0, none⟩ (.int .i64 q) (n_s_c)).setOther ⟨g_c, 1, none⟩ (.string y) (n_s_c)).setOther ⟨g_c, 2, none⟩ (.bool false) (n_s_c)))
        have Kr12 := Lib.hid (show Blk (((v11.setCell ⟨g_c, 0, none⟩ (.int .i64 q)).setCell ⟨g_c, 1, none⟩ (.string y)).setCell ⟨g_c, 2, none⟩ (.bool false)) g_r [.int .i64 0, .string ⟨#[]⟩, .bool false] from (((Kr11.out.setOther ⟨g_c, 0, none⟩ (.int .i64 q) (n_r_c)).setOther ⟨g_c, 1, none⟩ (.string y) (n_r_c)).setOther ⟨g_c, 2, none⟩ (.bool false) (n_r_c)))
        have Kc12 := Lib.hid (show Blk (((v11.setCell ⟨g_c, 0, none⟩ (.int .i64 q)).setCell ⟨g_c, 1, none⟩ (.string y)).setCell ⟨g_c, 2, none⟩ (.bool false)) g_c [.int .i64 q, .string y, .bool false] from (((Kc11.out.set 0 (.int .i64 q)).set 1 (.string y)).set 2 (.bool false)))
        refine hK.out _ _ Ks12.out (fun hS => ?_)
        clear hK K
        clear B11 Ks11 Kr11 Kc11
        clear cc0 cc1 cc2 dc0 dc1 dc2
        generalize ((v11.setCell ⟨g_c, 0, none⟩ (.int .i64 q)).setCell ⟨g_c, 1, none⟩ (.string y)).setCell ⟨g_c, 2, none⟩ (.bool false) = v12 at hS B12 Ks12 Kr12 Kc12 ⊢
        refine wpAnyH_done (by kernel_rfl) ?_ _
        refine NoPanic.normal ?_
        go_wp2_with fail
        go_meet
        case rel => exact ⟨g_c, rfl, B12, Ks12, Kr12, Kc12, ⟨n_s_c, n_r_c, l_c⟩⟩
    case rest =>
      clear B8 Ks8 Kr8
      obtain ⟨g_c, rfl, B105, Ks105, Kr105, Kc105, ⟨n_s_c, n_r_c, l_c⟩⟩ := hcut
      generalize wc = wc_5 at B105 Ks105 Kr105 Kc105 ⊢
      cases f with
      | false =>
        obtain rfl : F = false := by rw [EF.out]; simp
        clear EF
        obtain ⟨⟨cs0, cs1, cs2, cs3, cs4, cs5⟩, ds0, ds1, ds2, ds3, ds4, ds5⟩ := Ks105.out.of6
        obtain ⟨⟨cr0, cr1, cr2⟩, dr0, dr1, dr2⟩ := Kr105.out.o3
        obtain ⟨⟨cc0, cc1, cc2⟩, dc0, dc1, dc2⟩ := Kc105.out.o3
        have Ks106 := Lib.hid (show Blk (wc_5.setCell ⟨g_c, 2, none⟩ (.bool false)) g_s [.int .i64 u, .string d, .int .i64 p, .bool false, .bool g, .bool h] from (Ks105.out.setOther ⟨g_c, 2, none⟩ (.bool false) (n_s_c)))
        have Kr106 := Lib.hid (show Blk (wc_5.setCell ⟨g_c, 2, none⟩ (.bool false)) g_r [.int .i64 0, .string ⟨#[]⟩, .bool false] from (Kr105.out.setOther ⟨g_c, 2, none⟩ (.bool false) (n_r_c)))
        have Kc106 := Lib.hid (show Blk (wc_5.setCell ⟨g_c, 2, none⟩ (.bool false)) g_c [.int .i64 q, .string y, .bool false] from (Kc105.out.set 2 (.bool false)))
        have B106 := Lib.hid (show Below w.heap.size w (wc_5.setCell ⟨g_c, 2, none⟩ (.bool false)) from (B105.out.setCell l_c (.bool false)))
        clear B105
        go_upto_region 7 with fail
        clear Ks105 Kr105 Kc105
        clear cs0 cs1 cs2 cs3 cs4 cs5 ds0 ds1 ds2 ds3 ds4 ds5 cr0 cr1 cr2 dr0 dr1 dr2 cc0 cc1 cc2 dc0 dc1 dc2
        generalize wc_5.setCell ⟨g_c, 2, none⟩ (.bool false) = v106 at B106 Ks106 Kr106 Kc106 ⊢
        by_cases h0 : k = 0
        case pos =>
          have hE' : ((k : Int) == 0) = true := by simp; omega
          obtain rfl : ok = false := by rw [EO.out]; simp [h0]
          obtain rfl := EN.out rfl
          clear EO EY EN h0
          obtain ⟨⟨cs0, cs1, cs2, cs3, cs4, cs5⟩, ds0, ds1, ds2, ds3, ds4, ds5⟩ := Ks106.out.of6
          obtain ⟨⟨cr0, cr1, cr2⟩, dr0, dr1, dr2⟩ := Kr106.out.o3
          obtain ⟨⟨cc0, cc1, cc2⟩, dc0, dc1, dc2⟩ := Kc106.out.o3
          go_wp2_with fail
          exact bodyPost_ret (v := .tuple #[.agg #[.int .i64 0, .string ⟨#[]⟩, .bool false], .bool false]) (by simp [results, Try.results23, go_sem, cr0, cr1, cr2]) rfl ⟨rfl, (((B106.out.setCell l_r (.int .i64 0)).setCell l_r (.string ⟨#[]⟩)).setCell l_r (.bool false))⟩
        have hE' : ((k : Int) == 0) = false := by simp; omega
        obtain rfl : ok = true := by rw [EO.out]; simp [h0]
        obtain rfl := EY.out rfl
        clear EO EY EN h0
        obtain ⟨⟨cs0, cs1, cs2, cs3, cs4, cs5⟩, ds0, ds1, ds2, ds3, ds4, ds5⟩ := Ks106.out.of6
        obtain ⟨⟨cr0, cr1, cr2⟩, dr0, dr1, dr2⟩ := Kr106.out.o3
        obtain ⟨⟨cc0, cc1, cc2⟩, dc0, dc1, dc2⟩ := Kc106.out.o3
        go_wp2_with fail
        exact bodyPost_ret (v := .tuple #[.agg #[.int .i64 q, .string y, .bool false], .bool true]) (by simp [results, Try.results23, go_sem, cr0, cr1, cr2]) rfl ⟨rfl, (((B106.out.setCell l_r (.int .i64 q)).setCell l_r (.string y)).setCell l_r (.bool false))⟩
      | true =>
        cases g with
        | true =>
          obtain rfl : F = false := by rw [EF.out]; simp
          clear EF
          obtain ⟨⟨cs0, cs1, cs2, cs3, cs4, cs5⟩, ds0, ds1, ds2, ds3, ds4, ds5⟩ := Ks105.out.of6
          obtain ⟨⟨cr0, cr1, cr2⟩, dr0, dr1, dr2⟩ := Kr105.out.o3
          obtain ⟨⟨cc0, cc1, cc2⟩, dc0, dc1, dc2⟩ := Kc105.out.o3
          have Ks106 := Lib.hid (show Blk (wc_5.setCell ⟨g_c, 2, none⟩ (.bool false)) g_s [.int .i64 u, .string d, .int .i64 p, .bool true, .bool true, .bool h] from (Ks105.out.setOther ⟨g_c, 2, none⟩ (.bool false) (n_s_c)))
          have Kr106 := Lib.hid (show Blk (wc_5.setCell ⟨g_c, 2, none⟩ (.bool false)) g_r [.int .i64 0, .string ⟨#[]⟩, .bool false] from (Kr105.out.setOther ⟨g_c, 2, none⟩ (.bool false) (n_r_c)))
          have Kc106 := Lib.hid (show Blk (wc_5.setCell ⟨g_c, 2, none⟩ (.bool false)) g_c [.int .i64 q, .string y, .bool false] from (Kc105.out.set 2 (.bool false)))
          have B106 := Lib.hid (show Below w.heap.size w (wc_5.setCell ⟨g_c, 2, none⟩ (.bool false)) from (B105.out.setCell l_c (.bool false)))
          clear B105
          go_upto_region 7 with fail
          clear Ks105 Kr105 Kc105
          clear cs0 cs1 cs2 cs3 cs4 cs5 ds0 ds1 ds2 ds3 ds4 ds5 cr0 cr1 cr2 dr0 dr1 dr2 cc0 cc1 cc2 dc0 dc1 dc2
          generalize wc_5.setCell ⟨g_c, 2, none⟩ (.bool false) = v106 at B106 Ks106 Kr106 Kc106 ⊢
          by_cases h0 : k = 0
          case pos =>
            have hE' : ((k : Int) == 0) = true := by simp; omega
            obtain rfl : ok = false := by rw [EO.out]; simp [h0]
            obtain rfl := EN.out rfl
            clear EO EY EN h0
            obtain ⟨⟨cs0, cs1, cs2, cs3, cs4, cs5⟩, ds0, ds1, ds2, ds3, ds4, ds5⟩ := Ks106.out.of6
            obtain ⟨⟨cr0, cr1, cr2⟩, dr0, dr1, dr2⟩ := Kr106.out.o3
            obtain ⟨⟨cc0, cc1, cc2⟩, dc0, dc1, dc2⟩ := Kc106.out.o3
            go_wp2_with fail
            exact bodyPost_ret (v := .tuple #[.agg #[.int .i64 0, .string ⟨#[]⟩, .bool false], .bool false]) (by simp [results, Try.results23, go_sem, cr0, cr1, cr2]) rfl ⟨rfl, (((B106.out.setCell l_r (.int .i64 0)).setCell l_r (.string ⟨#[]⟩)).setCell l_r (.bool false))⟩
          have hE' : ((k : Int) == 0) = false := by simp; omega
          obtain rfl : ok = true := by rw [EO.out]; simp [h0]
          obtain rfl := EY.out rfl
          clear EO EY EN h0
          obtain ⟨⟨cs0, cs1, cs2, cs3, cs4, cs5⟩, ds0, ds1, ds2, ds3, ds4, ds5⟩ := Ks106.out.of6
          obtain ⟨⟨cr0, cr1, cr2⟩, dr0, dr1, dr2⟩ := Kr106.out.o3
          obtain ⟨⟨cc0, cc1, cc2⟩, dc0, dc1, dc2⟩ := Kc106.out.o3
          go_wp2_with fail
          exact bodyPost_ret (v := .tuple #[.agg #[.int .i64 q, .string y, .bool false], .bool true]) (by simp [results, Try.results23, go_sem, cr0, cr1, cr2]) rfl ⟨rfl, (((B106.out.setCell l_r (.int .i64 q)).setCell l_r (.string y)).setCell l_r (.bool false))⟩
        | false =>
          cases h with
          | true =>
            obtain rfl : F = false := by rw [EF.out]; simp
            clear EF
            obtain ⟨⟨cs0, cs1, cs2, cs3, cs4, cs5⟩, ds0, ds1, ds2, ds3, ds4, ds5⟩ := Ks105.out.of6
            obtain ⟨⟨cr0, cr1, cr2⟩, dr0, dr1, dr2⟩ := Kr105.out.o3
            obtain ⟨⟨cc0, cc1, cc2⟩, dc0, dc1, dc2⟩ := Kc105.out.o3
            have Ks106 := Lib.hid (show Blk (wc_5.setCell ⟨g_c, 2, none⟩ (.bool false)) g_s [.int .i64 u, .string d, .int .i64 p, .bool true, .bool false, .bool true] from (Ks105.out.setOther ⟨g_c, 2, none⟩ (.bool false) (n_s_c)))
            have Kr106 := Lib.hid (show Blk (wc_5.setCell ⟨g_c, 2, none⟩ (.bool false)) g_r [.int .i64 0, .string ⟨#[]⟩, .bool false] from (Kr105.out.setOther ⟨g_c, 2, none⟩ (.bool false) (n_r_c)))
            have Kc106 := Lib.hid (show Blk (wc_5.setCell ⟨g_c, 2, none⟩ (.bool false)) g_c [.int .i64 q, .string y, .bool false] from (Kc105.out.set 2 (.bool false)))
            have B106 := Lib.hid (show Below w.heap.size w (wc_5.setCell ⟨g_c, 2, none⟩ (.bool false)) from (B105.out.setCell l_c (.bool false)))
            clear B105
            go_upto_region 7 with fail
            clear Ks105 Kr105 Kc105
            clear cs0 cs1 cs2 cs3 cs4 cs5 ds0 ds1 ds2 ds3 ds4 ds5 cr0 cr1 cr2 dr0 dr1 dr2 cc0 cc1 cc2 dc0 dc1 dc2
            generalize wc_5.setCell ⟨g_c, 2, none⟩ (.bool false) = v106 at B106 Ks106 Kr106 Kc106 ⊢
            by_cases h0 : k = 0
            case pos =>
              have hE' : ((k : Int) == 0) = true := by simp; omega
              obtain rfl : ok = false := by rw [EO.out]; simp [h0]
              obtain rfl := EN.out rfl
              clear EO EY EN h0
              obtain ⟨⟨cs0, cs1, cs2, cs3, cs4, cs5⟩, ds0, ds1, ds2, ds3, ds4, ds5⟩ := Ks106.out.of6
              obtain ⟨⟨cr0, cr1, cr2⟩, dr0, dr1, dr2⟩ := Kr106.out.o3
              obtain ⟨⟨cc0, cc1, cc2⟩, dc0, dc1, dc2⟩ := Kc106.out.o3
              go_wp2_with fail
              exact bodyPost_ret (v := .tuple #[.agg #[.int .i64 0, .string ⟨#[]⟩, .bool false], .bool false]) (by simp [results, Try.results23, go_sem, cr0, cr1, cr2]) rfl ⟨rfl, (((B106.out.setCell l_r (.int .i64 0)).setCell l_r (.string ⟨#[]⟩)).setCell l_r (.bool false))⟩
            have hE' : ((k : Int) == 0) = false := by simp; omega
            obtain rfl : ok = true := by rw [EO.out]; simp [h0]
            obtain rfl := EY.out rfl
            clear EO EY EN h0
            obtain ⟨⟨cs0, cs1, cs2, cs3, cs4, cs5⟩, ds0, ds1, ds2, ds3, ds4, ds5⟩ := Ks106.out.of6
            obtain ⟨⟨cr0, cr1, cr2⟩, dr0, dr1, dr2⟩ := Kr106.out.o3
            obtain ⟨⟨cc0, cc1, cc2⟩, dc0, dc1, dc2⟩ := Kc106.out.o3
            go_wp2_with fail
            exact bodyPost_ret (v := .tuple #[.agg #[.int .i64 q, .string y, .bool false], .bool true]) (by simp [results, Try.results23, go_sem, cr0, cr1, cr2]) rfl ⟨rfl, (((B106.out.setCell l_r (.int .i64 q)).setCell l_r (.string y)).setCell l_r (.bool false))⟩
          | false =>
            by_cases h1 : (p : Int) + k = d.size
            case neg =>
              have h1' : ((p : Int) + k == (d.size : Int)) = false := by simp; omega
              obtain rfl : F = false := by rw [EF.out]; simp [h1]
              clear EF h1
              obtain ⟨⟨cs0, cs1, cs2, cs3, cs4, cs5⟩, ds0, ds1, ds2, ds3, ds4, ds5⟩ := Ks105.out.of6
              obtain ⟨⟨cr0, cr1, cr2⟩, dr0, dr1, dr2⟩ := Kr105.out.o3
              obtain ⟨⟨cc0, cc1, cc2⟩, dc0, dc1, dc2⟩ := Kc105.out.o3
              have Ks106 := Lib.hid (show Blk (wc_5.setCell ⟨g_c, 2, none⟩ (.bool false)) g_s [.int .i64 u, .string d, .int .i64 p, .bool true, .bool false, .bool false] from (Ks105.out.setOther ⟨g_c, 2, none⟩ (.bool false) (n_s_c)))
              have Kr106 := Lib.hid (show Blk (wc_5.setCell ⟨g_c, 2, none⟩ (.bool false)) g_r [.int .i64 0, .string ⟨#[]⟩, .bool false] from (Kr105.out.setOther ⟨g_c, 2, none⟩ (.bool false) (n_r_c)))
              have Kc106 := Lib.hid (show Blk (wc_5.setCell ⟨g_c, 2, none⟩ (.bool false)) g_c [.int .i64 q, .string y, .bool false] from (Kc105.out.set 2 (.bool false)))
              have B106 := Lib.hid (show Below w.heap.size w (wc_5.setCell ⟨g_c, 2, none⟩ (.bool false)) from (B105.out.setCell l_c (.bool false)))
              clear B105
              go_upto_region 7 with fail
              clear Ks105 Kr105 Kc105
              clear cs0 cs1 cs2 cs3 cs4 cs5 ds0 ds1 ds2 ds3 ds4 ds5 cr0 cr1 cr2 dr0 dr1 dr2 cc0 cc1 cc2 dc0 dc1 dc2
              generalize wc_5.setCell ⟨g_c, 2, none⟩ (.bool false) = v106 at B106 Ks106 Kr106 Kc106 ⊢
              by_cases h0 : k = 0
              case pos =>
                have hE' : ((k : Int) == 0) = true := by simp; omega
                obtain rfl : ok = false := by rw [EO.out]; simp [h0]
                obtain rfl := EN.out rfl
                clear EO EY EN h0
                obtain ⟨⟨cs0, cs1, cs2, cs3, cs4, cs5⟩, ds0, ds1, ds2, ds3, ds4, ds5⟩ := Ks106.out.of6
                obtain ⟨⟨cr0, cr1, cr2⟩, dr0, dr1, dr2⟩ := Kr106.out.o3
                obtain ⟨⟨cc0, cc1, cc2⟩, dc0, dc1, dc2⟩ := Kc106.out.o3
                go_wp2_with fail
                exact bodyPost_ret (v := .tuple #[.agg #[.int .i64 0, .string ⟨#[]⟩, .bool false], .bool false]) (by simp [results, Try.results23, go_sem, cr0, cr1, cr2]) rfl ⟨rfl, (((B106.out.setCell l_r (.int .i64 0)).setCell l_r (.string ⟨#[]⟩)).setCell l_r (.bool false))⟩
              have hE' : ((k : Int) == 0) = false := by simp; omega
              obtain rfl : ok = true := by rw [EO.out]; simp [h0]
              obtain rfl := EY.out rfl
              clear EO EY EN h0
              obtain ⟨⟨cs0, cs1, cs2, cs3, cs4, cs5⟩, ds0, ds1, ds2, ds3, ds4, ds5⟩ := Ks106.out.of6
              obtain ⟨⟨cr0, cr1, cr2⟩, dr0, dr1, dr2⟩ := Kr106.out.o3
              obtain ⟨⟨cc0, cc1, cc2⟩, dc0, dc1, dc2⟩ := Kc106.out.o3
              go_wp2_with fail
              exact bodyPost_ret (v := .tuple #[.agg #[.int .i64 q, .string y, .bool false], .bool true]) (by simp [results, Try.results23, go_sem, cr0, cr1, cr2]) rfl ⟨rfl, (((B106.out.setCell l_r (.int .i64 q)).setCell l_r (.string y)).setCell l_r (.bool false))⟩
            have h1' : ((p : Int) + k == (d.size : Int)) = true := by simp; omega
            by_cases h2 : (k : Int) < W
            case neg =>
              have h2' : ¬ (k : Int) < W := h2
              obtain rfl : F = false := by rw [EF.out]; simp [h1, h2]
              clear EF h1
              clear h2
              obtain ⟨⟨cs0, cs1, cs2, cs3, cs4, cs5⟩, ds0, ds1, ds2, ds3, ds4, ds5⟩ := Ks105.out.of6
              obtain ⟨⟨cr0, cr1, cr2⟩, dr0, dr1, dr2⟩ := Kr105.out.o3
              obtain ⟨⟨cc0, cc1, cc2⟩, dc0, dc1, dc2⟩ := Kc105.out.o3
              have Ks106 := Lib.hid (show Blk (wc_5.setCell ⟨g_c, 2, none⟩ (.bool false)) g_s [.int .i64 u, .string d, .int .i64 p, .bool true, .bool false, .bool false] from (Ks105.out.setOther ⟨g_c, 2, none⟩ (.bool false) (n_s_c)))
              have Kr106 := Lib.hid (show Blk (wc_5.setCell ⟨g_c, 2, none⟩ (.bool false)) g_r [.int .i64 0, .string ⟨#[]⟩, .bool false] from (Kr105.out.setOther ⟨g_c, 2, none⟩ (.bool false) (n_r_c)))
              have Kc106 := Lib.hid (show Blk (wc_5.setCell ⟨g_c, 2, none⟩ (.bool false)) g_c [.int .i64 q, .string y, .bool false] from (Kc105.out.set 2 (.bool false)))
              have B106 := Lib.hid (show Below w.heap.size w (wc_5.setCell ⟨g_c, 2, none⟩ (.bool false)) from (B105.out.setCell l_c (.bool false)))
              clear B105
              go_upto_region 7 with fail
              clear Ks105 Kr105 Kc105
              clear cs0 cs1 cs2 cs3 cs4 cs5 ds0 ds1 ds2 ds3 ds4 ds5 cr0 cr1 cr2 dr0 dr1 dr2 cc0 cc1 cc2 dc0 dc1 dc2
              generalize wc_5.setCell ⟨g_c, 2, none⟩ (.bool false) = v106 at B106 Ks106 Kr106 Kc106 ⊢
              by_cases h0 : k = 0
              case pos =>
                have hE' : ((k : Int) == 0) = true := by simp; omega
                obtain rfl : ok = false := by rw [EO.out]; simp [h0]
                obtain rfl := EN.out rfl
                clear EO EY EN h0
                obtain ⟨⟨cs0, cs1, cs2, cs3, cs4, cs5⟩, ds0, ds1, ds2, ds3, ds4, ds5⟩ := Ks106.out.of6
                obtain ⟨⟨cr0, cr1, cr2⟩, dr0, dr1, dr2⟩ := Kr106.out.o3
                obtain ⟨⟨cc0, cc1, cc2⟩, dc0, dc1, dc2⟩ := Kc106.out.o3
                go_wp2_with fail
                exact bodyPost_ret (v := .tuple #[.agg #[.int .i64 0, .string ⟨#[]⟩, .bool false], .bool false]) (by simp [results, Try.results23, go_sem, cr0, cr1, cr2]) rfl ⟨rfl, (((B106.out.setCell l_r (.int .i64 0)).setCell l_r (.string ⟨#[]⟩)).setCell l_r (.bool false))⟩
              have hE' : ((k : Int) == 0) = false := by simp; omega
              obtain rfl : ok = true := by rw [EO.out]; simp [h0]
              obtain rfl := EY.out rfl
              clear EO EY EN h0
              obtain ⟨⟨cs0, cs1, cs2, cs3, cs4, cs5⟩, ds0, ds1, ds2, ds3, ds4, ds5⟩ := Ks106.out.of6
              obtain ⟨⟨cr0, cr1, cr2⟩, dr0, dr1, dr2⟩ := Kr106.out.o3
              obtain ⟨⟨cc0, cc1, cc2⟩, dc0, dc1, dc2⟩ := Kc106.out.o3
              go_wp2_with fail
              exact bodyPost_ret (v := .tuple #[.agg #[.int .i64 q, .string y, .bool false], .bool true]) (by simp [results, Try.results23, go_sem, cr0, cr1, cr2]) rfl ⟨rfl, (((B106.out.setCell l_r (.int .i64 q)).setCell l_r (.string y)).setCell l_r (.bool false))⟩
            have h2' : (k : Int) < W := h2
            obtain rfl : F = true := by rw [EF.out]; simp [h1, h2]
            clear EF h1
            clear h2
            obtain ⟨⟨cs0, cs1, cs2, cs3, cs4, cs5⟩, ds0, ds1, ds2, ds3, ds4, ds5⟩ := Ks105.out.of6
            obtain ⟨⟨cr0, cr1, cr2⟩, dr0, dr1, dr2⟩ := Kr105.out.o3
            obtain ⟨⟨cc0, cc1, cc2⟩, dc0, dc1, dc2⟩ := Kc105.out.o3
            have Ks106 := Lib.hid (show Blk (wc_5.setCell ⟨g_c, 2, none⟩ (.bool true)) g_s [.int .i64 u, .string d, .int .i64 p, .bool true, .bool false, .bool false] from (Ks105.out.setOther ⟨g_c, 2, none⟩ (.bool true) (n_s_c)))
            have Kr106 := Lib.hid (show Blk (wc_5.setCell ⟨g_c, 2, none⟩ (.bool true)) g_r [.int .i64 0, .string ⟨#[]⟩, .bool false] from (Kr105.out.setOther ⟨g_c, 2, none⟩ (.bool true) (n_r_c)))
            have Kc106 := Lib.hid (show Blk (wc_5.setCell ⟨g_c, 2, none⟩ (.bool true)) g_c [.int .i64 q, .string y, .bool true] from (Kc105.out.set 2 (.bool true)))
            have B106 := Lib.hid (show Below w.heap.size w (wc_5.setCell ⟨g_c, 2, none⟩ (.bool true)) from (B105.out.setCell l_c (.bool true)))
            clear B105
            go_upto_region 7 with fail
            clear Ks105 Kr105 Kc105
            clear cs0 cs1 cs2 cs3 cs4 cs5 ds0 ds1 ds2 ds3 ds4 ds5 cr0 cr1 cr2 dr0 dr1 dr2 cc0 cc1 cc2 dc0 dc1 dc2
            generalize wc_5.setCell ⟨g_c, 2, none⟩ (.bool true) = v106 at B106 Ks106 Kr106 Kc106 ⊢
            by_cases h0 : k = 0
            case pos =>
              have hE' : ((k : Int) == 0) = true := by simp; omega
              obtain rfl : ok = true := by rw [EO.out]; simp [h0]
              obtain rfl := EY.out rfl
              clear EO EY EN h0
              obtain ⟨⟨cs0, cs1, cs2, cs3, cs4, cs5⟩, ds0, ds1, ds2, ds3, ds4, ds5⟩ := Ks106.out.of6
              obtain ⟨⟨cr0, cr1, cr2⟩, dr0, dr1, dr2⟩ := Kr106.out.o3
              obtain ⟨⟨cc0, cc1, cc2⟩, dc0, dc1, dc2⟩ := Kc106.out.o3
              go_wp2_with fail
              exact bodyPost_ret (v := .tuple #[.agg #[.int .i64 q, .string y, .bool true], .bool true]) (by simp [results, Try.results23, go_sem, cr0, cr1, cr2]) rfl ⟨rfl, (((B106.out.setCell l_r (.int .i64 q)).setCell l_r (.string y)).setCell l_r (.bool true))⟩
            have hE' : ((k : Int) == 0) = false := by simp; omega
            obtain rfl : ok = true := by rw [EO.out]; simp [h0]
            obtain rfl := EY.out rfl
            clear EO EY EN h0
            obtain ⟨⟨cs0, cs1, cs2, cs3, cs4, cs5⟩, ds0, ds1, ds2, ds3, ds4, ds5⟩ := Ks106.out.of6
            obtain ⟨⟨cr0, cr1, cr2⟩, dr0, dr1, dr2⟩ := Kr106.out.o3
            obtain ⟨⟨cc0, cc1, cc2⟩, dc0, dc1, dc2⟩ := Kc106.out.o3
            go_wp2_with fail
            exact bodyPost_ret (v := .tuple #[.agg #[.int .i64 q, .string y, .bool true], .bool true]) (by simp [results, Try.results23, go_sem, cr0, cr1, cr2]) rfl ⟨rfl, (((B106.out.setCell l_r (.int .i64 q)).setCell l_r (.string y)).setCell l_r (.bool true))⟩
end Go.Proofs.Ytkigkfedkjnkeaa
