/- NextChunk, of the program. Nothing here is a claim. -/
import Derived.Test.YtkigkfedkjnkeaaSndNK
import Derived.Test.YtkigkfedkjnkeaaSndOk
import Derived.Test.YtkigkfedkjnkeaaSndCh
namespace Go.Proofs.Ytkigkfedkjnkeaa
open Go.RowKit Go.Lib

set_option maxRecDepth 100000 in
set_option maxHeartbeats 8000000 in
theorem nextChunkI (u : Int) (d : ByteArray) (t : Int) (f g h : Bool) (v m : Int) (hv : I64 v) (w : World) : Calls Try.prog 22 #[.agg #[.int .i64 u, .string d, .int .i64 t, .bool f, .bool g, .bool h], .int .i64 v, .int .i64 m] w (EndNx ⟨u, d, t, f, g, h⟩ v m w) := by
  have OK := (sndOkI u d t f g h)
  cases hok : sndOk ⟨u, d, t, f, g, h⟩ with
  | false =>
    rw [hok] at OK
    replace OK := Lib.hid OK
    unfold EndNx
    rw [(ck_bad hok).1, (ck_bad hok).2]
    simp only [Chk.cs]
    clear hok hv
    go_enter Try.func22, Try.ntmps22
    have B0 := Lib.hid (show Below w.heap.size w ((w.alloc (.cells #[.int .i64 u, .string d, .int .i64 t, .bool f, .bool g, .bool h] 25)).alloc (.cells #[.int .i64 0, .string ⟨#[]⟩, .bool false] 35)) from (((Below.refl _ w).alloc (by simp) _).alloc (by simp) _))
    have Ks0 := Lib.hid (show Blk ((w.alloc (.cells #[.int .i64 u, .string d, .int .i64 t, .bool f, .bool g, .bool h] 25)).alloc (.cells #[.int .i64 0, .string ⟨#[]⟩, .bool false] 35)) (w.heap.size) [.int .i64 u, .string d, .int .i64 t, .bool f, .bool g, .bool h] from (Blk.new w [.int .i64 u, .string d, .int .i64 t, .bool f, .bool g, .bool h] 25).alloc (.cells #[.int .i64 0, .string ⟨#[]⟩, .bool false] 35))
    have s1 : (w.alloc (.cells #[.int .i64 u, .string d, .int .i64 t, .bool f, .bool g, .bool h] 25)).heap.size = w.heap.size + 1 := by simp
    have Kr0 := Lib.hid (show Blk ((w.alloc (.cells #[.int .i64 u, .string d, .int .i64 t, .bool f, .bool g, .bool h] 25)).alloc (.cells #[.int .i64 0, .string ⟨#[]⟩, .bool false] 35)) (w.heap.size + 1) [.int .i64 0, .string ⟨#[]⟩, .bool false] by have h0 := Blk.new (w.alloc (.cells #[.int .i64 u, .string d, .int .i64 t, .bool f, .bool g, .bool h] 25)) [.int .i64 0, .string ⟨#[]⟩, .bool false] 35; rwa [s1] at h0)
    have n_s_r : w.heap.size ≠ w.heap.size + 1 := by omega
    clear s1
    go_wp2_with fail
    change Calls _ _ _ ((w.alloc (.cells #[.int .i64 u, .string d, .int .i64 t, .bool f, .bool g, .bool h] 25)).alloc (.cells #[.int .i64 0, .string ⟨#[]⟩, .bool false] 35)) _
    generalize (w.alloc (.cells #[.int .i64 u, .string d, .int .i64 t, .bool f, .bool g, .bool h] 25)).alloc (.cells #[.int .i64 0, .string ⟨#[]⟩, .bool false] 35) = v0 at B0 Ks0 Kr0 ⊢
    generalize hh_r : w.heap.size + 1 = g_r at Kr0 n_s_r ⊢
    generalize hh_s : w.heap.size = g_s at Ks0 n_s_r ⊢
    have l_s : w.heap.size ≤ g_s := by omega
    have l_r : w.heap.size ≤ g_r := by omega
    clear hh_s hh_r
    refine (OK.out _).mono ?_
    rintro e v1 ⟨rfl, hb⟩
    have B1 := Lib.hid (B0.out.trans (hb.mono B0.out.size))
    have Ks1 := Lib.hid (Ks0.out.below hb)
    have Kr1 := Lib.hid (Kr0.out.below hb)
    clear hb B0 Ks0 Kr0
    obtain ⟨⟨cs0, cs1, cs2, cs3, cs4, cs5⟩, ds0, ds1, ds2, ds3, ds4, ds5⟩ := Ks1.out.of6
    obtain ⟨⟨cr0, cr1, cr2⟩, dr0, dr1, dr2⟩ := Kr1.out.o3
    go_wp2_with fail
    exact bodyPost_ret (v := .tuple #[.agg #[.int .i64 0, .string ⟨#[]⟩, .bool false], .bool false]) (by simp [results, Try.results22, go_sem, cr0, cr1, cr2]) rfl ⟨rfl, (((B1.out.setCell l_r (.int .i64 0)).setCell l_r (.string ⟨#[]⟩)).setCell l_r (.bool false))⟩
  | true =>
    rw [hok] at OK
    replace OK := Lib.hid OK
    obtain ⟨-, ⟨hd, ht0, ht1⟩, -, -⟩ := sndOk_of hok
    obtain ⟨p, rfl⟩ : ∃ p : Nat, t = (p : Int) := ⟨t.toNat, by omega⟩
    have hfl := fl_bd hok
    simp only at hfl
    have P := Lib.hid (positionI u d p f g h)
    have hx : (d.extract p d.size).size = d.size - p := by rw [ByteArray.size_extract]; omega
    have hk : max 0 (min (min ((d.extract p d.size).size : Int) (max v 0 - fl p g)) m) = (ckN ⟨u, d, p, f, g, h⟩ v m : Int) := by unfold ckN ckW; simp only; omega
    have CH := chunkI u (fl p g) (d.extract p d.size) (f && (!g && !h)) v m
    replace CH := fun w => CH w (by omega) hfl.1 hfl.2.1 hv _ _ rfl hk
    have e1 : ((f && (!g && !h)) && (decide (ckN ⟨u, d, p, f, g, h⟩ v m = (d.extract p d.size).size) && decide ((ckN ⟨u, d, p, f, g, h⟩ v m : Int) < max v 0 - fl p g))) = ckF ⟨u, d, p, f, g, h⟩ v m := by
      unfold ckF
      congr 2
      · rw [decide_eq_decide]; simp only; omega
      · rw [decide_eq_decide]; unfold ckN ckW; simp only; omega
    have hkd : p + ckN ⟨u, d, p, f, g, h⟩ v m ≤ d.size := by unfold ckN; simp only; omega
    rw [e1, extract_two d p _ hkd, show pl (u + fl p g) = nxt u p g from rfl] at CH
    clear e1 hk hv
    have hy : (d.extract p (p + ckN ⟨u, d, p, f, g, h⟩ v m)).size = ckN ⟨u, d, p, f, g, h⟩ v m := by rw [ByteArray.size_extract]; omega
    have eo := ck_ok (v := v) (m := m) hok
    have ey := chk_yes (s := ⟨u, d, p, f, g, h⟩) (v := v) (m := m)
    have en := chk_no (s := ⟨u, d, p, f, g, h⟩) (v := v) (m := m)
    simp only [Int.toNat_natCast] at ey
    unfold EndNx
    generalize chk ⟨u, d, p, f, g, h⟩ v m = c at ey en ⊢
    generalize ckOk ⟨u, d, p, f, g, h⟩ v m = ok at eo ey en ⊢
    generalize ckF ⟨u, d, p, f, g, h⟩ v m = F at eo CH ey
    generalize d.extract p (p + ckN ⟨u, d, p, f, g, h⟩ v m) = y at hy CH ey
    generalize ckN ⟨u, d, p, f, g, h⟩ v m = k at eo hkd hy CH
    generalize nxt u p g = q at CH ey
    generalize fl p g = b at P CH hfl
    obtain ⟨F0, HF⟩ : ∃ F0, F0 = (f && (!g && !h)) := ⟨_, rfl⟩
    rw [← HF] at CH
    replace HF := Lib.hid HF
    have hE := snd_isEmpty (x := y)
    rw [hy] at hE
    replace CH := Lib.hid CH
    have EO := Lib.hid eo
    have EY := Lib.hid ey
    have EN := Lib.hid en
    have HE := Lib.hid hE
    have HD := Lib.hid hd
    have hpd : p ≤ d.size := by omega
    clear hfl hok hy hx ht0 ht1 eo ey en hE hd hkd
    go_enter Try.func22, Try.ntmps22
    have B0 := Lib.hid (show Below w.heap.size w ((w.alloc (.cells #[.int .i64 u, .string d, .int .i64 p, .bool f, .bool g, .bool h] 25)).alloc (.cells #[.int .i64 0, .string ⟨#[]⟩, .bool false] 35)) from (((Below.refl _ w).alloc (by simp) _).alloc (by simp) _))
    have Ks0 := Lib.hid (show Blk ((w.alloc (.cells #[.int .i64 u, .string d, .int .i64 p, .bool f, .bool g, .bool h] 25)).alloc (.cells #[.int .i64 0, .string ⟨#[]⟩, .bool false] 35)) (w.heap.size) [.int .i64 u, .string d, .int .i64 p, .bool f, .bool g, .bool h] from (Blk.new w [.int .i64 u, .string d, .int .i64 p, .bool f, .bool g, .bool h] 25).alloc (.cells #[.int .i64 0, .string ⟨#[]⟩, .bool false] 35))
    have s1 : (w.alloc (.cells #[.int .i64 u, .string d, .int .i64 p, .bool f, .bool g, .bool h] 25)).heap.size = w.heap.size + 1 := by simp
    have Kr0 := Lib.hid (show Blk ((w.alloc (.cells #[.int .i64 u, .string d, .int .i64 p, .bool f, .bool g, .bool h] 25)).alloc (.cells #[.int .i64 0, .string ⟨#[]⟩, .bool false] 35)) (w.heap.size + 1) [.int .i64 0, .string ⟨#[]⟩, .bool false] by have h0 := Blk.new (w.alloc (.cells #[.int .i64 u, .string d, .int .i64 p, .bool f, .bool g, .bool h] 25)) [.int .i64 0, .string ⟨#[]⟩, .bool false] 35; rwa [s1] at h0)
    have n_s_r : w.heap.size ≠ w.heap.size + 1 := by omega
    clear s1
    go_wp2_with fail
    change Calls _ _ _ ((w.alloc (.cells #[.int .i64 u, .string d, .int .i64 p, .bool f, .bool g, .bool h] 25)).alloc (.cells #[.int .i64 0, .string ⟨#[]⟩, .bool false] 35)) _
    generalize (w.alloc (.cells #[.int .i64 u, .string d, .int .i64 p, .bool f, .bool g, .bool h] 25)).alloc (.cells #[.int .i64 0, .string ⟨#[]⟩, .bool false] 35) = v0 at B0 Ks0 Kr0 ⊢
    generalize hh_r : w.heap.size + 1 = g_r at Kr0 n_s_r ⊢
    generalize hh_s : w.heap.size = g_s at Ks0 n_s_r ⊢
    have l_s : w.heap.size ≤ g_s := by omega
    have l_r : w.heap.size ≤ g_r := by omega
    clear hh_s hh_r
    refine (OK.out _).mono ?_
    rintro e v1 ⟨rfl, hb⟩
    have B1 := Lib.hid (B0.out.trans (hb.mono B0.out.size))
    have Ks1 := Lib.hid (Ks0.out.below hb)
    have Kr1 := Lib.hid (Kr0.out.below hb)
    clear hb B0 Ks0 Kr0
    obtain ⟨⟨cs0, cs1, cs2, cs3, cs4, cs5⟩, ds0, ds1, ds2, ds3, ds4, ds5⟩ := Ks1.out.of6
    obtain ⟨⟨cr0, cr1, cr2⟩, dr0, dr1, dr2⟩ := Kr1.out.o3
    go_upto_region 3 with fail
    clear cs0 cs1 cs2 cs3 cs4 cs5 ds0 ds1 ds2 ds3 ds4 ds5 cr0 cr1 cr2 dr0 dr1 dr2
    go_cut [8] (fun s8 wx => ∃ (g_L : Nat), s8 = .pointer (some ⟨g_L, 0, none⟩) ∧ Hid (Below w.heap.size w wx) ∧ Hid (Blk wx g_s [.int .i64 u, .string d, .int .i64 p, .bool f, .bool g, .bool h]) ∧ Hid (Blk wx g_r [.int .i64 0, .string ⟨#[]⟩, .bool false]) ∧ Hid (Blk wx g_L [.int .i64 u, .int .i64 b, .string (d.extract p d.size), .bool F0]) ∧ (g_s ≠ g_L ∧ g_r ≠ g_L ∧ w.heap.size ≤ g_L))
    case first =>
      cases f with
      | false =>
        obtain rfl : F0 = false := HF.out
        refine wp_region_noPanic ?_
        refine wp_region_held_drew (S := fun w' => Blk w' g_s [.int .i64 u, .string d, .int .i64 p, .bool false, .bool g, .bool h]) (by kernel_rfl) Ks1.out (fun hS => ?_)
        have B2 := Lib.hid (show Below w.heap.size w v1.drew from B1.out.drew)
        have Ks2 := Lib.hid (show Blk v1.drew g_s [.int .i64 u, .string d, .int .i64 p, .bool false, .bool g, .bool h] from Ks1.out.drew)
        have Kr2 := Lib.hid (show Blk v1.drew g_r [.int .i64 0, .string ⟨#[]⟩, .bool false] from Kr1.out.drew)
        clear hS B1 Ks1 Kr1
        generalize v1.drew = v2 at B2 Ks2 Kr2 ⊢
        have hS : Blk v2 g_s [.int .i64 u, .string d, .int .i64 p, .bool false, .bool g, .bool h] := Ks2.out
        refine wpAnyH_take (i := 0) (v := .agg #[.int .i64 u, .string d, .int .i64 p, .bool false, .bool g, .bool h]) rfl (by kernel_rfl) (by kernel_rfl) (by kernel_rfl) (fun _ _ _ h => h) (Or.inl ⟨by kernel_rfl, by intro w hS; obtain ⟨⟨h0, h1, h2, h3, h4, h5⟩, _⟩ := hS.of6; go_simp⟩) hS ?_
        refine wpAnyH_take (i := 2) (v := .pointer (some ⟨g_s, 1, none⟩)) rfl (by kernel_rfl) (by kernel_rfl) (by kernel_rfl) (fun _ _ _ h => h) (Or.inl ⟨by kernel_rfl, by intro w hS; go_simp⟩) hS ?_
        refine wpAnyH_take (i := 3) (v := .string d) rfl (by kernel_rfl) (by kernel_rfl) (by kernel_rfl) (fun _ _ _ h => h) (Or.inl ⟨by kernel_rfl, by intro w hS; obtain ⟨⟨h0, h1, h2, h3, h4, h5⟩, _⟩ := hS.of6; go_simp⟩) hS ?_
        refine wpAnyH_take (i := 4) (v := .pointer (some ⟨g_s, 2, none⟩)) rfl (by kernel_rfl) (by kernel_rfl) (by kernel_rfl) (fun _ _ _ h => h) (Or.inl ⟨by kernel_rfl, by intro w hS; go_simp⟩) hS ?_
        refine wpAnyH_take (i := 5) (v := .int .i64 p) rfl (by kernel_rfl) (by kernel_rfl) (by kernel_rfl) (fun _ _ _ h => h) (Or.inl ⟨by kernel_rfl, by intro w hS; obtain ⟨⟨h0, h1, h2, h3, h4, h5⟩, _⟩ := hS.of6; go_simp⟩) hS ?_
        refine wpAnyH_take (i := 6) (v := .string (d.extract p d.size)) rfl (by kernel_rfl) (by kernel_rfl) (by kernel_rfl) (fun _ _ _ h => h) (Or.inl ⟨by kernel_rfl, by intro w hS; go_simp⟩) hS ?_
        refine wpAnyH_take (i := 7) (v := .pointer (some ⟨g_s, 3, none⟩)) rfl (by kernel_rfl) (by kernel_rfl) (by kernel_rfl) (fun _ _ _ h => h) (Or.inl ⟨by kernel_rfl, by intro w hS; go_simp⟩) hS ?_
        refine wpAnyH_take (i := 8) (v := .bool false) rfl (by kernel_rfl) (by kernel_rfl) (by kernel_rfl) (fun _ _ _ h => h) (Or.inl ⟨by kernel_rfl, by intro w hS; obtain ⟨⟨h0, h1, h2, h3, h4, h5⟩, _⟩ := hS.of6; go_simp⟩) hS ?_
        refine wpAnyH_ready (rs := [1, 20]) (by kernel_rfl) (by simp) ?_
        refine AllReadyH.cons (i := 1) rfl (fun K hK => ?zy2) (AllReadyH.cons (i := 20) rfl (fun K hK => ?zy1) AllReadyH.nil)
        · rw [if_pos (by rfl)]
          go_simp
          clear hS
          refine (P.out _).mono ?_
          rintro e v3 ⟨rfl, hb⟩
          have B3 := Lib.hid (B2.out.trans (hb.mono B2.out.size))
          have Ks3 := Lib.hid (Ks2.out.below hb)
          have Kr3 := Lib.hid (Kr2.out.below hb)
          clear hb B2 Ks2 Kr2
          refine hK.out _ _ Ks3.out (fun hS => ?_)
          clear hK K
          refine wpAnyH_take (i := 9) (v := .bool false) rfl (by kernel_rfl) (by kernel_rfl) (by kernel_rfl) (fun _ _ _ h => h) (Or.inl ⟨by kernel_rfl, by intro w hS; go_simp⟩) hS ?_
          refine wpAnyH_take (i := 10) (v := undef) rfl (by kernel_rfl) (by kernel_rfl) (by kernel_rfl) (fun _ _ _ h => h) (Or.inr ⟨by kernel_rfl, rfl⟩) hS ?_
          refine wpAnyH_take (i := 11) (v := undef) rfl (by kernel_rfl) (by kernel_rfl) (by kernel_rfl) (fun _ _ _ h => h) (Or.inr ⟨by kernel_rfl, rfl⟩) hS ?_
          refine wpAnyH_take (i := 12) (v := undef) rfl (by kernel_rfl) (by kernel_rfl) (by kernel_rfl) (fun _ _ _ h => h) (Or.inr ⟨by kernel_rfl, rfl⟩) hS ?_
          refine wpAnyH_take (i := 13) (v := .bool false) rfl (by kernel_rfl) (by kernel_rfl) (by kernel_rfl) (fun _ _ _ h => h) (Or.inl ⟨by kernel_rfl, by intro w hS; go_simp⟩) hS ?_
          refine wpAnyH_take (i := 14) (v := .bool false) rfl (by kernel_rfl) (by kernel_rfl) (by kernel_rfl) (fun _ _ _ h => h) (Or.inl ⟨by kernel_rfl, by intro w hS; go_simp⟩) hS ?_
          refine wpAnyH_take (i := 15) (v := undef) rfl (by kernel_rfl) (by kernel_rfl) (by kernel_rfl) (fun _ _ _ h => h) (Or.inr ⟨by kernel_rfl, rfl⟩) hS ?_
          refine wpAnyH_take (i := 16) (v := undef) rfl (by kernel_rfl) (by kernel_rfl) (by kernel_rfl) (fun _ _ _ h => h) (Or.inr ⟨by kernel_rfl, rfl⟩) hS ?_
          refine wpAnyH_take (i := 17) (v := undef) rfl (by kernel_rfl) (by kernel_rfl) (by kernel_rfl) (fun _ _ _ h => h) (Or.inr ⟨by kernel_rfl, rfl⟩) hS ?_
          refine wpAnyH_take (i := 18) (v := .bool false) rfl (by kernel_rfl) (by kernel_rfl) (by kernel_rfl) (fun _ _ _ h => h) (Or.inl ⟨by kernel_rfl, by intro w hS; go_simp⟩) hS ?_
          refine wpAnyH_take (i := 19) (v := .agg #[.int .i64 u, .int .i64 b, .string (d.extract p d.size), .bool false]) rfl (by kernel_rfl) (by kernel_rfl) (by kernel_rfl) (fun _ _ _ h => h) (Or.inl ⟨by kernel_rfl, by intro w hS; go_simp⟩) hS ?_
          refine wpAnyH_ready (rs := [20]) (by kernel_rfl) (by simp) ?_
          refine AllReadyH.cons (i := 20) rfl (fun K hK => ?zy3) AllReadyH.nil
          rw [if_pos (by rfl)]
          go_simp
          clear hS
          have B4 := Lib.hid (B3.out.alloc B3.out.size (.cells #[.int .i64 0, .int .i64 0, .string ⟨#[]⟩, .bool false] 73))
          have l_L : w.heap.size ≤ v3.heap.size := B3.out.size
          have n_s_L : g_s ≠ v3.heap.size := by have h1 := Ks3.out.lt; omega
          have n_r_L : g_r ≠ v3.heap.size := by have h1 := Kr3.out.lt; omega
          have Ks4 := Lib.hid (Ks3.out.alloc (.cells #[.int .i64 0, .int .i64 0, .string ⟨#[]⟩, .bool false] 73))
          have Kr4 := Lib.hid (Kr3.out.alloc (.cells #[.int .i64 0, .int .i64 0, .string ⟨#[]⟩, .bool false] 73))
          have KL4 := Lib.hid (Blk.new v3 [.int .i64 0, .int .i64 0, .string ⟨#[]⟩, .bool false] 73)
          clear B3 Ks3 Kr3
          refine hK.out _ _ Ks4.out (fun hS => ?_)
          clear hK K
          generalize v3.alloc (.cells #[.int .i64 0, .int .i64 0, .string ⟨#[]⟩, .bool false] 73) = v4 at hS B4 Ks4 Kr4 KL4 ⊢
          generalize v3.heap.size = g_L at KL4 l_L n_s_L n_r_L ⊢
          obtain ⟨⟨cL0, cL1, cL2, cL3⟩, dL0, dL1, dL2, dL3⟩ := KL4.out.four
          refine wpAnyH_ready (rs := [21]) (by kernel_rfl) (by simp) ?_
          refine AllReadyH.cons (i := 21) rfl (fun K hK => ?zy4) AllReadyH.nil
          rw [if_pos (by rfl)]
          go_simp
          clear hS
          have B5 := Lib.hid (show Below w.heap.size w ((((v4.setCell ⟨g_L, 0, none⟩ (.int .i64 u)).setCell ⟨g_L, 1, none⟩ (.int .i64 b)).setCell ⟨g_L, 2, none⟩ (.string (d.extract p d.size))).setCell ⟨g_L, 3, none⟩ (.bool false)) from ((((B4.out.setCell l_L (.int .i64 u)).setCell l_L (.int .i64 b)).setCell l_L (.string (d.extract p d.size))).setCell l_L (.bool false)))
          have Ks5 := Lib.hid (show Blk ((((v4.setCell ⟨g_L, 0, none⟩ (.int .i64 u)).setCell ⟨g_L, 1, none⟩ (.int .i64 b)).setCell ⟨g_L, 2, none⟩ (.string (d.extract p d.size))).setCell ⟨g_L, 3, none⟩ (.bool false)) g_s [.int .i64 u, .string d, .int .i64 p, .bool false, .bool g, .bool h] from ((((Ks4.out.setOther ⟨g_L, 0, none⟩ (.int .i64 u) (n_s_L)).setOther ⟨g_L, 1, none⟩ (.int .i64 b) (n_s_L)).setOther ⟨g_L, 2, none⟩ (.string (d.extract p d.size)) (n_s_L)).setOther ⟨g_L, 3, none⟩ (.bool false) (n_s_L)))
          have Kr5 := Lib.hid (show Blk ((((v4.setCell ⟨g_L, 0, none⟩ (.int .i64 u)).setCell ⟨g_L, 1, none⟩ (.int .i64 b)).setCell ⟨g_L, 2, none⟩ (.string (d.extract p d.size))).setCell ⟨g_L, 3, none⟩ (.bool false)) g_r [.int .i64 0, .string ⟨#[]⟩, .bool false] from ((((Kr4.out.setOther ⟨g_L, 0, none⟩ (.int .i64 u) (n_r_L)).setOther ⟨g_L, 1, none⟩ (.int .i64 b) (n_r_L)).setOther ⟨g_L, 2, none⟩ (.string (d.extract p d.size)) (n_r_L)).setOther ⟨g_L, 3, none⟩ (.bool false) (n_r_L)))
          have KL5 := Lib.hid (show Blk ((((v4.setCell ⟨g_L, 0, none⟩ (.int .i64 u)).setCell ⟨g_L, 1, none⟩ (.int .i64 b)).setCell ⟨g_L, 2, none⟩ (.string (d.extract p d.size))).setCell ⟨g_L, 3, none⟩ (.bool false)) g_L [.int .i64 u, .int .i64 b, .string (d.extract p d.size), .bool false] from ((((KL4.out.set 0 (.int .i64 u)).set 1 (.int .i64 b)).set 2 (.string (d.extract p d.size))).set 3 (.bool false)))
          refine hK.out _ _ Ks5.out (fun hS => ?_)
          clear hK K
          clear B4 Ks4 Kr4 KL4
          clear cL0 cL1 cL2 cL3 dL0 dL1 dL2 dL3
          generalize (((v4.setCell ⟨g_L, 0, none⟩ (.int .i64 u)).setCell ⟨g_L, 1, none⟩ (.int .i64 b)).setCell ⟨g_L, 2, none⟩ (.string (d.extract p d.size))).setCell ⟨g_L, 3, none⟩ (.bool false) = v5 at hS B5 Ks5 Kr5 KL5 ⊢
          refine wpAnyH_done (by kernel_rfl) ?_ _
          refine NoPanic.normal ?_
          go_wp2_with fail
          go_meet
          case rel => exact ⟨g_L, rfl, B5, Ks5, Kr5, KL5, ⟨n_s_L, n_r_L, l_L⟩⟩
        · rw [if_pos (by rfl)]
          go_simp
          clear hS
          have B3 := Lib.hid (B2.out.alloc B2.out.size (.cells #[.int .i64 0, .int .i64 0, .string ⟨#[]⟩, .bool false] 73))
          have l_L : w.heap.size ≤ v2.heap.size := B2.out.size
          have n_s_L : g_s ≠ v2.heap.size := by have h1 := Ks2.out.lt; omega
          have n_r_L : g_r ≠ v2.heap.size := by have h1 := Kr2.out.lt; omega
          have Ks3 := Lib.hid (Ks2.out.alloc (.cells #[.int .i64 0, .int .i64 0, .string ⟨#[]⟩, .bool false] 73))
          have Kr3 := Lib.hid (Kr2.out.alloc (.cells #[.int .i64 0, .int .i64 0, .string ⟨#[]⟩, .bool false] 73))
          have KL3 := Lib.hid (Blk.new v2 [.int .i64 0, .int .i64 0, .string ⟨#[]⟩, .bool false] 73)
          clear B2 Ks2 Kr2
          refine hK.out _ _ Ks3.out (fun hS => ?_)
          clear hK K
          generalize v2.alloc (.cells #[.int .i64 0, .int .i64 0, .string ⟨#[]⟩, .bool false] 73) = v3 at hS B3 Ks3 Kr3 KL3 ⊢
          generalize v2.heap.size = g_L at KL3 l_L n_s_L n_r_L ⊢
          refine wpAnyH_ready (rs := [1]) (by kernel_rfl) (by simp) ?_
          refine AllReadyH.cons (i := 1) rfl (fun K hK => ?zy5) AllReadyH.nil
          rw [if_pos (by rfl)]
          go_simp
          clear hS
          refine (P.out _).mono ?_
          rintro e v4 ⟨rfl, hb⟩
          have B4 := Lib.hid (B3.out.trans (hb.mono B3.out.size))
          have Ks4 := Lib.hid (Ks3.out.below hb)
          have Kr4 := Lib.hid (Kr3.out.below hb)
          have KL4 := Lib.hid (KL3.out.below hb)
          clear hb B3 Ks3 Kr3 KL3
          refine hK.out _ _ Ks4.out (fun hS => ?_)
          clear hK K
          refine wpAnyH_take (i := 9) (v := .bool false) rfl (by kernel_rfl) (by kernel_rfl) (by kernel_rfl) (fun _ _ _ h => h) (Or.inl ⟨by kernel_rfl, by intro w hS; go_simp⟩) hS ?_
          refine wpAnyH_take (i := 10) (v := undef) rfl (by kernel_rfl) (by kernel_rfl) (by kernel_rfl) (fun _ _ _ h => h) (Or.inr ⟨by kernel_rfl, rfl⟩) hS ?_
          refine wpAnyH_take (i := 11) (v := undef) rfl (by kernel_rfl) (by kernel_rfl) (by kernel_rfl) (fun _ _ _ h => h) (Or.inr ⟨by kernel_rfl, rfl⟩) hS ?_
          refine wpAnyH_take (i := 12) (v := undef) rfl (by kernel_rfl) (by kernel_rfl) (by kernel_rfl) (fun _ _ _ h => h) (Or.inr ⟨by kernel_rfl, rfl⟩) hS ?_
          refine wpAnyH_take (i := 13) (v := .bool false) rfl (by kernel_rfl) (by kernel_rfl) (by kernel_rfl) (fun _ _ _ h => h) (Or.inl ⟨by kernel_rfl, by intro w hS; go_simp⟩) hS ?_
          refine wpAnyH_take (i := 14) (v := .bool false) rfl (by kernel_rfl) (by kernel_rfl) (by kernel_rfl) (fun _ _ _ h => h) (Or.inl ⟨by kernel_rfl, by intro w hS; go_simp⟩) hS ?_
          refine wpAnyH_take (i := 15) (v := undef) rfl (by kernel_rfl) (by kernel_rfl) (by kernel_rfl) (fun _ _ _ h => h) (Or.inr ⟨by kernel_rfl, rfl⟩) hS ?_
          refine wpAnyH_take (i := 16) (v := undef) rfl (by kernel_rfl) (by kernel_rfl) (by kernel_rfl) (fun _ _ _ h => h) (Or.inr ⟨by kernel_rfl, rfl⟩) hS ?_
          refine wpAnyH_take (i := 17) (v := undef) rfl (by kernel_rfl) (by kernel_rfl) (by kernel_rfl) (fun _ _ _ h => h) (Or.inr ⟨by kernel_rfl, rfl⟩) hS ?_
          refine wpAnyH_take (i := 18) (v := .bool false) rfl (by kernel_rfl) (by kernel_rfl) (by kernel_rfl) (fun _ _ _ h => h) (Or.inl ⟨by kernel_rfl, by intro w hS; go_simp⟩) hS ?_
          refine wpAnyH_take (i := 19) (v := .agg #[.int .i64 u, .int .i64 b, .string (d.extract p d.size), .bool false]) rfl (by kernel_rfl) (by kernel_rfl) (by kernel_rfl) (fun _ _ _ h => h) (Or.inl ⟨by kernel_rfl, by intro w hS; go_simp⟩) hS ?_
          obtain ⟨⟨cL0, cL1, cL2, cL3⟩, dL0, dL1, dL2, dL3⟩ := KL4.out.four
          refine wpAnyH_ready (rs := [21]) (by kernel_rfl) (by simp) ?_
          refine AllReadyH.cons (i := 21) rfl (fun K hK => ?zy6) AllReadyH.nil
          rw [if_pos (by rfl)]
          go_simp
          clear hS
          have B5 := Lib.hid (show Below w.heap.size w ((((v4.setCell ⟨g_L, 0, none⟩ (.int .i64 u)).setCell ⟨g_L, 1, none⟩ (.int .i64 b)).setCell ⟨g_L, 2, none⟩ (.string (d.extract p d.size))).setCell ⟨g_L, 3, none⟩ (.bool false)) from ((((B4.out.setCell l_L (.int .i64 u)).setCell l_L (.int .i64 b)).setCell l_L (.string (d.extract p d.size))).setCell l_L (.bool false)))
          have Ks5 := Lib.hid (show Blk ((((v4.setCell ⟨g_L, 0, none⟩ (.int .i64 u)).setCell ⟨g_L, 1, none⟩ (.int .i64 b)).setCell ⟨g_L, 2, none⟩ (.string (d.extract p d.size))).setCell ⟨g_L, 3, none⟩ (.bool false)) g_s [.int .i64 u, .string d, .int .i64 p, .bool false, .bool g, .bool h] from ((((Ks4.out.setOther ⟨g_L, 0, none⟩ (.int .i64 u) (n_s_L)).setOther ⟨g_L, 1, none⟩ (.int .i64 b) (n_s_L)).setOther ⟨g_L, 2, none⟩ (.string (d.extract p d.size)) (n_s_L)).setOther ⟨g_L, 3, none⟩ (.bool false) (n_s_L)))
          have Kr5 := Lib.hid (show Blk ((((v4.setCell ⟨g_L, 0, none⟩ (.int .i64 u)).setCell ⟨g_L, 1, none⟩ (.int .i64 b)).setCell ⟨g_L, 2, none⟩ (.string (d.extract p d.size))).setCell ⟨g_L, 3, none⟩ (.bool false)) g_r [.int .i64 0, .string ⟨#[]⟩, .bool false] from ((((Kr4.out.setOther ⟨g_L, 0, none⟩ (.int .i64 u) (n_r_L)).setOther ⟨g_L, 1, none⟩ (.int .i64 b) (n_r_L)).setOther ⟨g_L, 2, none⟩ (.string (d.extract p d.size)) (n_r_L)).setOther ⟨g_L, 3, none⟩ (.bool false) (n_r_L)))
          have KL5 := Lib.hid (show Blk ((((v4.setCell ⟨g_L, 0, none⟩ (.int .i64 u)).setCell ⟨g_L, 1, none⟩ (.int .i64 b)).setCell ⟨g_L, 2, none⟩ (.string (d.extract p d.size))).setCell ⟨g_L, 3, none⟩ (.bool false)) g_L [.int .i64 u, .int .i64 b, .string (d.extract p d.size), .bool false] from ((((KL4.out.set 0 (.int .i64 u)).set 1 (.int .i64 b)).set 2 (.string (d.extract p d.size))).set 3 (.bool false)))
          refine hK.out _ _ Ks5.out (fun hS => ?_)
          clear hK K
          clear B4 Ks4 Kr4 KL4
          clear cL0 cL1 cL2 cL3 dL0 dL1 dL2 dL3
          generalize (((v4.setCell ⟨g_L, 0, none⟩ (.int .i64 u)).setCell ⟨g_L, 1, none⟩ (.int .i64 b)).setCell ⟨g_L, 2, none⟩ (.string (d.extract p d.size))).setCell ⟨g_L, 3, none⟩ (.bool false) = v5 at hS B5 Ks5 Kr5 KL5 ⊢
          refine wpAnyH_done (by kernel_rfl) ?_ _
          refine NoPanic.normal ?_
          go_wp2_with fail
          go_meet
          case rel => exact ⟨g_L, rfl, B5, Ks5, Kr5, KL5, ⟨n_s_L, n_r_L, l_L⟩⟩
      | true =>
        cases g with
        | true =>
          obtain rfl : F0 = false := HF.out
          refine wp_region_noPanic ?_
          refine wp_region_held_drew (S := fun w' => Blk w' g_s [.int .i64 u, .string d, .int .i64 p, .bool true, .bool true, .bool h]) (by kernel_rfl) Ks1.out (fun hS => ?_)
          have B2 := Lib.hid (show Below w.heap.size w v1.drew from B1.out.drew)
          have Ks2 := Lib.hid (show Blk v1.drew g_s [.int .i64 u, .string d, .int .i64 p, .bool true, .bool true, .bool h] from Ks1.out.drew)
          have Kr2 := Lib.hid (show Blk v1.drew g_r [.int .i64 0, .string ⟨#[]⟩, .bool false] from Kr1.out.drew)
          clear hS B1 Ks1 Kr1
          generalize v1.drew = v2 at B2 Ks2 Kr2 ⊢
          have hS : Blk v2 g_s [.int .i64 u, .string d, .int .i64 p, .bool true, .bool true, .bool h] := Ks2.out
          refine wpAnyH_take (i := 0) (v := .agg #[.int .i64 u, .string d, .int .i64 p, .bool true, .bool true, .bool h]) rfl (by kernel_rfl) (by kernel_rfl) (by kernel_rfl) (fun _ _ _ h => h) (Or.inl ⟨by kernel_rfl, by intro w hS; obtain ⟨⟨h0, h1, h2, h3, h4, h5⟩, _⟩ := hS.of6; go_simp⟩) hS ?_
          refine wpAnyH_take (i := 2) (v := .pointer (some ⟨g_s, 1, none⟩)) rfl (by kernel_rfl) (by kernel_rfl) (by kernel_rfl) (fun _ _ _ h => h) (Or.inl ⟨by kernel_rfl, by intro w hS; go_simp⟩) hS ?_
          refine wpAnyH_take (i := 3) (v := .string d) rfl (by kernel_rfl) (by kernel_rfl) (by kernel_rfl) (fun _ _ _ h => h) (Or.inl ⟨by kernel_rfl, by intro w hS; obtain ⟨⟨h0, h1, h2, h3, h4, h5⟩, _⟩ := hS.of6; go_simp⟩) hS ?_
          refine wpAnyH_take (i := 4) (v := .pointer (some ⟨g_s, 2, none⟩)) rfl (by kernel_rfl) (by kernel_rfl) (by kernel_rfl) (fun _ _ _ h => h) (Or.inl ⟨by kernel_rfl, by intro w hS; go_simp⟩) hS ?_
          refine wpAnyH_take (i := 5) (v := .int .i64 p) rfl (by kernel_rfl) (by kernel_rfl) (by kernel_rfl) (fun _ _ _ h => h) (Or.inl ⟨by kernel_rfl, by intro w hS; obtain ⟨⟨h0, h1, h2, h3, h4, h5⟩, _⟩ := hS.of6; go_simp⟩) hS ?_
          refine wpAnyH_take (i := 6) (v := .string (d.extract p d.size)) rfl (by kernel_rfl) (by kernel_rfl) (by kernel_rfl) (fun _ _ _ h => h) (Or.inl ⟨by kernel_rfl, by intro w hS; go_simp⟩) hS ?_
          refine wpAnyH_take (i := 7) (v := .pointer (some ⟨g_s, 3, none⟩)) rfl (by kernel_rfl) (by kernel_rfl) (by kernel_rfl) (fun _ _ _ h => h) (Or.inl ⟨by kernel_rfl, by intro w hS; go_simp⟩) hS ?_
          refine wpAnyH_take (i := 8) (v := .bool true) rfl (by kernel_rfl) (by kernel_rfl) (by kernel_rfl) (fun _ _ _ h => h) (Or.inl ⟨by kernel_rfl, by intro w hS; obtain ⟨⟨h0, h1, h2, h3, h4, h5⟩, _⟩ := hS.of6; go_simp⟩) hS ?_
          refine wpAnyH_ready (rs := [1, 20]) (by kernel_rfl) (by simp) ?_
          refine AllReadyH.cons (i := 1) rfl (fun K hK => ?zy8) (AllReadyH.cons (i := 20) rfl (fun K hK => ?zy7) AllReadyH.nil)
          · rw [if_pos (by rfl)]
            go_simp
            clear hS
            refine (P.out _).mono ?_
            rintro e v3 ⟨rfl, hb⟩
            have B3 := Lib.hid (B2.out.trans (hb.mono B2.out.size))
            have Ks3 := Lib.hid (Ks2.out.below hb)
            have Kr3 := Lib.hid (Kr2.out.below hb)
            clear hb B2 Ks2 Kr2
            refine hK.out _ _ Ks3.out (fun hS => ?_)
            clear hK K
            refine wpAnyH_take (i := 9) (v := .bool true) rfl (by kernel_rfl) (by kernel_rfl) (by kernel_rfl) (fun _ _ _ h => h) (Or.inl ⟨by kernel_rfl, by intro w hS; go_simp⟩) hS ?_
            refine wpAnyH_take (i := 10) (v := .pointer (some ⟨g_s, 4, none⟩)) rfl (by kernel_rfl) (by kernel_rfl) (by kernel_rfl) (fun _ _ _ h => h) (Or.inl ⟨by kernel_rfl, by intro w hS; go_simp⟩) hS ?_
            refine wpAnyH_take (i := 11) (v := .bool true) rfl (by kernel_rfl) (by kernel_rfl) (by kernel_rfl) (fun _ _ _ h => h) (Or.inl ⟨by kernel_rfl, by intro w hS; obtain ⟨⟨h0, h1, h2, h3, h4, h5⟩, _⟩ := hS.of6; go_simp⟩) hS ?_
            refine wpAnyH_take (i := 12) (v := .bool false) rfl (by kernel_rfl) (by kernel_rfl) (by kernel_rfl) (fun _ _ _ h => h) (Or.inl ⟨by kernel_rfl, by intro w hS; go_simp⟩) hS ?_
            refine wpAnyH_take (i := 13) (v := .bool false) rfl (by kernel_rfl) (by kernel_rfl) (by kernel_rfl) (fun _ _ _ h => h) (Or.inl ⟨by kernel_rfl, by intro w hS; go_simp⟩) hS ?_
            refine wpAnyH_take (i := 14) (v := .bool false) rfl (by kernel_rfl) (by kernel_rfl) (by kernel_rfl) (fun _ _ _ h => h) (Or.inl ⟨by kernel_rfl, by intro w hS; go_simp⟩) hS ?_
            refine wpAnyH_take (i := 15) (v := undef) rfl (by kernel_rfl) (by kernel_rfl) (by kernel_rfl) (fun _ _ _ h => h) (Or.inr ⟨by kernel_rfl, rfl⟩) hS ?_
            refine wpAnyH_take (i := 16) (v := undef) rfl (by kernel_rfl) (by kernel_rfl) (by kernel_rfl) (fun _ _ _ h => h) (Or.inr ⟨by kernel_rfl, rfl⟩) hS ?_
            refine wpAnyH_take (i := 17) (v := undef) rfl (by kernel_rfl) (by kernel_rfl) (by kernel_rfl) (fun _ _ _ h => h) (Or.inr ⟨by kernel_rfl, rfl⟩) hS ?_
            refine wpAnyH_take (i := 18) (v := .bool false) rfl (by kernel_rfl) (by kernel_rfl) (by kernel_rfl) (fun _ _ _ h => h) (Or.inl ⟨by kernel_rfl, by intro w hS; go_simp⟩) hS ?_
            refine wpAnyH_take (i := 19) (v := .agg #[.int .i64 u, .int .i64 b, .string (d.extract p d.size), .bool false]) rfl (by kernel_rfl) (by kernel_rfl) (by kernel_rfl) (fun _ _ _ h => h) (Or.inl ⟨by kernel_rfl, by intro w hS; go_simp⟩) hS ?_
            refine wpAnyH_ready (rs := [20]) (by kernel_rfl) (by simp) ?_
            refine AllReadyH.cons (i := 20) rfl (fun K hK => ?zy9) AllReadyH.nil
            rw [if_pos (by rfl)]
            go_simp
            clear hS
            have B4 := Lib.hid (B3.out.alloc B3.out.size (.cells #[.int .i64 0, .int .i64 0, .string ⟨#[]⟩, .bool false] 73))
            have l_L : w.heap.size ≤ v3.heap.size := B3.out.size
            have n_s_L : g_s ≠ v3.heap.size := by have h1 := Ks3.out.lt; omega
            have n_r_L : g_r ≠ v3.heap.size := by have h1 := Kr3.out.lt; omega
            have Ks4 := Lib.hid (Ks3.out.alloc (.cells #[.int .i64 0, .int .i64 0, .string ⟨#[]⟩, .bool false] 73))
            have Kr4 := Lib.hid (Kr3.out.alloc (.cells #[.int .i64 0, .int .i64 0, .string ⟨#[]⟩, .bool false] 73))
            have KL4 := Lib.hid (Blk.new v3 [.int .i64 0, .int .i64 0, .string ⟨#[]⟩, .bool false] 73)
            clear B3 Ks3 Kr3
            refine hK.out _ _ Ks4.out (fun hS => ?_)
            clear hK K
            generalize v3.alloc (.cells #[.int .i64 0, .int .i64 0, .string ⟨#[]⟩, .bool false] 73) = v4 at hS B4 Ks4 Kr4 KL4 ⊢
            generalize v3.heap.size = g_L at KL4 l_L n_s_L n_r_L ⊢
            obtain ⟨⟨cL0, cL1, cL2, cL3⟩, dL0, dL1, dL2, dL3⟩ := KL4.out.four
            refine wpAnyH_ready (rs := [21]) (by kernel_rfl) (by simp) ?_
            refine AllReadyH.cons (i := 21) rfl (fun K hK => ?zy10) AllReadyH.nil
            rw [if_pos (by rfl)]
            go_simp
            clear hS
            have B5 := Lib.hid (show Below w.heap.size w ((((v4.setCell ⟨g_L, 0, none⟩ (.int .i64 u)).setCell ⟨g_L, 1, none⟩ (.int .i64 b)).setCell ⟨g_L, 2, none⟩ (.string (d.extract p d.size))).setCell ⟨g_L, 3, none⟩ (.bool false)) from ((((B4.out.setCell l_L (.int .i64 u)).setCell l_L (.int .i64 b)).setCell l_L (.string (d.extract p d.size))).setCell l_L (.bool false)))
            have Ks5 := Lib.hid (show Blk ((((v4.setCell ⟨g_L, 0, none⟩ (.int .i64 u)).setCell ⟨g_L, 1, none⟩ (.int .i64 b)).setCell ⟨g_L, 2, none⟩ (.string (d.extract p d.size))).setCell ⟨g_L, 3, none⟩ (.bool false)) g_s [.int .i64 u, .string d, .int .i64 p, .bool true, .bool true, .bool h] from ((((Ks4.out.setOther ⟨g_L, 0, none⟩ (.int .i64 u) (n_s_L)).setOther ⟨g_L, 1, none⟩ (.int .i64 b) (n_s_L)).setOther ⟨g_L, 2, none⟩ (.string (d.extract p d.size)) (n_s_L)).setOther ⟨g_L, 3, none⟩ (.bool false) (n_s_L)))
            have Kr5 := Lib.hid (show Blk ((((v4.setCell ⟨g_L, 0, none⟩ (.int .i64 u)).setCell ⟨g_L, 1, none⟩ (.int .i64 b)).setCell ⟨g_L, 2, none⟩ (.string (d.extract p d.size))).setCell ⟨g_L, 3, none⟩ (.bool false)) g_r [.int .i64 0, .string ⟨#[]⟩, .bool false] from ((((Kr4.out.setOther ⟨g_L, 0, none⟩ (.int .i64 u) (n_r_L)).setOther ⟨g_L, 1, none⟩ (.int .i64 b) (n_r_L)).setOther ⟨g_L, 2, none⟩ (.string (d.extract p d.size)) (n_r_L)).setOther ⟨g_L, 3, none⟩ (.bool false) (n_r_L)))
            have KL5 := Lib.hid (show Blk ((((v4.setCell ⟨g_L, 0, none⟩ (.int .i64 u)).setCell ⟨g_L, 1, none⟩ (.int .i64 b)).setCell ⟨g_L, 2, none⟩ (.string (d.extract p d.size))).setCell ⟨g_L, 3, none⟩ (.bool false)) g_L [.int .i64 u, .int .i64 b, .string (d.extract p d.size), .bool false] from ((((KL4.out.set 0 (.int .i64 u)).set 1 (.int .i64 b)).set 2 (.string (d.extract p d.size))).set 3 (.bool false)))
            refine hK.out _ _ Ks5.out (fun hS => ?_)
            clear hK K
            clear B4 Ks4 Kr4 KL4
            clear cL0 cL1 cL2 cL3 dL0 dL1 dL2 dL3
            generalize (((v4.setCell ⟨g_L, 0, none⟩ (.int .i64 u)).setCell ⟨g_L, 1, none⟩ (.int .i64 b)).setCell ⟨g_L, 2, none⟩ (.string (d.extract p d.size))).setCell ⟨g_L, 3, none⟩ (.bool false) = v5 at hS B5 Ks5 Kr5 KL5 ⊢
            refine wpAnyH_done (by kernel_rfl) ?_ _
            refine NoPanic.normal ?_
            go_wp2_with fail
            go_meet
            case rel => exact ⟨g_L, rfl, B5, Ks5, Kr5, KL5, ⟨n_s_L, n_r_L, l_L⟩⟩
          · rw [if_pos (by rfl)]
            go_simp
            clear hS
            have B3 := Lib.hid (B2.out.alloc B2.out.size (.cells #[.int .i64 0, .int .i64 0, .string ⟨#[]⟩, .bool false] 73))
            have l_L : w.heap.size ≤ v2.heap.size := B2.out.size
            have n_s_L : g_s ≠ v2.heap.size := by have h1 := Ks2.out.lt; omega
            have n_r_L : g_r ≠ v2.heap.size := by have h1 := Kr2.out.lt; omega
            have Ks3 := Lib.hid (Ks2.out.alloc (.cells #[.int .i64 0, .int .i64 0, .string ⟨#[]⟩, .bool false] 73))
            have Kr3 := Lib.hid (Kr2.out.alloc (.cells #[.int .i64 0, .int .i64 0, .string ⟨#[]⟩, .bool false] 73))
            have KL3 := Lib.hid (Blk.new v2 [.int .i64 0, .int .i64 0, .string ⟨#[]⟩, .bool false] 73)
            clear B2 Ks2 Kr2
            refine hK.out _ _ Ks3.out (fun hS => ?_)
            clear hK K
            generalize v2.alloc (.cells #[.int .i64 0, .int .i64 0, .string ⟨#[]⟩, .bool false] 73) = v3 at hS B3 Ks3 Kr3 KL3 ⊢
            generalize v2.heap.size = g_L at KL3 l_L n_s_L n_r_L ⊢
            refine wpAnyH_ready (rs := [1]) (by kernel_rfl) (by simp) ?_
            refine AllReadyH.cons (i := 1) rfl (fun K hK => ?zy11) AllReadyH.nil
            rw [if_pos (by rfl)]
            go_simp
            clear hS
            refine (P.out _).mono ?_
            rintro e v4 ⟨rfl, hb⟩
            have B4 := Lib.hid (B3.out.trans (hb.mono B3.out.size))
            have Ks4 := Lib.hid (Ks3.out.below hb)
            have Kr4 := Lib.hid (Kr3.out.below hb)
            have KL4 := Lib.hid (KL3.out.below hb)
            clear hb B3 Ks3 Kr3 KL3
            refine hK.out _ _ Ks4.out (fun hS => ?_)
            clear hK K
            refine wpAnyH_take (i := 9) (v := .bool true) rfl (by kernel_rfl) (by kernel_rfl) (by kernel_rfl) (fun _ _ _ h => h) (Or.inl ⟨by kernel_rfl, by intro w hS; go_simp⟩) hS ?_
            refine wpAnyH_take (i := 10) (v := .pointer (some ⟨g_s, 4, none⟩)) rfl (by kernel_rfl) (by kernel_rfl) (by kernel_rfl) (fun _ _ _ h => h) (Or.inl ⟨by kernel_rfl, by intro w hS; go_simp⟩) hS ?_
            refine wpAnyH_take (i := 11) (v := .bool true) rfl (by kernel_rfl) (by kernel_rfl) (by kernel_rfl) (fun _ _ _ h => h) (Or.inl ⟨by kernel_rfl, by intro w hS; obtain ⟨⟨h0, h1, h2, h3, h4, h5⟩, _⟩ := hS.of6; go_simp⟩) hS ?_
            refine wpAnyH_take (i := 12) (v := .bool false) rfl (by kernel_rfl) (by kernel_rfl) (by kernel_rfl) (fun _ _ _ h => h) (Or.inl ⟨by kernel_rfl, by intro w hS; go_simp⟩) hS ?_
            refine wpAnyH_take (i := 13) (v := .bool false) rfl (by kernel_rfl) (by kernel_rfl) (by kernel_rfl) (fun _ _ _ h => h) (Or.inl ⟨by kernel_rfl, by intro w hS; go_simp⟩) hS ?_
            refine wpAnyH_take (i := 14) (v := .bool false) rfl (by kernel_rfl) (by kernel_rfl) (by kernel_rfl) (fun _ _ _ h => h) (Or.inl ⟨by kernel_rfl, by intro w hS; go_simp⟩) hS ?_
            refine wpAnyH_take (i := 15) (v := undef) rfl (by kernel_rfl) (by kernel_rfl) (by kernel_rfl) (fun _ _ _ h => h) (Or.inr ⟨by kernel_rfl, rfl⟩) hS ?_
            refine wpAnyH_take (i := 16) (v := undef) rfl (by kernel_rfl) (by kernel_rfl) (by kernel_rfl) (fun _ _ _ h => h) (Or.inr ⟨by kernel_rfl, rfl⟩) hS ?_
            refine wpAnyH_take (i := 17) (v := undef) rfl (by kernel_rfl) (by kernel_rfl) (by kernel_rfl) (fun _ _ _ h => h) (Or.inr ⟨by kernel_rfl, rfl⟩) hS ?_
            refine wpAnyH_take (i := 18) (v := .bool false) rfl (by kernel_rfl) (by kernel_rfl) (by kernel_rfl) (fun _ _ _ h => h) (Or.inl ⟨by kernel_rfl, by intro w hS; go_simp⟩) hS ?_
            refine wpAnyH_take (i := 19) (v := .agg #[.int .i64 u, .int .i64 b, .string (d.extract p d.size), .bool false]) rfl (by kernel_rfl) (by kernel_rfl) (by kernel_rfl) (fun _ _ _ h => h) (Or.inl ⟨by kernel_rfl, by intro w hS; go_simp⟩) hS ?_
            obtain ⟨⟨cL0, cL1, cL2, cL3⟩, dL0, dL1, dL2, dL3⟩ := KL4.out.four
            refine wpAnyH_ready (rs := [21]) (by kernel_rfl) (by simp) ?_
            refine AllReadyH.cons (i := 21) rfl (fun K hK => ?zy12) AllReadyH.nil
            rw [if_pos (by rfl)]
            go_simp
            clear hS
            have B5 := Lib.hid (show Below w.heap.size w ((((v4.setCell ⟨g_L, 0, none⟩ (.int .i64 u)).setCell ⟨g_L, 1, none⟩ (.int .i64 b)).setCell ⟨g_L, 2, none⟩ (.string (d.extract p d.size))).setCell ⟨g_L, 3, none⟩ (.bool false)) from ((((B4.out.setCell l_L (.int .i64 u)).setCell l_L (.int .i64 b)).setCell l_L (.string (d.extract p d.size))).setCell l_L (.bool false)))
            have Ks5 := Lib.hid (show Blk ((((v4.setCell ⟨g_L, 0, none⟩ (.int .i64 u)).setCell ⟨g_L, 1, none⟩ (.int .i64 b)).setCell ⟨g_L, 2, none⟩ (.string (d.extract p d.size))).setCell ⟨g_L, 3, none⟩ (.bool false)) g_s [.int .i64 u, .string d, .int .i64 p, .bool true, .bool true, .bool h] from ((((Ks4.out.setOther ⟨g_L, 0, none⟩ (.int .i64 u) (n_s_L)).setOther ⟨g_L, 1, none⟩ (.int .i64 b) (n_s_L)).setOther ⟨g_L, 2, none⟩ (.string (d.extract p d.size)) (n_s_L)).setOther ⟨g_L, 3, none⟩ (.bool false) (n_s_L)))
            have Kr5 := Lib.hid (show Blk ((((v4.setCell ⟨g_L, 0, none⟩ (.int .i64 u)).setCell ⟨g_L, 1, none⟩ (.int .i64 b)).setCell ⟨g_L, 2, none⟩ (.string (d.extract p d.size))).setCell ⟨g_L, 3, none⟩ (.bool false)) g_r [.int .i64 0, .string ⟨#[]⟩, .bool false] from ((((Kr4.out.setOther ⟨g_L, 0, none⟩ (.int .i64 u) (n_r_L)).setOther ⟨g_L, 1, none⟩ (.int .i64 b) (n_r_L)).setOther ⟨g_L, 2, none⟩ (.string (d.extract p d.size)) (n_r_L)).setOther ⟨g_L, 3, none⟩ (.bool false) (n_r_L)))
            have KL5 := Lib.hid (show Blk ((((v4.setCell ⟨g_L, 0, none⟩ (.int .i64 u)).setCell ⟨g_L, 1, none⟩ (.int .i64 b)).setCell ⟨g_L, 2, none⟩ (.string (d.extract p d.size))).setCell ⟨g_L, 3, none⟩ (.bool false)) g_L [.int .i64 u, .int .i64 b, .string (d.extract p d.size), .bool false] from ((((KL4.out.set 0 (.int .i64 u)).set 1 (.int .i64 b)).set 2 (.string (d.extract p d.size))).set 3 (.bool false)))
            refine hK.out _ _ Ks5.out (fun hS => ?_)
            clear hK K
            clear B4 Ks4 Kr4 KL4
            clear cL0 cL1 cL2 cL3 dL0 dL1 dL2 dL3
            generalize (((v4.setCell ⟨g_L, 0, none⟩ (.int .i64 u)).setCell ⟨g_L, 1, none⟩ (.int .i64 b)).setCell ⟨g_L, 2, none⟩ (.string (d.extract p d.size))).setCell ⟨g_L, 3, none⟩ (.bool false) = v5 at hS B5 Ks5 Kr5 KL5 ⊢
            refine wpAnyH_done (by kernel_rfl) ?_ _
            refine NoPanic.normal ?_
            go_wp2_with fail
            go_meet
            case rel => exact ⟨g_L, rfl, B5, Ks5, Kr5, KL5, ⟨n_s_L, n_r_L, l_L⟩⟩
        | false =>
          cases h with
          | true =>
            obtain rfl : F0 = false := HF.out
            refine wp_region_noPanic ?_
            refine wp_region_held_drew (S := fun w' => Blk w' g_s [.int .i64 u, .string d, .int .i64 p, .bool true, .bool false, .bool true]) (by kernel_rfl) Ks1.out (fun hS => ?_)
            have B2 := Lib.hid (show Below w.heap.size w v1.drew from B1.out.drew)
            have Ks2 := Lib.hid (show Blk v1.drew g_s [.int .i64 u, .string d, .int .i64 p, .bool true, .bool false, .bool true] from Ks1.out.drew)
            have Kr2 := Lib.hid (show Blk v1.drew g_r [.int .i64 0, .string ⟨#[]⟩, .bool false] from Kr1.out.drew)
            clear hS B1 Ks1 Kr1
            generalize v1.drew = v2 at B2 Ks2 Kr2 ⊢
            have hS : Blk v2 g_s [.int .i64 u, .string d, .int .i64 p, .bool true, .bool false, .bool true] := Ks2.out
            refine wpAnyH_take (i := 0) (v := .agg #[.int .i64 u, .string d, .int .i64 p, .bool true, .bool false, .bool true]) rfl (by kernel_rfl) (by kernel_rfl) (by kernel_rfl) (fun _ _ _ h => h) (Or.inl ⟨by kernel_rfl, by intro w hS; obtain ⟨⟨h0, h1, h2, h3, h4, h5⟩, _⟩ := hS.of6; go_simp⟩) hS ?_
            refine wpAnyH_take (i := 2) (v := .pointer (some ⟨g_s, 1, none⟩)) rfl (by kernel_rfl) (by kernel_rfl) (by kernel_rfl) (fun _ _ _ h => h) (Or.inl ⟨by kernel_rfl, by intro w hS; go_simp⟩) hS ?_
            refine wpAnyH_take (i := 3) (v := .string d) rfl (by kernel_rfl) (by kernel_rfl) (by kernel_rfl) (fun _ _ _ h => h) (Or.inl ⟨by kernel_rfl, by intro w hS; obtain ⟨⟨h0, h1, h2, h3, h4, h5⟩, _⟩ := hS.of6; go_simp⟩) hS ?_
            refine wpAnyH_take (i := 4) (v := .pointer (some ⟨g_s, 2, none⟩)) rfl (by kernel_rfl) (by kernel_rfl) (by kernel_rfl) (fun _ _ _ h => h) (Or.inl ⟨by kernel_rfl, by intro w hS; go_simp⟩) hS ?_
            refine wpAnyH_take (i := 5) (v := .int .i64 p) rfl (by kernel_rfl) (by kernel_rfl) (by kernel_rfl) (fun _ _ _ h => h) (Or.inl ⟨by kernel_rfl, by intro w hS; obtain ⟨⟨h0, h1, h2, h3, h4, h5⟩, _⟩ := hS.of6; go_simp⟩) hS ?_
            refine wpAnyH_take (i := 6) (v := .string (d.extract p d.size)) rfl (by kernel_rfl) (by kernel_rfl) (by kernel_rfl) (fun _ _ _ h => h) (Or.inl ⟨by kernel_rfl, by intro w hS; go_simp⟩) hS ?_
            refine wpAnyH_take (i := 7) (v := .pointer (some ⟨g_s, 3, none⟩)) rfl (by kernel_rfl) (by kernel_rfl) (by kernel_rfl) (fun _ _ _ h => h) (Or.inl ⟨by kernel_rfl, by intro w hS; go_simp⟩) hS ?_
            refine wpAnyH_take (i := 8) (v := .bool true) rfl (by kernel_rfl) (by kernel_rfl) (by kernel_rfl) (fun _ _ _ h => h) (Or.inl ⟨by kernel_rfl, by intro w hS; obtain ⟨⟨h0, h1, h2, h3, h4, h5⟩, _⟩ := hS.of6; go_simp⟩) hS ?_
            refine wpAnyH_ready (rs := [1, 20]) (by kernel_rfl) (by simp) ?_
            refine AllReadyH.cons (i := 1) rfl (fun K hK => ?zy14) (AllReadyH.cons (i := 20) rfl (fun K hK => ?zy13) AllReadyH.nil)
            · rw [if_pos (by rfl)]
              go_simp
              clear hS
              refine (P.out _).mono ?_
              rintro e v3 ⟨rfl, hb⟩
              have B3 := Lib.hid (B2.out.trans (hb.mono B2.out.size))
              have Ks3 := Lib.hid (Ks2.out.below hb)
              have Kr3 := Lib.hid (Kr2.out.below hb)
              clear hb B2 Ks2 Kr2
              refine hK.out _ _ Ks3.out (fun hS => ?_)
              clear hK K
              refine wpAnyH_take (i := 9) (v := .bool true) rfl (by kernel_rfl) (by kernel_rfl) (by kernel_rfl) (fun _ _ _ h => h) (Or.inl ⟨by kernel_rfl, by intro w hS; go_simp⟩) hS ?_
              refine wpAnyH_take (i := 10) (v := .pointer (some ⟨g_s, 4, none⟩)) rfl (by kernel_rfl) (by kernel_rfl) (by kernel_rfl) (fun _ _ _ h => h) (Or.inl ⟨by kernel_rfl, by intro w hS; go_simp⟩) hS ?_
              refine wpAnyH_take (i := 11) (v := .bool false) rfl (by kernel_rfl) (by kernel_rfl) (by kernel_rfl) (fun _ _ _ h => h) (Or.inl ⟨by kernel_rfl, by intro w hS; obtain ⟨⟨h0, h1, h2, h3, h4, h5⟩, _⟩ := hS.of6; go_simp⟩) hS ?_
              refine wpAnyH_take (i := 12) (v := .bool true) rfl (by kernel_rfl) (by kernel_rfl) (by kernel_rfl) (fun _ _ _ h => h) (Or.inl ⟨by kernel_rfl, by intro w hS; go_simp⟩) hS ?_
              refine wpAnyH_take (i := 13) (v := .bool true) rfl (by kernel_rfl) (by kernel_rfl) (by kernel_rfl) (fun _ _ _ h => h) (Or.inl ⟨by kernel_rfl, by intro w hS; go_simp⟩) hS ?_
              refine wpAnyH_take (i := 14) (v := .bool true) rfl (by kernel_rfl) (by kernel_rfl) (by kernel_rfl) (fun _ _ _ h => h) (Or.inl ⟨by kernel_rfl, by intro w hS; go_simp⟩) hS ?_
              refine wpAnyH_take (i := 15) (v := .pointer (some ⟨g_s, 5, none⟩)) rfl (by kernel_rfl) (by kernel_rfl) (by kernel_rfl) (fun _ _ _ h => h) (Or.inl ⟨by kernel_rfl, by intro w hS; go_simp⟩) hS ?_
              refine wpAnyH_take (i := 16) (v := .bool true) rfl (by kernel_rfl) (by kernel_rfl) (by kernel_rfl) (fun _ _ _ h => h) (Or.inl ⟨by kernel_rfl, by intro w hS; obtain ⟨⟨h0, h1, h2, h3, h4, h5⟩, _⟩ := hS.of6; go_simp⟩) hS ?_
              refine wpAnyH_take (i := 17) (v := .bool false) rfl (by kernel_rfl) (by kernel_rfl) (by kernel_rfl) (fun _ _ _ h => h) (Or.inl ⟨by kernel_rfl, by intro w hS; go_simp⟩) hS ?_
              refine wpAnyH_take (i := 18) (v := .bool false) rfl (by kernel_rfl) (by kernel_rfl) (by kernel_rfl) (fun _ _ _ h => h) (Or.inl ⟨by kernel_rfl, by intro w hS; go_simp⟩) hS ?_
              refine wpAnyH_take (i := 19) (v := .agg #[.int .i64 u, .int .i64 b, .string (d.extract p d.size), .bool false]) rfl (by kernel_rfl) (by kernel_rfl) (by kernel_rfl) (fun _ _ _ h => h) (Or.inl ⟨by kernel_rfl, by intro w hS; go_simp⟩) hS ?_
              refine wpAnyH_ready (rs := [20]) (by kernel_rfl) (by simp) ?_
              refine AllReadyH.cons (i := 20) rfl (fun K hK => ?zy15) AllReadyH.nil
              rw [if_pos (by rfl)]
              go_simp
              clear hS
              have B4 := Lib.hid (B3.out.alloc B3.out.size (.cells #[.int .i64 0, .int .i64 0, .string ⟨#[]⟩, .bool false] 73))
              have l_L : w.heap.size ≤ v3.heap.size := B3.out.size
              have n_s_L : g_s ≠ v3.heap.size := by have h1 := Ks3.out.lt; omega
              have n_r_L : g_r ≠ v3.heap.size := by have h1 := Kr3.out.lt; omega
              have Ks4 := Lib.hid (Ks3.out.alloc (.cells #[.int .i64 0, .int .i64 0, .string ⟨#[]⟩, .bool false] 73))
              have Kr4 := Lib.hid (Kr3.out.alloc (.cells #[.int .i64 0, .int .i64 0, .string ⟨#[]⟩, .bool false] 73))
              have KL4 := Lib.hid (Blk.new v3 [.int .i64 0, .int .i64 0, .string ⟨#[]⟩, .bool false] 73)
              clear B3 Ks3 Kr3
              refine hK.out _ _ Ks4.out (fun hS => ?_)
              clear hK K
              generalize v3.alloc (.cells #[.int .i64 0, .int .i64 0, .string ⟨#[]⟩, .bool false] 73) = v4 at hS B4 Ks4 Kr4 KL4 ⊢
              generalize v3.heap.size = g_L at KL4 l_L n_s_L n_r_L ⊢
              obtain ⟨⟨cL0, cL1, cL2, cL3⟩, dL0, dL1, dL2, dL3⟩ := KL4.out.four
              refine wpAnyH_ready (rs := [21]) (by kernel_rfl) (by simp) ?_
              refine AllReadyH.cons (i := 21) rfl (fun K hK => ?zy16) AllReadyH.nil
              rw [if_pos (by rfl)]
              go_simp
              clear hS
              have B5 := Lib.hid (show Below w.heap.size w ((((v4.setCell ⟨g_L, 0, none⟩ (.int .i64 u)).setCell ⟨g_L, 1, none⟩ (.int .i64 b)).setCell ⟨g_L, 2, none⟩ (.string (d.extract p d.size))).setCell ⟨g_L, 3, none⟩ (.bool false)) from ((((B4.out.setCell l_L (.int .i64 u)).setCell l_L (.int .i64 b)).setCell l_L (.string (d.extract p d.size))).setCell l_L (.bool false)))
              have Ks5 := Lib.hid (show Blk ((((v4.setCell ⟨g_L, 0, none⟩ (.int .i64 u)).setCell ⟨g_L, 1, none⟩ (.int .i64 b)).setCell ⟨g_L, 2, none⟩ (.string (d.extract p d.size))).setCell ⟨g_L, 3, none⟩ (.bool false)) g_s [.int .i64 u, .string d, .int .i64 p, .bool true, .bool false, .bool true] from ((((Ks4.out.setOther ⟨g_L, 0, none⟩ (.int .i64 u) (n_s_L)).setOther ⟨g_L, 1, none⟩ (.int .i64 b) (n_s_L)).setOther ⟨g_L, 2, none⟩ (.string (d.extract p d.size)) (n_s_L)).setOther ⟨g_L, 3, none⟩ (.bool false) (n_s_L)))
              have Kr5 := Lib.hid (show Blk ((((v4.setCell ⟨g_L, 0, none⟩ (.int .i64 u)).setCell ⟨g_L, 1, none⟩ (.int .i64 b)).setCell ⟨g_L, 2, none⟩ (.string (d.extract p d.size))).setCell ⟨g_L, 3, none⟩ (.bool false)) g_r [.int .i64 0, .string ⟨#[]⟩, .bool false] from ((((Kr4.out.setOther ⟨g_L, 0, none⟩ (.int .i64 u) (n_r_L)).setOther ⟨g_L, 1, none⟩ (.int .i64 b) (n_r_L)).setOther ⟨g_L, 2, none⟩ (.string (d.extract p d.size)) (n_r_L)).setOther ⟨g_L, 3, none⟩ (.bool false) (n_r_L)))
              have KL5 := Lib.hid (show Blk ((((v4.setCell ⟨g_L, 0, none⟩ (.int .i64 u)).setCell ⟨g_L, 1, none⟩ (.int .i64 b)).setCell ⟨g_L, 2, none⟩ (.string (d.extract p d.size))).setCell ⟨g_L, 3, none⟩ (.bool false)) g_L [.int .i64 u, .int .i64 b, .string (d.extract p d.size), .bool false] from ((((KL4.out.set 0 (.int .i64 u)).set 1 (.int .i64 b)).set 2 (.string (d.extract p d.size))).set 3 (.bool false)))
              refine hK.out _ _ Ks5.out (fun hS => ?_)
              clear hK K
              clear B4 Ks4 Kr4 KL4
              clear cL0 cL1 cL2 cL3 dL0 dL1 dL2 dL3
              generalize (((v4.setCell ⟨g_L, 0, none⟩ (.int .i64 u)).setCell ⟨g_L, 1, none⟩ (.int .i64 b)).setCell ⟨g_L, 2, none⟩ (.string (d.extract p d.size))).setCell ⟨g_L, 3, none⟩ (.bool false) = v5 at hS B5 Ks5 Kr5 KL5 ⊢
              refine wpAnyH_done (by kernel_rfl) ?_ _
              refine NoPanic.normal ?_
              go_wp2_with fail
              go_meet
              case rel => exact ⟨g_L, rfl, B5, Ks5, Kr5, KL5, ⟨n_s_L, n_r_L, l_L⟩⟩
            · rw [if_pos (by rfl)]
              go_simp
              clear hS
              have B3 := Lib.hid (B2.out.alloc B2.out.size (.cells #[.int .i64 0, .int .i64 0, .string ⟨#[]⟩, .bool false] 73))
              have l_L : w.heap.size ≤ v2.heap.size := B2.out.size
              have n_s_L : g_s ≠ v2.heap.size := by have h1 := Ks2.out.lt; omega
              have n_r_L : g_r ≠ v2.heap.size := by have h1 := Kr2.out.lt; omega
              have Ks3 := Lib.hid (Ks2.out.alloc (.cells #[.int .i64 0, .int .i64 0, .string ⟨#[]⟩, .bool false] 73))
              have Kr3 := Lib.hid (Kr2.out.alloc (.cells #[.int .i64 0, .int .i64 0, .string ⟨#[]⟩, .bool false] 73))
              have KL3 := Lib.hid (Blk.new v2 [.int .i64 0, .int .i64 0, .string ⟨#[]⟩, .bool false] 73)
              clear B2 Ks2 Kr2
              refine hK.out _ _ Ks3.out (fun hS => ?_)
              clear hK K
              generalize v2.alloc (.cells #[.int .i64 0, .int .i64 0, .string ⟨#[]⟩, .bool false] 73) = v3 at hS B3 Ks3 Kr3 KL3 ⊢
              generalize v2.heap.size = g_L at KL3 l_L n_s_L n_r_L ⊢
              refine wpAnyH_ready (rs := [1]) (by kernel_rfl) (by simp) ?_
              refine AllReadyH.cons (i := 1) rfl (fun K hK => ?zy17) AllReadyH.nil
              rw [if_pos (by rfl)]
              go_simp
              clear hS
              refine (P.out _).mono ?_
              rintro e v4 ⟨rfl, hb⟩
              have B4 := Lib.hid (B3.out.trans (hb.mono B3.out.size))
              have Ks4 := Lib.hid (Ks3.out.below hb)
              have Kr4 := Lib.hid (Kr3.out.below hb)
              have KL4 := Lib.hid (KL3.out.below hb)
              clear hb B3 Ks3 Kr3 KL3
              refine hK.out _ _ Ks4.out (fun hS => ?_)
              clear hK K
              refine wpAnyH_take (i := 9) (v := .bool true) rfl (by kernel_rfl) (by kernel_rfl) (by kernel_rfl) (fun _ _ _ h => h) (Or.inl ⟨by kernel_rfl, by intro w hS; go_simp⟩) hS ?_
              refine wpAnyH_take (i := 10) (v := .pointer (some ⟨g_s, 4, none⟩)) rfl (by kernel_rfl) (by kernel_rfl) (by kernel_rfl) (fun _ _ _ h => h) (Or.inl ⟨by kernel_rfl, by intro w hS; go_simp⟩) hS ?_
              refine wpAnyH_take (i := 11) (v := .bool false) rfl (by kernel_rfl) (by kernel_rfl) (by kernel_rfl) (fun _ _ _ h => h) (Or.inl ⟨by kernel_rfl, by intro w hS; obtain ⟨⟨h0, h1, h2, h3, h4, h5⟩, _⟩ := hS.of6; go_simp⟩) hS ?_
              refine wpAnyH_take (i := 12) (v := .bool true) rfl (by kernel_rfl) (by kernel_rfl) (by kernel_rfl) (fun _ _ _ h => h) (Or.inl ⟨by kernel_rfl, by intro w hS; go_simp⟩) hS ?_
              refine wpAnyH_take (i := 13) (v := .bool true) rfl (by kernel_rfl) (by kernel_rfl) (by kernel_rfl) (fun _ _ _ h => h) (Or.inl ⟨by kernel_rfl, by intro w hS; go_simp⟩) hS ?_
              refine wpAnyH_take (i := 14) (v := .bool true) rfl (by kernel_rfl) (by kernel_rfl) (by kernel_rfl) (fun _ _ _ h => h) (Or.inl ⟨by kernel_rfl, by intro w hS; go_simp⟩) hS ?_
              refine wpAnyH_take (i := 15) (v := .pointer (some ⟨g_s, 5, none⟩)) rfl (by kernel_rfl) (by kernel_rfl) (by kernel_rfl) (fun _ _ _ h => h) (Or.inl ⟨by kernel_rfl, by intro w hS; go_simp⟩) hS ?_
              refine wpAnyH_take (i := 16) (v := .bool true) rfl (by kernel_rfl) (by kernel_rfl) (by kernel_rfl) (fun _ _ _ h => h) (Or.inl ⟨by kernel_rfl, by intro w hS; obtain ⟨⟨h0, h1, h2, h3, h4, h5⟩, _⟩ := hS.of6; go_simp⟩) hS ?_
              refine wpAnyH_take (i := 17) (v := .bool false) rfl (by kernel_rfl) (by kernel_rfl) (by kernel_rfl) (fun _ _ _ h => h) (Or.inl ⟨by kernel_rfl, by intro w hS; go_simp⟩) hS ?_
              refine wpAnyH_take (i := 18) (v := .bool false) rfl (by kernel_rfl) (by kernel_rfl) (by kernel_rfl) (fun _ _ _ h => h) (Or.inl ⟨by kernel_rfl, by intro w hS; go_simp⟩) hS ?_
              refine wpAnyH_take (i := 19) (v := .agg #[.int .i64 u, .int .i64 b, .string (d.extract p d.size), .bool false]) rfl (by kernel_rfl) (by kernel_rfl) (by kernel_rfl) (fun _ _ _ h => h) (Or.inl ⟨by kernel_rfl, by intro w hS; go_simp⟩) hS ?_
              obtain ⟨⟨cL0, cL1, cL2, cL3⟩, dL0, dL1, dL2, dL3⟩ := KL4.out.four
              refine wpAnyH_ready (rs := [21]) (by kernel_rfl) (by simp) ?_
              refine AllReadyH.cons (i := 21) rfl (fun K hK => ?zy18) AllReadyH.nil
              rw [if_pos (by rfl)]
              go_simp
              clear hS
              have B5 := Lib.hid (show Below w.heap.size w ((((v4.setCell ⟨g_L, 0, none⟩ (.int .i64 u)).setCell ⟨g_L, 1, none⟩ (.int .i64 b)).setCell ⟨g_L, 2, none⟩ (.string (d.extract p d.size))).setCell ⟨g_L, 3, none⟩ (.bool false)) from ((((B4.out.setCell l_L (.int .i64 u)).setCell l_L (.int .i64 b)).setCell l_L (.string (d.extract p d.size))).setCell l_L (.bool false)))
              have Ks5 := Lib.hid (show Blk ((((v4.setCell ⟨g_L, 0, none⟩ (.int .i64 u)).setCell ⟨g_L, 1, none⟩ (.int .i64 b)).setCell ⟨g_L, 2, none⟩ (.string (d.extract p d.size))).setCell ⟨g_L, 3, none⟩ (.bool false)) g_s [.int .i64 u, .string d, .int .i64 p, .bool true, .bool false, .bool true] from ((((Ks4.out.setOther ⟨g_L, 0, none⟩ (.int .i64 u) (n_s_L)).setOther ⟨g_L, 1, none⟩ (.int .i64 b) (n_s_L)).setOther ⟨g_L, 2, none⟩ (.string (d.extract p d.size)) (n_s_L)).setOther ⟨g_L, 3, none⟩ (.bool false) (n_s_L)))
              have Kr5 := Lib.hid (show Blk ((((v4.setCell ⟨g_L, 0, none⟩ (.int .i64 u)).setCell ⟨g_L, 1, none⟩ (.int .i64 b)).setCell ⟨g_L, 2, none⟩ (.string (d.extract p d.size))).setCell ⟨g_L, 3, none⟩ (.bool false)) g_r [.int .i64 0, .string ⟨#[]⟩, .bool false] from ((((Kr4.out.setOther ⟨g_L, 0, none⟩ (.int .i64 u) (n_r_L)).setOther ⟨g_L, 1, none⟩ (.int .i64 b) (n_r_L)).setOther ⟨g_L, 2, none⟩ (.string (d.extract p d.size)) (n_r_L)).setOther ⟨g_L, 3, none⟩ (.bool false) (n_r_L)))
              have KL5 := Lib.hid (show Blk ((((v4.setCell ⟨g_L, 0, none⟩ (.int .i64 u)).setCell ⟨g_L, 1, none⟩ (.int .i64 b)).setCell ⟨g_L, 2, none⟩ (.string (d.extract p d.size))).setCell ⟨g_L, 3, none⟩ (.bool false)) g_L [.int .i64 u, .int .i64 b, .string (d.extract p d.size), .bool false] from ((((KL4.out.set 0 (.int .i64 u)).set 1 (.int .i64 b)).set 2 (.string (d.extract p d.size))).set 3 (.bool false)))
              refine hK.out _ _ Ks5.out (fun hS => ?_)
              clear hK K
              clear B4 Ks4 Kr4 KL4
              clear cL0 cL1 cL2 cL3 dL0 dL1 dL2 dL3
              generalize (((v4.setCell ⟨g_L, 0, none⟩ (.int .i64 u)).setCell ⟨g_L, 1, none⟩ (.int .i64 b)).setCell ⟨g_L, 2, none⟩ (.string (d.extract p d.size))).setCell ⟨g_L, 3, none⟩ (.bool false) = v5 at hS B5 Ks5 Kr5 KL5 ⊢
              refine wpAnyH_done (by kernel_rfl) ?_ _
              refine NoPanic.normal ?_
              go_wp2_with fail
              go_meet
              case rel => exact ⟨g_L, rfl, B5, Ks5, Kr5, KL5, ⟨n_s_L, n_r_L, l_L⟩⟩
          | false =>
            obtain rfl : F0 = true := HF.out
            refine wp_region_noPanic ?_
            refine wp_region_held_drew (S := fun w' => Blk w' g_s [.int .i64 u, .string d, .int .i64 p, .bool true, .bool false, .bool false]) (by kernel_rfl) Ks1.out (fun hS => ?_)
            have B2 := Lib.hid (show Below w.heap.size w v1.drew from B1.out.drew)
            have Ks2 := Lib.hid (show Blk v1.drew g_s [.int .i64 u, .string d, .int .i64 p, .bool true, .bool false, .bool false] from Ks1.out.drew)
            have Kr2 := Lib.hid (show Blk v1.drew g_r [.int .i64 0, .string ⟨#[]⟩, .bool false] from Kr1.out.drew)
            clear hS B1 Ks1 Kr1
            generalize v1.drew = v2 at B2 Ks2 Kr2 ⊢
            have hS : Blk v2 g_s [.int .i64 u, .string d, .int .i64 p, .bool true, .bool false, .bool false] := Ks2.out
            refine wpAnyH_take (i := 0) (v := .agg #[.int .i64 u, .string d, .int .i64 p, .bool true, .bool false, .bool false]) rfl (by kernel_rfl) (by kernel_rfl) (by kernel_rfl) (fun _ _ _ h => h) (Or.inl ⟨by kernel_rfl, by intro w hS; obtain ⟨⟨h0, h1, h2, h3, h4, h5⟩, _⟩ := hS.of6; go_simp⟩) hS ?_
            refine wpAnyH_take (i := 2) (v := .pointer (some ⟨g_s, 1, none⟩)) rfl (by kernel_rfl) (by kernel_rfl) (by kernel_rfl) (fun _ _ _ h => h) (Or.inl ⟨by kernel_rfl, by intro w hS; go_simp⟩) hS ?_
            refine wpAnyH_take (i := 3) (v := .string d) rfl (by kernel_rfl) (by kernel_rfl) (by kernel_rfl) (fun _ _ _ h => h) (Or.inl ⟨by kernel_rfl, by intro w hS; obtain ⟨⟨h0, h1, h2, h3, h4, h5⟩, _⟩ := hS.of6; go_simp⟩) hS ?_
            refine wpAnyH_take (i := 4) (v := .pointer (some ⟨g_s, 2, none⟩)) rfl (by kernel_rfl) (by kernel_rfl) (by kernel_rfl) (fun _ _ _ h => h) (Or.inl ⟨by kernel_rfl, by intro w hS; go_simp⟩) hS ?_
            refine wpAnyH_take (i := 5) (v := .int .i64 p) rfl (by kernel_rfl) (by kernel_rfl) (by kernel_rfl) (fun _ _ _ h => h) (Or.inl ⟨by kernel_rfl, by intro w hS; obtain ⟨⟨h0, h1, h2, h3, h4, h5⟩, _⟩ := hS.of6; go_simp⟩) hS ?_
            refine wpAnyH_take (i := 6) (v := .string (d.extract p d.size)) rfl (by kernel_rfl) (by kernel_rfl) (by kernel_rfl) (fun _ _ _ h => h) (Or.inl ⟨by kernel_rfl, by intro w hS; go_simp⟩) hS ?_
            refine wpAnyH_take (i := 7) (v := .pointer (some ⟨g_s, 3, none⟩)) rfl (by kernel_rfl) (by kernel_rfl) (by kernel_rfl) (fun _ _ _ h => h) (Or.inl ⟨by kernel_rfl, by intro w hS; go_simp⟩) hS ?_
            refine wpAnyH_take (i := 8) (v := .bool true) rfl (by kernel_rfl) (by kernel_rfl) (by kernel_rfl) (fun _ _ _ h => h) (Or.inl ⟨by kernel_rfl, by intro w hS; obtain ⟨⟨h0, h1, h2, h3, h4, h5⟩, _⟩ := hS.of6; go_simp⟩) hS ?_
            refine wpAnyH_ready (rs := [1, 20]) (by kernel_rfl) (by simp) ?_
            refine AllReadyH.cons (i := 1) rfl (fun K hK => ?zy20) (AllReadyH.cons (i := 20) rfl (fun K hK => ?zy19) AllReadyH.nil)
            · rw [if_pos (by rfl)]
              go_simp
              clear hS
              refine (P.out _).mono ?_
              rintro e v3 ⟨rfl, hb⟩
              have B3 := Lib.hid (B2.out.trans (hb.mono B2.out.size))
              have Ks3 := Lib.hid (Ks2.out.below hb)
              have Kr3 := Lib.hid (Kr2.out.below hb)
              clear hb B2 Ks2 Kr2
              refine hK.out _ _ Ks3.out (fun hS => ?_)
              clear hK K
              refine wpAnyH_take (i := 9) (v := .bool true) rfl (by kernel_rfl) (by kernel_rfl) (by kernel_rfl) (fun _ _ _ h => h) (Or.inl ⟨by kernel_rfl, by intro w hS; go_simp⟩) hS ?_
              refine wpAnyH_take (i := 10) (v := .pointer (some ⟨g_s, 4, none⟩)) rfl (by kernel_rfl) (by kernel_rfl) (by kernel_rfl) (fun _ _ _ h => h) (Or.inl ⟨by kernel_rfl, by intro w hS; go_simp⟩) hS ?_
              refine wpAnyH_take (i := 11) (v := .bool false) rfl (by kernel_rfl) (by kernel_rfl) (by kernel_rfl) (fun _ _ _ h => h) (Or.inl ⟨by kernel_rfl, by intro w hS; obtain ⟨⟨h0, h1, h2, h3, h4, h5⟩, _⟩ := hS.of6; go_simp⟩) hS ?_
              refine wpAnyH_take (i := 12) (v := .bool true) rfl (by kernel_rfl) (by kernel_rfl) (by kernel_rfl) (fun _ _ _ h => h) (Or.inl ⟨by kernel_rfl, by intro w hS; go_simp⟩) hS ?_
              refine wpAnyH_take (i := 13) (v := .bool true) rfl (by kernel_rfl) (by kernel_rfl) (by kernel_rfl) (fun _ _ _ h => h) (Or.inl ⟨by kernel_rfl, by intro w hS; go_simp⟩) hS ?_
              refine wpAnyH_take (i := 14) (v := .bool true) rfl (by kernel_rfl) (by kernel_rfl) (by kernel_rfl) (fun _ _ _ h => h) (Or.inl ⟨by kernel_rfl, by intro w hS; go_simp⟩) hS ?_
              refine wpAnyH_take (i := 15) (v := .pointer (some ⟨g_s, 5, none⟩)) rfl (by kernel_rfl) (by kernel_rfl) (by kernel_rfl) (fun _ _ _ h => h) (Or.inl ⟨by kernel_rfl, by intro w hS; go_simp⟩) hS ?_
              refine wpAnyH_take (i := 16) (v := .bool false) rfl (by kernel_rfl) (by kernel_rfl) (by kernel_rfl) (fun _ _ _ h => h) (Or.inl ⟨by kernel_rfl, by intro w hS; obtain ⟨⟨h0, h1, h2, h3, h4, h5⟩, _⟩ := hS.of6; go_simp⟩) hS ?_
              refine wpAnyH_take (i := 17) (v := .bool true) rfl (by kernel_rfl) (by kernel_rfl) (by kernel_rfl) (fun _ _ _ h => h) (Or.inl ⟨by kernel_rfl, by intro w hS; go_simp⟩) hS ?_
              refine wpAnyH_take (i := 18) (v := .bool true) rfl (by kernel_rfl) (by kernel_rfl) (by kernel_rfl) (fun _ _ _ h => h) (Or.inl ⟨by kernel_rfl, by intro w hS; go_simp⟩) hS ?_
              refine wpAnyH_take (i := 19) (v := .agg #[.int .i64 u, .int .i64 b, .string (d.extract p d.size), .bool true]) rfl (by kernel_rfl) (by kernel_rfl) (by kernel_rfl) (fun _ _ _ h => h) (Or.inl ⟨by kernel_rfl, by intro w hS; go_simp⟩) hS ?_
              refine wpAnyH_ready (rs := [20]) (by kernel_rfl) (by simp) ?_
              refine AllReadyH.cons (i := 20) rfl (fun K hK => ?zy21) AllReadyH.nil
              rw [if_pos (by rfl)]
              go_simp
              clear hS
              have B4 := Lib.hid (B3.out.alloc B3.out.size (.cells #[.int .i64 0, .int .i64 0, .string ⟨#[]⟩, .bool false] 73))
              have l_L : w.heap.size ≤ v3.heap.size := B3.out.size
              have n_s_L : g_s ≠ v3.heap.size := by have h1 := Ks3.out.lt; omega
              have n_r_L : g_r ≠ v3.heap.size := by have h1 := Kr3.out.lt; omega
              have Ks4 := Lib.hid (Ks3.out.alloc (.cells #[.int .i64 0, .int .i64 0, .string ⟨#[]⟩, .bool false] 73))
              have Kr4 := Lib.hid (Kr3.out.alloc (.cells #[.int .i64 0, .int .i64 0, .string ⟨#[]⟩, .bool false] 73))
              have KL4 := Lib.hid (Blk.new v3 [.int .i64 0, .int .i64 0, .string ⟨#[]⟩, .bool false] 73)
              clear B3 Ks3 Kr3
              refine hK.out _ _ Ks4.out (fun hS => ?_)
              clear hK K
              generalize v3.alloc (.cells #[.int .i64 0, .int .i64 0, .string ⟨#[]⟩, .bool false] 73) = v4 at hS B4 Ks4 Kr4 KL4 ⊢
              generalize v3.heap.size = g_L at KL4 l_L n_s_L n_r_L ⊢
              obtain ⟨⟨cL0, cL1, cL2, cL3⟩, dL0, dL1, dL2, dL3⟩ := KL4.out.four
              refine wpAnyH_ready (rs := [21]) (by kernel_rfl) (by simp) ?_
              refine AllReadyH.cons (i := 21) rfl (fun K hK => ?zy22) AllReadyH.nil
              rw [if_pos (by rfl)]
              go_simp
              clear hS
              have B5 := Lib.hid (show Below w.heap.size w ((((v4.setCell ⟨g_L, 0, none⟩ (.int .i64 u)).setCell ⟨g_L, 1, none⟩ (.int .i64 b)).setCell ⟨g_L, 2, none⟩ (.string (d.extract p d.size))).setCell ⟨g_L, 3, none⟩ (.bool true)) from ((((B4.out.setCell l_L (.int .i64 u)).setCell l_L (.int .i64 b)).setCell l_L (.string (d.extract p d.size))).setCell l_L (.bool true)))
              have Ks5 := Lib.hid (show Blk ((((v4.setCell ⟨g_L, 0, none⟩ (.int .i64 u)).setCell ⟨g_L, 1, none⟩ (.int .i64 b)).setCell ⟨g_L, 2, none⟩ (.string (d.extract p d.size))).setCell ⟨g_L, 3, none⟩ (.bool true)) g_s [.int .i64 u, .string d, .int .i64 p, .bool true, .bool false, .bool false] from ((((Ks4.out.setOther ⟨g_L, 0, none⟩ (.int .i64 u) (n_s_L)).setOther ⟨g_L, 1, none⟩ (.int .i64 b) (n_s_L)).setOther ⟨g_L, 2, none⟩ (.string (d.extract p d.size)) (n_s_L)).setOther ⟨g_L, 3, none⟩ (.bool true) (n_s_L)))
              have Kr5 := Lib.hid (show Blk ((((v4.setCell ⟨g_L, 0, none⟩ (.int .i64 u)).setCell ⟨g_L, 1, none⟩ (.int .i64 b)).setCell ⟨g_L, 2, none⟩ (.string (d.extract p d.size))).setCell ⟨g_L, 3, none⟩ (.bool true)) g_r [.int .i64 0, .string ⟨#[]⟩, .bool false] from ((((Kr4.out.setOther ⟨g_L, 0, none⟩ (.int .i64 u) (n_r_L)).setOther ⟨g_L, 1, none⟩ (.int .i64 b) (n_r_L)).setOther ⟨g_L, 2, none⟩ (.string (d.extract p d.size)) (n_r_L)).setOther ⟨g_L, 3, none⟩ (.bool true) (n_r_L)))
              have KL5 := Lib.hid (show Blk ((((v4.setCell ⟨g_L, 0, none⟩ (.int .i64 u)).setCell ⟨g_L, 1, none⟩ (.int .i64 b)).setCell ⟨g_L, 2, none⟩ (.string (d.extract p d.size))).setCell ⟨g_L, 3, none⟩ (.bool true)) g_L [.int .i64 u, .int .i64 b, .string (d.extract p d.size), .bool true] from ((((KL4.out.set 0 (.int .i64 u)).set 1 (.int .i64 b)).set 2 (.string (d.extract p d.size))).set 3 (.bool true)))
              refine hK.out _ _ Ks5.out (fun hS => ?_)
              clear hK K
              clear B4 Ks4 Kr4 KL4
              clear cL0 cL1 cL2 cL3 dL0 dL1 dL2 dL3
              generalize (((v4.setCell ⟨g_L, 0, none⟩ (.int .i64 u)).setCell ⟨g_L, 1, none⟩ (.int .i64 b)).setCell ⟨g_L, 2, none⟩ (.string (d.extract p d.size))).setCell ⟨g_L, 3, none⟩ (.bool true) = v5 at hS B5 Ks5 Kr5 KL5 ⊢
              refine wpAnyH_done (by kernel_rfl) ?_ _
              refine NoPanic.normal ?_
              go_wp2_with fail
              go_meet
              case rel => exact ⟨g_L, rfl, B5, Ks5, Kr5, KL5, ⟨n_s_L, n_r_L, l_L⟩⟩
            · rw [if_pos (by rfl)]
              go_simp
              clear hS
              have B3 := Lib.hid (B2.out.alloc B2.out.size (.cells #[.int .i64 0, .int .i64 0, .string ⟨#[]⟩, .bool false] 73))
              have l_L : w.heap.size ≤ v2.heap.size := B2.out.size
              have n_s_L : g_s ≠ v2.heap.size := by have h1 := Ks2.out.lt; omega
              have n_r_L : g_r ≠ v2.heap.size := by have h1 := Kr2.out.lt; omega
              have Ks3 := Lib.hid (Ks2.out.alloc (.cells #[.int .i64 0, .int .i64 0, .string ⟨#[]⟩, .bool false] 73))
              have Kr3 := Lib.hid (Kr2.out.alloc (.cells #[.int .i64 0, .int .i64 0, .string ⟨#[]⟩, .bool false] 73))
              have KL3 := Lib.hid (Blk.new v2 [.int .i64 0, .int .i64 0, .string ⟨#[]⟩, .bool false] 73)
              clear B2 Ks2 Kr2
              refine hK.out _ _ Ks3.out (fun hS => ?_)
              clear hK K
              generalize v2.alloc (.cells #[.int .i64 0, .int .i64 0, .string ⟨#[]⟩, .bool false] 73) = v3 at hS B3 Ks3 Kr3 KL3 ⊢
              generalize v2.heap.size = g_L at KL3 l_L n_s_L n_r_L ⊢
              refine wpAnyH_ready (rs := [1]) (by kernel_rfl) (by simp) ?_
              refine AllReadyH.cons (i := 1) rfl (fun K hK => ?zy23) AllReadyH.nil
              rw [if_pos (by rfl)]
              go_simp
              clear hS
              refine (P.out _).mono ?_
              rintro e v4 ⟨rfl, hb⟩
              have B4 := Lib.hid (B3.out.trans (hb.mono B3.out.size))
              have Ks4 := Lib.hid (Ks3.out.below hb)
              have Kr4 := Lib.hid (Kr3.out.below hb)
              have KL4 := Lib.hid (KL3.out.below hb)
              clear hb B3 Ks3 Kr3 KL3
              refine hK.out _ _ Ks4.out (fun hS => ?_)
              clear hK K
              refine wpAnyH_take (i := 9) (v := .bool true) rfl (by kernel_rfl) (by kernel_rfl) (by kernel_rfl) (fun _ _ _ h => h) (Or.inl ⟨by kernel_rfl, by intro w hS; go_simp⟩) hS ?_
              refine wpAnyH_take (i := 10) (v := .pointer (some ⟨g_s, 4, none⟩)) rfl (by kernel_rfl) (by kernel_rfl) (by kernel_rfl) (fun _ _ _ h => h) (Or.inl ⟨by kernel_rfl, by intro w hS; go_simp⟩) hS ?_
              refine wpAnyH_take (i := 11) (v := .bool false) rfl (by kernel_rfl) (by kernel_rfl) (by kernel_rfl) (fun _ _ _ h => h) (Or.inl ⟨by kernel_rfl, by intro w hS; obtain ⟨⟨h0, h1, h2, h3, h4, h5⟩, _⟩ := hS.of6; go_simp⟩) hS ?_
              refine wpAnyH_take (i := 12) (v := .bool true) rfl (by kernel_rfl) (by kernel_rfl) (by kernel_rfl) (fun _ _ _ h => h) (Or.inl ⟨by kernel_rfl, by intro w hS; go_simp⟩) hS ?_
              refine wpAnyH_take (i := 13) (v := .bool true) rfl (by kernel_rfl) (by kernel_rfl) (by kernel_rfl) (fun _ _ _ h => h) (Or.inl ⟨by kernel_rfl, by intro w hS; go_simp⟩) hS ?_
              refine wpAnyH_take (i := 14) (v := .bool true) rfl (by kernel_rfl) (by kernel_rfl) (by kernel_rfl) (fun _ _ _ h => h) (Or.inl ⟨by kernel_rfl, by intro w hS; go_simp⟩) hS ?_
              refine wpAnyH_take (i := 15) (v := .pointer (some ⟨g_s, 5, none⟩)) rfl (by kernel_rfl) (by kernel_rfl) (by kernel_rfl) (fun _ _ _ h => h) (Or.inl ⟨by kernel_rfl, by intro w hS; go_simp⟩) hS ?_
              refine wpAnyH_take (i := 16) (v := .bool false) rfl (by kernel_rfl) (by kernel_rfl) (by kernel_rfl) (fun _ _ _ h => h) (Or.inl ⟨by kernel_rfl, by intro w hS; obtain ⟨⟨h0, h1, h2, h3, h4, h5⟩, _⟩ := hS.of6; go_simp⟩) hS ?_
              refine wpAnyH_take (i := 17) (v := .bool true) rfl (by kernel_rfl) (by kernel_rfl) (by kernel_rfl) (fun _ _ _ h => h) (Or.inl ⟨by kernel_rfl, by intro w hS; go_simp⟩) hS ?_
              refine wpAnyH_take (i := 18) (v := .bool true) rfl (by kernel_rfl) (by kernel_rfl) (by kernel_rfl) (fun _ _ _ h => h) (Or.inl ⟨by kernel_rfl, by intro w hS; go_simp⟩) hS ?_
              refine wpAnyH_take (i := 19) (v := .agg #[.int .i64 u, .int .i64 b, .string (d.extract p d.size), .bool true]) rfl (by kernel_rfl) (by kernel_rfl) (by kernel_rfl) (fun _ _ _ h => h) (Or.inl ⟨by kernel_rfl, by intro w hS; go_simp⟩) hS ?_
              obtain ⟨⟨cL0, cL1, cL2, cL3⟩, dL0, dL1, dL2, dL3⟩ := KL4.out.four
              refine wpAnyH_ready (rs := [21]) (by kernel_rfl) (by simp) ?_
              refine AllReadyH.cons (i := 21) rfl (fun K hK => ?zy24) AllReadyH.nil
              rw [if_pos (by rfl)]
              go_simp
              clear hS
              have B5 := Lib.hid (show Below w.heap.size w ((((v4.setCell ⟨g_L, 0, none⟩ (.int .i64 u)).setCell ⟨g_L, 1, none⟩ (.int .i64 b)).setCell ⟨g_L, 2, none⟩ (.string (d.extract p d.size))).setCell ⟨g_L, 3, none⟩ (.bool true)) from ((((B4.out.setCell l_L (.int .i64 u)).setCell l_L (.int .i64 b)).setCell l_L (.string (d.extract p d.size))).setCell l_L (.bool true)))
              have Ks5 := Lib.hid (show Blk ((((v4.setCell ⟨g_L, 0, none⟩ (.int .i64 u)).setCell ⟨g_L, 1, none⟩ (.int .i64 b)).setCell ⟨g_L, 2, none⟩ (.string (d.extract p d.size))).setCell ⟨g_L, 3, none⟩ (.bool true)) g_s [.int .i64 u, .string d, .int .i64 p, .bool true, .bool false, .bool false] from ((((Ks4.out.setOther ⟨g_L, 0, none⟩ (.int .i64 u) (n_s_L)).setOther ⟨g_L, 1, none⟩ (.int .i64 b) (n_s_L)).setOther ⟨g_L, 2, none⟩ (.string (d.extract p d.size)) (n_s_L)).setOther ⟨g_L, 3, none⟩ (.bool true) (n_s_L)))
              have Kr5 := Lib.hid (show Blk ((((v4.setCell ⟨g_L, 0, none⟩ (.int .i64 u)).setCell ⟨g_L, 1, none⟩ (.int .i64 b)).setCell ⟨g_L, 2, none⟩ (.string (d.extract p d.size))).setCell ⟨g_L, 3, none⟩ (.bool true)) g_r [.int .i64 0, .string ⟨#[]⟩, .bool false] from ((((Kr4.out.setOther ⟨g_L, 0, none⟩ (.int .i64 u) (n_r_L)).setOther ⟨g_L, 1, none⟩ (.int .i64 b) (n_r_L)).setOther ⟨g_L, 2, none⟩ (.string (d.extract p d.size)) (n_r_L)).setOther ⟨g_L, 3, none⟩ (.bool true) (n_r_L)))
              have KL5 := Lib.hid (show Blk ((((v4.setCell ⟨g_L, 0, none⟩ (.int .i64 u)).setCell ⟨g_L, 1, none⟩ (.int .i64 b)).setCell ⟨g_L, 2, none⟩ (.string (d.extract p d.size))).setCell ⟨g_L, 3, none⟩ (.bool true)) g_L [.int .i64 u, .int .i64 b, .string (d.extract p d.size), .bool true] from ((((KL4.out.set 0 (.int .i64 u)).set 1 (.int .i64 b)).set 2 (.string (d.extract p d.size))).set 3 (.bool true)))
              refine hK.out _ _ Ks5.out (fun hS => ?_)
              clear hK K
              clear B4 Ks4 Kr4 KL4
              clear cL0 cL1 cL2 cL3 dL0 dL1 dL2 dL3
              generalize (((v4.setCell ⟨g_L, 0, none⟩ (.int .i64 u)).setCell ⟨g_L, 1, none⟩ (.int .i64 b)).setCell ⟨g_L, 2, none⟩ (.string (d.extract p d.size))).setCell ⟨g_L, 3, none⟩ (.bool true) = v5 at hS B5 Ks5 Kr5 KL5 ⊢
              refine wpAnyH_done (by kernel_rfl) ?_ _
              refine NoPanic.normal ?_
              go_wp2_with fail
              go_meet
              case rel => exact ⟨g_L, rfl, B5, Ks5, Kr5, KL5, ⟨n_s_L, n_r_L, l_L⟩⟩
    case rest =>
      clear B1 Ks1 Kr1
      obtain ⟨g_L, rfl, B103, Ks103, Kr103, KL103, ⟨n_s_L, n_r_L, l_L⟩⟩ := hcut
      generalize wc = wc_3 at B103 Ks103 Kr103 KL103 ⊢
      obtain ⟨⟨cs0, cs1, cs2, cs3, cs4, cs5⟩, ds0, ds1, ds2, ds3, ds4, ds5⟩ := Ks103.out.of6
      obtain ⟨⟨cr0, cr1, cr2⟩, dr0, dr1, dr2⟩ := Kr103.out.o3
      obtain ⟨⟨cL0, cL1, cL2, cL3⟩, dL0, dL1, dL2, dL3⟩ := KL103.out.four
      go_wp2_with fail
      clear cs0 cs1 cs2 cs3 cs4 cs5 ds0 ds1 ds2 ds3 ds4 ds5 cr0 cr1 cr2 dr0 dr1 dr2 cL0 cL1 cL2 cL3 dL0 dL1 dL2 dL3
      refine (CH.out _).mono ?_
      rintro e v104 ⟨rfl, hb⟩
      have B104 := Lib.hid (B103.out.trans (hb.mono B103.out.size))
      have Ks104 := Lib.hid (Ks103.out.below hb)
      have Kr104 := Lib.hid (Kr103.out.below hb)
      have KL104 := Lib.hid (KL103.out.below hb)
      clear hb B103 Ks103 Kr103 KL103
      have Kcn := Lib.hid (Blk.new v104 [.int .i64 q, .string y, .bool F] 35)
      have l_c : w.heap.size ≤ v104.heap.size := B104.out.size
      have n_s_c : g_s ≠ v104.heap.size := by have h1 := Ks104.out.lt; omega
      have n_r_c : g_r ≠ v104.heap.size := by have h1 := Kr104.out.lt; omega
      have n_L_c : g_L ≠ v104.heap.size := by have h1 := KL104.out.lt; omega
      have Bn := Lib.hid (B104.out.alloc B104.out.size (.cells #[.int .i64 q, .string y, .bool F] 35))
      have Ksn := Lib.hid (Ks104.out.alloc (.cells #[.int .i64 q, .string y, .bool F] 35))
      have Krn := Lib.hid (Kr104.out.alloc (.cells #[.int .i64 q, .string y, .bool F] 35))
      have KLn := Lib.hid (KL104.out.alloc (.cells #[.int .i64 q, .string y, .bool F] 35))
      clear B104 Ks104 Kr104 KL104
      obtain ⟨⟨cs0, cs1, cs2, cs3, cs4, cs5⟩, ds0, ds1, ds2, ds3, ds4, ds5⟩ := Ksn.out.of6
      obtain ⟨⟨cr0, cr1, cr2⟩, dr0, dr1, dr2⟩ := Krn.out.o3
      obtain ⟨⟨cL0, cL1, cL2, cL3⟩, dL0, dL1, dL2, dL3⟩ := KLn.out.four
      go_upto_region 5 with fail
      clear cs0 cs1 cs2 cs3 cs4 cs5 ds0 ds1 ds2 ds3 ds4 ds5 cr0 cr1 cr2 dr0 dr1 dr2 cL0 cL1 cL2 cL3 dL0 dL1 dL2 dL3
      generalize v104.alloc (.cells #[.int .i64 q, .string y, .bool F] 35) = v105 at Kcn Bn Ksn Krn KLn ⊢
      generalize v104.heap.size = g_c at Kcn l_c n_s_c n_r_c n_L_c ⊢
      clear v104
      have Ks105 := Ksn
      clear Ksn
      have Kr105 := Krn
      clear Krn
      have KL105 := KLn
      clear KLn
      have Kc105 := Kcn
      clear Kcn
      have B105 := Bn
      clear Bn
      by_cases h0 : k = 0
      case pos =>
        have hE' : y.toList.isEmpty = true := by rw [HE.out, decide_eq_true h0]
        cases F with
        | true =>
          obtain rfl : ok = true := by rw [EO.out]; simp [h0]
          obtain rfl := EY.out rfl
          clear EO EY EN HE h0
          obtain ⟨⟨cs0, cs1, cs2, cs3, cs4, cs5⟩, ds0, ds1, ds2, ds3, ds4, ds5⟩ := Ks105.out.of6
          obtain ⟨⟨cr0, cr1, cr2⟩, dr0, dr1, dr2⟩ := Kr105.out.o3
          obtain ⟨⟨cL0, cL1, cL2, cL3⟩, dL0, dL1, dL2, dL3⟩ := KL105.out.four
          obtain ⟨⟨cc0, cc1, cc2⟩, dc0, dc1, dc2⟩ := Kc105.out.o3
          go_wp2_with fail
          exact bodyPost_ret (v := .tuple #[.agg #[.int .i64 q, .string y, .bool true], .bool true]) (by simp [results, Try.results22, go_sem, cr0, cr1, cr2]) rfl ⟨rfl, (((B105.out.setCell l_r (.int .i64 q)).setCell l_r (.string y)).setCell l_r (.bool true))⟩
        | false =>
          obtain rfl : ok = false := by rw [EO.out]; simp [h0]
          obtain rfl := EN.out rfl
          clear EO EY EN HE h0
          obtain ⟨⟨cs0, cs1, cs2, cs3, cs4, cs5⟩, ds0, ds1, ds2, ds3, ds4, ds5⟩ := Ks105.out.of6
          obtain ⟨⟨cr0, cr1, cr2⟩, dr0, dr1, dr2⟩ := Kr105.out.o3
          obtain ⟨⟨cL0, cL1, cL2, cL3⟩, dL0, dL1, dL2, dL3⟩ := KL105.out.four
          obtain ⟨⟨cc0, cc1, cc2⟩, dc0, dc1, dc2⟩ := Kc105.out.o3
          go_wp2_with fail
          exact bodyPost_ret (v := .tuple #[.agg #[.int .i64 0, .string ⟨#[]⟩, .bool false], .bool false]) (by simp [results, Try.results22, go_sem, cr0, cr1, cr2]) rfl ⟨rfl, (((B105.out.setCell l_r (.int .i64 0)).setCell l_r (.string ⟨#[]⟩)).setCell l_r (.bool false))⟩
      have hE' : y.toList.isEmpty = false := by rw [HE.out, decide_eq_false h0]
      obtain rfl : ok = true := by rw [EO.out]; simp [h0]
      obtain rfl := EY.out rfl
      clear EO EY EN HE h0
      obtain ⟨⟨cs0, cs1, cs2, cs3, cs4, cs5⟩, ds0, ds1, ds2, ds3, ds4, ds5⟩ := Ks105.out.of6
      obtain ⟨⟨cr0, cr1, cr2⟩, dr0, dr1, dr2⟩ := Kr105.out.o3
      obtain ⟨⟨cL0, cL1, cL2, cL3⟩, dL0, dL1, dL2, dL3⟩ := KL105.out.four
      obtain ⟨⟨cc0, cc1, cc2⟩, dc0, dc1, dc2⟩ := Kc105.out.o3
      go_wp2_with fail
      exact bodyPost_ret (v := .tuple #[.agg #[.int .i64 q, .string y, .bool F], .bool true]) (by simp [results, Try.results22, go_sem, cr0, cr1, cr2]) rfl ⟨rfl, (((B105.out.setCell l_r (.int .i64 q)).setCell l_r (.string y)).setCell l_r (.bool F))⟩
end Go.Proofs.Ytkigkfedkjnkeaa
