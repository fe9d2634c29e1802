/- Queued, of both sides. Nothing here is a claim. -/
import Derived.Test.YtkigkfedkjnkeaaSndOpK
import Derived.Test.YtkigkfedkjnkeaaBlk10
import Derived.Test.YtkigkfedkjnkeaaSndOk
import Derived.Test.YtkigkfedkjnkeaaSndPos
import Derived.Test.YtkigkfedkjnkeaaSndMin
import Derived.Deep.DeepCutAuto
import Derived.Deep.RegionHeld3
import Derived.StillTailTactics
namespace Go.Proofs.Ytkigkfedkjnkeaa
open Go.RowKit Go.Lib

set_option maxRecDepth 100000 in
set_option maxHeartbeats 4000000 in
theorem queuedI (u : Int) (d : ByteArray) (t : Int) (f g h : Bool) (x : ByteArray) (hx : x.size ≤ 1048576) (w : World) : Calls Try.prog 16 #[.agg #[.int .i64 u, .string d, .int .i64 t, .bool f, .bool g, .bool h], .string x] w (EndQ ⟨u, d, t, f, g, h⟩ x w) := by
  have OK := (sndOkI u d t f g h)
  cases hok : sndOk ⟨u, d, t, f, g, h⟩ with
  | false =>
    rw [hok] at OK
    have e := qn_no (s := ⟨u, d, t, f, g, h⟩) (x := x) (by rw [hok]; rfl)
    unfold EndQ
    rw [e.1, e.2]
    simp only [Snd.cs]
    replace OK := Lib.hid OK
    clear hok e hx
    go_enter Try.func16, Try.ntmps16
    have B0 := Lib.hid (show Below w.heap.size w ((w.alloc (.cells #[.int .i64 u, .string d, .int .i64 t, .bool f, .bool g, .bool h] 25)).alloc (.cells #[.int .i64 0, .string ⟨#[]⟩, .int .i64 0, .bool false, .bool false, .bool false] 25)) from (((Below.refl _ w).alloc (by simp) _).alloc (by simp) _))
    have Ks0 := Lib.hid (show Blk ((w.alloc (.cells #[.int .i64 u, .string d, .int .i64 t, .bool f, .bool g, .bool h] 25)).alloc (.cells #[.int .i64 0, .string ⟨#[]⟩, .int .i64 0, .bool false, .bool false, .bool false] 25)) (w.heap.size) [.int .i64 u, .string d, .int .i64 t, .bool f, .bool g, .bool h] from (Blk.new w [.int .i64 u, .string d, .int .i64 t, .bool f, .bool g, .bool h] 25).alloc (.cells #[.int .i64 0, .string ⟨#[]⟩, .int .i64 0, .bool false, .bool false, .bool false] 25))
    have s1 : (w.alloc (.cells #[.int .i64 u, .string d, .int .i64 t, .bool f, .bool g, .bool h] 25)).heap.size = w.heap.size + 1 := by simp
    have Kr0 := Lib.hid (show Blk ((w.alloc (.cells #[.int .i64 u, .string d, .int .i64 t, .bool f, .bool g, .bool h] 25)).alloc (.cells #[.int .i64 0, .string ⟨#[]⟩, .int .i64 0, .bool false, .bool false, .bool false] 25)) (w.heap.size + 1) [.int .i64 0, .string ⟨#[]⟩, .int .i64 0, .bool false, .bool false, .bool false] by have h0 := Blk.new (w.alloc (.cells #[.int .i64 u, .string d, .int .i64 t, .bool f, .bool g, .bool h] 25)) [.int .i64 0, .string ⟨#[]⟩, .int .i64 0, .bool false, .bool false, .bool false] 25; rwa [s1] at h0)
    have n_s_r : w.heap.size ≠ w.heap.size + 1 := by omega
    clear s1
    go_wp2_with fail
    change Calls _ _ _ ((w.alloc (.cells #[.int .i64 u, .string d, .int .i64 t, .bool f, .bool g, .bool h] 25)).alloc (.cells #[.int .i64 0, .string ⟨#[]⟩, .int .i64 0, .bool false, .bool false, .bool false] 25)) _
    generalize (w.alloc (.cells #[.int .i64 u, .string d, .int .i64 t, .bool f, .bool g, .bool h] 25)).alloc (.cells #[.int .i64 0, .string ⟨#[]⟩, .int .i64 0, .bool false, .bool false, .bool false] 25) = v0 at B0 Ks0 Kr0 ⊢
    generalize hh_r : w.heap.size + 1 = g_r at Kr0 n_s_r ⊢
    generalize hh_s : w.heap.size = g_s at Ks0 n_s_r ⊢
    have l_s : w.heap.size ≤ g_s := by omega
    have l_r : w.heap.size ≤ g_r := by omega
    clear hh_s hh_r
    refine (OK.out _).mono ?_
    rintro e v1 ⟨rfl, hb⟩
    have B1 := Lib.hid (B0.out.trans (hb.mono B0.out.size))
    have Ks1 := Lib.hid (Ks0.out.below hb)
    have Kr1 := Lib.hid (Kr0.out.below hb)
    clear hb B0 Ks0 Kr0
    obtain ⟨⟨cs0, cs1, cs2, cs3, cs4, cs5⟩, ds0, ds1, ds2, ds3, ds4, ds5⟩ := Ks1.out.of6
    obtain ⟨⟨cr0, cr1, cr2, cr3, cr4, cr5⟩, dr0, dr1, dr2, dr3, dr4, dr5⟩ := Kr1.out.of6
    go_wp2_with fail
    exact bodyPost_ret (v := .tuple #[.agg #[.int .i64 u, .string d, .int .i64 t, .bool f, .bool g, .bool h], .int .i64 0]) (by simp [results, Try.results16, go_sem, cr0, cr1, cr2, cr3, cr4, cr5]) rfl ⟨rfl, ((((((B1.out.setCell l_r (.int .i64 u)).setCell l_r (.string d)).setCell l_r (.int .i64 t)).setCell l_r (.bool f)).setCell l_r (.bool g)).setCell l_r (.bool h))⟩
  | true =>
    rw [hok] at OK
    cases f with
    | true =>
      have e := qn_no (s := ⟨u, d, t, true, g, h⟩) (x := x) (by rw [hok]; rfl)
      unfold EndQ
      rw [e.1, e.2]
      simp only [Snd.cs]
      replace OK := Lib.hid OK
      clear hok e hx
      go_enter Try.func16, Try.ntmps16
      have B0 := Lib.hid (show Below w.heap.size w ((w.alloc (.cells #[.int .i64 u, .string d, .int .i64 t, .bool true, .bool g, .bool h] 25)).alloc (.cells #[.int .i64 0, .string ⟨#[]⟩, .int .i64 0, .bool false, .bool false, .bool false] 25)) from (((Below.refl _ w).alloc (by simp) _).alloc (by simp) _))
      have Ks0 := Lib.hid (show Blk ((w.alloc (.cells #[.int .i64 u, .string d, .int .i64 t, .bool true, .bool g, .bool h] 25)).alloc (.cells #[.int .i64 0, .string ⟨#[]⟩, .int .i64 0, .bool false, .bool false, .bool false] 25)) (w.heap.size) [.int .i64 u, .string d, .int .i64 t, .bool true, .bool g, .bool h] from (Blk.new w [.int .i64 u, .string d, .int .i64 t, .bool true, .bool g, .bool h] 25).alloc (.cells #[.int .i64 0, .string ⟨#[]⟩, .int .i64 0, .bool false, .bool false, .bool false] 25))
      have s1 : (w.alloc (.cells #[.int .i64 u, .string d, .int .i64 t, .bool true, .bool g, .bool h] 25)).heap.size = w.heap.size + 1 := by simp
      have Kr0 := Lib.hid (show Blk ((w.alloc (.cells #[.int .i64 u, .string d, .int .i64 t, .bool true, .bool g, .bool h] 25)).alloc (.cells #[.int .i64 0, .string ⟨#[]⟩, .int .i64 0, .bool false, .bool false, .bool false] 25)) (w.heap.size + 1) [.int .i64 0, .string ⟨#[]⟩, .int .i64 0, .bool false, .bool false, .bool false] by have h0 := Blk.new (w.alloc (.cells #[.int .i64 u, .string d, .int .i64 t, .bool true, .bool g, .bool h] 25)) [.int .i64 0, .string ⟨#[]⟩, .int .i64 0, .bool false, .bool false, .bool false] 25; rwa [s1] at h0)
      have n_s_r : w.heap.size ≠ w.heap.size + 1 := by omega
      clear s1
      go_wp2_with fail
      change Calls _ _ _ ((w.alloc (.cells #[.int .i64 u, .string d, .int .i64 t, .bool true, .bool g, .bool h] 25)).alloc (.cells #[.int .i64 0, .string ⟨#[]⟩, .int .i64 0, .bool false, .bool false, .bool false] 25)) _
      generalize (w.alloc (.cells #[.int .i64 u, .string d, .int .i64 t, .bool true, .bool g, .bool h] 25)).alloc (.cells #[.int .i64 0, .string ⟨#[]⟩, .int .i64 0, .bool false, .bool false, .bool false] 25) = v0 at B0 Ks0 Kr0 ⊢
      generalize hh_r : w.heap.size + 1 = g_r at Kr0 n_s_r ⊢
      generalize hh_s : w.heap.size = g_s at Ks0 n_s_r ⊢
      have l_s : w.heap.size ≤ g_s := by omega
      have l_r : w.heap.size ≤ g_r := by omega
      clear hh_s hh_r
      refine (OK.out _).mono ?_
      rintro e v1 ⟨rfl, hb⟩
      have B1 := Lib.hid (B0.out.trans (hb.mono B0.out.size))
      have Ks1 := Lib.hid (Ks0.out.below hb)
      have Kr1 := Lib.hid (Kr0.out.below hb)
      clear hb B0 Ks0 Kr0
      obtain ⟨⟨cs0, cs1, cs2, cs3, cs4, cs5⟩, ds0, ds1, ds2, ds3, ds4, ds5⟩ := Ks1.out.of6
      obtain ⟨⟨cr0, cr1, cr2, cr3, cr4, cr5⟩, dr0, dr1, dr2, dr3, dr4, dr5⟩ := Kr1.out.of6
      go_wp2_with fail
      exact bodyPost_ret (v := .tuple #[.agg #[.int .i64 u, .string d, .int .i64 t, .bool true, .bool g, .bool h], .int .i64 0]) (by simp [results, Try.results16, go_sem, cr0, cr1, cr2, cr3, cr4, cr5]) rfl ⟨rfl, ((((((B1.out.setCell l_r (.int .i64 u)).setCell l_r (.string d)).setCell l_r (.int .i64 t)).setCell l_r (.bool true)).setCell l_r (.bool g)).setCell l_r (.bool h))⟩
    | false =>
      have e := qn_yes (s := ⟨u, d, t, false, g, h⟩) (x := x) (by rw [hok]; rfl)
      obtain ⟨-, ⟨hd, -, -⟩, -, -⟩ := sndOk_of hok
      unfold EndQ
      rw [e.2]
      replace e := e.1
      simp only at e
      generalize qn ⟨u, d, t, false, g, h⟩ x = n at e ⊢
      have hnx : n ≤ x.size := by omega
      have hn := Lib.hid (show min (x.size : Int) (48 - (d.size : Int)) = (n : Int) by omega)
      simp only [Snd.cs]
      replace OK := Lib.hid OK
      clear hok e
      go_enter Try.func16, Try.ntmps16
      have B0 := Lib.hid (show Below w.heap.size w ((w.alloc (.cells #[.int .i64 u, .string d, .int .i64 t, .bool false, .bool g, .bool h] 25)).alloc (.cells #[.int .i64 0, .string ⟨#[]⟩, .int .i64 0, .bool false, .bool false, .bool false] 25)) from (((Below.refl _ w).alloc (by simp) _).alloc (by simp) _))
      have Ks0 := Lib.hid (show Blk ((w.alloc (.cells #[.int .i64 u, .string d, .int .i64 t, .bool false, .bool g, .bool h] 25)).alloc (.cells #[.int .i64 0, .string ⟨#[]⟩, .int .i64 0, .bool false, .bool false, .bool false] 25)) (w.heap.size) [.int .i64 u, .string d, .int .i64 t, .bool false, .bool g, .bool h] from (Blk.new w [.int .i64 u, .string d, .int .i64 t, .bool false, .bool g, .bool h] 25).alloc (.cells #[.int .i64 0, .string ⟨#[]⟩, .int .i64 0, .bool false, .bool false, .bool false] 25))
      have s1 : (w.alloc (.cells #[.int .i64 u, .string d, .int .i64 t, .bool false, .bool g, .bool h] 25)).heap.size = w.heap.size + 1 := by simp
      have Kr0 := Lib.hid (show Blk ((w.alloc (.cells #[.int .i64 u, .string d, .int .i64 t, .bool false, .bool g, .bool h] 25)).alloc (.cells #[.int .i64 0, .string ⟨#[]⟩, .int .i64 0, .bool false, .bool false, .bool false] 25)) (w.heap.size + 1) [.int .i64 0, .string ⟨#[]⟩, .int .i64 0, .bool false, .bool false, .bool false] by have h0 := Blk.new (w.alloc (.cells #[.int .i64 u, .string d, .int .i64 t, .bool false, .bool g, .bool h] 25)) [.int .i64 0, .string ⟨#[]⟩, .int .i64 0, .bool false, .bool false, .bool false] 25; rwa [s1] at h0)
      have n_s_r : w.heap.size ≠ w.heap.size + 1 := by omega
      clear s1
      go_wp2_with fail
      change Calls _ _ _ ((w.alloc (.cells #[.int .i64 u, .string d, .int .i64 t, .bool false, .bool g, .bool h] 25)).alloc (.cells #[.int .i64 0, .string ⟨#[]⟩, .int .i64 0, .bool false, .bool false, .bool false] 25)) _
      generalize (w.alloc (.cells #[.int .i64 u, .string d, .int .i64 t, .bool false, .bool g, .bool h] 25)).alloc (.cells #[.int .i64 0, .string ⟨#[]⟩, .int .i64 0, .bool false, .bool false, .bool false] 25) = v0 at B0 Ks0 Kr0 ⊢
      generalize hh_r : w.heap.size + 1 = g_r at Kr0 n_s_r ⊢
      generalize hh_s : w.heap.size = g_s at Ks0 n_s_r ⊢
      have l_s : w.heap.size ≤ g_s := by omega
      have l_r : w.heap.size ≤ g_r := by omega
      clear hh_s hh_r
      refine (OK.out _).mono ?_
      rintro e v1 ⟨rfl, hb⟩
      have B1 := Lib.hid (B0.out.trans (hb.mono B0.out.size))
      have Ks1 := Lib.hid (Ks0.out.below hb)
      have Kr1 := Lib.hid (Kr0.out.below hb)
      clear hb B0 Ks0 Kr0
      obtain ⟨⟨cs0, cs1, cs2, cs3, cs4, cs5⟩, ds0, ds1, ds2, ds3, ds4, ds5⟩ := Ks1.out.of6
      obtain ⟨⟨cr0, cr1, cr2, cr3, cr4, cr5⟩, dr0, dr1, dr2, dr3, dr4, dr5⟩ := Kr1.out.of6
      go_upto_region 4 with fail
      rw [show min (x.size : Int) (48 - (d.size : Int)) = (n : Int) from hn.out]
      have hdn : ¬ 9223372036854775807 < d.size + n := by omega
      go_still_tail 7, (by kernel_rfl)
      clear cs0 cs1 cs2 cs3 cs4 cs5 ds0 ds1 ds2 ds3 ds4 ds5 cr0 cr1 cr2 cr3 cr4 cr5 dr0 dr1 dr2 dr3 dr4 dr5
      change wpList _ _ _ _ _ v1.drew
      have B2 := Lib.hid (show Below w.heap.size w v1.drew from B1.out.drew)
      have Ks2 := Lib.hid (show Blk v1.drew g_s [.int .i64 u, .string d, .int .i64 t, .bool false, .bool g, .bool h] from Ks1.out.drew)
      have Kr2 := Lib.hid (show Blk v1.drew g_r [.int .i64 0, .string ⟨#[]⟩, .int .i64 0, .bool false, .bool false, .bool false] from Kr1.out.drew)
      clear B1 Ks1 Kr1
      generalize v1.drew = v2 at B2 Ks2 Kr2 ⊢
      obtain ⟨⟨cs0, cs1, cs2, cs3, cs4, cs5⟩, ds0, ds1, ds2, ds3, ds4, ds5⟩ := Ks2.out.of6
      obtain ⟨⟨cr0, cr1, cr2, cr3, cr4, cr5⟩, dr0, dr1, dr2, dr3, dr4, dr5⟩ := Kr2.out.of6
      go_wp2_with fail
      exact bodyPost_ret (v := .tuple #[.agg #[.int .i64 u, .string (d ++ x.extract 0 n), .int .i64 t, .bool false, .bool g, .bool h], .int .i64 n]) (by simp [results, Try.results16, go_sem, cr0, cr1, cr2, cr3, cr4, cr5]) rfl ⟨rfl, (((((((B2.out.setCell l_s (.string (d ++ x.extract 0 n))).setCell l_r (.int .i64 u)).setCell l_r (.string (d ++ x.extract 0 n))).setCell l_r (.int .i64 t)).setCell l_r (.bool false)).setCell l_r (.bool g)).setCell l_r (.bool h))⟩

set_option maxRecDepth 100000 in
set_option maxHeartbeats 4000000 in
theorem queuedS (u : Int) (d : ByteArray) (t : Int) (f g h : Bool) (x : ByteArray) (hx : x.size ≤ 1048576) (w : World) : Calls Try.prog 17 #[.agg #[.int .i64 u, .string d, .int .i64 t, .bool f, .bool g, .bool h], .string x] w (EndQ ⟨u, d, t, f, g, h⟩ x w) := by
  have OK := (sndOkS u d t f g h)
  cases hok : sndOk ⟨u, d, t, f, g, h⟩ with
  | false =>
    rw [hok] at OK
    have e := qn_no (s := ⟨u, d, t, f, g, h⟩) (x := x) (by rw [hok]; rfl)
    unfold EndQ
    rw [e.1, e.2]
    simp only [Snd.cs]
    replace OK := Lib.hid OK
    clear hok e hx
    go_enter Try.func17, Try.ntmps17
    have B0 := Lib.hid (show Below w.heap.size w ((w.alloc (.cells #[.int .i64 u, .string d, .int .i64 t, .bool f, .bool g, .bool h] 25)).alloc (.cells #[.int .i64 0, .string ⟨#[]⟩, .int .i64 0, .bool false, .bool false, .bool false] 25)) from (((Below.refl _ w).alloc (by simp) _).alloc (by simp) _))
    have Ks0 := Lib.hid (show Blk ((w.alloc (.cells #[.int .i64 u, .string d, .int .i64 t, .bool f, .bool g, .bool h] 25)).alloc (.cells #[.int .i64 0, .string ⟨#[]⟩, .int .i64 0, .bool false, .bool false, .bool false] 25)) (w.heap.size) [.int .i64 u, .string d, .int .i64 t, .bool f, .bool g, .bool h] from (Blk.new w [.int .i64 u, .string d, .int .i64 t, .bool f, .bool g, .bool h] 25).alloc (.cells #[.int .i64 0, .string ⟨#[]⟩, .int .i64 0, .bool false, .bool false, .bool false] 25))
    have s1 : (w.alloc (.cells #[.int .i64 u, .string d, .int .i64 t, .bool f, .bool g, .bool h] 25)).heap.size = w.heap.size + 1 := by simp
    have Kr0 := Lib.hid (show Blk ((w.alloc (.cells #[.int .i64 u, .string d, .int .i64 t, .bool f, .bool g, .bool h] 25)).alloc (.cells #[.int .i64 0, .string ⟨#[]⟩, .int .i64 0, .bool false, .bool false, .bool false] 25)) (w.heap.size + 1) [.int .i64 0, .string ⟨#[]⟩, .int .i64 0, .bool false, .bool false, .bool false] by have h0 := Blk.new (w.alloc (.cells #[.int .i64 u, .string d, .int .i64 t, .bool f, .bool g, .bool h] 25)) [.int .i64 0, .string ⟨#[]⟩, .int .i64 0, .bool false, .bool false, .bool false] 25; rwa [s1] at h0)
    have n_s_r : w.heap.size ≠ w.heap.size + 1 := by omega
    clear s1
    go_wp2_with fail
    change Calls _ _ _ ((w.alloc (.cells #[.int .i64 u, .string d, .int .i64 t, .bool f, .bool g, .bool h] 25)).alloc (.cells #[.int .i64 0, .string ⟨#[]⟩, .int .i64 0, .bool false, .bool false, .bool false] 25)) _
    generalize (w.alloc (.cells #[.int .i64 u, .string d, .int .i64 t, .bool f, .bool g, .bool h] 25)).alloc (.cells #[.int .i64 0, .string ⟨#[]⟩, .int .i64 0, .bool false, .bool false, .bool false] 25) = v0 at B0 Ks0 Kr0 ⊢
    generalize hh_r : w.heap.size + 1 = g_r at Kr0 n_s_r ⊢
    generalize hh_s : w.heap.size = g_s at Ks0 n_s_r ⊢
    have l_s : w.heap.size ≤ g_s := by omega
    have l_r : w.heap.size ≤ g_r := by omega
    clear hh_s hh_r
    refine (OK.out _).mono ?_
    rintro e v1 ⟨rfl, hb⟩
    have B1 := Lib.hid (B0.out.trans (hb.mono B0.out.size))
    have Ks1 := Lib.hid (Ks0.out.below hb)
    have Kr1 := Lib.hid (Kr0.out.below hb)
    clear hb B0 Ks0 Kr0
    obtain ⟨⟨cs0, cs1, cs2, cs3, cs4, cs5⟩, ds0, ds1, ds2, ds3, ds4, ds5⟩ := Ks1.out.of6
    obtain ⟨⟨cr0, cr1, cr2, cr3, cr4, cr5⟩, dr0, dr1, dr2, dr3, dr4, dr5⟩ := Kr1.out.of6
    go_wp2_with fail
    exact bodyPost_ret (v := .tuple #[.agg #[.int .i64 u, .string d, .int .i64 t, .bool f, .bool g, .bool h], .int .i64 0]) (by simp [results, Try.results17, go_sem, cr0, cr1, cr2, cr3, cr4, cr5]) rfl ⟨rfl, ((((((B1.out.setCell l_r (.int .i64 u)).setCell l_r (.string d)).setCell l_r (.int .i64 t)).setCell l_r (.bool f)).setCell l_r (.bool g)).setCell l_r (.bool h))⟩
  | true =>
    rw [hok] at OK
    cases f with
    | true =>
      have e := qn_no (s := ⟨u, d, t, true, g, h⟩) (x := x) (by rw [hok]; rfl)
      unfold EndQ
      rw [e.1, e.2]
      simp only [Snd.cs]
      replace OK := Lib.hid OK
      clear hok e hx
      go_enter Try.func17, Try.ntmps17
      have B0 := Lib.hid (show Below w.heap.size w ((w.alloc (.cells #[.int .i64 u, .string d, .int .i64 t, .bool true, .bool g, .bool h] 25)).alloc (.cells #[.int .i64 0, .string ⟨#[]⟩, .int .i64 0, .bool false, .bool false, .bool false] 25)) from (((Below.refl _ w).alloc (by simp) _).alloc (by simp) _))
      have Ks0 := Lib.hid (show Blk ((w.alloc (.cells #[.int .i64 u, .string d, .int .i64 t, .bool true, .bool g, .bool h] 25)).alloc (.cells #[.int .i64 0, .string ⟨#[]⟩, .int .i64 0, .bool false, .bool false, .bool false] 25)) (w.heap.size) [.int .i64 u, .string d, .int .i64 t, .bool true, .bool g, .bool h] from (Blk.new w [.int .i64 u, .string d, .int .i64 t, .bool true, .bool g, .bool h] 25).alloc (.cells #[.int .i64 0, .string ⟨#[]⟩, .int .i64 0, .bool false, .bool false, .bool false] 25))
      have s1 : (w.alloc (.cells #[.int .i64 u, .string d, .int .i64 t, .bool true, .bool g, .bool h] 25)).heap.size = w.heap.size + 1 := by simp
      have Kr0 := Lib.hid (show Blk ((w.alloc (.cells #[.int .i64 u, .string d, .int .i64 t, .bool true, .bool g, .bool h] 25)).alloc (.cells #[.int .i64 0, .string ⟨#[]⟩, .int .i64 0, .bool false, .bool false, .bool false] 25)) (w.heap.size + 1) [.int .i64 0, .string ⟨#[]⟩, .int .i64 0, .bool false, .bool false, .bool false] by have h0 := Blk.new (w.alloc (.cells #[.int .i64 u, .string d, .int .i64 t, .bool true, .bool g, .bool h] 25)) [.int .i64 0, .string ⟨#[]⟩, .int .i64 0, .bool false, .bool false, .bool false] 25; rwa [s1] at h0)
      have n_s_r : w.heap.size ≠ w.heap.size + 1 := by omega
      clear s1
      go_wp2_with fail
      change Calls _ _ _ ((w.alloc (.cells #[.int .i64 u, .string d, .int .i64 t, .bool true, .bool g, .bool h] 25)).alloc (.cells #[.int .i64 0, .string ⟨#[]⟩, .int .i64 0, .bool false, .bool false, .bool false] 25)) _
      generalize (w.alloc (.cells #[.int .i64 u, .string d, .int .i64 t, .bool true, .bool g, .bool h] 25)).alloc (.cells #[.int .i64 0, .string ⟨#[]⟩, .int .i64 0, .bool false, .bool false, .bool false] 25) = v0 at B0 Ks0 Kr0 ⊢
      generalize hh_r : w.heap.size + 1 = g_r at Kr0 n_s_r ⊢
      generalize hh_s : w.heap.size = g_s at Ks0 n_s_r ⊢
      have l_s : w.heap.size ≤ g_s := by omega
      have l_r : w.heap.size ≤ g_r := by omega
      clear hh_s hh_r
      refine (OK.out _).mono ?_
      rintro e v1 ⟨rfl, hb⟩
      have B1 := Lib.hid (B0.out.trans (hb.mono B0.out.size))
      have Ks1 := Lib.hid (Ks0.out.below hb)
      have Kr1 := Lib.hid (Kr0.out.below hb)
      clear hb B0 Ks0 Kr0
      obtain ⟨⟨cs0, cs1, cs2, cs3, cs4, cs5⟩, ds0, ds1, ds2, ds3, ds4, ds5⟩ := Ks1.out.of6
      obtain ⟨⟨cr0, cr1, cr2, cr3, cr4, cr5⟩, dr0, dr1, dr2, dr3, dr4, dr5⟩ := Kr1.out.of6
      go_wp2_with fail
      exact bodyPost_ret (v := .tuple #[.agg #[.int .i64 u, .string d, .int .i64 t, .bool true, .bool g, .bool h], .int .i64 0]) (by simp [results, Try.results17, go_sem, cr0, cr1, cr2, cr3, cr4, cr5]) rfl ⟨rfl, ((((((B1.out.setCell l_r (.int .i64 u)).setCell l_r (.string d)).setCell l_r (.int .i64 t)).setCell l_r (.bool true)).setCell l_r (.bool g)).setCell l_r (.bool h))⟩
    | false =>
      have e := qn_yes (s := ⟨u, d, t, false, g, h⟩) (x := x) (by rw [hok]; rfl)
      obtain ⟨-, ⟨hd, -, -⟩, -, -⟩ := sndOk_of hok
      unfold EndQ
      rw [e.2]
      replace e := e.1
      simp only at e
      generalize qn ⟨u, d, t, false, g, h⟩ x = n at e ⊢
      have hnx : n ≤ x.size := by omega
      have MN := l1Min_s x.size (48 - d.size)
      rw [show min (x.size : Int) (48 - (d.size : Int)) = (n : Int) by omega] at MN
      replace MN := Lib.hid MN
      simp only [Snd.cs]
      replace OK := Lib.hid OK
      clear hok e
      go_enter Try.func17, Try.ntmps17
      have B0 := Lib.hid (show Below w.heap.size w ((w.alloc (.cells #[.int .i64 u, .string d, .int .i64 t, .bool false, .bool g, .bool h] 25)).alloc (.cells #[.int .i64 0, .string ⟨#[]⟩, .int .i64 0, .bool false, .bool false, .bool false] 25)) from (((Below.refl _ w).alloc (by simp) _).alloc (by simp) _))
      have Ks0 := Lib.hid (show Blk ((w.alloc (.cells #[.int .i64 u, .string d, .int .i64 t, .bool false, .bool g, .bool h] 25)).alloc (.cells #[.int .i64 0, .string ⟨#[]⟩, .int .i64 0, .bool false, .bool false, .bool false] 25)) (w.heap.size) [.int .i64 u, .string d, .int .i64 t, .bool false, .bool g, .bool h] from (Blk.new w [.int .i64 u, .string d, .int .i64 t, .bool false, .bool g, .bool h] 25).alloc (.cells #[.int .i64 0, .string ⟨#[]⟩, .int .i64 0, .bool false, .bool false, .bool false] 25))
      have s1 : (w.alloc (.cells #[.int .i64 u, .string d, .int .i64 t, .bool false, .bool g, .bool h] 25)).heap.size = w.heap.size + 1 := by simp
      have Kr0 := Lib.hid (show Blk ((w.alloc (.cells #[.int .i64 u, .string d, .int .i64 t, .bool false, .bool g, .bool h] 25)).alloc (.cells #[.int .i64 0, .string ⟨#[]⟩, .int .i64 0, .bool false, .bool false, .bool false] 25)) (w.heap.size + 1) [.int .i64 0, .string ⟨#[]⟩, .int .i64 0, .bool false, .bool false, .bool false] by have h0 := Blk.new (w.alloc (.cells #[.int .i64 u, .string d, .int .i64 t, .bool false, .bool g, .bool h] 25)) [.int .i64 0, .string ⟨#[]⟩, .int .i64 0, .bool false, .bool false, .bool false] 25; rwa [s1] at h0)
      have n_s_r : w.heap.size ≠ w.heap.size + 1 := by omega
      clear s1
      go_wp2_with fail
      change Calls _ _ _ ((w.alloc (.cells #[.int .i64 u, .string d, .int .i64 t, .bool false, .bool g, .bool h] 25)).alloc (.cells #[.int .i64 0, .string ⟨#[]⟩, .int .i64 0, .bool false, .bool false, .bool false] 25)) _
      generalize (w.alloc (.cells #[.int .i64 u, .string d, .int .i64 t, .bool false, .bool g, .bool h] 25)).alloc (.cells #[.int .i64 0, .string ⟨#[]⟩, .int .i64 0, .bool false, .bool false, .bool false] 25) = v0 at B0 Ks0 Kr0 ⊢
      generalize hh_r : w.heap.size + 1 = g_r at Kr0 n_s_r ⊢
      generalize hh_s : w.heap.size = g_s at Ks0 n_s_r ⊢
      have l_s : w.heap.size ≤ g_s := by omega
      have l_r : w.heap.size ≤ g_r := by omega
      clear hh_s hh_r
      refine (OK.out _).mono ?_
      rintro e v1 ⟨rfl, hb⟩
      have B1 := Lib.hid (B0.out.trans (hb.mono B0.out.size))
      have Ks1 := Lib.hid (Ks0.out.below hb)
      have Kr1 := Lib.hid (Kr0.out.below hb)
      clear hb B0 Ks0 Kr0
      obtain ⟨⟨cs0, cs1, cs2, cs3, cs4, cs5⟩, ds0, ds1, ds2, ds3, ds4, ds5⟩ := Ks1.out.of6
      obtain ⟨⟨cr0, cr1, cr2, cr3, cr4, cr5⟩, dr0, dr1, dr2, dr3, dr4, dr5⟩ := Kr1.out.of6
      go_wp2_with fail
      clear cs0 cs1 cs2 cs3 cs4 cs5 ds0 ds1 ds2 ds3 ds4 ds5 cr0 cr1 cr2 cr3 cr4 cr5 dr0 dr1 dr2 dr3 dr4 dr5
      refine (MN.out _).mono ?_
      rintro e v2 ⟨rfl, hb⟩
      have B2 := Lib.hid (B1.out.trans (hb.mono B1.out.size))
      have Ks2 := Lib.hid (Ks1.out.below hb)
      have Kr2 := Lib.hid (Kr1.out.below hb)
      clear hb B1 Ks1 Kr1
      obtain ⟨⟨cs0, cs1, cs2, cs3, cs4, cs5⟩, ds0, ds1, ds2, ds3, ds4, ds5⟩ := Ks2.out.of6
      obtain ⟨⟨cr0, cr1, cr2, cr3, cr4, cr5⟩, dr0, dr1, dr2, dr3, dr4, dr5⟩ := Kr2.out.of6
      go_upto_region 4 with fail
      have hdn : ¬ 9223372036854775807 < d.size + n := by omega
      go_still_tail 7, (by kernel_rfl)
      clear cs0 cs1 cs2 cs3 cs4 cs5 ds0 ds1 ds2 ds3 ds4 ds5 cr0 cr1 cr2 cr3 cr4 cr5 dr0 dr1 dr2 dr3 dr4 dr5
      change wpList _ _ _ _ _ v2.drew
      have B3 := Lib.hid (show Below w.heap.size w v2.drew from B2.out.drew)
      have Ks3 := Lib.hid (show Blk v2.drew g_s [.int .i64 u, .string d, .int .i64 t, .bool false, .bool g, .bool h] from Ks2.out.drew)
      have Kr3 := Lib.hid (show Blk v2.drew g_r [.int .i64 0, .string ⟨#[]⟩, .int .i64 0, .bool false, .bool false, .bool false] from Kr2.out.drew)
      clear B2 Ks2 Kr2
      generalize v2.drew = v3 at B3 Ks3 Kr3 ⊢
      obtain ⟨⟨cs0, cs1, cs2, cs3, cs4, cs5⟩, ds0, ds1, ds2, ds3, ds4, ds5⟩ := Ks3.out.of6
      obtain ⟨⟨cr0, cr1, cr2, cr3, cr4, cr5⟩, dr0, dr1, dr2, dr3, dr4, dr5⟩ := Kr3.out.of6
      go_wp2_with fail
      exact bodyPost_ret (v := .tuple #[.agg #[.int .i64 u, .string (d ++ x.extract 0 n), .int .i64 t, .bool false, .bool g, .bool h], .int .i64 n]) (by simp [results, Try.results17, go_sem, cr0, cr1, cr2, cr3, cr4, cr5]) rfl ⟨rfl, (((((((B3.out.setCell l_s (.string (d ++ x.extract 0 n))).setCell l_r (.int .i64 u)).setCell l_r (.string (d ++ x.extract 0 n))).setCell l_r (.int .i64 t)).setCell l_r (.bool false)).setCell l_r (.bool g)).setCell l_r (.bool h))⟩
end Go.Proofs.Ytkigkfedkjnkeaa
