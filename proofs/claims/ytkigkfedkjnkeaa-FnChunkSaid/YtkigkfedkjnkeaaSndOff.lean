/- SentOff, of both sides. Nothing here is a claim. -/
import Derived.Test.YtkigkfedkjnkeaaSndOpK
import Derived.Test.YtkigkfedkjnkeaaBlk10
import Derived.Test.YtkigkfedkjnkeaaSndOk
import Derived.Test.YtkigkfedkjnkeaaSndPos
import Derived.Test.YtkigkfedkjnkeaaSndMin
import Derived.Deep.DeepCutAuto
import Derived.Deep.RegionHeld3
import Derived.StillTailTactics
namespace Go.Proofs.Ytkigkfedkjnkeaa
open Go.RowKit Go.Lib

set_option maxRecDepth 100000 in
set_option maxHeartbeats 4000000 in
theorem sentOffI (u : Int) (d : ByteArray) (t : Int) (f g h : Bool) (q : Int) (x : ByteArray) (b : Bool) (w : World) : Calls Try.prog 24 #[.agg #[.int .i64 u, .string d, .int .i64 t, .bool f, .bool g, .bool h], .agg #[.int .i64 q, .string x, .bool b]] w (EndS (sentOff ⟨u, d, t, f, g, h⟩ ⟨q, x, b⟩) w) := by
  have OK := (sndOkI u d t f g h)
  have OK2 := (sndOkI u d (wrap64 (t + x.size)) f (g || b) h)
  unfold EndS
  cases hok : sndOk ⟨u, d, t, f, g, h⟩ with
  | false =>
    rw [hok] at OK
    rw [off_no (s := ⟨u, d, t, f, g, h⟩) (c := ⟨q, x, b⟩) (by rw [hok]; rfl)]
    simp only [Snd.cs]
    clear hok
    cases g with
    | true =>
      replace OK := Lib.hid OK
      replace OK2 := Lib.hid OK2
      go_enter Try.func24, Try.ntmps24
      have B0 := Lib.hid (show Below w.heap.size w ((((w.alloc (.cells #[.int .i64 u, .string d, .int .i64 t, .bool f, .bool true, .bool h] 25)).alloc (.cells #[.int .i64 q, .string x, .bool b] 35)).alloc (.cells #[.int .i64 0, .string ⟨#[]⟩, .int .i64 0, .bool false, .bool false, .bool false] 25)).alloc (.cells #[.int .i64 u, .string d, .int .i64 (wrap64 (t + x.size)), .bool f, .bool true, .bool h] 25)) from (((((Below.refl _ w).alloc (by simp) _).alloc (by simp) _).alloc (by simp; omega) _).alloc (by simp; omega) _))
      have Ks0 := Lib.hid (show Blk ((((w.alloc (.cells #[.int .i64 u, .string d, .int .i64 t, .bool f, .bool true, .bool h] 25)).alloc (.cells #[.int .i64 q, .string x, .bool b] 35)).alloc (.cells #[.int .i64 0, .string ⟨#[]⟩, .int .i64 0, .bool false, .bool false, .bool false] 25)).alloc (.cells #[.int .i64 u, .string d, .int .i64 (wrap64 (t + x.size)), .bool f, .bool true, .bool h] 25)) (w.heap.size) [.int .i64 u, .string d, .int .i64 t, .bool f, .bool true, .bool h] from (((Blk.new w [.int .i64 u, .string d, .int .i64 t, .bool f, .bool true, .bool h] 25).alloc (.cells #[.int .i64 q, .string x, .bool b] 35)).alloc (.cells #[.int .i64 0, .string ⟨#[]⟩, .int .i64 0, .bool false, .bool false, .bool false] 25)).alloc (.cells #[.int .i64 u, .string d, .int .i64 (wrap64 (t + x.size)), .bool f, .bool true, .bool h] 25))
      have s1 : (w.alloc (.cells #[.int .i64 u, .string d, .int .i64 t, .bool f, .bool true, .bool h] 25)).heap.size = w.heap.size + 1 := by simp
      have Kc0 := Lib.hid (show Blk ((((w.alloc (.cells #[.int .i64 u, .string d, .int .i64 t, .bool f, .bool true, .bool h] 25)).alloc (.cells #[.int .i64 q, .string x, .bool b] 35)).alloc (.cells #[.int .i64 0, .string ⟨#[]⟩, .int .i64 0, .bool false, .bool false, .bool false] 25)).alloc (.cells #[.int .i64 u, .string d, .int .i64 (wrap64 (t + x.size)), .bool f, .bool true, .bool h] 25)) (w.heap.size + 1) [.int .i64 q, .string x, .bool b] by have h0 := ((Blk.new (w.alloc (.cells #[.int .i64 u, .string d, .int .i64 t, .bool f, .bool true, .bool h] 25)) [.int .i64 q, .string x, .bool b] 35).alloc (.cells #[.int .i64 0, .string ⟨#[]⟩, .int .i64 0, .bool false, .bool false, .bool false] 25)).alloc (.cells #[.int .i64 u, .string d, .int .i64 (wrap64 (t + x.size)), .bool f, .bool true, .bool h] 25); rwa [s1] at h0)
      have n_s_c : w.heap.size ≠ w.heap.size + 1 := by omega
      have s2 : ((w.alloc (.cells #[.int .i64 u, .string d, .int .i64 t, .bool f, .bool true, .bool h] 25)).alloc (.cells #[.int .i64 q, .string x, .bool b] 35)).heap.size = w.heap.size + 1 + 1 := by simp
      have Kr0 := Lib.hid (show Blk ((((w.alloc (.cells #[.int .i64 u, .string d, .int .i64 t, .bool f, .bool true, .bool h] 25)).alloc (.cells #[.int .i64 q, .string x, .bool b] 35)).alloc (.cells #[.int .i64 0, .string ⟨#[]⟩, .int .i64 0, .bool false, .bool false, .bool false] 25)).alloc (.cells #[.int .i64 u, .string d, .int .i64 (wrap64 (t + x.size)), .bool f, .bool true, .bool h] 25)) (w.heap.size + 1 + 1) [.int .i64 0, .string ⟨#[]⟩, .int .i64 0, .bool false, .bool false, .bool false] by have h0 := (Blk.new ((w.alloc (.cells #[.int .i64 u, .string d, .int .i64 t, .bool f, .bool true, .bool h] 25)).alloc (.cells #[.int .i64 q, .string x, .bool b] 35)) [.int .i64 0, .string ⟨#[]⟩, .int .i64 0, .bool false, .bool false, .bool false] 25).alloc (.cells #[.int .i64 u, .string d, .int .i64 (wrap64 (t + x.size)), .bool f, .bool true, .bool h] 25); rwa [s2] at h0)
      have n_s_r : w.heap.size ≠ w.heap.size + 1 + 1 := by omega
      have n_c_r : w.heap.size + 1 ≠ w.heap.size + 1 + 1 := by omega
      have s3 : (((w.alloc (.cells #[.int .i64 u, .string d, .int .i64 t, .bool f, .bool true, .bool h] 25)).alloc (.cells #[.int .i64 q, .string x, .bool b] 35)).alloc (.cells #[.int .i64 0, .string ⟨#[]⟩, .int .i64 0, .bool false, .bool false, .bool false] 25)).heap.size = w.heap.size + 1 + 1 + 1 := by simp
      have Ko0 := Lib.hid (show Blk ((((w.alloc (.cells #[.int .i64 u, .string d, .int .i64 t, .bool f, .bool true, .bool h] 25)).alloc (.cells #[.int .i64 q, .string x, .bool b] 35)).alloc (.cells #[.int .i64 0, .string ⟨#[]⟩, .int .i64 0, .bool false, .bool false, .bool false] 25)).alloc (.cells #[.int .i64 u, .string d, .int .i64 (wrap64 (t + x.size)), .bool f, .bool true, .bool h] 25)) (w.heap.size + 1 + 1 + 1) [.int .i64 u, .string d, .int .i64 (wrap64 (t + x.size)), .bool f, .bool true, .bool h] by have h0 := Blk.new (((w.alloc (.cells #[.int .i64 u, .string d, .int .i64 t, .bool f, .bool true, .bool h] 25)).alloc (.cells #[.int .i64 q, .string x, .bool b] 35)).alloc (.cells #[.int .i64 0, .string ⟨#[]⟩, .int .i64 0, .bool false, .bool false, .bool false] 25)) [.int .i64 u, .string d, .int .i64 (wrap64 (t + x.size)), .bool f, .bool true, .bool h] 25; rwa [s3] at h0)
      have n_s_o : w.heap.size ≠ w.heap.size + 1 + 1 + 1 := by omega
      have n_c_o : w.heap.size + 1 ≠ w.heap.size + 1 + 1 + 1 := by omega
      have n_r_o : w.heap.size + 1 + 1 ≠ w.heap.size + 1 + 1 + 1 := by omega
      clear s1 s2 s3
      go_wp2_with fail
      change Calls _ _ _ ((((w.alloc (.cells #[.int .i64 u, .string d, .int .i64 t, .bool f, .bool true, .bool h] 25)).alloc (.cells #[.int .i64 q, .string x, .bool b] 35)).alloc (.cells #[.int .i64 0, .string ⟨#[]⟩, .int .i64 0, .bool false, .bool false, .bool false] 25)).alloc (.cells #[.int .i64 u, .string d, .int .i64 (wrap64 (t + x.size)), .bool f, .bool true, .bool h] 25)) _
      generalize (((w.alloc (.cells #[.int .i64 u, .string d, .int .i64 t, .bool f, .bool true, .bool h] 25)).alloc (.cells #[.int .i64 q, .string x, .bool b] 35)).alloc (.cells #[.int .i64 0, .string ⟨#[]⟩, .int .i64 0, .bool false, .bool false, .bool false] 25)).alloc (.cells #[.int .i64 u, .string d, .int .i64 (wrap64 (t + x.size)), .bool f, .bool true, .bool h] 25) = v0 at B0 Ks0 Kc0 Kr0 Ko0 ⊢
      generalize hh_o : w.heap.size + 1 + 1 + 1 = g_o at Ko0 n_s_o n_c_o n_r_o ⊢
      generalize hh_r : w.heap.size + 1 + 1 = g_r at Kr0 n_s_r n_c_r n_r_o ⊢
      generalize hh_c : w.heap.size + 1 = g_c at Kc0 n_s_c n_c_r n_c_o ⊢
      generalize hh_s : w.heap.size = g_s at Ks0 n_s_c n_s_r n_s_o ⊢
      have l_s : w.heap.size ≤ g_s := by omega
      have l_c : w.heap.size ≤ g_c := by omega
      have l_r : w.heap.size ≤ g_r := by omega
      have l_o : w.heap.size ≤ g_o := by omega
      clear hh_s hh_c hh_r hh_o
      refine (OK.out _).mono ?_
      rintro e v1 ⟨rfl, hb⟩
      have B1 := Lib.hid (B0.out.trans (hb.mono B0.out.size))
      have Ks1 := Lib.hid (Ks0.out.below hb)
      have Kc1 := Lib.hid (Kc0.out.below hb)
      have Kr1 := Lib.hid (Kr0.out.below hb)
      have Ko1 := Lib.hid (Ko0.out.below hb)
      clear hb B0 Ks0 Kc0 Kr0 Ko0
      obtain ⟨⟨cs0, cs1, cs2, cs3, cs4, cs5⟩, ds0, ds1, ds2, ds3, ds4, ds5⟩ := Ks1.out.of6
      obtain ⟨⟨cc0, cc1, cc2⟩, dc0, dc1, dc2⟩ := Kc1.out.o3
      obtain ⟨⟨cr0, cr1, cr2, cr3, cr4, cr5⟩, dr0, dr1, dr2, dr3, dr4, dr5⟩ := Kr1.out.of6
      obtain ⟨⟨co0, co1, co2, co3, co4, co5⟩, do0, do1, do2, do3, do4, do5⟩ := Ko1.out.of6
      go_wp2_with fail
      exact bodyPost_ret (v := .agg #[.int .i64 u, .string d, .int .i64 t, .bool f, .bool true, .bool h]) (by simp [results, Try.results24, go_sem, cr0, cr1, cr2, cr3, cr4, cr5]) rfl ⟨rfl, ((((((B1.out.setCell l_r (.int .i64 u)).setCell l_r (.string d)).setCell l_r (.int .i64 t)).setCell l_r (.bool f)).setCell l_r (.bool true)).setCell l_r (.bool h))⟩
    | false =>
      replace OK := Lib.hid OK
      replace OK2 := Lib.hid OK2
      go_enter Try.func24, Try.ntmps24
      have B0 := Lib.hid (show Below w.heap.size w ((((w.alloc (.cells #[.int .i64 u, .string d, .int .i64 t, .bool f, .bool false, .bool h] 25)).alloc (.cells #[.int .i64 q, .string x, .bool b] 35)).alloc (.cells #[.int .i64 0, .string ⟨#[]⟩, .int .i64 0, .bool false, .bool false, .bool false] 25)).alloc (.cells #[.int .i64 u, .string d, .int .i64 (wrap64 (t + x.size)), .bool f, .bool b, .bool h] 25)) from (((((Below.refl _ w).alloc (by simp) _).alloc (by simp) _).alloc (by simp; omega) _).alloc (by simp; omega) _))
      have Ks0 := Lib.hid (show Blk ((((w.alloc (.cells #[.int .i64 u, .string d, .int .i64 t, .bool f, .bool false, .bool h] 25)).alloc (.cells #[.int .i64 q, .string x, .bool b] 35)).alloc (.cells #[.int .i64 0, .string ⟨#[]⟩, .int .i64 0, .bool false, .bool false, .bool false] 25)).alloc (.cells #[.int .i64 u, .string d, .int .i64 (wrap64 (t + x.size)), .bool f, .bool b, .bool h] 25)) (w.heap.size) [.int .i64 u, .string d, .int .i64 t, .bool f, .bool false, .bool h] from (((Blk.new w [.int .i64 u, .string d, .int .i64 t, .bool f, .bool false, .bool h] 25).alloc (.cells #[.int .i64 q, .string x, .bool b] 35)).alloc (.cells #[.int .i64 0, .string ⟨#[]⟩, .int .i64 0, .bool false, .bool false, .bool false] 25)).alloc (.cells #[.int .i64 u, .string d, .int .i64 (wrap64 (t + x.size)), .bool f, .bool b, .bool h] 25))
      have s1 : (w.alloc (.cells #[.int .i64 u, .string d, .int .i64 t, .bool f, .bool false, .bool h] 25)).heap.size = w.heap.size + 1 := by simp
      have Kc0 := Lib.hid (show Blk ((((w.alloc (.cells #[.int .i64 u, .string d, .int .i64 t, .bool f, .bool false, .bool h] 25)).alloc (.cells #[.int .i64 q, .string x, .bool b] 35)).alloc (.cells #[.int .i64 0, .string ⟨#[]⟩, .int .i64 0, .bool false, .bool false, .bool false] 25)).alloc (.cells #[.int .i64 u, .string d, .int .i64 (wrap64 (t + x.size)), .bool f, .bool b, .bool h] 25)) (w.heap.size + 1) [.int .i64 q, .string x, .bool b] by have h0 := ((Blk.new (w.alloc (.cells #[.int .i64 u, .string d, .int .i64 t, .bool f, .bool false, .bool h] 25)) [.int .i64 q, .string x, .bool b] 35).alloc (.cells #[.int .i64 0, .string ⟨#[]⟩, .int .i64 0, .bool false, .bool false, .bool false] 25)).alloc (.cells #[.int .i64 u, .string d, .int .i64 (wrap64 (t + x.size)), .bool f, .bool b, .bool h] 25); rwa [s1] at h0)
      have n_s_c : w.heap.size ≠ w.heap.size + 1 := by omega
      have s2 : ((w.alloc (.cells #[.int .i64 u, .string d, .int .i64 t, .bool f, .bool false, .bool h] 25)).alloc (.cells #[.int .i64 q, .string x, .bool b] 35)).heap.size = w.heap.size + 1 + 1 := by simp
      have Kr0 := Lib.hid (show Blk ((((w.alloc (.cells #[.int .i64 u, .string d, .int .i64 t, .bool f, .bool false, .bool h] 25)).alloc (.cells #[.int .i64 q, .string x, .bool b] 35)).alloc (.cells #[.int .i64 0, .string ⟨#[]⟩, .int .i64 0, .bool false, .bool false, .bool false] 25)).alloc (.cells #[.int .i64 u, .string d, .int .i64 (wrap64 (t + x.size)), .bool f, .bool b, .bool h] 25)) (w.heap.size + 1 + 1) [.int .i64 0, .string ⟨#[]⟩, .int .i64 0, .bool false, .bool false, .bool false] by have h0 := (Blk.new ((w.alloc (.cells #[.int .i64 u, .string d, .int .i64 t, .bool f, .bool false, .bool h] 25)).alloc (.cells #[.int .i64 q, .string x, .bool b] 35)) [.int .i64 0, .string ⟨#[]⟩, .int .i64 0, .bool false, .bool false, .bool false] 25).alloc (.cells #[.int .i64 u, .string d, .int .i64 (wrap64 (t + x.size)), .bool f, .bool b, .bool h] 25); rwa [s2] at h0)
      have n_s_r : w.heap.size ≠ w.heap.size + 1 + 1 := by omega
      have n_c_r : w.heap.size + 1 ≠ w.heap.size + 1 + 1 := by omega
      have s3 : (((w.alloc (.cells #[.int .i64 u, .string d, .int .i64 t, .bool f, .bool false, .bool h] 25)).alloc (.cells #[.int .i64 q, .string x, .bool b] 35)).alloc (.cells #[.int .i64 0, .string ⟨#[]⟩, .int .i64 0, .bool false, .bool false, .bool false] 25)).heap.size = w.heap.size + 1 + 1 + 1 := by simp
      have Ko0 := Lib.hid (show Blk ((((w.alloc (.cells #[.int .i64 u, .string d, .int .i64 t, .bool f, .bool false, .bool h] 25)).alloc (.cells #[.int .i64 q, .string x, .bool b] 35)).alloc (.cells #[.int .i64 0, .string ⟨#[]⟩, .int .i64 0, .bool false, .bool false, .bool false] 25)).alloc (.cells #[.int .i64 u, .string d, .int .i64 (wrap64 (t + x.size)), .bool f, .bool b, .bool h] 25)) (w.heap.size + 1 + 1 + 1) [.int .i64 u, .string d, .int .i64 (wrap64 (t + x.size)), .bool f, .bool b, .bool h] by have h0 := Blk.new (((w.alloc (.cells #[.int .i64 u, .string d, .int .i64 t, .bool f, .bool false, .bool h] 25)).alloc (.cells #[.int .i64 q, .string x, .bool b] 35)).alloc (.cells #[.int .i64 0, .string ⟨#[]⟩, .int .i64 0, .bool false, .bool false, .bool false] 25)) [.int .i64 u, .string d, .int .i64 (wrap64 (t + x.size)), .bool f, .bool b, .bool h] 25; rwa [s3] at h0)
      have n_s_o : w.heap.size ≠ w.heap.size + 1 + 1 + 1 := by omega
      have n_c_o : w.heap.size + 1 ≠ w.heap.size + 1 + 1 + 1 := by omega
      have n_r_o : w.heap.size + 1 + 1 ≠ w.heap.size + 1 + 1 + 1 := by omega
      clear s1 s2 s3
      go_wp2_with fail
      change Calls _ _ _ ((((w.alloc (.cells #[.int .i64 u, .string d, .int .i64 t, .bool f, .bool false, .bool h] 25)).alloc (.cells #[.int .i64 q, .string x, .bool b] 35)).alloc (.cells #[.int .i64 0, .string ⟨#[]⟩, .int .i64 0, .bool false, .bool false, .bool false] 25)).alloc (.cells #[.int .i64 u, .string d, .int .i64 (wrap64 (t + x.size)), .bool f, .bool b, .bool h] 25)) _
      generalize (((w.alloc (.cells #[.int .i64 u, .string d, .int .i64 t, .bool f, .bool false, .bool h] 25)).alloc (.cells #[.int .i64 q, .string x, .bool b] 35)).alloc (.cells #[.int .i64 0, .string ⟨#[]⟩, .int .i64 0, .bool false, .bool false, .bool false] 25)).alloc (.cells #[.int .i64 u, .string d, .int .i64 (wrap64 (t + x.size)), .bool f, .bool b, .bool h] 25) = v0 at B0 Ks0 Kc0 Kr0 Ko0 ⊢
      generalize hh_o : w.heap.size + 1 + 1 + 1 = g_o at Ko0 n_s_o n_c_o n_r_o ⊢
      generalize hh_r : w.heap.size + 1 + 1 = g_r at Kr0 n_s_r n_c_r n_r_o ⊢
      generalize hh_c : w.heap.size + 1 = g_c at Kc0 n_s_c n_c_r n_c_o ⊢
      generalize hh_s : w.heap.size = g_s at Ks0 n_s_c n_s_r n_s_o ⊢
      have l_s : w.heap.size ≤ g_s := by omega
      have l_c : w.heap.size ≤ g_c := by omega
      have l_r : w.heap.size ≤ g_r := by omega
      have l_o : w.heap.size ≤ g_o := by omega
      clear hh_s hh_c hh_r hh_o
      refine (OK.out _).mono ?_
      rintro e v1 ⟨rfl, hb⟩
      have B1 := Lib.hid (B0.out.trans (hb.mono B0.out.size))
      have Ks1 := Lib.hid (Ks0.out.below hb)
      have Kc1 := Lib.hid (Kc0.out.below hb)
      have Kr1 := Lib.hid (Kr0.out.below hb)
      have Ko1 := Lib.hid (Ko0.out.below hb)
      clear hb B0 Ks0 Kc0 Kr0 Ko0
      obtain ⟨⟨cs0, cs1, cs2, cs3, cs4, cs5⟩, ds0, ds1, ds2, ds3, ds4, ds5⟩ := Ks1.out.of6
      obtain ⟨⟨cc0, cc1, cc2⟩, dc0, dc1, dc2⟩ := Kc1.out.o3
      obtain ⟨⟨cr0, cr1, cr2, cr3, cr4, cr5⟩, dr0, dr1, dr2, dr3, dr4, dr5⟩ := Kr1.out.of6
      obtain ⟨⟨co0, co1, co2, co3, co4, co5⟩, do0, do1, do2, do3, do4, do5⟩ := Ko1.out.of6
      go_wp2_with fail
      exact bodyPost_ret (v := .agg #[.int .i64 u, .string d, .int .i64 t, .bool f, .bool false, .bool h]) (by simp [results, Try.results24, go_sem, cr0, cr1, cr2, cr3, cr4, cr5]) rfl ⟨rfl, ((((((B1.out.setCell l_r (.int .i64 u)).setCell l_r (.string d)).setCell l_r (.int .i64 t)).setCell l_r (.bool f)).setCell l_r (.bool false)).setCell l_r (.bool h))⟩
  | true =>
    rw [hok] at OK
    cases hok2 : sndOk ⟨u, d, wrap64 (t + x.size), f, g || b, h⟩ with
    | false =>
      rw [hok2] at OK2
      rw [off_no (s := ⟨u, d, t, f, g, h⟩) (c := ⟨q, x, b⟩) (by rw [hok]; exact hok2)]
      simp only [Snd.cs]
      clear hok hok2
      cases g with
      | true =>
        rw [Bool.true_or] at OK2
        replace OK := Lib.hid OK
        replace OK2 := Lib.hid OK2
        go_enter Try.func24, Try.ntmps24
        have B0 := Lib.hid (show Below w.heap.size w ((((w.alloc (.cells #[.int .i64 u, .string d, .int .i64 t, .bool f, .bool true, .bool h] 25)).alloc (.cells #[.int .i64 q, .string x, .bool b] 35)).alloc (.cells #[.int .i64 0, .string ⟨#[]⟩, .int .i64 0, .bool false, .bool false, .bool false] 25)).alloc (.cells #[.int .i64 u, .string d, .int .i64 (wrap64 (t + x.size)), .bool f, .bool true, .bool h] 25)) from (((((Below.refl _ w).alloc (by simp) _).alloc (by simp) _).alloc (by simp; omega) _).alloc (by simp; omega) _))
        have Ks0 := Lib.hid (show Blk ((((w.alloc (.cells #[.int .i64 u, .string d, .int .i64 t, .bool f, .bool true, .bool h] 25)).alloc (.cells #[.int .i64 q, .string x, .bool b] 35)).alloc (.cells #[.int .i64 0, .string ⟨#[]⟩, .int .i64 0, .bool false, .bool false, .bool false] 25)).alloc (.cells #[.int .i64 u, .string d, .int .i64 (wrap64 (t + x.size)), .bool f, .bool true, .bool h] 25)) (w.heap.size) [.int .i64 u, .string d, .int .i64 t, .bool f, .bool true, .bool h] from (((Blk.new w [.int .i64 u, .string d, .int .i64 t, .bool f, .bool true, .bool h] 25).alloc (.cells #[.int .i64 q, .string x, .bool b] 35)).alloc (.cells #[.int .i64 0, .string ⟨#[]⟩, .int .i64 0, .bool false, .bool false, .bool false] 25)).alloc (.cells #[.int .i64 u, .string d, .int .i64 (wrap64 (t + x.size)), .bool f, .bool true, .bool h] 25))
        have s1 : (w.alloc (.cells #[.int .i64 u, .string d, .int .i64 t, .bool f, .bool true, .bool h] 25)).heap.size = w.heap.size + 1 := by simp
        have Kc0 := Lib.hid (show Blk ((((w.alloc (.cells #[.int .i64 u, .string d, .int .i64 t, .bool f, .bool true, .bool h] 25)).alloc (.cells #[.int .i64 q, .string x, .bool b] 35)).alloc (.cells #[.int .i64 0, .string ⟨#[]⟩, .int .i64 0, .bool false, .bool false, .bool false] 25)).alloc (.cells #[.int .i64 u, .string d, .int .i64 (wrap64 (t + x.size)), .bool f, .bool true, .bool h] 25)) (w.heap.size + 1) [.int .i64 q, .string x, .bool b] by have h0 := ((Blk.new (w.alloc (.cells #[.int .i64 u, .string d, .int .i64 t, .bool f, .bool true, .bool h] 25)) [.int .i64 q, .string x, .bool b] 35).alloc (.cells #[.int .i64 0, .string ⟨#[]⟩, .int .i64 0, .bool false, .bool false, .bool false] 25)).alloc (.cells #[.int .i64 u, .string d, .int .i64 (wrap64 (t + x.size)), .bool f, .bool true, .bool h] 25); rwa [s1] at h0)
        have n_s_c : w.heap.size ≠ w.heap.size + 1 := by omega
        have s2 : ((w.alloc (.cells #[.int .i64 u, .string d, .int .i64 t, .bool f, .bool true, .bool h] 25)).alloc (.cells #[.int .i64 q, .string x, .bool b] 35)).heap.size = w.heap.size + 1 + 1 := by simp
        have Kr0 := Lib.hid (show Blk ((((w.alloc (.cells #[.int .i64 u, .string d, .int .i64 t, .bool f, .bool true, .bool h] 25)).alloc (.cells #[.int .i64 q, .string x, .bool b] 35)).alloc (.cells #[.int .i64 0, .string ⟨#[]⟩, .int .i64 0, .bool false, .bool false, .bool false] 25)).alloc (.cells #[.int .i64 u, .string d, .int .i64 (wrap64 (t + x.size)), .bool f, .bool true, .bool h] 25)) (w.heap.size + 1 + 1) [.int .i64 0, .string ⟨#[]⟩, .int .i64 0, .bool false, .bool false, .bool false] by have h0 := (Blk.new ((w.alloc (.cells #[.int .i64 u, .string d, .int .i64 t, .bool f, .bool true, .bool h] 25)).alloc (.cells #[.int .i64 q, .string x, .bool b] 35)) [.int .i64 0, .string ⟨#[]⟩, .int .i64 0, .bool false, .bool false, .bool false] 25).alloc (.cells #[.int .i64 u, .string d, .int .i64 (wrap64 (t + x.size)), .bool f, .bool true, .bool h] 25); rwa [s2] at h0)
        have n_s_r : w.heap.size ≠ w.heap.size + 1 + 1 := by omega
        have n_c_r : w.heap.size + 1 ≠ w.heap.size + 1 + 1 := by omega
        have s3 : (((w.alloc (.cells #[.int .i64 u, .string d, .int .i64 t, .bool f, .bool true, .bool h] 25)).alloc (.cells #[.int .i64 q, .string x, .bool b] 35)).alloc (.cells #[.int .i64 0, .string ⟨#[]⟩, .int .i64 0, .bool false, .bool false, .bool false] 25)).heap.size = w.heap.size + 1 + 1 + 1 := by simp
        have Ko0 := Lib.hid (show Blk ((((w.alloc (.cells #[.int .i64 u, .string d, .int .i64 t, .bool f, .bool true, .bool h] 25)).alloc (.cells #[.int .i64 q, .string x, .bool b] 35)).alloc (.cells #[.int .i64 0, .string ⟨#[]⟩, .int .i64 0, .bool false, .bool false, .bool false] 25)).alloc (.cells #[.int .i64 u, .string d, .int .i64 (wrap64 (t + x.size)), .bool f, .bool true, .bool h] 25)) (w.heap.size + 1 + 1 + 1) [.int .i64 u, .string d, .int .i64 (wrap64 (t + x.size)), .bool f, .bool true, .bool h] by have h0 := Blk.new (((w.alloc (.cells #[.int .i64 u, .string d, .int .i64 t, .bool f, .bool true, .bool h] 25)).alloc (.cells #[.int .i64 q, .string x, .bool b] 35)).alloc (.cells #[.int .i64 0, .string ⟨#[]⟩, .int .i64 0, .bool false, .bool false, .bool false] 25)) [.int .i64 u, .string d, .int .i64 (wrap64 (t + x.size)), .bool f, .bool true, .bool h] 25; rwa [s3] at h0)
        have n_s_o : w.heap.size ≠ w.heap.size + 1 + 1 + 1 := by omega
        have n_c_o : w.heap.size + 1 ≠ w.heap.size + 1 + 1 + 1 := by omega
        have n_r_o : w.heap.size + 1 + 1 ≠ w.heap.size + 1 + 1 + 1 := by omega
        clear s1 s2 s3
        go_wp2_with fail
        change Calls _ _ _ ((((w.alloc (.cells #[.int .i64 u, .string d, .int .i64 t, .bool f, .bool true, .bool h] 25)).alloc (.cells #[.int .i64 q, .string x, .bool b] 35)).alloc (.cells #[.int .i64 0, .string ⟨#[]⟩, .int .i64 0, .bool false, .bool false, .bool false] 25)).alloc (.cells #[.int .i64 u, .string d, .int .i64 (wrap64 (t + x.size)), .bool f, .bool true, .bool h] 25)) _
        generalize (((w.alloc (.cells #[.int .i64 u, .string d, .int .i64 t, .bool f, .bool true, .bool h] 25)).alloc (.cells #[.int .i64 q, .string x, .bool b] 35)).alloc (.cells #[.int .i64 0, .string ⟨#[]⟩, .int .i64 0, .bool false, .bool false, .bool false] 25)).alloc (.cells #[.int .i64 u, .string d, .int .i64 (wrap64 (t + x.size)), .bool f, .bool true, .bool h] 25) = v0 at B0 Ks0 Kc0 Kr0 Ko0 ⊢
        generalize hh_o : w.heap.size + 1 + 1 + 1 = g_o at Ko0 n_s_o n_c_o n_r_o ⊢
        generalize hh_r : w.heap.size + 1 + 1 = g_r at Kr0 n_s_r n_c_r n_r_o ⊢
        generalize hh_c : w.heap.size + 1 = g_c at Kc0 n_s_c n_c_r n_c_o ⊢
        generalize hh_s : w.heap.size = g_s at Ks0 n_s_c n_s_r n_s_o ⊢
        have l_s : w.heap.size ≤ g_s := by omega
        have l_c : w.heap.size ≤ g_c := by omega
        have l_r : w.heap.size ≤ g_r := by omega
        have l_o : w.heap.size ≤ g_o := by omega
        clear hh_s hh_c hh_r hh_o
        refine (OK.out _).mono ?_
        rintro e v1 ⟨rfl, hb⟩
        have B1 := Lib.hid (B0.out.trans (hb.mono B0.out.size))
        have Ks1 := Lib.hid (Ks0.out.below hb)
        have Kc1 := Lib.hid (Kc0.out.below hb)
        have Kr1 := Lib.hid (Kr0.out.below hb)
        have Ko1 := Lib.hid (Ko0.out.below hb)
        clear hb B0 Ks0 Kc0 Kr0 Ko0
        obtain ⟨⟨cs0, cs1, cs2, cs3, cs4, cs5⟩, ds0, ds1, ds2, ds3, ds4, ds5⟩ := Ks1.out.of6
        obtain ⟨⟨cc0, cc1, cc2⟩, dc0, dc1, dc2⟩ := Kc1.out.o3
        obtain ⟨⟨cr0, cr1, cr2, cr3, cr4, cr5⟩, dr0, dr1, dr2, dr3, dr4, dr5⟩ := Kr1.out.of6
        obtain ⟨⟨co0, co1, co2, co3, co4, co5⟩, do0, do1, do2, do3, do4, do5⟩ := Ko1.out.of6
        go_wp2_with fail
        clear cs0 cs1 cs2 cs3 cs4 cs5 ds0 ds1 ds2 ds3 ds4 ds5 cc0 cc1 cc2 dc0 dc1 dc2 cr0 cr1 cr2 cr3 cr4 cr5 dr0 dr1 dr2 dr3 dr4 dr5 co0 co1 co2 co3 co4 co5 do0 do1 do2 do3 do4 do5
        refine (OK2.out _).mono ?_
        rintro e v2 ⟨rfl, hb⟩
        have B2 := Lib.hid (B1.out.trans (hb.mono B1.out.size))
        have Ks2 := Lib.hid (Ks1.out.below hb)
        have Kc2 := Lib.hid (Kc1.out.below hb)
        have Kr2 := Lib.hid (Kr1.out.below hb)
        have Ko2 := Lib.hid (Ko1.out.below hb)
        clear hb B1 Ks1 Kc1 Kr1 Ko1
        obtain ⟨⟨cs0, cs1, cs2, cs3, cs4, cs5⟩, ds0, ds1, ds2, ds3, ds4, ds5⟩ := Ks2.out.of6
        obtain ⟨⟨cc0, cc1, cc2⟩, dc0, dc1, dc2⟩ := Kc2.out.o3
        obtain ⟨⟨cr0, cr1, cr2, cr3, cr4, cr5⟩, dr0, dr1, dr2, dr3, dr4, dr5⟩ := Kr2.out.of6
        obtain ⟨⟨co0, co1, co2, co3, co4, co5⟩, do0, do1, do2, do3, do4, do5⟩ := Ko2.out.of6
        go_wp2_with fail
        exact bodyPost_ret (v := .agg #[.int .i64 u, .string d, .int .i64 t, .bool f, .bool true, .bool h]) (by simp [results, Try.results24, go_sem, cr0, cr1, cr2, cr3, cr4, cr5]) rfl ⟨rfl, ((((((B2.out.setCell l_r (.int .i64 u)).setCell l_r (.string d)).setCell l_r (.int .i64 t)).setCell l_r (.bool f)).setCell l_r (.bool true)).setCell l_r (.bool h))⟩
      | false =>
        rw [Bool.false_or] at OK2
        replace OK := Lib.hid OK
        replace OK2 := Lib.hid OK2
        go_enter Try.func24, Try.ntmps24
        have B0 := Lib.hid (show Below w.heap.size w ((((w.alloc (.cells #[.int .i64 u, .string d, .int .i64 t, .bool f, .bool false, .bool h] 25)).alloc (.cells #[.int .i64 q, .string x, .bool b] 35)).alloc (.cells #[.int .i64 0, .string ⟨#[]⟩, .int .i64 0, .bool false, .bool false, .bool false] 25)).alloc (.cells #[.int .i64 u, .string d, .int .i64 (wrap64 (t + x.size)), .bool f, .bool b, .bool h] 25)) from (((((Below.refl _ w).alloc (by simp) _).alloc (by simp) _).alloc (by simp; omega) _).alloc (by simp; omega) _))
        have Ks0 := Lib.hid (show Blk ((((w.alloc (.cells #[.int .i64 u, .string d, .int .i64 t, .bool f, .bool false, .bool h] 25)).alloc (.cells #[.int .i64 q, .string x, .bool b] 35)).alloc (.cells #[.int .i64 0, .string ⟨#[]⟩, .int .i64 0, .bool false, .bool false, .bool false] 25)).alloc (.cells #[.int .i64 u, .string d, .int .i64 (wrap64 (t + x.size)), .bool f, .bool b, .bool h] 25)) (w.heap.size) [.int .i64 u, .string d, .int .i64 t, .bool f, .bool false, .bool h] from (((Blk.new w [.int .i64 u, .string d, .int .i64 t, .bool f, .bool false, .bool h] 25).alloc (.cells #[.int .i64 q, .string x, .bool b] 35)).alloc (.cells #[.int .i64 0, .string ⟨#[]⟩, .int .i64 0, .bool false, .bool false, .bool false] 25)).alloc (.cells #[.int .i64 u, .string d, .int .i64 (wrap64 (t + x.size)), .bool f, .bool b, .bool h] 25))
        have s1 : (w.alloc (.cells #[.int .i64 u, .string d, .int .i64 t, .bool f, .bool false, .bool h] 25)).heap.size = w.heap.size + 1 := by simp
        have Kc0 := Lib.hid (show Blk ((((w.alloc (.cells #[.int .i64 u, .string d, .int .i64 t, .bool f, .bool false, .bool h] 25)).alloc (.cells #[.int .i64 q, .string x, .bool b] 35)).alloc (.cells #[.int .i64 0, .string ⟨#[]⟩, .int .i64 0, .bool false, .bool false, .bool false] 25)).alloc (.cells #[.int .i64 u, .string d, .int .i64 (wrap64 (t + x.size)), .bool f, .bool b, .bool h] 25)) (w.heap.size + 1) [.int .i64 q, .string x, .bool b] by have h0 := ((Blk.new (w.alloc (.cells #[.int .i64 u, .string d, .int .i64 t, .bool f, .bool false, .bool h] 25)) [.int .i64 q, .string x, .bool b] 35).alloc (.cells #[.int .i64 0, .string ⟨#[]⟩, .int .i64 0, .bool false, .bool false, .bool false] 25)).alloc (.cells #[.int .i64 u, .string d, .int .i64 (wrap64 (t + x.size)), .bool f, .bool b, .bool h] 25); rwa [s1] at h0)
        have n_s_c : w.heap.size ≠ w.heap.size + 1 := by omega
        have s2 : ((w.alloc (.cells #[.int .i64 u, .string d, .int .i64 t, .bool f, .bool false, .bool h] 25)).alloc (.cells #[.int .i64 q, .string x, .bool b] 35)).heap.size = w.heap.size + 1 + 1 := by simp
        have Kr0 := Lib.hid (show Blk ((((w.alloc (.cells #[.int .i64 u, .string d, .int .i64 t, .bool f, .bool false, .bool h] 25)).alloc (.cells #[.int .i64 q, .string x, .bool b] 35)).alloc (.cells #[.int .i64 0, .string ⟨#[]⟩, .int .i64 0, .bool false, .bool false, .bool false] 25)).alloc (.cells #[.int .i64 u, .string d, .int .i64 (wrap64 (t + x.size)), .bool f, .bool b, .bool h] 25)) (w.heap.size + 1 + 1) [.int .i64 0, .string ⟨#[]⟩, .int .i64 0, .bool false, .bool false, .bool false] by have h0 := (Blk.new ((w.alloc (.cells #[.int .i64 u, .string d, .int .i64 t, .bool f, .bool false, .bool h] 25)).alloc (.cells #[.int .i64 q, .string x, .bool b] 35)) [.int .i64 0, .string ⟨#[]⟩, .int .i64 0, .bool false, .bool false, .bool false] 25).alloc (.cells #[.int .i64 u, .string d, .int .i64 (wrap64 (t + x.size)), .bool f, .bool b, .bool h] 25); rwa [s2] at h0)
        have n_s_r : w.heap.size ≠ w.heap.size + 1 + 1 := by omega
        have n_c_r : w.heap.size + 1 ≠ w.heap.size + 1 + 1 := by omega
        have s3 : (((w.alloc (.cells #[.int .i64 u, .string d, .int .i64 t, .bool f, .bool false, .bool h] 25)).alloc (.cells #[.int .i64 q, .string x, .bool b] 35)).alloc (.cells #[.int .i64 0, .string ⟨#[]⟩, .int .i64 0, .bool false, .bool false, .bool false] 25)).heap.size = w.heap.size + 1 + 1 + 1 := by simp
        have Ko0 := Lib.hid (show Blk ((((w.alloc (.cells #[.int .i64 u, .string d, .int .i64 t, .bool f, .bool false, .bool h] 25)).alloc (.cells #[.int .i64 q, .string x, .bool b] 35)).alloc (.cells #[.int .i64 0, .string ⟨#[]⟩, .int .i64 0, .bool false, .bool false, .bool false] 25)).alloc (.cells #[.int .i64 u, .string d, .int .i64 (wrap64 (t + x.size)), .bool f, .bool b, .bool h] 25)) (w.heap.size + 1 + 1 + 1) [.int .i64 u, .string d, .int .i64 (wrap64 (t + x.size)), .bool f, .bool b, .bool h] by have h0 := Blk.new (((w.alloc (.cells #[.int .i64 u, .string d, .int .i64 t, .bool f, .bool false, .bool h] 25)).alloc (.cells #[.int .i64 q, .string x, .bool b] 35)).alloc (.cells #[.int .i64 0, .string ⟨#[]⟩, .int .i64 0, .bool false, .bool false, .bool false] 25)) [.int .i64 u, .string d, .int .i64 (wrap64 (t + x.size)), .bool f, .bool b, .bool h] 25; rwa [s3] at h0)
        have n_s_o : w.heap.size ≠ w.heap.size + 1 + 1 + 1 := by omega
        have n_c_o : w.heap.size + 1 ≠ w.heap.size + 1 + 1 + 1 := by omega
        have n_r_o : w.heap.size + 1 + 1 ≠ w.heap.size + 1 + 1 + 1 := by omega
        clear s1 s2 s3
        go_wp2_with fail
        change Calls _ _ _ ((((w.alloc (.cells #[.int .i64 u, .string d, .int .i64 t, .bool f, .bool false, .bool h] 25)).alloc (.cells #[.int .i64 q, .string x, .bool b] 35)).alloc (.cells #[.int .i64 0, .string ⟨#[]⟩, .int .i64 0, .bool false, .bool false, .bool false] 25)).alloc (.cells #[.int .i64 u, .string d, .int .i64 (wrap64 (t + x.size)), .bool f, .bool b, .bool h] 25)) _
        generalize (((w.alloc (.cells #[.int .i64 u, .string d, .int .i64 t, .bool f, .bool false, .bool h] 25)).alloc (.cells #[.int .i64 q, .string x, .bool b] 35)).alloc (.cells #[.int .i64 0, .string ⟨#[]⟩, .int .i64 0, .bool false, .bool false, .bool false] 25)).alloc (.cells #[.int .i64 u, .string d, .int .i64 (wrap64 (t + x.size)), .bool f, .bool b, .bool h] 25) = v0 at B0 Ks0 Kc0 Kr0 Ko0 ⊢
        generalize hh_o : w.heap.size + 1 + 1 + 1 = g_o at Ko0 n_s_o n_c_o n_r_o ⊢
        generalize hh_r : w.heap.size + 1 + 1 = g_r at Kr0 n_s_r n_c_r n_r_o ⊢
        generalize hh_c : w.heap.size + 1 = g_c at Kc0 n_s_c n_c_r n_c_o ⊢
        generalize hh_s : w.heap.size = g_s at Ks0 n_s_c n_s_r n_s_o ⊢
        have l_s : w.heap.size ≤ g_s := by omega
        have l_c : w.heap.size ≤ g_c := by omega
        have l_r : w.heap.size ≤ g_r := by omega
        have l_o : w.heap.size ≤ g_o := by omega
        clear hh_s hh_c hh_r hh_o
        refine (OK.out _).mono ?_
        rintro e v1 ⟨rfl, hb⟩
        have B1 := Lib.hid (B0.out.trans (hb.mono B0.out.size))
        have Ks1 := Lib.hid (Ks0.out.below hb)
        have Kc1 := Lib.hid (Kc0.out.below hb)
        have Kr1 := Lib.hid (Kr0.out.below hb)
        have Ko1 := Lib.hid (Ko0.out.below hb)
        clear hb B0 Ks0 Kc0 Kr0 Ko0
        obtain ⟨⟨cs0, cs1, cs2, cs3, cs4, cs5⟩, ds0, ds1, ds2, ds3, ds4, ds5⟩ := Ks1.out.of6
        obtain ⟨⟨cc0, cc1, cc2⟩, dc0, dc1, dc2⟩ := Kc1.out.o3
        obtain ⟨⟨cr0, cr1, cr2, cr3, cr4, cr5⟩, dr0, dr1, dr2, dr3, dr4, dr5⟩ := Kr1.out.of6
        obtain ⟨⟨co0, co1, co2, co3, co4, co5⟩, do0, do1, do2, do3, do4, do5⟩ := Ko1.out.of6
        go_wp2_with fail
        clear cs0 cs1 cs2 cs3 cs4 cs5 ds0 ds1 ds2 ds3 ds4 ds5 cc0 cc1 cc2 dc0 dc1 dc2 cr0 cr1 cr2 cr3 cr4 cr5 dr0 dr1 dr2 dr3 dr4 dr5 co0 co1 co2 co3 co4 co5 do0 do1 do2 do3 do4 do5
        refine (OK2.out _).mono ?_
        rintro e v2 ⟨rfl, hb⟩
        have B2 := Lib.hid (B1.out.trans (hb.mono B1.out.size))
        have Ks2 := Lib.hid (Ks1.out.below hb)
        have Kc2 := Lib.hid (Kc1.out.below hb)
        have Kr2 := Lib.hid (Kr1.out.below hb)
        have Ko2 := Lib.hid (Ko1.out.below hb)
        clear hb B1 Ks1 Kc1 Kr1 Ko1
        obtain ⟨⟨cs0, cs1, cs2, cs3, cs4, cs5⟩, ds0, ds1, ds2, ds3, ds4, ds5⟩ := Ks2.out.of6
        obtain ⟨⟨cc0, cc1, cc2⟩, dc0, dc1, dc2⟩ := Kc2.out.o3
        obtain ⟨⟨cr0, cr1, cr2, cr3, cr4, cr5⟩, dr0, dr1, dr2, dr3, dr4, dr5⟩ := Kr2.out.of6
        obtain ⟨⟨co0, co1, co2, co3, co4, co5⟩, do0, do1, do2, do3, do4, do5⟩ := Ko2.out.of6
        go_wp2_with fail
        exact bodyPost_ret (v := .agg #[.int .i64 u, .string d, .int .i64 t, .bool f, .bool false, .bool h]) (by simp [results, Try.results24, go_sem, cr0, cr1, cr2, cr3, cr4, cr5]) rfl ⟨rfl, ((((((B2.out.setCell l_r (.int .i64 u)).setCell l_r (.string d)).setCell l_r (.int .i64 t)).setCell l_r (.bool f)).setCell l_r (.bool false)).setCell l_r (.bool h))⟩
    | true =>
      rw [hok2] at OK2
      rw [off_yes (s := ⟨u, d, t, f, g, h⟩) (c := ⟨q, x, b⟩) (by rw [hok]; exact hok2)]
      unfold offS
      simp only [Snd.cs]
      clear hok hok2
      cases g with
      | true =>
        rw [Bool.true_or] at OK2
        replace OK := Lib.hid OK
        replace OK2 := Lib.hid OK2
        go_enter Try.func24, Try.ntmps24
        have B0 := Lib.hid (show Below w.heap.size w ((((w.alloc (.cells #[.int .i64 u, .string d, .int .i64 t, .bool f, .bool true, .bool h] 25)).alloc (.cells #[.int .i64 q, .string x, .bool b] 35)).alloc (.cells #[.int .i64 0, .string ⟨#[]⟩, .int .i64 0, .bool false, .bool false, .bool false] 25)).alloc (.cells #[.int .i64 u, .string d, .int .i64 (wrap64 (t + x.size)), .bool f, .bool true, .bool h] 25)) from (((((Below.refl _ w).alloc (by simp) _).alloc (by simp) _).alloc (by simp; omega) _).alloc (by simp; omega) _))
        have Ks0 := Lib.hid (show Blk ((((w.alloc (.cells #[.int .i64 u, .string d, .int .i64 t, .bool f, .bool true, .bool h] 25)).alloc (.cells #[.int .i64 q, .string x, .bool b] 35)).alloc (.cells #[.int .i64 0, .string ⟨#[]⟩, .int .i64 0, .bool false, .bool false, .bool false] 25)).alloc (.cells #[.int .i64 u, .string d, .int .i64 (wrap64 (t + x.size)), .bool f, .bool true, .bool h] 25)) (w.heap.size) [.int .i64 u, .string d, .int .i64 t, .bool f, .bool true, .bool h] from (((Blk.new w [.int .i64 u, .string d, .int .i64 t, .bool f, .bool true, .bool h] 25).alloc (.cells #[.int .i64 q, .string x, .bool b] 35)).alloc (.cells #[.int .i64 0, .string ⟨#[]⟩, .int .i64 0, .bool false, .bool false, .bool false] 25)).alloc (.cells #[.int .i64 u, .string d, .int .i64 (wrap64 (t + x.size)), .bool f, .bool true, .bool h] 25))
        have s1 : (w.alloc (.cells #[.int .i64 u, .string d, .int .i64 t, .bool f, .bool true, .bool h] 25)).heap.size = w.heap.size + 1 := by simp
        have Kc0 := Lib.hid (show Blk ((((w.alloc (.cells #[.int .i64 u, .string d, .int .i64 t, .bool f, .bool true, .bool h] 25)).alloc (.cells #[.int .i64 q, .string x, .bool b] 35)).alloc (.cells #[.int .i64 0, .string ⟨#[]⟩, .int .i64 0, .bool false, .bool false, .bool false] 25)).alloc (.cells #[.int .i64 u, .string d, .int .i64 (wrap64 (t + x.size)), .bool f, .bool true, .bool h] 25)) (w.heap.size + 1) [.int .i64 q, .string x, .bool b] by have h0 := ((Blk.new (w.alloc (.cells #[.int .i64 u, .string d, .int .i64 t, .bool f, .bool true, .bool h] 25)) [.int .i64 q, .string x, .bool b] 35).alloc (.cells #[.int .i64 0, .string ⟨#[]⟩, .int .i64 0, .bool false, .bool false, .bool false] 25)).alloc (.cells #[.int .i64 u, .string d, .int .i64 (wrap64 (t + x.size)), .bool f, .bool true, .bool h] 25); rwa [s1] at h0)
        have n_s_c : w.heap.size ≠ w.heap.size + 1 := by omega
        have s2 : ((w.alloc (.cells #[.int .i64 u, .string d, .int .i64 t, .bool f, .bool true, .bool h] 25)).alloc (.cells #[.int .i64 q, .string x, .bool b] 35)).heap.size = w.heap.size + 1 + 1 := by simp
        have Kr0 := Lib.hid (show Blk ((((w.alloc (.cells #[.int .i64 u, .string d, .int .i64 t, .bool f, .bool true, .bool h] 25)).alloc (.cells #[.int .i64 q, .string x, .bool b] 35)).alloc (.cells #[.int .i64 0, .string ⟨#[]⟩, .int .i64 0, .bool false, .bool false, .bool false] 25)).alloc (.cells #[.int .i64 u, .string d, .int .i64 (wrap64 (t + x.size)), .bool f, .bool true, .bool h] 25)) (w.heap.size + 1 + 1) [.int .i64 0, .string ⟨#[]⟩, .int .i64 0, .bool false, .bool false, .bool false] by have h0 := (Blk.new ((w.alloc (.cells #[.int .i64 u, .string d, .int .i64 t, .bool f, .bool true, .bool h] 25)).alloc (.cells #[.int .i64 q, .string x, .bool b] 35)) [.int .i64 0, .string ⟨#[]⟩, .int .i64 0, .bool false, .bool false, .bool false] 25).alloc (.cells #[.int .i64 u, .string d, .int .i64 (wrap64 (t + x.size)), .bool f, .bool true, .bool h] 25); rwa [s2] at h0)
        have n_s_r : w.heap.size ≠ w.heap.size + 1 + 1 := by omega
        have n_c_r : w.heap.size + 1 ≠ w.heap.size + 1 + 1 := by omega
        have s3 : (((w.alloc (.cells #[.int .i64 u, .string d, .int .i64 t, .bool f, .bool true, .bool h] 25)).alloc (.cells #[.int .i64 q, .string x, .bool b] 35)).alloc (.cells #[.int .i64 0, .string ⟨#[]⟩, .int .i64 0, .bool false, .bool false, .bool false] 25)).heap.size = w.heap.size + 1 + 1 + 1 := by simp
        have Ko0 := Lib.hid (show Blk ((((w.alloc (.cells #[.int .i64 u, .string d, .int .i64 t, .bool f, .bool true, .bool h] 25)).alloc (.cells #[.int .i64 q, .string x, .bool b] 35)).alloc (.cells #[.int .i64 0, .string ⟨#[]⟩, .int .i64 0, .bool false, .bool false, .bool false] 25)).alloc (.cells #[.int .i64 u, .string d, .int .i64 (wrap64 (t + x.size)), .bool f, .bool true, .bool h] 25)) (w.heap.size + 1 + 1 + 1) [.int .i64 u, .string d, .int .i64 (wrap64 (t + x.size)), .bool f, .bool true, .bool h] by have h0 := Blk.new (((w.alloc (.cells #[.int .i64 u, .string d, .int .i64 t, .bool f, .bool true, .bool h] 25)).alloc (.cells #[.int .i64 q, .string x, .bool b] 35)).alloc (.cells #[.int .i64 0, .string ⟨#[]⟩, .int .i64 0, .bool false, .bool false, .bool false] 25)) [.int .i64 u, .string d, .int .i64 (wrap64 (t + x.size)), .bool f, .bool true, .bool h] 25; rwa [s3] at h0)
        have n_s_o : w.heap.size ≠ w.heap.size + 1 + 1 + 1 := by omega
        have n_c_o : w.heap.size + 1 ≠ w.heap.size + 1 + 1 + 1 := by omega
        have n_r_o : w.heap.size + 1 + 1 ≠ w.heap.size + 1 + 1 + 1 := by omega
        clear s1 s2 s3
        go_wp2_with fail
        change Calls _ _ _ ((((w.alloc (.cells #[.int .i64 u, .string d, .int .i64 t, .bool f, .bool true, .bool h] 25)).alloc (.cells #[.int .i64 q, .string x, .bool b] 35)).alloc (.cells #[.int .i64 0, .string ⟨#[]⟩, .int .i64 0, .bool false, .bool false, .bool false] 25)).alloc (.cells #[.int .i64 u, .string d, .int .i64 (wrap64 (t + x.size)), .bool f, .bool true, .bool h] 25)) _
        generalize (((w.alloc (.cells #[.int .i64 u, .string d, .int .i64 t, .bool f, .bool true, .bool h] 25)).alloc (.cells #[.int .i64 q, .string x, .bool b] 35)).alloc (.cells #[.int .i64 0, .string ⟨#[]⟩, .int .i64 0, .bool false, .bool false, .bool false] 25)).alloc (.cells #[.int .i64 u, .string d, .int .i64 (wrap64 (t + x.size)), .bool f, .bool true, .bool h] 25) = v0 at B0 Ks0 Kc0 Kr0 Ko0 ⊢
        generalize hh_o : w.heap.size + 1 + 1 + 1 = g_o at Ko0 n_s_o n_c_o n_r_o ⊢
        generalize hh_r : w.heap.size + 1 + 1 = g_r at Kr0 n_s_r n_c_r n_r_o ⊢
        generalize hh_c : w.heap.size + 1 = g_c at Kc0 n_s_c n_c_r n_c_o ⊢
        generalize hh_s : w.heap.size = g_s at Ks0 n_s_c n_s_r n_s_o ⊢
        have l_s : w.heap.size ≤ g_s := by omega
        have l_c : w.heap.size ≤ g_c := by omega
        have l_r : w.heap.size ≤ g_r := by omega
        have l_o : w.heap.size ≤ g_o := by omega
        clear hh_s hh_c hh_r hh_o
        refine (OK.out _).mono ?_
        rintro e v1 ⟨rfl, hb⟩
        have B1 := Lib.hid (B0.out.trans (hb.mono B0.out.size))
        have Ks1 := Lib.hid (Ks0.out.below hb)
        have Kc1 := Lib.hid (Kc0.out.below hb)
        have Kr1 := Lib.hid (Kr0.out.below hb)
        have Ko1 := Lib.hid (Ko0.out.below hb)
        clear hb B0 Ks0 Kc0 Kr0 Ko0
        obtain ⟨⟨cs0, cs1, cs2, cs3, cs4, cs5⟩, ds0, ds1, ds2, ds3, ds4, ds5⟩ := Ks1.out.of6
        obtain ⟨⟨cc0, cc1, cc2⟩, dc0, dc1, dc2⟩ := Kc1.out.o3
        obtain ⟨⟨cr0, cr1, cr2, cr3, cr4, cr5⟩, dr0, dr1, dr2, dr3, dr4, dr5⟩ := Kr1.out.of6
        obtain ⟨⟨co0, co1, co2, co3, co4, co5⟩, do0, do1, do2, do3, do4, do5⟩ := Ko1.out.of6
        go_wp2_with fail
        clear cs0 cs1 cs2 cs3 cs4 cs5 ds0 ds1 ds2 ds3 ds4 ds5 cc0 cc1 cc2 dc0 dc1 dc2 cr0 cr1 cr2 cr3 cr4 cr5 dr0 dr1 dr2 dr3 dr4 dr5 co0 co1 co2 co3 co4 co5 do0 do1 do2 do3 do4 do5
        refine (OK2.out _).mono ?_
        rintro e v2 ⟨rfl, hb⟩
        have B2 := Lib.hid (B1.out.trans (hb.mono B1.out.size))
        have Ks2 := Lib.hid (Ks1.out.below hb)
        have Kc2 := Lib.hid (Kc1.out.below hb)
        have Kr2 := Lib.hid (Kr1.out.below hb)
        have Ko2 := Lib.hid (Ko1.out.below hb)
        clear hb B1 Ks1 Kc1 Kr1 Ko1
        obtain ⟨⟨cs0, cs1, cs2, cs3, cs4, cs5⟩, ds0, ds1, ds2, ds3, ds4, ds5⟩ := Ks2.out.of6
        obtain ⟨⟨cc0, cc1, cc2⟩, dc0, dc1, dc2⟩ := Kc2.out.o3
        obtain ⟨⟨cr0, cr1, cr2, cr3, cr4, cr5⟩, dr0, dr1, dr2, dr3, dr4, dr5⟩ := Kr2.out.of6
        obtain ⟨⟨co0, co1, co2, co3, co4, co5⟩, do0, do1, do2, do3, do4, do5⟩ := Ko2.out.of6
        go_wp2_with fail
        exact bodyPost_ret (v := .agg #[.int .i64 u, .string d, .int .i64 (wrap64 (t + x.size)), .bool f, .bool true, .bool h]) (by simp [results, Try.results24, go_sem, cr0, cr1, cr2, cr3, cr4, cr5]) rfl ⟨rfl, ((((((B2.out.setCell l_r (.int .i64 u)).setCell l_r (.string d)).setCell l_r (.int .i64 (wrap64 (t + x.size)))).setCell l_r (.bool f)).setCell l_r (.bool true)).setCell l_r (.bool h))⟩
      | false =>
        rw [Bool.false_or] at OK2
        replace OK := Lib.hid OK
        replace OK2 := Lib.hid OK2
        go_enter Try.func24, Try.ntmps24
        have B0 := Lib.hid (show Below w.heap.size w ((((w.alloc (.cells #[.int .i64 u, .string d, .int .i64 t, .bool f, .bool false, .bool h] 25)).alloc (.cells #[.int .i64 q, .string x, .bool b] 35)).alloc (.cells #[.int .i64 0, .string ⟨#[]⟩, .int .i64 0, .bool false, .bool false, .bool false] 25)).alloc (.cells #[.int .i64 u, .string d, .int .i64 (wrap64 (t + x.size)), .bool f, .bool b, .bool h] 25)) from (((((Below.refl _ w).alloc (by simp) _).alloc (by simp) _).alloc (by simp; omega) _).alloc (by simp; omega) _))
        have Ks0 := Lib.hid (show Blk ((((w.alloc (.cells #[.int .i64 u, .string d, .int .i64 t, .bool f, .bool false, .bool h] 25)).alloc (.cells #[.int .i64 q, .string x, .bool b] 35)).alloc (.cells #[.int .i64 0, .string ⟨#[]⟩, .int .i64 0, .bool false, .bool false, .bool false] 25)).alloc (.cells #[.int .i64 u, .string d, .int .i64 (wrap64 (t + x.size)), .bool f, .bool b, .bool h] 25)) (w.heap.size) [.int .i64 u, .string d, .int .i64 t, .bool f, .bool false, .bool h] from (((Blk.new w [.int .i64 u, .string d, .int .i64 t, .bool f, .bool false, .bool h] 25).alloc (.cells #[.int .i64 q, .string x, .bool b] 35)).alloc (.cells #[.int .i64 0, .string ⟨#[]⟩, .int .i64 0, .bool false, .bool false, .bool false] 25)).alloc (.cells #[.int .i64 u, .string d, .int .i64 (wrap64 (t + x.size)), .bool f, .bool b, .bool h] 25))
        have s1 : (w.alloc (.cells #[.int .i64 u, .string d, .int .i64 t, .bool f, .bool false, .bool h] 25)).heap.size = w.heap.size + 1 := by simp
        have Kc0 := Lib.hid (show Blk ((((w.alloc (.cells #[.int .i64 u, .string d, .int .i64 t, .bool f, .bool false, .bool h] 25)).alloc (.cells #[.int .i64 q, .string x, .bool b] 35)).alloc (.cells #[.int .i64 0, .string ⟨#[]⟩, .int .i64 0, .bool false, .bool false, .bool false] 25)).alloc (.cells #[.int .i64 u, .string d, .int .i64 (wrap64 (t + x.size)), .bool f, .bool b, .bool h] 25)) (w.heap.size + 1) [.int .i64 q, .string x, .bool b] by have h0 := ((Blk.new (w.alloc (.cells #[.int .i64 u, .string d, .int .i64 t, .bool f, .bool false, .bool h] 25)) [.int .i64 q, .string x, .bool b] 35).alloc (.cells #[.int .i64 0, .string ⟨#[]⟩, .int .i64 0, .bool false, .bool false, .bool false] 25)).alloc (.cells #[.int .i64 u, .string d, .int .i64 (wrap64 (t + x.size)), .bool f, .bool b, .bool h] 25); rwa [s1] at h0)
        have n_s_c : w.heap.size ≠ w.heap.size + 1 := by omega
        have s2 : ((w.alloc (.cells #[.int .i64 u, .string d, .int .i64 t, .bool f, .bool false, .bool h] 25)).alloc (.cells #[.int .i64 q, .string x, .bool b] 35)).heap.size = w.heap.size + 1 + 1 := by simp
        have Kr0 := Lib.hid (show Blk ((((w.alloc (.cells #[.int .i64 u, .string d, .int .i64 t, .bool f, .bool false, .bool h] 25)).alloc (.cells #[.int .i64 q, .string x, .bool b] 35)).alloc (.cells #[.int .i64 0, .string ⟨#[]⟩, .int .i64 0, .bool false, .bool false, .bool false] 25)).alloc (.cells #[.int .i64 u, .string d, .int .i64 (wrap64 (t + x.size)), .bool f, .bool b, .bool h] 25)) (w.heap.size + 1 + 1) [.int .i64 0, .string ⟨#[]⟩, .int .i64 0, .bool false, .bool false, .bool false] by have h0 := (Blk.new ((w.alloc (.cells #[.int .i64 u, .string d, .int .i64 t, .bool f, .bool false, .bool h] 25)).alloc (.cells #[.int .i64 q, .string x, .bool b] 35)) [.int .i64 0, .string ⟨#[]⟩, .int .i64 0, .bool false, .bool false, .bool false] 25).alloc (.cells #[.int .i64 u, .string d, .int .i64 (wrap64 (t + x.size)), .bool f, .bool b, .bool h] 25); rwa [s2] at h0)
        have n_s_r : w.heap.size ≠ w.heap.size + 1 + 1 := by omega
        have n_c_r : w.heap.size + 1 ≠ w.heap.size + 1 + 1 := by omega
        have s3 : (((w.alloc (.cells #[.int .i64 u, .string d, .int .i64 t, .bool f, .bool false, .bool h] 25)).alloc (.cells #[.int .i64 q, .string x, .bool b] 35)).alloc (.cells #[.int .i64 0, .string ⟨#[]⟩, .int .i64 0, .bool false, .bool false, .bool false] 25)).heap.size = w.heap.size + 1 + 1 + 1 := by simp
        have Ko0 := Lib.hid (show Blk ((((w.alloc (.cells #[.int .i64 u, .string d, .int .i64 t, .bool f, .bool false, .bool h] 25)).alloc (.cells #[.int .i64 q, .string x, .bool b] 35)).alloc (.cells #[.int .i64 0, .string ⟨#[]⟩, .int .i64 0, .bool false, .bool false, .bool false] 25)).alloc (.cells #[.int .i64 u, .string d, .int .i64 (wrap64 (t + x.size)), .bool f, .bool b, .bool h] 25)) (w.heap.size + 1 + 1 + 1) [.int .i64 u, .string d, .int .i64 (wrap64 (t + x.size)), .bool f, .bool b, .bool h] by have h0 := Blk.new (((w.alloc (.cells #[.int .i64 u, .string d, .int .i64 t, .bool f, .bool false, .bool h] 25)).alloc (.cells #[.int .i64 q, .string x, .bool b] 35)).alloc (.cells #[.int .i64 0, .string ⟨#[]⟩, .int .i64 0, .bool false, .bool false, .bool false] 25)) [.int .i64 u, .string d, .int .i64 (wrap64 (t + x.size)), .bool f, .bool b, .bool h] 25; rwa [s3] at h0)
        have n_s_o : w.heap.size ≠ w.heap.size + 1 + 1 + 1 := by omega
        have n_c_o : w.heap.size + 1 ≠ w.heap.size + 1 + 1 + 1 := by omega
        have n_r_o : w.heap.size + 1 + 1 ≠ w.heap.size + 1 + 1 + 1 := by omega
        clear s1 s2 s3
        go_wp2_with fail
        change Calls _ _ _ ((((w.alloc (.cells #[.int .i64 u, .string d, .int .i64 t, .bool f, .bool false, .bool h] 25)).alloc (.cells #[.int .i64 q, .string x, .bool b] 35)).alloc (.cells #[.int .i64 0, .string ⟨#[]⟩, .int .i64 0, .bool false, .bool false, .bool false] 25)).alloc (.cells #[.int .i64 u, .string d, .int .i64 (wrap64 (t + x.size)), .bool f, .bool b, .bool h] 25)) _
        generalize (((w.alloc (.cells #[.int .i64 u, .string d, .int .i64 t, .bool f, .bool false, .bool h] 25)).alloc (.cells #[.int .i64 q, .string x, .bool b] 35)).alloc (.cells #[.int .i64 0, .string ⟨#[]⟩, .int .i64 0, .bool false, .bool false, .bool false] 25)).alloc (.cells #[.int .i64 u, .string d, .int .i64 (wrap64 (t + x.size)), .bool f, .bool b, .bool h] 25) = v0 at B0 Ks0 Kc0 Kr0 Ko0 ⊢
        generalize hh_o : w.heap.size + 1 + 1 + 1 = g_o at Ko0 n_s_o n_c_o n_r_o ⊢
        generalize hh_r : w.heap.size + 1 + 1 = g_r at Kr0 n_s_r n_c_r n_r_o ⊢
        generalize hh_c : w.heap.size + 1 = g_c at Kc0 n_s_c n_c_r n_c_o ⊢
        generalize hh_s : w.heap.size = g_s at Ks0 n_s_c n_s_r n_s_o ⊢
        have l_s : w.heap.size ≤ g_s := by omega
        have l_c : w.heap.size ≤ g_c := by omega
        have l_r : w.heap.size ≤ g_r := by omega
        have l_o : w.heap.size ≤ g_o := by omega
        clear hh_s hh_c hh_r hh_o
        refine (OK.out _).mono ?_
        rintro e v1 ⟨rfl, hb⟩
        have B1 := Lib.hid (B0.out.trans (hb.mono B0.out.size))
        have Ks1 := Lib.hid (Ks0.out.below hb)
        have Kc1 := Lib.hid (Kc0.out.below hb)
        have Kr1 := Lib.hid (Kr0.out.below hb)
        have Ko1 := Lib.hid (Ko0.out.below hb)
        clear hb B0 Ks0 Kc0 Kr0 Ko0
        obtain ⟨⟨cs0, cs1, cs2, cs3, cs4, cs5⟩, ds0, ds1, ds2, ds3, ds4, ds5⟩ := Ks1.out.of6
        obtain ⟨⟨cc0, cc1, cc2⟩, dc0, dc1, dc2⟩ := Kc1.out.o3
        obtain ⟨⟨cr0, cr1, cr2, cr3, cr4, cr5⟩, dr0, dr1, dr2, dr3, dr4, dr5⟩ := Kr1.out.of6
        obtain ⟨⟨co0, co1, co2, co3, co4, co5⟩, do0, do1, do2, do3, do4, do5⟩ := Ko1.out.of6
        go_wp2_with fail
        clear cs0 cs1 cs2 cs3 cs4 cs5 ds0 ds1 ds2 ds3 ds4 ds5 cc0 cc1 cc2 dc0 dc1 dc2 cr0 cr1 cr2 cr3 cr4 cr5 dr0 dr1 dr2 dr3 dr4 dr5 co0 co1 co2 co3 co4 co5 do0 do1 do2 do3 do4 do5
        refine (OK2.out _).mono ?_
        rintro e v2 ⟨rfl, hb⟩
        have B2 := Lib.hid (B1.out.trans (hb.mono B1.out.size))
        have Ks2 := Lib.hid (Ks1.out.below hb)
        have Kc2 := Lib.hid (Kc1.out.below hb)
        have Kr2 := Lib.hid (Kr1.out.below hb)
        have Ko2 := Lib.hid (Ko1.out.below hb)
        clear hb B1 Ks1 Kc1 Kr1 Ko1
        obtain ⟨⟨cs0, cs1, cs2, cs3, cs4, cs5⟩, ds0, ds1, ds2, ds3, ds4, ds5⟩ := Ks2.out.of6
        obtain ⟨⟨cc0, cc1, cc2⟩, dc0, dc1, dc2⟩ := Kc2.out.o3
        obtain ⟨⟨cr0, cr1, cr2, cr3, cr4, cr5⟩, dr0, dr1, dr2, dr3, dr4, dr5⟩ := Kr2.out.of6
        obtain ⟨⟨co0, co1, co2, co3, co4, co5⟩, do0, do1, do2, do3, do4, do5⟩ := Ko2.out.of6
        go_wp2_with fail
        exact bodyPost_ret (v := .agg #[.int .i64 u, .string d, .int .i64 (wrap64 (t + x.size)), .bool f, .bool b, .bool h]) (by simp [results, Try.results24, go_sem, cr0, cr1, cr2, cr3, cr4, cr5]) rfl ⟨rfl, ((((((B2.out.setCell l_r (.int .i64 u)).setCell l_r (.string d)).setCell l_r (.int .i64 (wrap64 (t + x.size)))).setCell l_r (.bool f)).setCell l_r (.bool b)).setCell l_r (.bool h))⟩

set_option maxRecDepth 100000 in
set_option maxHeartbeats 4000000 in
theorem sentOffS (u : Int) (d : ByteArray) (t : Int) (f g h : Bool) (q : Int) (x : ByteArray) (b : Bool) (w : World) : Calls Try.prog 25 #[.agg #[.int .i64 u, .string d, .int .i64 t, .bool f, .bool g, .bool h], .agg #[.int .i64 q, .string x, .bool b]] w (EndS (sentOff ⟨u, d, t, f, g, h⟩ ⟨q, x, b⟩) w) := by
  have OK := (sndOkS u d t f g h)
  have OK2 := (sndOkS u d (wrap64 (t + x.size)) f (g || b) h)
  unfold EndS
  cases hok : sndOk ⟨u, d, t, f, g, h⟩ with
  | false =>
    rw [hok] at OK
    rw [off_no (s := ⟨u, d, t, f, g, h⟩) (c := ⟨q, x, b⟩) (by rw [hok]; rfl)]
    simp only [Snd.cs]
    clear hok
    cases g with
    | true =>
      replace OK := Lib.hid OK
      replace OK2 := Lib.hid OK2
      go_enter Try.func25, Try.ntmps25
      have B0 := Lib.hid (show Below w.heap.size w ((((w.alloc (.cells #[.int .i64 u, .string d, .int .i64 t, .bool f, .bool true, .bool h] 25)).alloc (.cells #[.int .i64 q, .string x, .bool b] 35)).alloc (.cells #[.int .i64 0, .string ⟨#[]⟩, .int .i64 0, .bool false, .bool false, .bool false] 25)).alloc (.cells #[.int .i64 u, .string d, .int .i64 (wrap64 (t + x.size)), .bool f, .bool true, .bool h] 25)) from (((((Below.refl _ w).alloc (by simp) _).alloc (by simp) _).alloc (by simp; omega) _).alloc (by simp; omega) _))
      have Ks0 := Lib.hid (show Blk ((((w.alloc (.cells #[.int .i64 u, .string d, .int .i64 t, .bool f, .bool true, .bool h] 25)).alloc (.cells #[.int .i64 q, .string x, .bool b] 35)).alloc (.cells #[.int .i64 0, .string ⟨#[]⟩, .int .i64 0, .bool false, .bool false, .bool false] 25)).alloc (.cells #[.int .i64 u, .string d, .int .i64 (wrap64 (t + x.size)), .bool f, .bool true, .bool h] 25)) (w.heap.size) [.int .i64 u, .string d, .int .i64 t, .bool f, .bool true, .bool h] from (((Blk.new w [.int .i64 u, .string d, .int .i64 t, .bool f, .bool true, .bool h] 25).alloc (.cells #[.int .i64 q, .string x, .bool b] 35)).alloc (.cells #[.int .i64 0, .string ⟨#[]⟩, .int .i64 0, .bool false, .bool false, .bool false] 25)).alloc (.cells #[.int .i64 u, .string d, .int .i64 (wrap64 (t + x.size)), .bool f, .bool true, .bool h] 25))
      have s1 : (w.alloc (.cells #[.int .i64 u, .string d, .int .i64 t, .bool f, .bool true, .bool h] 25)).heap.size = w.heap.size + 1 := by simp
      have Kc0 := Lib.hid (show Blk ((((w.alloc (.cells #[.int .i64 u, .string d, .int .i64 t, .bool f, .bool true, .bool h] 25)).alloc (.cells #[.int .i64 q, .string x, .bool b] 35)).alloc (.cells #[.int .i64 0, .string ⟨#[]⟩, .int .i64 0, .bool false, .bool false, .bool false] 25)).alloc (.cells #[.int .i64 u, .string d, .int .i64 (wrap64 (t + x.size)), .bool f, .bool true, .bool h] 25)) (w.heap.size + 1) [.int .i64 q, .string x, .bool b] by have h0 := ((Blk.new (w.alloc (.cells #[.int .i64 u, .string d, .int .i64 t, .bool f, .bool true, .bool h] 25)) [.int .i64 q, .string x, .bool b] 35).alloc (.cells #[.int .i64 0, .string ⟨#[]⟩, .int .i64 0, .bool false, .bool false, .bool false] 25)).alloc (.cells #[.int .i64 u, .string d, .int .i64 (wrap64 (t + x.size)), .bool f, .bool true, .bool h] 25); rwa [s1] at h0)
      have n_s_c : w.heap.size ≠ w.heap.size + 1 := by omega
      have s2 : ((w.alloc (.cells #[.int .i64 u, .string d, .int .i64 t, .bool f, .bool true, .bool h] 25)).alloc (.cells #[.int .i64 q, .string x, .bool b] 35)).heap.size = w.heap.size + 1 + 1 := by simp
      have Kr0 := Lib.hid (show Blk ((((w.alloc (.cells #[.int .i64 u, .string d, .int .i64 t, .bool f, .bool true, .bool h] 25)).alloc (.cells #[.int .i64 q, .string x, .bool b] 35)).alloc (.cells #[.int .i64 0, .string ⟨#[]⟩, .int .i64 0, .bool false, .bool false, .bool false] 25)).alloc (.cells #[.int .i64 u, .string d, .int .i64 (wrap64 (t + x.size)), .bool f, .bool true, .bool h] 25)) (w.heap.size + 1 + 1) [.int .i64 0, .string ⟨#[]⟩, .int .i64 0, .bool false, .bool false, .bool false] by have h0 := (Blk.new ((w.alloc (.cells #[.int .i64 u, .string d, .int .i64 t, .bool f, .bool true, .bool h] 25)).alloc (.cells #[.int .i64 q, .string x, .bool b] 35)) [.int .i64 0, .string ⟨#[]⟩, .int .i64 0, .bool false, .bool false, .bool false] 25).alloc (.cells #[.int .i64 u, .string d, .int .i64 (wrap64 (t + x.size)), .bool f, .bool true, .bool h] 25); rwa [s2] at h0)
      have n_s_r : w.heap.size ≠ w.heap.size + 1 + 1 := by omega
      have n_c_r : w.heap.size + 1 ≠ w.heap.size + 1 + 1 := by omega
      have s3 : (((w.alloc (.cells #[.int .i64 u, .string d, .int .i64 t, .bool f, .bool true, .bool h] 25)).alloc (.cells #[.int .i64 q, .string x, .bool b] 35)).alloc (.cells #[.int .i64 0, .string ⟨#[]⟩, .int .i64 0, .bool false, .bool false, .bool false] 25)).heap.size = w.heap.size + 1 + 1 + 1 := by simp
      have Ko0 := Lib.hid (show Blk ((((w.alloc (.cells #[.int .i64 u, .string d, .int .i64 t, .bool f, .bool true, .bool h] 25)).alloc (.cells #[.int .i64 q, .string x, .bool b] 35)).alloc (.cells #[.int .i64 0, .string ⟨#[]⟩, .int .i64 0, .bool false, .bool false, .bool false] 25)).alloc (.cells #[.int .i64 u, .string d, .int .i64 (wrap64 (t + x.size)), .bool f, .bool true, .bool h] 25)) (w.heap.size + 1 + 1 + 1) [.int .i64 u, .string d, .int .i64 (wrap64 (t + x.size)), .bool f, .bool true, .bool h] by have h0 := Blk.new (((w.alloc (.cells #[.int .i64 u, .string d, .int .i64 t, .bool f, .bool true, .bool h] 25)).alloc (.cells #[.int .i64 q, .string x, .bool b] 35)).alloc (.cells #[.int .i64 0, .string ⟨#[]⟩, .int .i64 0, .bool false, .bool false, .bool false] 25)) [.int .i64 u, .string d, .int .i64 (wrap64 (t + x.size)), .bool f, .bool true, .bool h] 25; rwa [s3] at h0)
      have n_s_o : w.heap.size ≠ w.heap.size + 1 + 1 + 1 := by omega
      have n_c_o : w.heap.size + 1 ≠ w.heap.size + 1 + 1 + 1 := by omega
      have n_r_o : w.heap.size + 1 + 1 ≠ w.heap.size + 1 + 1 + 1 := by omega
      clear s1 s2 s3
      go_wp2_with fail
      change Calls _ _ _ ((((w.alloc (.cells #[.int .i64 u, .string d, .int .i64 t, .bool f, .bool true, .bool h] 25)).alloc (.cells #[.int .i64 q, .string x, .bool b] 35)).alloc (.cells #[.int .i64 0, .string ⟨#[]⟩, .int .i64 0, .bool false, .bool false, .bool false] 25)).alloc (.cells #[.int .i64 u, .string d, .int .i64 (wrap64 (t + x.size)), .bool f, .bool true, .bool h] 25)) _
      generalize (((w.alloc (.cells #[.int .i64 u, .string d, .int .i64 t, .bool f, .bool true, .bool h] 25)).alloc (.cells #[.int .i64 q, .string x, .bool b] 35)).alloc (.cells #[.int .i64 0, .string ⟨#[]⟩, .int .i64 0, .bool false, .bool false, .bool false] 25)).alloc (.cells #[.int .i64 u, .string d, .int .i64 (wrap64 (t + x.size)), .bool f, .bool true, .bool h] 25) = v0 at B0 Ks0 Kc0 Kr0 Ko0 ⊢
      generalize hh_o : w.heap.size + 1 + 1 + 1 = g_o at Ko0 n_s_o n_c_o n_r_o ⊢
      generalize hh_r : w.heap.size + 1 + 1 = g_r at Kr0 n_s_r n_c_r n_r_o ⊢
      generalize hh_c : w.heap.size + 1 = g_c at Kc0 n_s_c n_c_r n_c_o ⊢
      generalize hh_s : w.heap.size = g_s at Ks0 n_s_c n_s_r n_s_o ⊢
      have l_s : w.heap.size ≤ g_s := by omega
      have l_c : w.heap.size ≤ g_c := by omega
      have l_r : w.heap.size ≤ g_r := by omega
      have l_o : w.heap.size ≤ g_o := by omega
      clear hh_s hh_c hh_r hh_o
      refine (OK.out _).mono ?_
      rintro e v1 ⟨rfl, hb⟩
      have B1 := Lib.hid (B0.out.trans (hb.mono B0.out.size))
      have Ks1 := Lib.hid (Ks0.out.below hb)
      have Kc1 := Lib.hid (Kc0.out.below hb)
      have Kr1 := Lib.hid (Kr0.out.below hb)
      have Ko1 := Lib.hid (Ko0.out.below hb)
      clear hb B0 Ks0 Kc0 Kr0 Ko0
      obtain ⟨⟨cs0, cs1, cs2, cs3, cs4, cs5⟩, ds0, ds1, ds2, ds3, ds4, ds5⟩ := Ks1.out.of6
      obtain ⟨⟨cc0, cc1, cc2⟩, dc0, dc1, dc2⟩ := Kc1.out.o3
      obtain ⟨⟨cr0, cr1, cr2, cr3, cr4, cr5⟩, dr0, dr1, dr2, dr3, dr4, dr5⟩ := Kr1.out.of6
      obtain ⟨⟨co0, co1, co2, co3, co4, co5⟩, do0, do1, do2, do3, do4, do5⟩ := Ko1.out.of6
      go_wp2_with fail
      exact bodyPost_ret (v := .agg #[.int .i64 u, .string d, .int .i64 t, .bool f, .bool true, .bool h]) (by simp [results, Try.results25, go_sem, cr0, cr1, cr2, cr3, cr4, cr5]) rfl ⟨rfl, ((((((B1.out.setCell l_r (.int .i64 u)).setCell l_r (.string d)).setCell l_r (.int .i64 t)).setCell l_r (.bool f)).setCell l_r (.bool true)).setCell l_r (.bool h))⟩
    | false =>
      replace OK := Lib.hid OK
      replace OK2 := Lib.hid OK2
      go_enter Try.func25, Try.ntmps25
      have B0 := Lib.hid (show Below w.heap.size w ((((w.alloc (.cells #[.int .i64 u, .string d, .int .i64 t, .bool f, .bool false, .bool h] 25)).alloc (.cells #[.int .i64 q, .string x, .bool b] 35)).alloc (.cells #[.int .i64 0, .string ⟨#[]⟩, .int .i64 0, .bool false, .bool false, .bool false] 25)).alloc (.cells #[.int .i64 u, .string d, .int .i64 (wrap64 (t + x.size)), .bool f, .bool b, .bool h] 25)) from (((((Below.refl _ w).alloc (by simp) _).alloc (by simp) _).alloc (by simp; omega) _).alloc (by simp; omega) _))
      have Ks0 := Lib.hid (show Blk ((((w.alloc (.cells #[.int .i64 u, .string d, .int .i64 t, .bool f, .bool false, .bool h] 25)).alloc (.cells #[.int .i64 q, .string x, .bool b] 35)).alloc (.cells #[.int .i64 0, .string ⟨#[]⟩, .int .i64 0, .bool false, .bool false, .bool false] 25)).alloc (.cells #[.int .i64 u, .string d, .int .i64 (wrap64 (t + x.size)), .bool f, .bool b, .bool h] 25)) (w.heap.size) [.int .i64 u, .string d, .int .i64 t, .bool f, .bool false, .bool h] from (((Blk.new w [.int .i64 u, .string d, .int .i64 t, .bool f, .bool false, .bool h] 25).alloc (.cells #[.int .i64 q, .string x, .bool b] 35)).alloc (.cells #[.int .i64 0, .string ⟨#[]⟩, .int .i64 0, .bool false, .bool false, .bool false] 25)).alloc (.cells #[.int .i64 u, .string d, .int .i64 (wrap64 (t + x.size)), .bool f, .bool b, .bool h] 25))
      have s1 : (w.alloc (.cells #[.int .i64 u, .string d, .int .i64 t, .bool f, .bool false, .bool h] 25)).heap.size = w.heap.size + 1 := by simp
      have Kc0 := Lib.hid (show Blk ((((w.alloc (.cells #[.int .i64 u, .string d, .int .i64 t, .bool f, .bool false, .bool h] 25)).alloc (.cells #[.int .i64 q, .string x, .bool b] 35)).alloc (.cells #[.int .i64 0, .string ⟨#[]⟩, .int .i64 0, .bool false, .bool false, .bool false] 25)).alloc (.cells #[.int .i64 u, .string d, .int .i64 (wrap64 (t + x.size)), .bool f, .bool b, .bool h] 25)) (w.heap.size + 1) [.int .i64 q, .string x, .bool b] by have h0 := ((Blk.new (w.alloc (.cells #[.int .i64 u, .string d, .int .i64 t, .bool f, .bool false, .bool h] 25)) [.int .i64 q, .string x, .bool b] 35).alloc (.cells #[.int .i64 0, .string ⟨#[]⟩, .int .i64 0, .bool false, .bool false, .bool false] 25)).alloc (.cells #[.int .i64 u, .string d, .int .i64 (wrap64 (t + x.size)), .bool f, .bool b, .bool h] 25); rwa [s1] at h0)
      have n_s_c : w.heap.size ≠ w.heap.size + 1 := by omega
      have s2 : ((w.alloc (.cells #[.int .i64 u, .string d, .int .i64 t, .bool f, .bool false, .bool h] 25)).alloc (.cells #[.int .i64 q, .string x, .bool b] 35)).heap.size = w.heap.size + 1 + 1 := by simp
      have Kr0 := Lib.hid (show Blk ((((w.alloc (.cells #[.int .i64 u, .string d, .int .i64 t, .bool f, .bool false, .bool h] 25)).alloc (.cells #[.int .i64 q, .string x, .bool b] 35)).alloc (.cells #[.int .i64 0, .string ⟨#[]⟩, .int .i64 0, .bool false, .bool false, .bool false] 25)).alloc (.cells #[.int .i64 u, .string d, .int .i64 (wrap64 (t + x.size)), .bool f, .bool b, .bool h] 25)) (w.heap.size + 1 + 1) [.int .i64 0, .string ⟨#[]⟩, .int .i64 0, .bool false, .bool false, .bool false] by have h0 := (Blk.new ((w.alloc (.cells #[.int .i64 u, .string d, .int .i64 t, .bool f, .bool false, .bool h] 25)).alloc (.cells #[.int .i64 q, .string x, .bool b] 35)) [.int .i64 0, .string ⟨#[]⟩, .int .i64 0, .bool false, .bool false, .bool false] 25).alloc (.cells #[.int .i64 u, .string d, .int .i64 (wrap64 (t + x.size)), .bool f, .bool b, .bool h] 25); rwa [s2] at h0)
      have n_s_r : w.heap.size ≠ w.heap.size + 1 + 1 := by omega
      have n_c_r : w.heap.size + 1 ≠ w.heap.size + 1 + 1 := by omega
      have s3 : (((w.alloc (.cells #[.int .i64 u, .string d, .int .i64 t, .bool f, .bool false, .bool h] 25)).alloc (.cells #[.int .i64 q, .string x, .bool b] 35)).alloc (.cells #[.int .i64 0, .string ⟨#[]⟩, .int .i64 0, .bool false, .bool false, .bool false] 25)).heap.size = w.heap.size + 1 + 1 + 1 := by simp
      have Ko0 := Lib.hid (show Blk ((((w.alloc (.cells #[.int .i64 u, .string d, .int .i64 t, .bool f, .bool false, .bool h] 25)).alloc (.cells #[.int .i64 q, .string x, .bool b] 35)).alloc (.cells #[.int .i64 0, .string ⟨#[]⟩, .int .i64 0, .bool false, .bool false, .bool false] 25)).alloc (.cells #[.int .i64 u, .string d, .int .i64 (wrap64 (t + x.size)), .bool f, .bool b, .bool h] 25)) (w.heap.size + 1 + 1 + 1) [.int .i64 u, .string d, .int .i64 (wrap64 (t + x.size)), .bool f, .bool b, .bool h] by have h0 := Blk.new (((w.alloc (.cells #[.int .i64 u, .string d, .int .i64 t, .bool f, .bool false, .bool h] 25)).alloc (.cells #[.int .i64 q, .string x, .bool b] 35)).alloc (.cells #[.int .i64 0, .string ⟨#[]⟩, .int .i64 0, .bool false, .bool false, .bool false] 25)) [.int .i64 u, .string d, .int .i64 (wrap64 (t + x.size)), .bool f, .bool b, .bool h] 25; rwa [s3] at h0)
      have n_s_o : w.heap.size ≠ w.heap.size + 1 + 1 + 1 := by omega
      have n_c_o : w.heap.size + 1 ≠ w.heap.size + 1 + 1 + 1 := by omega
      have n_r_o : w.heap.size + 1 + 1 ≠ w.heap.size + 1 + 1 + 1 := by omega
      clear s1 s2 s3
      go_wp2_with fail
      change Calls _ _ _ ((((w.alloc (.cells #[.int .i64 u, .string d, .int .i64 t, .bool f, .bool false, .bool h] 25)).alloc (.cells #[.int .i64 q, .string x, .bool b] 35)).alloc (.cells #[.int .i64 0, .string ⟨#[]⟩, .int .i64 0, .bool false, .bool false, .bool false] 25)).alloc (.cells #[.int .i64 u, .string d, .int .i64 (wrap64 (t + x.size)), .bool f, .bool b, .bool h] 25)) _
      generalize (((w.alloc (.cells #[.int .i64 u, .string d, .int .i64 t, .bool f, .bool false, .bool h] 25)).alloc (.cells #[.int .i64 q, .string x, .bool b] 35)).alloc (.cells #[.int .i64 0, .string ⟨#[]⟩, .int .i64 0, .bool false, .bool false, .bool false] 25)).alloc (.cells #[.int .i64 u, .string d, .int .i64 (wrap64 (t + x.size)), .bool f, .bool b, .bool h] 25) = v0 at B0 Ks0 Kc0 Kr0 Ko0 ⊢
      generalize hh_o : w.heap.size + 1 + 1 + 1 = g_o at Ko0 n_s_o n_c_o n_r_o ⊢
      generalize hh_r : w.heap.size + 1 + 1 = g_r at Kr0 n_s_r n_c_r n_r_o ⊢
      generalize hh_c : w.heap.size + 1 = g_c at Kc0 n_s_c n_c_r n_c_o ⊢
      generalize hh_s : w.heap.size = g_s at Ks0 n_s_c n_s_r n_s_o ⊢
      have l_s : w.heap.size ≤ g_s := by omega
      have l_c : w.heap.size ≤ g_c := by omega
      have l_r : w.heap.size ≤ g_r := by omega
      have l_o : w.heap.size ≤ g_o := by omega
      clear hh_s hh_c hh_r hh_o
      refine (OK.out _).mono ?_
      rintro e v1 ⟨rfl, hb⟩
      have B1 := Lib.hid (B0.out.trans (hb.mono B0.out.size))
      have Ks1 := Lib.hid (Ks0.out.below hb)
      have Kc1 := Lib.hid (Kc0.out.below hb)
      have Kr1 := Lib.hid (Kr0.out.below hb)
      have Ko1 := Lib.hid (Ko0.out.below hb)
      clear hb B0 Ks0 Kc0 Kr0 Ko0
      obtain ⟨⟨cs0, cs1, cs2, cs3, cs4, cs5⟩, ds0, ds1, ds2, ds3, ds4, ds5⟩ := Ks1.out.of6
      obtain ⟨⟨cc0, cc1, cc2⟩, dc0, dc1, dc2⟩ := Kc1.out.o3
      obtain ⟨⟨cr0, cr1, cr2, cr3, cr4, cr5⟩, dr0, dr1, dr2, dr3, dr4, dr5⟩ := Kr1.out.of6
      obtain ⟨⟨co0, co1, co2, co3, co4, co5⟩, do0, do1, do2, do3, do4, do5⟩ := Ko1.out.of6
      go_wp2_with fail
      exact bodyPost_ret (v := .agg #[.int .i64 u, .string d, .int .i64 t, .bool f, .bool false, .bool h]) (by simp [results, Try.results25, go_sem, cr0, cr1, cr2, cr3, cr4, cr5]) rfl ⟨rfl, ((((((B1.out.setCell l_r (.int .i64 u)).setCell l_r (.string d)).setCell l_r (.int .i64 t)).setCell l_r (.bool f)).setCell l_r (.bool false)).setCell l_r (.bool h))⟩
  | true =>
    rw [hok] at OK
    cases hok2 : sndOk ⟨u, d, wrap64 (t + x.size), f, g || b, h⟩ with
    | false =>
      rw [hok2] at OK2
      rw [off_no (s := ⟨u, d, t, f, g, h⟩) (c := ⟨q, x, b⟩) (by rw [hok]; exact hok2)]
      simp only [Snd.cs]
      clear hok hok2
      cases g with
      | true =>
        rw [Bool.true_or] at OK2
        replace OK := Lib.hid OK
        replace OK2 := Lib.hid OK2
        go_enter Try.func25, Try.ntmps25
        have B0 := Lib.hid (show Below w.heap.size w ((((w.alloc (.cells #[.int .i64 u, .string d, .int .i64 t, .bool f, .bool true, .bool h] 25)).alloc (.cells #[.int .i64 q, .string x, .bool b] 35)).alloc (.cells #[.int .i64 0, .string ⟨#[]⟩, .int .i64 0, .bool false, .bool false, .bool false] 25)).alloc (.cells #[.int .i64 u, .string d, .int .i64 (wrap64 (t + x.size)), .bool f, .bool true, .bool h] 25)) from (((((Below.refl _ w).alloc (by simp) _).alloc (by simp) _).alloc (by simp; omega) _).alloc (by simp; omega) _))
        have Ks0 := Lib.hid (show Blk ((((w.alloc (.cells #[.int .i64 u, .string d, .int .i64 t, .bool f, .bool true, .bool h] 25)).alloc (.cells #[.int .i64 q, .string x, .bool b] 35)).alloc (.cells #[.int .i64 0, .string ⟨#[]⟩, .int .i64 0, .bool false, .bool false, .bool false] 25)).alloc (.cells #[.int .i64 u, .string d, .int .i64 (wrap64 (t + x.size)), .bool f, .bool true, .bool h] 25)) (w.heap.size) [.int .i64 u, .string d, .int .i64 t, .bool f, .bool true, .bool h] from (((Blk.new w [.int .i64 u, .string d, .int .i64 t, .bool f, .bool true, .bool h] 25).alloc (.cells #[.int .i64 q, .string x, .bool b] 35)).alloc (.cells #[.int .i64 0, .string ⟨#[]⟩, .int .i64 0, .bool false, .bool false, .bool false] 25)).alloc (.cells #[.int .i64 u, .string d, .int .i64 (wrap64 (t + x.size)), .bool f, .bool true, .bool h] 25))
        have s1 : (w.alloc (.cells #[.int .i64 u, .string d, .int .i64 t, .bool f, .bool true, .bool h] 25)).heap.size = w.heap.size + 1 := by simp
        have Kc0 := Lib.hid (show Blk ((((w.alloc (.cells #[.int .i64 u, .string d, .int .i64 t, .bool f, .bool true, .bool h] 25)).alloc (.cells #[.int .i64 q, .string x, .bool b] 35)).alloc (.cells #[.int .i64 0, .string ⟨#[]⟩, .int .i64 0, .bool false, .bool false, .bool false] 25)).alloc (.cells #[.int .i64 u, .string d, .int .i64 (wrap64 (t + x.size)), .bool f, .bool true, .bool h] 25)) (w.heap.size + 1) [.int .i64 q, .string x, .bool b] by have h0 := ((Blk.new (w.alloc (.cells #[.int .i64 u, .string d, .int .i64 t, .bool f, .bool true, .bool h] 25)) [.int .i64 q, .string x, .bool b] 35).alloc (.cells #[.int .i64 0, .string ⟨#[]⟩, .int .i64 0, .bool false, .bool false, .bool false] 25)).alloc (.cells #[.int .i64 u, .string d, .int .i64 (wrap64 (t + x.size)), .bool f, .bool true, .bool h] 25); rwa [s1] at h0)
        have n_s_c : w.heap.size ≠ w.heap.size + 1 := by omega
        have s2 : ((w.alloc (.cells #[.int .i64 u, .string d, .int .i64 t, .bool f, .bool true, .bool h] 25)).alloc (.cells #[.int .i64 q, .string x, .bool b] 35)).heap.size = w.heap.size + 1 + 1 := by simp
        have Kr0 := Lib.hid (show Blk ((((w.alloc (.cells #[.int .i64 u, .string d, .int .i64 t, .bool f, .bool true, .bool h] 25)).alloc (.cells #[.int .i64 q, .string x, .bool b] 35)).alloc (.cells #[.int .i64 0, .string ⟨#[]⟩, .int .i64 0, .bool false, .bool false, .bool false] 25)).alloc (.cells #[.int .i64 u, .string d, .int .i64 (wrap64 (t + x.size)), .bool f, .bool true, .bool h] 25)) (w.heap.size + 1 + 1) [.int .i64 0, .string ⟨#[]⟩, .int .i64 0, .bool false, .bool false, .bool false] by have h0 := (Blk.new ((w.alloc (.cells #[.int .i64 u, .string d, .int .i64 t, .bool f, .bool true, .bool h] 25)).alloc (.cells #[.int .i64 q, .string x, .bool b] 35)) [.int .i64 0, .string ⟨#[]⟩, .int .i64 0, .bool false, .bool false, .bool false] 25).alloc (.cells #[.int .i64 u, .string d, .int .i64 (wrap64 (t + x.size)), .bool f, .bool true, .bool h] 25); rwa [s2] at h0)
        have n_s_r : w.heap.size ≠ w.heap.size + 1 + 1 := by omega
        have n_c_r : w.heap.size + 1 ≠ w.heap.size + 1 + 1 := by omega
        have s3 : (((w.alloc (.cells #[.int .i64 u, .string d, .int .i64 t, .bool f, .bool true, .bool h] 25)).alloc (.cells #[.int .i64 q, .string x, .bool b] 35)).alloc (.cells #[.int .i64 0, .string ⟨#[]⟩, .int .i64 0, .bool false, .bool false, .bool false] 25)).heap.size = w.heap.size + 1 + 1 + 1 := by simp
        have Ko0 := Lib.hid (show Blk ((((w.alloc (.cells #[.int .i64 u, .string d, .int .i64 t, .bool f, .bool true, .bool h] 25)).alloc (.cells #[.int .i64 q, .string x, .bool b] 35)).alloc (.cells #[.int .i64 0, .string ⟨#[]⟩, .int .i64 0, .bool false, .bool false, .bool false] 25)).alloc (.cells #[.int .i64 u, .string d, .int .i64 (wrap64 (t + x.size)), .bool f, .bool true, .bool h] 25)) (w.heap.size + 1 + 1 + 1) [.int .i64 u, .string d, .int .i64 (wrap64 (t + x.size)), .bool f, .bool true, .bool h] by have h0 := Blk.new (((w.alloc (.cells #[.int .i64 u, .string d, .int .i64 t, .bool f, .bool true, .bool h] 25)).alloc (.cells #[.int .i64 q, .string x, .bool b] 35)).alloc (.cells #[.int .i64 0, .string ⟨#[]⟩, .int .i64 0, .bool false, .bool false, .bool false] 25)) [.int .i64 u, .string d, .int .i64 (wrap64 (t + x.size)), .bool f, .bool true, .bool h] 25; rwa [s3] at h0)
        have n_s_o : w.heap.size ≠ w.heap.size + 1 + 1 + 1 := by omega
        have n_c_o : w.heap.size + 1 ≠ w.heap.size + 1 + 1 + 1 := by omega
        have n_r_o : w.heap.size + 1 + 1 ≠ w.heap.size + 1 + 1 + 1 := by omega
        clear s1 s2 s3
        go_wp2_with fail
        change Calls _ _ _ ((((w.alloc (.cells #[.int .i64 u, .string d, .int .i64 t, .bool f, .bool true, .bool h] 25)).alloc (.cells #[.int .i64 q, .string x, .bool b] 35)).alloc (.cells #[.int .i64 0, .string ⟨#[]⟩, .int .i64 0, .bool false, .bool false, .bool false] 25)).alloc (.cells #[.int .i64 u, .string d, .int .i64 (wrap64 (t + x.size)), .bool f, .bool true, .bool h] 25)) _
        generalize (((w.alloc (.cells #[.int .i64 u, .string d, .int .i64 t, .bool f, .bool true, .bool h] 25)).alloc (.cells #[.int .i64 q, .string x, .bool b] 35)).alloc (.cells #[.int .i64 0, .string ⟨#[]⟩, .int .i64 0, .bool false, .bool false, .bool false] 25)).alloc (.cells #[.int .i64 u, .string d, .int .i64 (wrap64 (t + x.size)), .bool f, .bool true, .bool h] 25) = v0 at B0 Ks0 Kc0 Kr0 Ko0 ⊢
        generalize hh_o : w.heap.size + 1 + 1 + 1 = g_o at Ko0 n_s_o n_c_o n_r_o ⊢
        generalize hh_r : w.heap.size + 1 + 1 = g_r at Kr0 n_s_r n_c_r n_r_o ⊢
        generalize hh_c : w.heap.size + 1 = g_c at Kc0 n_s_c n_c_r n_c_o ⊢
        generalize hh_s : w.heap.size = g_s at Ks0 n_s_c n_s_r n_s_o ⊢
        have l_s : w.heap.size ≤ g_s := by omega
        have l_c : w.heap.size ≤ g_c := by omega
        have l_r : w.heap.size ≤ g_r := by omega
        have l_o : w.heap.size ≤ g_o := by omega
        clear hh_s hh_c hh_r hh_o
        refine (OK.out _).mono ?_
        rintro e v1 ⟨rfl, hb⟩
        have B1 := Lib.hid (B0.out.trans (hb.mono B0.out.size))
        have Ks1 := Lib.hid (Ks0.out.below hb)
        have Kc1 := Lib.hid (Kc0.out.below hb)
        have Kr1 := Lib.hid (Kr0.out.below hb)
        have Ko1 := Lib.hid (Ko0.out.below hb)
        clear hb B0 Ks0 Kc0 Kr0 Ko0
        obtain ⟨⟨cs0, cs1, cs2, cs3, cs4, cs5⟩, ds0, ds1, ds2, ds3, ds4, ds5⟩ := Ks1.out.of6
        obtain ⟨⟨cc0, cc1, cc2⟩, dc0, dc1, dc2⟩ := Kc1.out.o3
        obtain ⟨⟨cr0, cr1, cr2, cr3, cr4, cr5⟩, dr0, dr1, dr2, dr3, dr4, dr5⟩ := Kr1.out.of6
        obtain ⟨⟨co0, co1, co2, co3, co4, co5⟩, do0, do1, do2, do3, do4, do5⟩ := Ko1.out.of6
        go_wp2_with fail
        clear cs0 cs1 cs2 cs3 cs4 cs5 ds0 ds1 ds2 ds3 ds4 ds5 cc0 cc1 cc2 dc0 dc1 dc2 cr0 cr1 cr2 cr3 cr4 cr5 dr0 dr1 dr2 dr3 dr4 dr5 co0 co1 co2 co3 co4 co5 do0 do1 do2 do3 do4 do5
        refine (OK2.out _).mono ?_
        rintro e v2 ⟨rfl, hb⟩
        have B2 := Lib.hid (B1.out.trans (hb.mono B1.out.size))
        have Ks2 := Lib.hid (Ks1.out.below hb)
        have Kc2 := Lib.hid (Kc1.out.below hb)
        have Kr2 := Lib.hid (Kr1.out.below hb)
        have Ko2 := Lib.hid (Ko1.out.below hb)
        clear hb B1 Ks1 Kc1 Kr1 Ko1
        obtain ⟨⟨cs0, cs1, cs2, cs3, cs4, cs5⟩, ds0, ds1, ds2, ds3, ds4, ds5⟩ := Ks2.out.of6
        obtain ⟨⟨cc0, cc1, cc2⟩, dc0, dc1, dc2⟩ := Kc2.out.o3
        obtain ⟨⟨cr0, cr1, cr2, cr3, cr4, cr5⟩, dr0, dr1, dr2, dr3, dr4, dr5⟩ := Kr2.out.of6
        obtain ⟨⟨co0, co1, co2, co3, co4, co5⟩, do0, do1, do2, do3, do4, do5⟩ := Ko2.out.of6
        go_wp2_with fail
        exact bodyPost_ret (v := .agg #[.int .i64 u, .string d, .int .i64 t, .bool f, .bool true, .bool h]) (by simp [results, Try.results25, go_sem, cr0, cr1, cr2, cr3, cr4, cr5]) rfl ⟨rfl, ((((((B2.out.setCell l_r (.int .i64 u)).setCell l_r (.string d)).setCell l_r (.int .i64 t)).setCell l_r (.bool f)).setCell l_r (.bool true)).setCell l_r (.bool h))⟩
      | false =>
        rw [Bool.false_or] at OK2
        replace OK := Lib.hid OK
        replace OK2 := Lib.hid OK2
        go_enter Try.func25, Try.ntmps25
        have B0 := Lib.hid (show Below w.heap.size w ((((w.alloc (.cells #[.int .i64 u, .string d, .int .i64 t, .bool f, .bool false, .bool h] 25)).alloc (.cells #[.int .i64 q, .string x, .bool b] 35)).alloc (.cells #[.int .i64 0, .string ⟨#[]⟩, .int .i64 0, .bool false, .bool false, .bool false] 25)).alloc (.cells #[.int .i64 u, .string d, .int .i64 (wrap64 (t + x.size)), .bool f, .bool b, .bool h] 25)) from (((((Below.refl _ w).alloc (by simp) _).alloc (by simp) _).alloc (by simp; omega) _).alloc (by simp; omega) _))
        have Ks0 := Lib.hid (show Blk ((((w.alloc (.cells #[.int .i64 u, .string d, .int .i64 t, .bool f, .bool false, .bool h] 25)).alloc (.cells #[.int .i64 q, .string x, .bool b] 35)).alloc (.cells #[.int .i64 0, .string ⟨#[]⟩, .int .i64 0, .bool false, .bool false, .bool false] 25)).alloc (.cells #[.int .i64 u, .string d, .int .i64 (wrap64 (t + x.size)), .bool f, .bool b, .bool h] 25)) (w.heap.size) [.int .i64 u, .string d, .int .i64 t, .bool f, .bool false, .bool h] from (((Blk.new w [.int .i64 u, .string d, .int .i64 t, .bool f, .bool false, .bool h] 25).alloc (.cells #[.int .i64 q, .string x, .bool b] 35)).alloc (.cells #[.int .i64 0, .string ⟨#[]⟩, .int .i64 0, .bool false, .bool false, .bool false] 25)).alloc (.cells #[.int .i64 u, .string d, .int .i64 (wrap64 (t + x.size)), .bool f, .bool b, .bool h] 25))
        have s1 : (w.alloc (.cells #[.int .i64 u, .string d, .int .i64 t, .bool f, .bool false, .bool h] 25)).heap.size = w.heap.size + 1 := by simp
        have Kc0 := Lib.hid (show Blk ((((w.alloc (.cells #[.int .i64 u, .string d, .int .i64 t, .bool f, .bool false, .bool h] 25)).alloc (.cells #[.int .i64 q, .string x, .bool b] 35)).alloc (.cells #[.int .i64 0, .string ⟨#[]⟩, .int .i64 0, .bool false, .bool false, .bool false] 25)).alloc (.cells #[.int .i64 u, .string d, .int .i64 (wrap64 (t + x.size)), .bool f, .bool b, .bool h] 25)) (w.heap.size + 1) [.int .i64 q, .string x, .bool b] by have h0 := ((Blk.new (w.alloc (.cells #[.int .i64 u, .string d, .int .i64 t, .bool f, .bool false, .bool h] 25)) [.int .i64 q, .string x, .bool b] 35).alloc (.cells #[.int .i64 0, .string ⟨#[]⟩, .int .i64 0, .bool false, .bool false, .bool false] 25)).alloc (.cells #[.int .i64 u, .string d, .int .i64 (wrap64 (t + x.size)), .bool f, .bool b, .bool h] 25); rwa [s1] at h0)
        have n_s_c : w.heap.size ≠ w.heap.size + 1 := by omega
        have s2 : ((w.alloc (.cells #[.int .i64 u, .string d, .int .i64 t, .bool f, .bool false, .bool h] 25)).alloc (.cells #[.int .i64 q, .string x, .bool b] 35)).heap.size = w.heap.size + 1 + 1 := by simp
        have Kr0 := Lib.hid (show Blk ((((w.alloc (.cells #[.int .i64 u, .string d, .int .i64 t, .bool f, .bool false, .bool h] 25)).alloc (.cells #[.int .i64 q, .string x, .bool b] 35)).alloc (.cells #[.int .i64 0, .string ⟨#[]⟩, .int .i64 0, .bool false, .bool false, .bool false] 25)).alloc (.cells #[.int .i64 u, .string d, .int .i64 (wrap64 (t + x.size)), .bool f, .bool b, .bool h] 25)) (w.heap.size + 1 + 1) [.int .i64 0, .string ⟨#[]⟩, .int .i64 0, .bool false, .bool false, .bool false] by have h0 := (Blk.new ((w.alloc (.cells #[.int .i64 u, .string d, .int .i64 t, .bool f, .bool false, .bool h] 25)).alloc (.cells #[.int .i64 q, .string x, .bool b] 35)) [.int .i64 0, .string ⟨#[]⟩, .int .i64 0, .bool false, .bool false, .bool false] 25).alloc (.cells #[.int .i64 u, .string d, .int .i64 (wrap64 (t + x.size)), .bool f, .bool b, .bool h] 25); rwa [s2] at h0)
        have n_s_r : w.heap.size ≠ w.heap.size + 1 + 1 := by omega
        have n_c_r : w.heap.size + 1 ≠ w.heap.size + 1 + 1 := by omega
        have s3 : (((w.alloc (.cells #[.int .i64 u, .string d, .int .i64 t, .bool f, .bool false, .bool h] 25)).alloc (.cells #[.int .i64 q, .string x, .bool b] 35)).alloc (.cells #[.int .i64 0, .string ⟨#[]⟩, .int .i64 0, .bool false, .bool false, .bool false] 25)).heap.size = w.heap.size + 1 + 1 + 1 := by simp
        have Ko0 := Lib.hid (show Blk ((((w.alloc (.cells #[.int .i64 u, .string d, .int .i64 t, .bool f, .bool false, .bool h] 25)).alloc (.cells #[.int .i64 q, .string x, .bool b] 35)).alloc (.cells #[.int .i64 0, .string ⟨#[]⟩, .int .i64 0, .bool false, .bool false, .bool false] 25)).alloc (.cells #[.int .i64 u, .string d, .int .i64 (wrap64 (t + x.size)), .bool f, .bool b, .bool h] 25)) (w.heap.size + 1 + 1 + 1) [.int .i64 u, .string d, .int .i64 (wrap64 (t + x.size)), .bool f, .bool b, .bool h] by have h0 := Blk.new (((w.alloc (.cells #[.int .i64 u, .string d, .int .i64 t, .bool f, .bool false, .bool h] 25)).alloc (.cells #[.int .i64 q, .string x, .bool b] 35)).alloc (.cells #[.int .i64 0, .string ⟨#[]⟩, .int .i64 0, .bool false, .bool false, .bool false] 25)) [.int .i64 u, .string d, .int .i64 (wrap64 (t + x.size)), .bool f, .bool b, .bool h] 25; rwa [s3] at h0)
        have n_s_o : w.heap.size ≠ w.heap.size + 1 + 1 + 1 := by omega
        have n_c_o : w.heap.size + 1 ≠ w.heap.size + 1 + 1 + 1 := by omega
        have n_r_o : w.heap.size + 1 + 1 ≠ w.heap.size + 1 + 1 + 1 := by omega
        clear s1 s2 s3
        go_wp2_with fail
        change Calls _ _ _ ((((w.alloc (.cells #[.int .i64 u, .string d, .int .i64 t, .bool f, .bool false, .bool h] 25)).alloc (.cells #[.int .i64 q, .string x, .bool b] 35)).alloc (.cells #[.int .i64 0, .string ⟨#[]⟩, .int .i64 0, .bool false, .bool false, .bool false] 25)).alloc (.cells #[.int .i64 u, .string d, .int .i64 (wrap64 (t + x.size)), .bool f, .bool b, .bool h] 25)) _
        generalize (((w.alloc (.cells #[.int .i64 u, .string d, .int .i64 t, .bool f, .bool false, .bool h] 25)).alloc (.cells #[.int .i64 q, .string x, .bool b] 35)).alloc (.cells #[.int .i64 0, .string ⟨#[]⟩, .int .i64 0, .bool false, .bool false, .bool false] 25)).alloc (.cells #[.int .i64 u, .string d, .int .i64 (wrap64 (t + x.size)), .bool f, .bool b, .bool h] 25) = v0 at B0 Ks0 Kc0 Kr0 Ko0 ⊢
        generalize hh_o : w.heap.size + 1 + 1 + 1 = g_o at Ko0 n_s_o n_c_o n_r_o ⊢
        generalize hh_r : w.heap.size + 1 + 1 = g_r at Kr0 n_s_r n_c_r n_r_o ⊢
        generalize hh_c : w.heap.size + 1 = g_c at Kc0 n_s_c n_c_r n_c_o ⊢
        generalize hh_s : w.heap.size = g_s at Ks0 n_s_c n_s_r n_s_o ⊢
        have l_s : w.heap.size ≤ g_s := by omega
        have l_c : w.heap.size ≤ g_c := by omega
        have l_r : w.heap.size ≤ g_r := by omega
        have l_o : w.heap.size ≤ g_o := by omega
        clear hh_s hh_c hh_r hh_o
        refine (OK.out _).mono ?_
        rintro e v1 ⟨rfl, hb⟩
        have B1 := Lib.hid (B0.out.trans (hb.mono B0.out.size))
        have Ks1 := Lib.hid (Ks0.out.below hb)
        have Kc1 := Lib.hid (Kc0.out.below hb)
        have Kr1 := Lib.hid (Kr0.out.below hb)
        have Ko1 := Lib.hid (Ko0.out.below hb)
        clear hb B0 Ks0 Kc0 Kr0 Ko0
        obtain ⟨⟨cs0, cs1, cs2, cs3, cs4, cs5⟩, ds0, ds1, ds2, ds3, ds4, ds5⟩ := Ks1.out.of6
        obtain ⟨⟨cc0, cc1, cc2⟩, dc0, dc1, dc2⟩ := Kc1.out.o3
        obtain ⟨⟨cr0, cr1, cr2, cr3, cr4, cr5⟩, dr0, dr1, dr2, dr3, dr4, dr5⟩ := Kr1.out.of6
        obtain ⟨⟨co0, co1, co2, co3, co4, co5⟩, do0, do1, do2, do3, do4, do5⟩ := Ko1.out.of6
        go_wp2_with fail
        clear cs0 cs1 cs2 cs3 cs4 cs5 ds0 ds1 ds2 ds3 ds4 ds5 cc0 cc1 cc2 dc0 dc1 dc2 cr0 cr1 cr2 cr3 cr4 cr5 dr0 dr1 dr2 dr3 dr4 dr5 co0 co1 co2 co3 co4 co5 do0 do1 do2 do3 do4 do5
        refine (OK2.out _).mono ?_
        rintro e v2 ⟨rfl, hb⟩
        have B2 := Lib.hid (B1.out.trans (hb.mono B1.out.size))
        have Ks2 := Lib.hid (Ks1.out.below hb)
        have Kc2 := Lib.hid (Kc1.out.below hb)
        have Kr2 := Lib.hid (Kr1.out.below hb)
        have Ko2 := Lib.hid (Ko1.out.below hb)
        clear hb B1 Ks1 Kc1 Kr1 Ko1
        obtain ⟨⟨cs0, cs1, cs2, cs3, cs4, cs5⟩, ds0, ds1, ds2, ds3, ds4, ds5⟩ := Ks2.out.of6
        obtain ⟨⟨cc0, cc1, cc2⟩, dc0, dc1, dc2⟩ := Kc2.out.o3
        obtain ⟨⟨cr0, cr1, cr2, cr3, cr4, cr5⟩, dr0, dr1, dr2, dr3, dr4, dr5⟩ := Kr2.out.of6
        obtain ⟨⟨co0, co1, co2, co3, co4, co5⟩, do0, do1, do2, do3, do4, do5⟩ := Ko2.out.of6
        go_wp2_with fail
        exact bodyPost_ret (v := .agg #[.int .i64 u, .string d, .int .i64 t, .bool f, .bool false, .bool h]) (by simp [results, Try.results25, go_sem, cr0, cr1, cr2, cr3, cr4, cr5]) rfl ⟨rfl, ((((((B2.out.setCell l_r (.int .i64 u)).setCell l_r (.string d)).setCell l_r (.int .i64 t)).setCell l_r (.bool f)).setCell l_r (.bool false)).setCell l_r (.bool h))⟩
    | true =>
      rw [hok2] at OK2
      rw [off_yes (s := ⟨u, d, t, f, g, h⟩) (c := ⟨q, x, b⟩) (by rw [hok]; exact hok2)]
      unfold offS
      simp only [Snd.cs]
      have hoff : h = true → (g || b) = false := fun k => ((sndOk_of hok2).2.2.2 k).2.1
      clear hok hok2
      cases g with
      | true =>
        rw [Bool.true_or] at OK2
        replace OK := Lib.hid OK
        replace OK2 := Lib.hid OK2
        cases b with
        | false =>
          go_enter Try.func25, Try.ntmps25
          have B0 := Lib.hid (show Below w.heap.size w ((((w.alloc (.cells #[.int .i64 u, .string d, .int .i64 t, .bool f, .bool true, .bool h] 25)).alloc (.cells #[.int .i64 q, .string x, .bool false] 35)).alloc (.cells #[.int .i64 0, .string ⟨#[]⟩, .int .i64 0, .bool false, .bool false, .bool false] 25)).alloc (.cells #[.int .i64 u, .string d, .int .i64 (wrap64 (t + x.size)), .bool f, .bool true, .bool h] 25)) from (((((Below.refl _ w).alloc (by simp) _).alloc (by simp) _).alloc (by simp; omega) _).alloc (by simp; omega) _))
          have Ks0 := Lib.hid (show Blk ((((w.alloc (.cells #[.int .i64 u, .string d, .int .i64 t, .bool f, .bool true, .bool h] 25)).alloc (.cells #[.int .i64 q, .string x, .bool false] 35)).alloc (.cells #[.int .i64 0, .string ⟨#[]⟩, .int .i64 0, .bool false, .bool false, .bool false] 25)).alloc (.cells #[.int .i64 u, .string d, .int .i64 (wrap64 (t + x.size)), .bool f, .bool true, .bool h] 25)) (w.heap.size) [.int .i64 u, .string d, .int .i64 t, .bool f, .bool true, .bool h] from (((Blk.new w [.int .i64 u, .string d, .int .i64 t, .bool f, .bool true, .bool h] 25).alloc (.cells #[.int .i64 q, .string x, .bool false] 35)).alloc (.cells #[.int .i64 0, .string ⟨#[]⟩, .int .i64 0, .bool false, .bool false, .bool false] 25)).alloc (.cells #[.int .i64 u, .string d, .int .i64 (wrap64 (t + x.size)), .bool f, .bool true, .bool h] 25))
          have s1 : (w.alloc (.cells #[.int .i64 u, .string d, .int .i64 t, .bool f, .bool true, .bool h] 25)).heap.size = w.heap.size + 1 := by simp
          have Kc0 := Lib.hid (show Blk ((((w.alloc (.cells #[.int .i64 u, .string d, .int .i64 t, .bool f, .bool true, .bool h] 25)).alloc (.cells #[.int .i64 q, .string x, .bool false] 35)).alloc (.cells #[.int .i64 0, .string ⟨#[]⟩, .int .i64 0, .bool false, .bool false, .bool false] 25)).alloc (.cells #[.int .i64 u, .string d, .int .i64 (wrap64 (t + x.size)), .bool f, .bool true, .bool h] 25)) (w.heap.size + 1) [.int .i64 q, .string x, .bool false] by have h0 := ((Blk.new (w.alloc (.cells #[.int .i64 u, .string d, .int .i64 t, .bool f, .bool true, .bool h] 25)) [.int .i64 q, .string x, .bool false] 35).alloc (.cells #[.int .i64 0, .string ⟨#[]⟩, .int .i64 0, .bool false, .bool false, .bool false] 25)).alloc (.cells #[.int .i64 u, .string d, .int .i64 (wrap64 (t + x.size)), .bool f, .bool true, .bool h] 25); rwa [s1] at h0)
          have n_s_c : w.heap.size ≠ w.heap.size + 1 := by omega
          have s2 : ((w.alloc (.cells #[.int .i64 u, .string d, .int .i64 t, .bool f, .bool true, .bool h] 25)).alloc (.cells #[.int .i64 q, .string x, .bool false] 35)).heap.size = w.heap.size + 1 + 1 := by simp
          have Kr0 := Lib.hid (show Blk ((((w.alloc (.cells #[.int .i64 u, .string d, .int .i64 t, .bool f, .bool true, .bool h] 25)).alloc (.cells #[.int .i64 q, .string x, .bool false] 35)).alloc (.cells #[.int .i64 0, .string ⟨#[]⟩, .int .i64 0, .bool false, .bool false, .bool false] 25)).alloc (.cells #[.int .i64 u, .string d, .int .i64 (wrap64 (t + x.size)), .bool f, .bool true, .bool h] 25)) (w.heap.size + 1 + 1) [.int .i64 0, .string ⟨#[]⟩, .int .i64 0, .bool false, .bool false, .bool false] by have h0 := (Blk.new ((w.alloc (.cells #[.int .i64 u, .string d, .int .i64 t, .bool f, .bool true, .bool h] 25)).alloc (.cells #[.int .i64 q, .string x, .bool false] 35)) [.int .i64 0, .string ⟨#[]⟩, .int .i64 0, .bool false, .bool false, .bool false] 25).alloc (.cells #[.int .i64 u, .string d, .int .i64 (wrap64 (t + x.size)), .bool f, .bool true, .bool h] 25); rwa [s2] at h0)
          have n_s_r : w.heap.size ≠ w.heap.size + 1 + 1 := by omega
          have n_c_r : w.heap.size + 1 ≠ w.heap.size + 1 + 1 := by omega
          have s3 : (((w.alloc (.cells #[.int .i64 u, .string d, .int .i64 t, .bool f, .bool true, .bool h] 25)).alloc (.cells #[.int .i64 q, .string x, .bool false] 35)).alloc (.cells #[.int .i64 0, .string ⟨#[]⟩, .int .i64 0, .bool false, .bool false, .bool false] 25)).heap.size = w.heap.size + 1 + 1 + 1 := by simp
          have Ko0 := Lib.hid (show Blk ((((w.alloc (.cells #[.int .i64 u, .string d, .int .i64 t, .bool f, .bool true, .bool h] 25)).alloc (.cells #[.int .i64 q, .string x, .bool false] 35)).alloc (.cells #[.int .i64 0, .string ⟨#[]⟩, .int .i64 0, .bool false, .bool false, .bool false] 25)).alloc (.cells #[.int .i64 u, .string d, .int .i64 (wrap64 (t + x.size)), .bool f, .bool true, .bool h] 25)) (w.heap.size + 1 + 1 + 1) [.int .i64 u, .string d, .int .i64 (wrap64 (t + x.size)), .bool f, .bool true, .bool h] by have h0 := Blk.new (((w.alloc (.cells #[.int .i64 u, .string d, .int .i64 t, .bool f, .bool true, .bool h] 25)).alloc (.cells #[.int .i64 q, .string x, .bool false] 35)).alloc (.cells #[.int .i64 0, .string ⟨#[]⟩, .int .i64 0, .bool false, .bool false, .bool false] 25)) [.int .i64 u, .string d, .int .i64 (wrap64 (t + x.size)), .bool f, .bool true, .bool h] 25; rwa [s3] at h0)
          have n_s_o : w.heap.size ≠ w.heap.size + 1 + 1 + 1 := by omega
          have n_c_o : w.heap.size + 1 ≠ w.heap.size + 1 + 1 + 1 := by omega
          have n_r_o : w.heap.size + 1 + 1 ≠ w.heap.size + 1 + 1 + 1 := by omega
          clear s1 s2 s3
          go_wp2_with fail
          change Calls _ _ _ ((((w.alloc (.cells #[.int .i64 u, .string d, .int .i64 t, .bool f, .bool true, .bool h] 25)).alloc (.cells #[.int .i64 q, .string x, .bool false] 35)).alloc (.cells #[.int .i64 0, .string ⟨#[]⟩, .int .i64 0, .bool false, .bool false, .bool false] 25)).alloc (.cells #[.int .i64 u, .string d, .int .i64 (wrap64 (t + x.size)), .bool f, .bool true, .bool h] 25)) _
          generalize (((w.alloc (.cells #[.int .i64 u, .string d, .int .i64 t, .bool f, .bool true, .bool h] 25)).alloc (.cells #[.int .i64 q, .string x, .bool false] 35)).alloc (.cells #[.int .i64 0, .string ⟨#[]⟩, .int .i64 0, .bool false, .bool false, .bool false] 25)).alloc (.cells #[.int .i64 u, .string d, .int .i64 (wrap64 (t + x.size)), .bool f, .bool true, .bool h] 25) = v0 at B0 Ks0 Kc0 Kr0 Ko0 ⊢
          generalize hh_o : w.heap.size + 1 + 1 + 1 = g_o at Ko0 n_s_o n_c_o n_r_o ⊢
          generalize hh_r : w.heap.size + 1 + 1 = g_r at Kr0 n_s_r n_c_r n_r_o ⊢
          generalize hh_c : w.heap.size + 1 = g_c at Kc0 n_s_c n_c_r n_c_o ⊢
          generalize hh_s : w.heap.size = g_s at Ks0 n_s_c n_s_r n_s_o ⊢
          have l_s : w.heap.size ≤ g_s := by omega
          have l_c : w.heap.size ≤ g_c := by omega
          have l_r : w.heap.size ≤ g_r := by omega
          have l_o : w.heap.size ≤ g_o := by omega
          clear hh_s hh_c hh_r hh_o
          refine (OK.out _).mono ?_
          rintro e v1 ⟨rfl, hb⟩
          have B1 := Lib.hid (B0.out.trans (hb.mono B0.out.size))
          have Ks1 := Lib.hid (Ks0.out.below hb)
          have Kc1 := Lib.hid (Kc0.out.below hb)
          have Kr1 := Lib.hid (Kr0.out.below hb)
          have Ko1 := Lib.hid (Ko0.out.below hb)
          clear hb B0 Ks0 Kc0 Kr0 Ko0
          obtain ⟨⟨cs0, cs1, cs2, cs3, cs4, cs5⟩, ds0, ds1, ds2, ds3, ds4, ds5⟩ := Ks1.out.of6
          obtain ⟨⟨cc0, cc1, cc2⟩, dc0, dc1, dc2⟩ := Kc1.out.o3
          obtain ⟨⟨cr0, cr1, cr2, cr3, cr4, cr5⟩, dr0, dr1, dr2, dr3, dr4, dr5⟩ := Kr1.out.of6
          obtain ⟨⟨co0, co1, co2, co3, co4, co5⟩, do0, do1, do2, do3, do4, do5⟩ := Ko1.out.of6
          go_wp2_with fail
          clear cs0 cs1 cs2 cs3 cs4 cs5 ds0 ds1 ds2 ds3 ds4 ds5 cc0 cc1 cc2 dc0 dc1 dc2 cr0 cr1 cr2 cr3 cr4 cr5 dr0 dr1 dr2 dr3 dr4 dr5 co0 co1 co2 co3 co4 co5 do0 do1 do2 do3 do4 do5
          refine (OK2.out _).mono ?_
          rintro e v2 ⟨rfl, hb⟩
          have B2 := Lib.hid (B1.out.trans (hb.mono B1.out.size))
          have Ks2 := Lib.hid (Ks1.out.below hb)
          have Kc2 := Lib.hid (Kc1.out.below hb)
          have Kr2 := Lib.hid (Kr1.out.below hb)
          have Ko2 := Lib.hid (Ko1.out.below hb)
          clear hb B1 Ks1 Kc1 Kr1 Ko1
          obtain ⟨⟨cs0, cs1, cs2, cs3, cs4, cs5⟩, ds0, ds1, ds2, ds3, ds4, ds5⟩ := Ks2.out.of6
          obtain ⟨⟨cc0, cc1, cc2⟩, dc0, dc1, dc2⟩ := Kc2.out.o3
          obtain ⟨⟨cr0, cr1, cr2, cr3, cr4, cr5⟩, dr0, dr1, dr2, dr3, dr4, dr5⟩ := Kr2.out.of6
          obtain ⟨⟨co0, co1, co2, co3, co4, co5⟩, do0, do1, do2, do3, do4, do5⟩ := Ko2.out.of6
          go_wp2_with fail
          exact bodyPost_ret (v := .agg #[.int .i64 u, .string d, .int .i64 (wrap64 (t + x.size)), .bool f, .bool true, .bool h]) (by simp [results, Try.results25, go_sem, cr0, cr1, cr2, cr3, cr4, cr5]) rfl ⟨rfl, ((((((B2.out.setCell l_r (.int .i64 u)).setCell l_r (.string d)).setCell l_r (.int .i64 (wrap64 (t + x.size)))).setCell l_r (.bool f)).setCell l_r (.bool true)).setCell l_r (.bool h))⟩
        | true =>
          have hh : h = false := by cases h with | false => rfl | true => exact absurd (hoff rfl) (by decide)
          subst hh
          go_enter Try.func25, Try.ntmps25
          have B0 := Lib.hid (show Below w.heap.size w ((((w.alloc (.cells #[.int .i64 u, .string d, .int .i64 t, .bool f, .bool true, .bool false] 25)).alloc (.cells #[.int .i64 q, .string x, .bool true] 35)).alloc (.cells #[.int .i64 0, .string ⟨#[]⟩, .int .i64 0, .bool false, .bool false, .bool false] 25)).alloc (.cells #[.int .i64 u, .string d, .int .i64 (wrap64 (t + x.size)), .bool f, .bool true, .bool false] 25)) from (((((Below.refl _ w).alloc (by simp) _).alloc (by simp) _).alloc (by simp; omega) _).alloc (by simp; omega) _))
          have Ks0 := Lib.hid (show Blk ((((w.alloc (.cells #[.int .i64 u, .string d, .int .i64 t, .bool f, .bool true, .bool false] 25)).alloc (.cells #[.int .i64 q, .string x, .bool true] 35)).alloc (.cells #[.int .i64 0, .string ⟨#[]⟩, .int .i64 0, .bool false, .bool false, .bool false] 25)).alloc (.cells #[.int .i64 u, .string d, .int .i64 (wrap64 (t + x.size)), .bool f, .bool true, .bool false] 25)) (w.heap.size) [.int .i64 u, .string d, .int .i64 t, .bool f, .bool true, .bool false] from (((Blk.new w [.int .i64 u, .string d, .int .i64 t, .bool f, .bool true, .bool false] 25).alloc (.cells #[.int .i64 q, .string x, .bool true] 35)).alloc (.cells #[.int .i64 0, .string ⟨#[]⟩, .int .i64 0, .bool false, .bool false, .bool false] 25)).alloc (.cells #[.int .i64 u, .string d, .int .i64 (wrap64 (t + x.size)), .bool f, .bool true, .bool false] 25))
          have s1 : (w.alloc (.cells #[.int .i64 u, .string d, .int .i64 t, .bool f, .bool true, .bool false] 25)).heap.size = w.heap.size + 1 := by simp
          have Kc0 := Lib.hid (show Blk ((((w.alloc (.cells #[.int .i64 u, .string d, .int .i64 t, .bool f, .bool true, .bool false] 25)).alloc (.cells #[.int .i64 q, .string x, .bool true] 35)).alloc (.cells #[.int .i64 0, .string ⟨#[]⟩, .int .i64 0, .bool false, .bool false, .bool false] 25)).alloc (.cells #[.int .i64 u, .string d, .int .i64 (wrap64 (t + x.size)), .bool f, .bool true, .bool false] 25)) (w.heap.size + 1) [.int .i64 q, .string x, .bool true] by have h0 := ((Blk.new (w.alloc (.cells #[.int .i64 u, .string d, .int .i64 t, .bool f, .bool true, .bool false] 25)) [.int .i64 q, .string x, .bool true] 35).alloc (.cells #[.int .i64 0, .string ⟨#[]⟩, .int .i64 0, .bool false, .bool false, .bool false] 25)).alloc (.cells #[.int .i64 u, .string d, .int .i64 (wrap64 (t + x.size)), .bool f, .bool true, .bool false] 25); rwa [s1] at h0)
          have n_s_c : w.heap.size ≠ w.heap.size + 1 := by omega
          have s2 : ((w.alloc (.cells #[.int .i64 u, .string d, .int .i64 t, .bool f, .bool true, .bool false] 25)).alloc (.cells #[.int .i64 q, .string x, .bool true] 35)).heap.size = w.heap.size + 1 + 1 := by simp
          have Kr0 := Lib.hid (show Blk ((((w.alloc (.cells #[.int .i64 u, .string d, .int .i64 t, .bool f, .bool true, .bool false] 25)).alloc (.cells #[.int .i64 q, .string x, .bool true] 35)).alloc (.cells #[.int .i64 0, .string ⟨#[]⟩, .int .i64 0, .bool false, .bool false, .bool false] 25)).alloc (.cells #[.int .i64 u, .string d, .int .i64 (wrap64 (t + x.size)), .bool f, .bool true, .bool false] 25)) (w.heap.size + 1 + 1) [.int .i64 0, .string ⟨#[]⟩, .int .i64 0, .bool false, .bool false, .bool false] by have h0 := (Blk.new ((w.alloc (.cells #[.int .i64 u, .string d, .int .i64 t, .bool f, .bool true, .bool false] 25)).alloc (.cells #[.int .i64 q, .string x, .bool true] 35)) [.int .i64 0, .string ⟨#[]⟩, .int .i64 0, .bool false, .bool false, .bool false] 25).alloc (.cells #[.int .i64 u, .string d, .int .i64 (wrap64 (t + x.size)), .bool f, .bool true, .bool false] 25); rwa [s2] at h0)
          have n_s_r : w.heap.size ≠ w.heap.size + 1 + 1 := by omega
          have n_c_r : w.heap.size + 1 ≠ w.heap.size + 1 + 1 := by omega
          have s3 : (((w.alloc (.cells #[.int .i64 u, .string d, .int .i64 t, .bool f, .bool true, .bool false] 25)).alloc (.cells #[.int .i64 q, .string x, .bool true] 35)).alloc (.cells #[.int .i64 0, .string ⟨#[]⟩, .int .i64 0, .bool false, .bool false, .bool false] 25)).heap.size = w.heap.size + 1 + 1 + 1 := by simp
          have Ko0 := Lib.hid (show Blk ((((w.alloc (.cells #[.int .i64 u, .string d, .int .i64 t, .bool f, .bool true, .bool false] 25)).alloc (.cells #[.int .i64 q, .string x, .bool true] 35)).alloc (.cells #[.int .i64 0, .string ⟨#[]⟩, .int .i64 0, .bool false, .bool false, .bool false] 25)).alloc (.cells #[.int .i64 u, .string d, .int .i64 (wrap64 (t + x.size)), .bool f, .bool true, .bool false] 25)) (w.heap.size + 1 + 1 + 1) [.int .i64 u, .string d, .int .i64 (wrap64 (t + x.size)), .bool f, .bool true, .bool false] by have h0 := Blk.new (((w.alloc (.cells #[.int .i64 u, .string d, .int .i64 t, .bool f, .bool true, .bool false] 25)).alloc (.cells #[.int .i64 q, .string x, .bool true] 35)).alloc (.cells #[.int .i64 0, .string ⟨#[]⟩, .int .i64 0, .bool false, .bool false, .bool false] 25)) [.int .i64 u, .string d, .int .i64 (wrap64 (t + x.size)), .bool f, .bool true, .bool false] 25; rwa [s3] at h0)
          have n_s_o : w.heap.size ≠ w.heap.size + 1 + 1 + 1 := by omega
          have n_c_o : w.heap.size + 1 ≠ w.heap.size + 1 + 1 + 1 := by omega
          have n_r_o : w.heap.size + 1 + 1 ≠ w.heap.size + 1 + 1 + 1 := by omega
          clear s1 s2 s3
          go_wp2_with fail
          change Calls _ _ _ ((((w.alloc (.cells #[.int .i64 u, .string d, .int .i64 t, .bool f, .bool true, .bool false] 25)).alloc (.cells #[.int .i64 q, .string x, .bool true] 35)).alloc (.cells #[.int .i64 0, .string ⟨#[]⟩, .int .i64 0, .bool false, .bool false, .bool false] 25)).alloc (.cells #[.int .i64 u, .string d, .int .i64 (wrap64 (t + x.size)), .bool f, .bool true, .bool false] 25)) _
          generalize (((w.alloc (.cells #[.int .i64 u, .string d, .int .i64 t, .bool f, .bool true, .bool false] 25)).alloc (.cells #[.int .i64 q, .string x, .bool true] 35)).alloc (.cells #[.int .i64 0, .string ⟨#[]⟩, .int .i64 0, .bool false, .bool false, .bool false] 25)).alloc (.cells #[.int .i64 u, .string d, .int .i64 (wrap64 (t + x.size)), .bool f, .bool true, .bool false] 25) = v0 at B0 Ks0 Kc0 Kr0 Ko0 ⊢
          generalize hh_o : w.heap.size + 1 + 1 + 1 = g_o at Ko0 n_s_o n_c_o n_r_o ⊢
          generalize hh_r : w.heap.size + 1 + 1 = g_r at Kr0 n_s_r n_c_r n_r_o ⊢
          generalize hh_c : w.heap.size + 1 = g_c at Kc0 n_s_c n_c_r n_c_o ⊢
          generalize hh_s : w.heap.size = g_s at Ks0 n_s_c n_s_r n_s_o ⊢
          have l_s : w.heap.size ≤ g_s := by omega
          have l_c : w.heap.size ≤ g_c := by omega
          have l_r : w.heap.size ≤ g_r := by omega
          have l_o : w.heap.size ≤ g_o := by omega
          clear hh_s hh_c hh_r hh_o
          refine (OK.out _).mono ?_
          rintro e v1 ⟨rfl, hb⟩
          have B1 := Lib.hid (B0.out.trans (hb.mono B0.out.size))
          have Ks1 := Lib.hid (Ks0.out.below hb)
          have Kc1 := Lib.hid (Kc0.out.below hb)
          have Kr1 := Lib.hid (Kr0.out.below hb)
          have Ko1 := Lib.hid (Ko0.out.below hb)
          clear hb B0 Ks0 Kc0 Kr0 Ko0
          obtain ⟨⟨cs0, cs1, cs2, cs3, cs4, cs5⟩, ds0, ds1, ds2, ds3, ds4, ds5⟩ := Ks1.out.of6
          obtain ⟨⟨cc0, cc1, cc2⟩, dc0, dc1, dc2⟩ := Kc1.out.o3
          obtain ⟨⟨cr0, cr1, cr2, cr3, cr4, cr5⟩, dr0, dr1, dr2, dr3, dr4, dr5⟩ := Kr1.out.of6
          obtain ⟨⟨co0, co1, co2, co3, co4, co5⟩, do0, do1, do2, do3, do4, do5⟩ := Ko1.out.of6
          go_wp2_with fail
          clear cs0 cs1 cs2 cs3 cs4 cs5 ds0 ds1 ds2 ds3 ds4 ds5 cc0 cc1 cc2 dc0 dc1 dc2 cr0 cr1 cr2 cr3 cr4 cr5 dr0 dr1 dr2 dr3 dr4 dr5 co0 co1 co2 co3 co4 co5 do0 do1 do2 do3 do4 do5
          refine (OK2.out _).mono ?_
          rintro e v2 ⟨rfl, hb⟩
          have B2 := Lib.hid (B1.out.trans (hb.mono B1.out.size))
          have Ks2 := Lib.hid (Ks1.out.below hb)
          have Kc2 := Lib.hid (Kc1.out.below hb)
          have Kr2 := Lib.hid (Kr1.out.below hb)
          have Ko2 := Lib.hid (Ko1.out.below hb)
          clear hb B1 Ks1 Kc1 Kr1 Ko1
          obtain ⟨⟨cs0, cs1, cs2, cs3, cs4, cs5⟩, ds0, ds1, ds2, ds3, ds4, ds5⟩ := Ks2.out.of6
          obtain ⟨⟨cc0, cc1, cc2⟩, dc0, dc1, dc2⟩ := Kc2.out.o3
          obtain ⟨⟨cr0, cr1, cr2, cr3, cr4, cr5⟩, dr0, dr1, dr2, dr3, dr4, dr5⟩ := Kr2.out.of6
          obtain ⟨⟨co0, co1, co2, co3, co4, co5⟩, do0, do1, do2, do3, do4, do5⟩ := Ko2.out.of6
          go_wp2_with fail
          exact bodyPost_ret (v := .agg #[.int .i64 u, .string d, .int .i64 (wrap64 (t + x.size)), .bool f, .bool true, .bool false]) (by simp [results, Try.results25, go_sem, cr0, cr1, cr2, cr3, cr4, cr5]) rfl ⟨rfl, ((((((B2.out.setCell l_r (.int .i64 u)).setCell l_r (.string d)).setCell l_r (.int .i64 (wrap64 (t + x.size)))).setCell l_r (.bool f)).setCell l_r (.bool true)).setCell l_r (.bool false))⟩
      | false =>
        rw [Bool.false_or] at OK2
        replace OK := Lib.hid OK
        replace OK2 := Lib.hid OK2
        cases b with
        | false =>
          go_enter Try.func25, Try.ntmps25
          have B0 := Lib.hid (show Below w.heap.size w ((((w.alloc (.cells #[.int .i64 u, .string d, .int .i64 t, .bool f, .bool false, .bool h] 25)).alloc (.cells #[.int .i64 q, .string x, .bool false] 35)).alloc (.cells #[.int .i64 0, .string ⟨#[]⟩, .int .i64 0, .bool false, .bool false, .bool false] 25)).alloc (.cells #[.int .i64 u, .string d, .int .i64 (wrap64 (t + x.size)), .bool f, .bool false, .bool h] 25)) from (((((Below.refl _ w).alloc (by simp) _).alloc (by simp) _).alloc (by simp; omega) _).alloc (by simp; omega) _))
          have Ks0 := Lib.hid (show Blk ((((w.alloc (.cells #[.int .i64 u, .string d, .int .i64 t, .bool f, .bool false, .bool h] 25)).alloc (.cells #[.int .i64 q, .string x, .bool false] 35)).alloc (.cells #[.int .i64 0, .string ⟨#[]⟩, .int .i64 0, .bool false, .bool false, .bool false] 25)).alloc (.cells #[.int .i64 u, .string d, .int .i64 (wrap64 (t + x.size)), .bool f, .bool false, .bool h] 25)) (w.heap.size) [.int .i64 u, .string d, .int .i64 t, .bool f, .bool false, .bool h] from (((Blk.new w [.int .i64 u, .string d, .int .i64 t, .bool f, .bool false, .bool h] 25).alloc (.cells #[.int .i64 q, .string x, .bool false] 35)).alloc (.cells #[.int .i64 0, .string ⟨#[]⟩, .int .i64 0, .bool false, .bool false, .bool false] 25)).alloc (.cells #[.int .i64 u, .string d, .int .i64 (wrap64 (t + x.size)), .bool f, .bool false, .bool h] 25))
          have s1 : (w.alloc (.cells #[.int .i64 u, .string d, .int .i64 t, .bool f, .bool false, .bool h] 25)).heap.size = w.heap.size + 1 := by simp
          have Kc0 := Lib.hid (show Blk ((((w.alloc (.cells #[.int .i64 u, .string d, .int .i64 t, .bool f, .bool false, .bool h] 25)).alloc (.cells #[.int .i64 q, .string x, .bool false] 35)).alloc (.cells #[.int .i64 0, .string ⟨#[]⟩, .int .i64 0, .bool false, .bool false, .bool false] 25)).alloc (.cells #[.int .i64 u, .string d, .int .i64 (wrap64 (t + x.size)), .bool f, .bool false, .bool h] 25)) (w.heap.size + 1) [.int .i64 q, .string x, .bool false] by have h0 := ((Blk.new (w.alloc (.cells #[.int .i64 u, .string d, .int .i64 t, .bool f, .bool false, .bool h] 25)) [.int .i64 q, .string x, .bool false] 35).alloc (.cells #[.int .i64 0, .string ⟨#[]⟩, .int .i64 0, .bool false, .bool false, .bool false] 25)).alloc (.cells #[.int .i64 u, .string d, .int .i64 (wrap64 (t + x.size)), .bool f, .bool false, .bool h] 25); rwa [s1] at h0)
          have n_s_c : w.heap.size ≠ w.heap.size + 1 := by omega
          have s2 : ((w.alloc (.cells #[.int .i64 u, .string d, .int .i64 t, .bool f, .bool false, .bool h] 25)).alloc (.cells #[.int .i64 q, .string x, .bool false] 35)).heap.size = w.heap.size + 1 + 1 := by simp
          have Kr0 := Lib.hid (show Blk ((((w.alloc (.cells #[.int .i64 u, .string d, .int .i64 t, .bool f, .bool false, .bool h] 25)).alloc (.cells #[.int .i64 q, .string x, .bool false] 35)).alloc (.cells #[.int .i64 0, .string ⟨#[]⟩, .int .i64 0, .bool false, .bool false, .bool false] 25)).alloc (.cells #[.int .i64 u, .string d, .int .i64 (wrap64 (t + x.size)), .bool f, .bool false, .bool h] 25)) (w.heap.size + 1 + 1) [.int .i64 0, .string ⟨#[]⟩, .int .i64 0, .bool false, .bool false, .bool false] by have h0 := (Blk.new ((w.alloc (.cells #[.int .i64 u, .string d, .int .i64 t, .bool f, .bool false, .bool h] 25)).alloc (.cells #[.int .i64 q, .string x, .bool false] 35)) [.int .i64 0, .string ⟨#[]⟩, .int .i64 0, .bool false, .bool false, .bool false] 25).alloc (.cells #[.int .i64 u, .string d, .int .i64 (wrap64 (t + x.size)), .bool f, .bool false, .bool h] 25); rwa [s2] at h0)
          have n_s_r : w.heap.size ≠ w.heap.size + 1 + 1 := by omega
          have n_c_r : w.heap.size + 1 ≠ w.heap.size + 1 + 1 := by omega
          have s3 : (((w.alloc (.cells #[.int .i64 u, .string d, .int .i64 t, .bool f, .bool false, .bool h] 25)).alloc (.cells #[.int .i64 q, .string x, .bool false] 35)).alloc (.cells #[.int .i64 0, .string ⟨#[]⟩, .int .i64 0, .bool false, .bool false, .bool false] 25)).heap.size = w.heap.size + 1 + 1 + 1 := by simp
          have Ko0 := Lib.hid (show Blk ((((w.alloc (.cells #[.int .i64 u, .string d, .int .i64 t, .bool f, .bool false, .bool h] 25)).alloc (.cells #[.int .i64 q, .string x, .bool false] 35)).alloc (.cells #[.int .i64 0, .string ⟨#[]⟩, .int .i64 0, .bool false, .bool false, .bool false] 25)).alloc (.cells #[.int .i64 u, .string d, .int .i64 (wrap64 (t + x.size)), .bool f, .bool false, .bool h] 25)) (w.heap.size + 1 + 1 + 1) [.int .i64 u, .string d, .int .i64 (wrap64 (t + x.size)), .bool f, .bool false, .bool h] by have h0 := Blk.new (((w.alloc (.cells #[.int .i64 u, .string d, .int .i64 t, .bool f, .bool false, .bool h] 25)).alloc (.cells #[.int .i64 q, .string x, .bool false] 35)).alloc (.cells #[.int .i64 0, .string ⟨#[]⟩, .int .i64 0, .bool false, .bool false, .bool false] 25)) [.int .i64 u, .string d, .int .i64 (wrap64 (t + x.size)), .bool f, .bool false, .bool h] 25; rwa [s3] at h0)
          have n_s_o : w.heap.size ≠ w.heap.size + 1 + 1 + 1 := by omega
          have n_c_o : w.heap.size + 1 ≠ w.heap.size + 1 + 1 + 1 := by omega
          have n_r_o : w.heap.size + 1 + 1 ≠ w.heap.size + 1 + 1 + 1 := by omega
          clear s1 s2 s3
          go_wp2_with fail
          change Calls _ _ _ ((((w.alloc (.cells #[.int .i64 u, .string d, .int .i64 t, .bool f, .bool false, .bool h] 25)).alloc (.cells #[.int .i64 q, .string x, .bool false] 35)).alloc (.cells #[.int .i64 0, .string ⟨#[]⟩, .int .i64 0, .bool false, .bool false, .bool false] 25)).alloc (.cells #[.int .i64 u, .string d, .int .i64 (wrap64 (t + x.size)), .bool f, .bool false, .bool h] 25)) _
          generalize (((w.alloc (.cells #[.int .i64 u, .string d, .int .i64 t, .bool f, .bool false, .bool h] 25)).alloc (.cells #[.int .i64 q, .string x, .bool false] 35)).alloc (.cells #[.int .i64 0, .string ⟨#[]⟩, .int .i64 0, .bool false, .bool false, .bool false] 25)).alloc (.cells #[.int .i64 u, .string d, .int .i64 (wrap64 (t + x.size)), .bool f, .bool false, .bool h] 25) = v0 at B0 Ks0 Kc0 Kr0 Ko0 ⊢
          generalize hh_o : w.heap.size + 1 + 1 + 1 = g_o at Ko0 n_s_o n_c_o n_r_o ⊢
          generalize hh_r : w.heap.size + 1 + 1 = g_r at Kr0 n_s_r n_c_r n_r_o ⊢
          generalize hh_c : w.heap.size + 1 = g_c at Kc0 n_s_c n_c_r n_c_o ⊢
          generalize hh_s : w.heap.size = g_s at Ks0 n_s_c n_s_r n_s_o ⊢
          have l_s : w.heap.size ≤ g_s := by omega
          have l_c : w.heap.size ≤ g_c := by omega
          have l_r : w.heap.size ≤ g_r := by omega
          have l_o : w.heap.size ≤ g_o := by omega
          clear hh_s hh_c hh_r hh_o
          refine (OK.out _).mono ?_
          rintro e v1 ⟨rfl, hb⟩
          have B1 := Lib.hid (B0.out.trans (hb.mono B0.out.size))
          have Ks1 := Lib.hid (Ks0.out.below hb)
          have Kc1 := Lib.hid (Kc0.out.below hb)
          have Kr1 := Lib.hid (Kr0.out.below hb)
          have Ko1 := Lib.hid (Ko0.out.below hb)
          clear hb B0 Ks0 Kc0 Kr0 Ko0
          obtain ⟨⟨cs0, cs1, cs2, cs3, cs4, cs5⟩, ds0, ds1, ds2, ds3, ds4, ds5⟩ := Ks1.out.of6
          obtain ⟨⟨cc0, cc1, cc2⟩, dc0, dc1, dc2⟩ := Kc1.out.o3
          obtain ⟨⟨cr0, cr1, cr2, cr3, cr4, cr5⟩, dr0, dr1, dr2, dr3, dr4, dr5⟩ := Kr1.out.of6
          obtain ⟨⟨co0, co1, co2, co3, co4, co5⟩, do0, do1, do2, do3, do4, do5⟩ := Ko1.out.of6
          go_wp2_with fail
          clear cs0 cs1 cs2 cs3 cs4 cs5 ds0 ds1 ds2 ds3 ds4 ds5 cc0 cc1 cc2 dc0 dc1 dc2 cr0 cr1 cr2 cr3 cr4 cr5 dr0 dr1 dr2 dr3 dr4 dr5 co0 co1 co2 co3 co4 co5 do0 do1 do2 do3 do4 do5
          refine (OK2.out _).mono ?_
          rintro e v2 ⟨rfl, hb⟩
          have B2 := Lib.hid (B1.out.trans (hb.mono B1.out.size))
          have Ks2 := Lib.hid (Ks1.out.below hb)
          have Kc2 := Lib.hid (Kc1.out.below hb)
          have Kr2 := Lib.hid (Kr1.out.below hb)
          have Ko2 := Lib.hid (Ko1.out.below hb)
          clear hb B1 Ks1 Kc1 Kr1 Ko1
          obtain ⟨⟨cs0, cs1, cs2, cs3, cs4, cs5⟩, ds0, ds1, ds2, ds3, ds4, ds5⟩ := Ks2.out.of6
          obtain ⟨⟨cc0, cc1, cc2⟩, dc0, dc1, dc2⟩ := Kc2.out.o3
          obtain ⟨⟨cr0, cr1, cr2, cr3, cr4, cr5⟩, dr0, dr1, dr2, dr3, dr4, dr5⟩ := Kr2.out.of6
          obtain ⟨⟨co0, co1, co2, co3, co4, co5⟩, do0, do1, do2, do3, do4, do5⟩ := Ko2.out.of6
          go_wp2_with fail
          exact bodyPost_ret (v := .agg #[.int .i64 u, .string d, .int .i64 (wrap64 (t + x.size)), .bool f, .bool false, .bool h]) (by simp [results, Try.results25, go_sem, cr0, cr1, cr2, cr3, cr4, cr5]) rfl ⟨rfl, ((((((B2.out.setCell l_r (.int .i64 u)).setCell l_r (.string d)).setCell l_r (.int .i64 (wrap64 (t + x.size)))).setCell l_r (.bool f)).setCell l_r (.bool false)).setCell l_r (.bool h))⟩
        | true =>
          have hh : h = false := by cases h with | false => rfl | true => exact absurd (hoff rfl) (by decide)
          subst hh
          go_enter Try.func25, Try.ntmps25
          have B0 := Lib.hid (show Below w.heap.size w ((((w.alloc (.cells #[.int .i64 u, .string d, .int .i64 t, .bool f, .bool false, .bool false] 25)).alloc (.cells #[.int .i64 q, .string x, .bool true] 35)).alloc (.cells #[.int .i64 0, .string ⟨#[]⟩, .int .i64 0, .bool false, .bool false, .bool false] 25)).alloc (.cells #[.int .i64 u, .string d, .int .i64 (wrap64 (t + x.size)), .bool f, .bool true, .bool false] 25)) from (((((Below.refl _ w).alloc (by simp) _).alloc (by simp) _).alloc (by simp; omega) _).alloc (by simp; omega) _))
          have Ks0 := Lib.hid (show Blk ((((w.alloc (.cells #[.int .i64 u, .string d, .int .i64 t, .bool f, .bool false, .bool false] 25)).alloc (.cells #[.int .i64 q, .string x, .bool true] 35)).alloc (.cells #[.int .i64 0, .string ⟨#[]⟩, .int .i64 0, .bool false, .bool false, .bool false] 25)).alloc (.cells #[.int .i64 u, .string d, .int .i64 (wrap64 (t + x.size)), .bool f, .bool true, .bool false] 25)) (w.heap.size) [.int .i64 u, .string d, .int .i64 t, .bool f, .bool false, .bool false] from (((Blk.new w [.int .i64 u, .string d, .int .i64 t, .bool f, .bool false, .bool false] 25).alloc (.cells #[.int .i64 q, .string x, .bool true] 35)).alloc (.cells #[.int .i64 0, .string ⟨#[]⟩, .int .i64 0, .bool false, .bool false, .bool false] 25)).alloc (.cells #[.int .i64 u, .string d, .int .i64 (wrap64 (t + x.size)), .bool f, .bool true, .bool false] 25))
          have s1 : (w.alloc (.cells #[.int .i64 u, .string d, .int .i64 t, .bool f, .bool false, .bool false] 25)).heap.size = w.heap.size + 1 := by simp
          have Kc0 := Lib.hid (show Blk ((((w.alloc (.cells #[.int .i64 u, .string d, .int .i64 t, .bool f, .bool false, .bool false] 25)).alloc (.cells #[.int .i64 q, .string x, .bool true] 35)).alloc (.cells #[.int .i64 0, .string ⟨#[]⟩, .int .i64 0, .bool false, .bool false, .bool false] 25)).alloc (.cells #[.int .i64 u, .string d, .int .i64 (wrap64 (t + x.size)), .bool f, .bool true, .bool false] 25)) (w.heap.size + 1) [.int .i64 q, .string x, .bool true] by have h0 := ((Blk.new (w.alloc (.cells #[.int .i64 u, .string d, .int .i64 t, .bool f, .bool false, .bool false] 25)) [.int .i64 q, .string x, .bool true] 35).alloc (.cells #[.int .i64 0, .string ⟨#[]⟩, .int .i64 0, .bool false, .bool false, .bool false] 25)).alloc (.cells #[.int .i64 u, .string d, .int .i64 (wrap64 (t + x.size)), .bool f, .bool true, .bool false] 25); rwa [s1] at h0)
          have n_s_c : w.heap.size ≠ w.heap.size + 1 := by omega
          have s2 : ((w.alloc (.cells #[.int .i64 u, .string d, .int .i64 t, .bool f, .bool false, .bool false] 25)).alloc (.cells #[.int .i64 q, .string x, .bool true] 35)).heap.size = w.heap.size + 1 + 1 := by simp
          have Kr0 := Lib.hid (show Blk ((((w.alloc (.cells #[.int .i64 u, .string d, .int .i64 t, .bool f, .bool false, .bool false] 25)).alloc (.cells #[.int .i64 q, .string x, .bool true] 35)).alloc (.cells #[.int .i64 0, .string ⟨#[]⟩, .int .i64 0, .bool false, .bool false, .bool false] 25)).alloc (.cells #[.int .i64 u, .string d, .int .i64 (wrap64 (t + x.size)), .bool f, .bool true, .bool false] 25)) (w.heap.size + 1 + 1) [.int .i64 0, .string ⟨#[]⟩, .int .i64 0, .bool false, .bool false, .bool false] by have h0 := (Blk.new ((w.alloc (.cells #[.int .i64 u, .string d, .int .i64 t, .bool f, .bool false, .bool false] 25)).alloc (.cells #[.int .i64 q, .string x, .bool true] 35)) [.int .i64 0, .string ⟨#[]⟩, .int .i64 0, .bool false, .bool false, .bool false] 25).alloc (.cells #[.int .i64 u, .string d, .int .i64 (wrap64 (t + x.size)), .bool f, .bool true, .bool false] 25); rwa [s2] at h0)
          have n_s_r : w.heap.size ≠ w.heap.size + 1 + 1 := by omega
          have n_c_r : w.heap.size + 1 ≠ w.heap.size + 1 + 1 := by omega
          have s3 : (((w.alloc (.cells #[.int .i64 u, .string d, .int .i64 t, .bool f, .bool false, .bool false] 25)).alloc (.cells #[.int .i64 q, .string x, .bool true] 35)).alloc (.cells #[.int .i64 0, .string ⟨#[]⟩, .int .i64 0, .bool false, .bool false, .bool false] 25)).heap.size = w.heap.size + 1 + 1 + 1 := by simp
          have Ko0 := Lib.hid (show Blk ((((w.alloc (.cells #[.int .i64 u, .string d, .int .i64 t, .bool f, .bool false, .bool false] 25)).alloc (.cells #[.int .i64 q, .string x, .bool true] 35)).alloc (.cells #[.int .i64 0, .string ⟨#[]⟩, .int .i64 0, .bool false, .bool false, .bool false] 25)).alloc (.cells #[.int .i64 u, .string d, .int .i64 (wrap64 (t + x.size)), .bool f, .bool true, .bool false] 25)) (w.heap.size + 1 + 1 + 1) [.int .i64 u, .string d, .int .i64 (wrap64 (t + x.size)), .bool f, .bool true, .bool false] by have h0 := Blk.new (((w.alloc (.cells #[.int .i64 u, .string d, .int .i64 t, .bool f, .bool false, .bool false] 25)).alloc (.cells #[.int .i64 q, .string x, .bool true] 35)).alloc (.cells #[.int .i64 0, .string ⟨#[]⟩, .int .i64 0, .bool false, .bool false, .bool false] 25)) [.int .i64 u, .string d, .int .i64 (wrap64 (t + x.size)), .bool f, .bool true, .bool false] 25; rwa [s3] at h0)
          have n_s_o : w.heap.size ≠ w.heap.size + 1 + 1 + 1 := by omega
          have n_c_o : w.heap.size + 1 ≠ w.heap.size + 1 + 1 + 1 := by omega
          have n_r_o : w.heap.size + 1 + 1 ≠ w.heap.size + 1 + 1 + 1 := by omega
          clear s1 s2 s3
          go_wp2_with fail
          change Calls _ _ _ ((((w.alloc (.cells #[.int .i64 u, .string d, .int .i64 t, .bool f, .bool false, .bool false] 25)).alloc (.cells #[.int .i64 q, .string x, .bool true] 35)).alloc (.cells #[.int .i64 0, .string ⟨#[]⟩, .int .i64 0, .bool false, .bool false, .bool false] 25)).alloc (.cells #[.int .i64 u, .string d, .int .i64 (wrap64 (t + x.size)), .bool f, .bool true, .bool false] 25)) _
          generalize (((w.alloc (.cells #[.int .i64 u, .string d, .int .i64 t, .bool f, .bool false, .bool false] 25)).alloc (.cells #[.int .i64 q, .string x, .bool true] 35)).alloc (.cells #[.int .i64 0, .string ⟨#[]⟩, .int .i64 0, .bool false, .bool false, .bool false] 25)).alloc (.cells #[.int .i64 u, .string d, .int .i64 (wrap64 (t + x.size)), .bool f, .bool true, .bool false] 25) = v0 at B0 Ks0 Kc0 Kr0 Ko0 ⊢
          generalize hh_o : w.heap.size + 1 + 1 + 1 = g_o at Ko0 n_s_o n_c_o n_r_o ⊢
          generalize hh_r : w.heap.size + 1 + 1 = g_r at Kr0 n_s_r n_c_r n_r_o ⊢
          generalize hh_c : w.heap.size + 1 = g_c at Kc0 n_s_c n_c_r n_c_o ⊢
          generalize hh_s : w.heap.size = g_s at Ks0 n_s_c n_s_r n_s_o ⊢
          have l_s : w.heap.size ≤ g_s := by omega
          have l_c : w.heap.size ≤ g_c := by omega
          have l_r : w.heap.size ≤ g_r := by omega
          have l_o : w.heap.size ≤ g_o := by omega
          clear hh_s hh_c hh_r hh_o
          refine (OK.out _).mono ?_
          rintro e v1 ⟨rfl, hb⟩
          have B1 := Lib.hid (B0.out.trans (hb.mono B0.out.size))
          have Ks1 := Lib.hid (Ks0.out.below hb)
          have Kc1 := Lib.hid (Kc0.out.below hb)
          have Kr1 := Lib.hid (Kr0.out.below hb)
          have Ko1 := Lib.hid (Ko0.out.below hb)
          clear hb B0 Ks0 Kc0 Kr0 Ko0
          obtain ⟨⟨cs0, cs1, cs2, cs3, cs4, cs5⟩, ds0, ds1, ds2, ds3, ds4, ds5⟩ := Ks1.out.of6
          obtain ⟨⟨cc0, cc1, cc2⟩, dc0, dc1, dc2⟩ := Kc1.out.o3
          obtain ⟨⟨cr0, cr1, cr2, cr3, cr4, cr5⟩, dr0, dr1, dr2, dr3, dr4, dr5⟩ := Kr1.out.of6
          obtain ⟨⟨co0, co1, co2, co3, co4, co5⟩, do0, do1, do2, do3, do4, do5⟩ := Ko1.out.of6
          go_wp2_with fail
          clear cs0 cs1 cs2 cs3 cs4 cs5 ds0 ds1 ds2 ds3 ds4 ds5 cc0 cc1 cc2 dc0 dc1 dc2 cr0 cr1 cr2 cr3 cr4 cr5 dr0 dr1 dr2 dr3 dr4 dr5 co0 co1 co2 co3 co4 co5 do0 do1 do2 do3 do4 do5
          refine (OK2.out _).mono ?_
          rintro e v2 ⟨rfl, hb⟩
          have B2 := Lib.hid (B1.out.trans (hb.mono B1.out.size))
          have Ks2 := Lib.hid (Ks1.out.below hb)
          have Kc2 := Lib.hid (Kc1.out.below hb)
          have Kr2 := Lib.hid (Kr1.out.below hb)
          have Ko2 := Lib.hid (Ko1.out.below hb)
          clear hb B1 Ks1 Kc1 Kr1 Ko1
          obtain ⟨⟨cs0, cs1, cs2, cs3, cs4, cs5⟩, ds0, ds1, ds2, ds3, ds4, ds5⟩ := Ks2.out.of6
          obtain ⟨⟨cc0, cc1, cc2⟩, dc0, dc1, dc2⟩ := Kc2.out.o3
          obtain ⟨⟨cr0, cr1, cr2, cr3, cr4, cr5⟩, dr0, dr1, dr2, dr3, dr4, dr5⟩ := Kr2.out.of6
          obtain ⟨⟨co0, co1, co2, co3, co4, co5⟩, do0, do1, do2, do3, do4, do5⟩ := Ko2.out.of6
          go_wp2_with fail
          exact bodyPost_ret (v := .agg #[.int .i64 u, .string d, .int .i64 (wrap64 (t + x.size)), .bool f, .bool true, .bool false]) (by simp [results, Try.results25, go_sem, cr0, cr1, cr2, cr3, cr4, cr5]) rfl ⟨rfl, ((((((B2.out.setCell l_r (.int .i64 u)).setCell l_r (.string d)).setCell l_r (.int .i64 (wrap64 (t + x.size)))).setCell l_r (.bool f)).setCell l_r (.bool true)).setCell l_r (.bool false))⟩
end Go.Proofs.Ytkigkfedkjnkeaa
