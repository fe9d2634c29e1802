/- Rewound, of both sides. Nothing here is a claim. -/
import Derived.Test.YtkigkfedkjnkeaaSndOpK
import Derived.Test.YtkigkfedkjnkeaaBlk10
import Derived.Test.YtkigkfedkjnkeaaSndOk
import Derived.Test.YtkigkfedkjnkeaaSndPos
import Derived.Test.YtkigkfedkjnkeaaSndMin
import Derived.Deep.DeepCutAuto
import Derived.Deep.RegionHeld3
import Derived.StillTailTactics
namespace Go.Proofs.Ytkigkfedkjnkeaa
open Go.RowKit Go.Lib

set_option maxRecDepth 100000 in
set_option maxHeartbeats 4000000 in
theorem rewoundI (u : Int) (d : ByteArray) (t : Int) (f g h : Bool) (w : World) : Calls Try.prog 34 #[.agg #[.int .i64 u, .string d, .int .i64 t, .bool f, .bool g, .bool h]] w (EndS (rewound ⟨u, d, t, f, g, h⟩) w) := by
  have OK := (sndOkI u d t f g h)
  unfold EndS rewound
  cases hok : sndOk ⟨u, d, t, f, g, h⟩ with
  | false =>
    rw [hok] at OK
    rw [if_neg (by decide)]
    simp only [Snd.cs]
    replace OK := Lib.hid OK
    clear hok
    go_enter Try.func34, Try.ntmps34
    have B0 := Lib.hid (show Below w.heap.size w ((w.alloc (.cells #[.int .i64 u, .string d, .int .i64 t, .bool f, .bool g, .bool h] 25)).alloc (.cells #[.int .i64 0, .string ⟨#[]⟩, .int .i64 0, .bool false, .bool false, .bool false] 25)) from (((Below.refl _ w).alloc (by simp) _).alloc (by simp) _))
    have Ks0 := Lib.hid (show Blk ((w.alloc (.cells #[.int .i64 u, .string d, .int .i64 t, .bool f, .bool g, .bool h] 25)).alloc (.cells #[.int .i64 0, .string ⟨#[]⟩, .int .i64 0, .bool false, .bool false, .bool false] 25)) (w.heap.size) [.int .i64 u, .string d, .int .i64 t, .bool f, .bool g, .bool h] from (Blk.new w [.int .i64 u, .string d, .int .i64 t, .bool f, .bool g, .bool h] 25).alloc (.cells #[.int .i64 0, .string ⟨#[]⟩, .int .i64 0, .bool false, .bool false, .bool false] 25))
    have s1 : (w.alloc (.cells #[.int .i64 u, .string d, .int .i64 t, .bool f, .bool g, .bool h] 25)).heap.size = w.heap.size + 1 := by simp
    have Kr0 := Lib.hid (show Blk ((w.alloc (.cells #[.int .i64 u, .string d, .int .i64 t, .bool f, .bool g, .bool h] 25)).alloc (.cells #[.int .i64 0, .string ⟨#[]⟩, .int .i64 0, .bool false, .bool false, .bool false] 25)) (w.heap.size + 1) [.int .i64 0, .string ⟨#[]⟩, .int .i64 0, .bool false, .bool false, .bool false] by have h0 := Blk.new (w.alloc (.cells #[.int .i64 u, .string d, .int .i64 t, .bool f, .bool g, .bool h] 25)) [.int .i64 0, .string ⟨#[]⟩, .int .i64 0, .bool false, .bool false, .bool false] 25; rwa [s1] at h0)
    have n_s_r : w.heap.size ≠ w.heap.size + 1 := by omega
    clear s1
    go_wp2_with fail
    change Calls _ _ _ ((w.alloc (.cells #[.int .i64 u, .string d, .int .i64 t, .bool f, .bool g, .bool h] 25)).alloc (.cells #[.int .i64 0, .string ⟨#[]⟩, .int .i64 0, .bool false, .bool false, .bool false] 25)) _
    generalize (w.alloc (.cells #[.int .i64 u, .string d, .int .i64 t, .bool f, .bool g, .bool h] 25)).alloc (.cells #[.int .i64 0, .string ⟨#[]⟩, .int .i64 0, .bool false, .bool false, .bool false] 25) = v0 at B0 Ks0 Kr0 ⊢
    generalize hh_r : w.heap.size + 1 = g_r at Kr0 n_s_r ⊢
    generalize hh_s : w.heap.size = g_s at Ks0 n_s_r ⊢
    have l_s : w.heap.size ≤ g_s := by omega
    have l_r : w.heap.size ≤ g_r := by omega
    clear hh_s hh_r
    refine (OK.out _).mono ?_
    rintro e v1 ⟨rfl, hb⟩
    have B1 := Lib.hid (B0.out.trans (hb.mono B0.out.size))
    have Ks1 := Lib.hid (Ks0.out.below hb)
    have Kr1 := Lib.hid (Kr0.out.below hb)
    clear hb B0 Ks0 Kr0
    obtain ⟨⟨cs0, cs1, cs2, cs3, cs4, cs5⟩, ds0, ds1, ds2, ds3, ds4, ds5⟩ := Ks1.out.of6
    obtain ⟨⟨cr0, cr1, cr2, cr3, cr4, cr5⟩, dr0, dr1, dr2, dr3, dr4, dr5⟩ := Kr1.out.of6
    go_wp2_with fail
    exact bodyPost_ret (v := .agg #[.int .i64 u, .string d, .int .i64 t, .bool f, .bool g, .bool h]) (by simp [results, Try.results34, go_sem, cr0, cr1, cr2, cr3, cr4, cr5]) rfl ⟨rfl, ((((((B1.out.setCell l_r (.int .i64 u)).setCell l_r (.string d)).setCell l_r (.int .i64 t)).setCell l_r (.bool f)).setCell l_r (.bool g)).setCell l_r (.bool h))⟩
  | true =>
    rw [hok] at OK
    rw [if_pos rfl]
    simp only [Snd.cs]
    replace OK := Lib.hid OK
    clear hok
    go_enter Try.func34, Try.ntmps34
    have B0 := Lib.hid (show Below w.heap.size w ((w.alloc (.cells #[.int .i64 u, .string d, .int .i64 t, .bool f, .bool g, .bool h] 25)).alloc (.cells #[.int .i64 0, .string ⟨#[]⟩, .int .i64 0, .bool false, .bool false, .bool false] 25)) from (((Below.refl _ w).alloc (by simp) _).alloc (by simp) _))
    have Ks0 := Lib.hid (show Blk ((w.alloc (.cells #[.int .i64 u, .string d, .int .i64 t, .bool f, .bool g, .bool h] 25)).alloc (.cells #[.int .i64 0, .string ⟨#[]⟩, .int .i64 0, .bool false, .bool false, .bool false] 25)) (w.heap.size) [.int .i64 u, .string d, .int .i64 t, .bool f, .bool g, .bool h] from (Blk.new w [.int .i64 u, .string d, .int .i64 t, .bool f, .bool g, .bool h] 25).alloc (.cells #[.int .i64 0, .string ⟨#[]⟩, .int .i64 0, .bool false, .bool false, .bool false] 25))
    have s1 : (w.alloc (.cells #[.int .i64 u, .string d, .int .i64 t, .bool f, .bool g, .bool h] 25)).heap.size = w.heap.size + 1 := by simp
    have Kr0 := Lib.hid (show Blk ((w.alloc (.cells #[.int .i64 u, .string d, .int .i64 t, .bool f, .bool g, .bool h] 25)).alloc (.cells #[.int .i64 0, .string ⟨#[]⟩, .int .i64 0, .bool false, .bool false, .bool false] 25)) (w.heap.size + 1) [.int .i64 0, .string ⟨#[]⟩, .int .i64 0, .bool false, .bool false, .bool false] by have h0 := Blk.new (w.alloc (.cells #[.int .i64 u, .string d, .int .i64 t, .bool f, .bool g, .bool h] 25)) [.int .i64 0, .string ⟨#[]⟩, .int .i64 0, .bool false, .bool false, .bool false] 25; rwa [s1] at h0)
    have n_s_r : w.heap.size ≠ w.heap.size + 1 := by omega
    clear s1
    go_wp2_with fail
    change Calls _ _ _ ((w.alloc (.cells #[.int .i64 u, .string d, .int .i64 t, .bool f, .bool g, .bool h] 25)).alloc (.cells #[.int .i64 0, .string ⟨#[]⟩, .int .i64 0, .bool false, .bool false, .bool false] 25)) _
    generalize (w.alloc (.cells #[.int .i64 u, .string d, .int .i64 t, .bool f, .bool g, .bool h] 25)).alloc (.cells #[.int .i64 0, .string ⟨#[]⟩, .int .i64 0, .bool false, .bool false, .bool false] 25) = v0 at B0 Ks0 Kr0 ⊢
    generalize hh_r : w.heap.size + 1 = g_r at Kr0 n_s_r ⊢
    generalize hh_s : w.heap.size = g_s at Ks0 n_s_r ⊢
    have l_s : w.heap.size ≤ g_s := by omega
    have l_r : w.heap.size ≤ g_r := by omega
    clear hh_s hh_r
    refine (OK.out _).mono ?_
    rintro e v1 ⟨rfl, hb⟩
    have B1 := Lib.hid (B0.out.trans (hb.mono B0.out.size))
    have Ks1 := Lib.hid (Ks0.out.below hb)
    have Kr1 := Lib.hid (Kr0.out.below hb)
    clear hb B0 Ks0 Kr0
    obtain ⟨⟨cs0, cs1, cs2, cs3, cs4, cs5⟩, ds0, ds1, ds2, ds3, ds4, ds5⟩ := Ks1.out.of6
    obtain ⟨⟨cr0, cr1, cr2, cr3, cr4, cr5⟩, dr0, dr1, dr2, dr3, dr4, dr5⟩ := Kr1.out.of6
    go_wp2_with fail
    exact bodyPost_ret (v := .agg #[.int .i64 u, .string d, .int .i64 0, .bool f, .bool false, .bool h]) (by simp [results, Try.results34, go_sem, cr0, cr1, cr2, cr3, cr4, cr5]) rfl ⟨rfl, ((((((((B1.out.setCell l_s (.int .i64 0)).setCell l_s (.bool false)).setCell l_r (.int .i64 u)).setCell l_r (.string d)).setCell l_r (.int .i64 0)).setCell l_r (.bool f)).setCell l_r (.bool false)).setCell l_r (.bool h))⟩

set_option maxRecDepth 100000 in
set_option maxHeartbeats 4000000 in
theorem rewoundS (u : Int) (d : ByteArray) (t : Int) (f g h : Bool) (w : World) : Calls Try.prog 35 #[.agg #[.int .i64 u, .string d, .int .i64 t, .bool f, .bool g, .bool h]] w (EndS (rewound ⟨u, d, t, f, g, h⟩) w) := by
  have OK := (sndOkS u d t f g h)
  unfold EndS rewound
  cases hok : sndOk ⟨u, d, t, f, g, h⟩ with
  | false =>
    rw [hok] at OK
    rw [if_neg (by decide)]
    simp only [Snd.cs]
    replace OK := Lib.hid OK
    clear hok
    go_enter Try.func35, Try.ntmps35
    have B0 := Lib.hid (show Below w.heap.size w ((w.alloc (.cells #[.int .i64 u, .string d, .int .i64 t, .bool f, .bool g, .bool h] 25)).alloc (.cells #[.int .i64 0, .string ⟨#[]⟩, .int .i64 0, .bool false, .bool false, .bool false] 25)) from (((Below.refl _ w).alloc (by simp) _).alloc (by simp) _))
    have Ks0 := Lib.hid (show Blk ((w.alloc (.cells #[.int .i64 u, .string d, .int .i64 t, .bool f, .bool g, .bool h] 25)).alloc (.cells #[.int .i64 0, .string ⟨#[]⟩, .int .i64 0, .bool false, .bool false, .bool false] 25)) (w.heap.size) [.int .i64 u, .string d, .int .i64 t, .bool f, .bool g, .bool h] from (Blk.new w [.int .i64 u, .string d, .int .i64 t, .bool f, .bool g, .bool h] 25).alloc (.cells #[.int .i64 0, .string ⟨#[]⟩, .int .i64 0, .bool false, .bool false, .bool false] 25))
    have s1 : (w.alloc (.cells #[.int .i64 u, .string d, .int .i64 t, .bool f, .bool g, .bool h] 25)).heap.size = w.heap.size + 1 := by simp
    have Kr0 := Lib.hid (show Blk ((w.alloc (.cells #[.int .i64 u, .string d, .int .i64 t, .bool f, .bool g, .bool h] 25)).alloc (.cells #[.int .i64 0, .string ⟨#[]⟩, .int .i64 0, .bool false, .bool false, .bool false] 25)) (w.heap.size + 1) [.int .i64 0, .string ⟨#[]⟩, .int .i64 0, .bool false, .bool false, .bool false] by have h0 := Blk.new (w.alloc (.cells #[.int .i64 u, .string d, .int .i64 t, .bool f, .bool g, .bool h] 25)) [.int .i64 0, .string ⟨#[]⟩, .int .i64 0, .bool false, .bool false, .bool false] 25; rwa [s1] at h0)
    have n_s_r : w.heap.size ≠ w.heap.size + 1 := by omega
    clear s1
    go_wp2_with fail
    change Calls _ _ _ ((w.alloc (.cells #[.int .i64 u, .string d, .int .i64 t, .bool f, .bool g, .bool h] 25)).alloc (.cells #[.int .i64 0, .string ⟨#[]⟩, .int .i64 0, .bool false, .bool false, .bool false] 25)) _
    generalize (w.alloc (.cells #[.int .i64 u, .string d, .int .i64 t, .bool f, .bool g, .bool h] 25)).alloc (.cells #[.int .i64 0, .string ⟨#[]⟩, .int .i64 0, .bool false, .bool false, .bool false] 25) = v0 at B0 Ks0 Kr0 ⊢
    generalize hh_r : w.heap.size + 1 = g_r at Kr0 n_s_r ⊢
    generalize hh_s : w.heap.size = g_s at Ks0 n_s_r ⊢
    have l_s : w.heap.size ≤ g_s := by omega
    have l_r : w.heap.size ≤ g_r := by omega
    clear hh_s hh_r
    refine (OK.out _).mono ?_
    rintro e v1 ⟨rfl, hb⟩
    have B1 := Lib.hid (B0.out.trans (hb.mono B0.out.size))
    have Ks1 := Lib.hid (Ks0.out.below hb)
    have Kr1 := Lib.hid (Kr0.out.below hb)
    clear hb B0 Ks0 Kr0
    obtain ⟨⟨cs0, cs1, cs2, cs3, cs4, cs5⟩, ds0, ds1, ds2, ds3, ds4, ds5⟩ := Ks1.out.of6
    obtain ⟨⟨cr0, cr1, cr2, cr3, cr4, cr5⟩, dr0, dr1, dr2, dr3, dr4, dr5⟩ := Kr1.out.of6
    go_wp2_with fail
    exact bodyPost_ret (v := .agg #[.int .i64 u, .string d, .int .i64 t, .bool f, .bool g, .bool h]) (by simp [results, Try.results35, go_sem, cr0, cr1, cr2, cr3, cr4, cr5]) rfl ⟨rfl, ((((((B1.out.setCell l_r (.int .i64 u)).setCell l_r (.string d)).setCell l_r (.int .i64 t)).setCell l_r (.bool f)).setCell l_r (.bool g)).setCell l_r (.bool h))⟩
  | true =>
    rw [hok] at OK
    rw [if_pos rfl]
    simp only [Snd.cs]
    replace OK := Lib.hid OK
    clear hok
    go_enter Try.func35, Try.ntmps35
    have B0 := Lib.hid (show Below w.heap.size w ((w.alloc (.cells #[.int .i64 u, .string d, .int .i64 t, .bool f, .bool g, .bool h] 25)).alloc (.cells #[.int .i64 0, .string ⟨#[]⟩, .int .i64 0, .bool false, .bool false, .bool false] 25)) from (((Below.refl _ w).alloc (by simp) _).alloc (by simp) _))
    have Ks0 := Lib.hid (show Blk ((w.alloc (.cells #[.int .i64 u, .string d, .int .i64 t, .bool f, .bool g, .bool h] 25)).alloc (.cells #[.int .i64 0, .string ⟨#[]⟩, .int .i64 0, .bool false, .bool false, .bool false] 25)) (w.heap.size) [.int .i64 u, .string d, .int .i64 t, .bool f, .bool g, .bool h] from (Blk.new w [.int .i64 u, .string d, .int .i64 t, .bool f, .bool g, .bool h] 25).alloc (.cells #[.int .i64 0, .string ⟨#[]⟩, .int .i64 0, .bool false, .bool false, .bool false] 25))
    have s1 : (w.alloc (.cells #[.int .i64 u, .string d, .int .i64 t, .bool f, .bool g, .bool h] 25)).heap.size = w.heap.size + 1 := by simp
    have Kr0 := Lib.hid (show Blk ((w.alloc (.cells #[.int .i64 u, .string d, .int .i64 t, .bool f, .bool g, .bool h] 25)).alloc (.cells #[.int .i64 0, .string ⟨#[]⟩, .int .i64 0, .bool false, .bool false, .bool false] 25)) (w.heap.size + 1) [.int .i64 0, .string ⟨#[]⟩, .int .i64 0, .bool false, .bool false, .bool false] by have h0 := Blk.new (w.alloc (.cells #[.int .i64 u, .string d, .int .i64 t, .bool f, .bool g, .bool h] 25)) [.int .i64 0, .string ⟨#[]⟩, .int .i64 0, .bool false, .bool false, .bool false] 25; rwa [s1] at h0)
    have n_s_r : w.heap.size ≠ w.heap.size + 1 := by omega
    clear s1
    go_wp2_with fail
    change Calls _ _ _ ((w.alloc (.cells #[.int .i64 u, .string d, .int .i64 t, .bool f, .bool g, .bool h] 25)).alloc (.cells #[.int .i64 0, .string ⟨#[]⟩, .int .i64 0, .bool false, .bool false, .bool false] 25)) _
    generalize (w.alloc (.cells #[.int .i64 u, .string d, .int .i64 t, .bool f, .bool g, .bool h] 25)).alloc (.cells #[.int .i64 0, .string ⟨#[]⟩, .int .i64 0, .bool false, .bool false, .bool false] 25) = v0 at B0 Ks0 Kr0 ⊢
    generalize hh_r : w.heap.size + 1 = g_r at Kr0 n_s_r ⊢
    generalize hh_s : w.heap.size = g_s at Ks0 n_s_r ⊢
    have l_s : w.heap.size ≤ g_s := by omega
    have l_r : w.heap.size ≤ g_r := by omega
    clear hh_s hh_r
    refine (OK.out _).mono ?_
    rintro e v1 ⟨rfl, hb⟩
    have B1 := Lib.hid (B0.out.trans (hb.mono B0.out.size))
    have Ks1 := Lib.hid (Ks0.out.below hb)
    have Kr1 := Lib.hid (Kr0.out.below hb)
    clear hb B0 Ks0 Kr0
    obtain ⟨⟨cs0, cs1, cs2, cs3, cs4, cs5⟩, ds0, ds1, ds2, ds3, ds4, ds5⟩ := Ks1.out.of6
    obtain ⟨⟨cr0, cr1, cr2, cr3, cr4, cr5⟩, dr0, dr1, dr2, dr3, dr4, dr5⟩ := Kr1.out.of6
    go_wp2_with fail
    exact bodyPost_ret (v := .agg #[.int .i64 u, .string d, .int .i64 0, .bool f, .bool false, .bool h]) (by simp [results, Try.results35, go_sem, cr0, cr1, cr2, cr3, cr4, cr5]) rfl ⟨rfl, ((((((((B1.out.setCell l_s (.int .i64 0)).setCell l_s (.bool false)).setCell l_r (.int .i64 u)).setCell l_r (.string d)).setCell l_r (.int .i64 0)).setCell l_r (.bool f)).setCell l_r (.bool false)).setCell l_r (.bool h))⟩
end Go.Proofs.Ytkigkfedkjnkeaa
