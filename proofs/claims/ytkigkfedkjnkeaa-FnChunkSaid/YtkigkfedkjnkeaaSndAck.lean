/- Acked, of both sides. Nothing here is a claim. -/
import Derived.Test.YtkigkfedkjnkeaaSndOpK
import Derived.Test.YtkigkfedkjnkeaaBlk10
import Derived.Test.YtkigkfedkjnkeaaSndOk
import Derived.Test.YtkigkfedkjnkeaaSndPos
import Derived.Test.YtkigkfedkjnkeaaSndMin
import Derived.Deep.DeepCutAuto
import Derived.Deep.RegionHeld3
import Derived.StillTailTactics
namespace Go.Proofs.Ytkigkfedkjnkeaa
open Go.RowKit Go.Lib

set_option maxRecDepth 100000 in
set_option maxHeartbeats 4000000 in
theorem ackedI (u : Int) (d : ByteArray) (t : Int) (f g h : Bool) (a : Int) (w : World) : Calls Try.prog 30 #[.agg #[.int .i64 u, .string d, .int .i64 t, .bool f, .bool g, .bool h], .int .i64 a] w (EndA (acked ⟨u, d, t, f, g, h⟩ a) (akOk ⟨u, d, t, f, g, h⟩ a) w) := by
  unfold EndA
  have OK := (sndOkI u d t f g h)
  have P := positionI u d t f g h
  have PS := passedI u (fl t g) a
  by_cases hr : 0 ≤ df a u ∧ df a u ≤ fl t g
  case neg =>
    rw [decide_eq_false hr] at PS
    rw [show akOk ⟨u, d, t, f, g, h⟩ a = false from by unfold akOk; simp only; rw [decide_eq_false hr, Bool.and_false], ak_no (s := ⟨u, d, t, f, g, h⟩) (a := a) (by unfold akOk; simp only; rw [decide_eq_false hr, Bool.and_false])]
    simp only [Snd.cs]
    replace OK := Lib.hid OK
    replace P := Lib.hid P
    replace PS := Lib.hid PS
    generalize fl t g = b at P PS hr
    generalize df a u = n at PS hr
    clear hr
    go_enter Try.func30, Try.ntmps30
    have B0 := Lib.hid (show Below w.heap.size w ((w.alloc (.cells #[.int .i64 u, .string d, .int .i64 t, .bool f, .bool g, .bool h] 25)).alloc (.cells #[.int .i64 0, .string ⟨#[]⟩, .int .i64 0, .bool false, .bool false, .bool false] 25)) from (((Below.refl _ w).alloc (by simp) _).alloc (by simp) _))
    have Ks0 := Lib.hid (show Blk ((w.alloc (.cells #[.int .i64 u, .string d, .int .i64 t, .bool f, .bool g, .bool h] 25)).alloc (.cells #[.int .i64 0, .string ⟨#[]⟩, .int .i64 0, .bool false, .bool false, .bool false] 25)) (w.heap.size) [.int .i64 u, .string d, .int .i64 t, .bool f, .bool g, .bool h] from (Blk.new w [.int .i64 u, .string d, .int .i64 t, .bool f, .bool g, .bool h] 25).alloc (.cells #[.int .i64 0, .string ⟨#[]⟩, .int .i64 0, .bool false, .bool false, .bool false] 25))
    have s1 : (w.alloc (.cells #[.int .i64 u, .string d, .int .i64 t, .bool f, .bool g, .bool h] 25)).heap.size = w.heap.size + 1 := by simp
    have Kr0 := Lib.hid (show Blk ((w.alloc (.cells #[.int .i64 u, .string d, .int .i64 t, .bool f, .bool g, .bool h] 25)).alloc (.cells #[.int .i64 0, .string ⟨#[]⟩, .int .i64 0, .bool false, .bool false, .bool false] 25)) (w.heap.size + 1) [.int .i64 0, .string ⟨#[]⟩, .int .i64 0, .bool false, .bool false, .bool false] by have h0 := Blk.new (w.alloc (.cells #[.int .i64 u, .string d, .int .i64 t, .bool f, .bool g, .bool h] 25)) [.int .i64 0, .string ⟨#[]⟩, .int .i64 0, .bool false, .bool false, .bool false] 25; rwa [s1] at h0)
    have n_s_r : w.heap.size ≠ w.heap.size + 1 := by omega
    clear s1
    go_wp2_with fail
    change Calls _ _ _ ((w.alloc (.cells #[.int .i64 u, .string d, .int .i64 t, .bool f, .bool g, .bool h] 25)).alloc (.cells #[.int .i64 0, .string ⟨#[]⟩, .int .i64 0, .bool false, .bool false, .bool false] 25)) _
    generalize (w.alloc (.cells #[.int .i64 u, .string d, .int .i64 t, .bool f, .bool g, .bool h] 25)).alloc (.cells #[.int .i64 0, .string ⟨#[]⟩, .int .i64 0, .bool false, .bool false, .bool false] 25) = v0 at B0 Ks0 Kr0 ⊢
    generalize hh_r : w.heap.size + 1 = g_r at Kr0 n_s_r ⊢
    generalize hh_s : w.heap.size = g_s at Ks0 n_s_r ⊢
    have l_s : w.heap.size ≤ g_s := by omega
    have l_r : w.heap.size ≤ g_r := by omega
    clear hh_s hh_r
    refine (P.out _).mono ?_
    rintro e v1 ⟨rfl, hb⟩
    have B1 := Lib.hid (B0.out.trans (hb.mono B0.out.size))
    have Ks1 := Lib.hid (Ks0.out.below hb)
    have Kr1 := Lib.hid (Kr0.out.below hb)
    clear hb B0 Ks0 Kr0
    obtain ⟨⟨cs0, cs1, cs2, cs3, cs4, cs5⟩, ds0, ds1, ds2, ds3, ds4, ds5⟩ := Ks1.out.of6
    obtain ⟨⟨cr0, cr1, cr2, cr3, cr4, cr5⟩, dr0, dr1, dr2, dr3, dr4, dr5⟩ := Kr1.out.of6
    go_wp2_with fail
    clear cs0 cs1 cs2 cs3 cs4 cs5 ds0 ds1 ds2 ds3 ds4 ds5 cr0 cr1 cr2 cr3 cr4 cr5 dr0 dr1 dr2 dr3 dr4 dr5
    refine (PS.out _).mono ?_
    rintro e v2 ⟨rfl, hb⟩
    have B2 := Lib.hid (B1.out.trans (hb.mono B1.out.size))
    have Ks2 := Lib.hid (Ks1.out.below hb)
    have Kr2 := Lib.hid (Kr1.out.below hb)
    clear hb B1 Ks1 Kr1
    obtain ⟨⟨cs0, cs1, cs2, cs3, cs4, cs5⟩, ds0, ds1, ds2, ds3, ds4, ds5⟩ := Ks2.out.of6
    obtain ⟨⟨cr0, cr1, cr2, cr3, cr4, cr5⟩, dr0, dr1, dr2, dr3, dr4, dr5⟩ := Kr2.out.of6
    go_wp2_with fail
    exact bodyPost_ret (v := .tuple #[.agg #[.int .i64 u, .string d, .int .i64 t, .bool f, .bool g, .bool h], .bool false]) (by simp [results, Try.results30, go_sem, cr0, cr1, cr2, cr3, cr4, cr5]) rfl ⟨rfl, ((((((B2.out.setCell l_r (.int .i64 u)).setCell l_r (.string d)).setCell l_r (.int .i64 t)).setCell l_r (.bool f)).setCell l_r (.bool g)).setCell l_r (.bool h))⟩
  rw [decide_eq_true hr] at PS
  cases hok : sndOk ⟨u, d, t, f, g, h⟩ with
  | false =>
    rw [hok] at OK
    rw [show akOk ⟨u, d, t, f, g, h⟩ a = false from by unfold akOk; rw [hok]; rfl, ak_no (s := ⟨u, d, t, f, g, h⟩) (a := a) (by unfold akOk; rw [hok]; rfl)]
    simp only [Snd.cs]
    replace OK := Lib.hid OK
    replace P := Lib.hid P
    replace PS := Lib.hid PS
    generalize fl t g = b at P PS hr
    generalize df a u = n at PS hr
    clear hr hok
    go_enter Try.func30, Try.ntmps30
    have B0 := Lib.hid (show Below w.heap.size w ((w.alloc (.cells #[.int .i64 u, .string d, .int .i64 t, .bool f, .bool g, .bool h] 25)).alloc (.cells #[.int .i64 0, .string ⟨#[]⟩, .int .i64 0, .bool false, .bool false, .bool false] 25)) from (((Below.refl _ w).alloc (by simp) _).alloc (by simp) _))
    have Ks0 := Lib.hid (show Blk ((w.alloc (.cells #[.int .i64 u, .string d, .int .i64 t, .bool f, .bool g, .bool h] 25)).alloc (.cells #[.int .i64 0, .string ⟨#[]⟩, .int .i64 0, .bool false, .bool false, .bool false] 25)) (w.heap.size) [.int .i64 u, .string d, .int .i64 t, .bool f, .bool g, .bool h] from (Blk.new w [.int .i64 u, .string d, .int .i64 t, .bool f, .bool g, .bool h] 25).alloc (.cells #[.int .i64 0, .string ⟨#[]⟩, .int .i64 0, .bool false, .bool false, .bool false] 25))
    have s1 : (w.alloc (.cells #[.int .i64 u, .string d, .int .i64 t, .bool f, .bool g, .bool h] 25)).heap.size = w.heap.size + 1 := by simp
    have Kr0 := Lib.hid (show Blk ((w.alloc (.cells #[.int .i64 u, .string d, .int .i64 t, .bool f, .bool g, .bool h] 25)).alloc (.cells #[.int .i64 0, .string ⟨#[]⟩, .int .i64 0, .bool false, .bool false, .bool false] 25)) (w.heap.size + 1) [.int .i64 0, .string ⟨#[]⟩, .int .i64 0, .bool false, .bool false, .bool false] by have h0 := Blk.new (w.alloc (.cells #[.int .i64 u, .string d, .int .i64 t, .bool f, .bool g, .bool h] 25)) [.int .i64 0, .string ⟨#[]⟩, .int .i64 0, .bool false, .bool false, .bool false] 25; rwa [s1] at h0)
    have n_s_r : w.heap.size ≠ w.heap.size + 1 := by omega
    clear s1
    go_wp2_with fail
    change Calls _ _ _ ((w.alloc (.cells #[.int .i64 u, .string d, .int .i64 t, .bool f, .bool g, .bool h] 25)).alloc (.cells #[.int .i64 0, .string ⟨#[]⟩, .int .i64 0, .bool false, .bool false, .bool false] 25)) _
    generalize (w.alloc (.cells #[.int .i64 u, .string d, .int .i64 t, .bool f, .bool g, .bool h] 25)).alloc (.cells #[.int .i64 0, .string ⟨#[]⟩, .int .i64 0, .bool false, .bool false, .bool false] 25) = v0 at B0 Ks0 Kr0 ⊢
    generalize hh_r : w.heap.size + 1 = g_r at Kr0 n_s_r ⊢
    generalize hh_s : w.heap.size = g_s at Ks0 n_s_r ⊢
    have l_s : w.heap.size ≤ g_s := by omega
    have l_r : w.heap.size ≤ g_r := by omega
    clear hh_s hh_r
    refine (P.out _).mono ?_
    rintro e v1 ⟨rfl, hb⟩
    have B1 := Lib.hid (B0.out.trans (hb.mono B0.out.size))
    have Ks1 := Lib.hid (Ks0.out.below hb)
    have Kr1 := Lib.hid (Kr0.out.below hb)
    clear hb B0 Ks0 Kr0
    obtain ⟨⟨cs0, cs1, cs2, cs3, cs4, cs5⟩, ds0, ds1, ds2, ds3, ds4, ds5⟩ := Ks1.out.of6
    obtain ⟨⟨cr0, cr1, cr2, cr3, cr4, cr5⟩, dr0, dr1, dr2, dr3, dr4, dr5⟩ := Kr1.out.of6
    go_wp2_with fail
    clear cs0 cs1 cs2 cs3 cs4 cs5 ds0 ds1 ds2 ds3 ds4 ds5 cr0 cr1 cr2 cr3 cr4 cr5 dr0 dr1 dr2 dr3 dr4 dr5
    refine (PS.out _).mono ?_
    rintro e v2 ⟨rfl, hb⟩
    have B2 := Lib.hid (B1.out.trans (hb.mono B1.out.size))
    have Ks2 := Lib.hid (Ks1.out.below hb)
    have Kr2 := Lib.hid (Kr1.out.below hb)
    clear hb B1 Ks1 Kr1
    obtain ⟨⟨cs0, cs1, cs2, cs3, cs4, cs5⟩, ds0, ds1, ds2, ds3, ds4, ds5⟩ := Ks2.out.of6
    obtain ⟨⟨cr0, cr1, cr2, cr3, cr4, cr5⟩, dr0, dr1, dr2, dr3, dr4, dr5⟩ := Kr2.out.of6
    go_wp2_with fail
    clear cs0 cs1 cs2 cs3 cs4 cs5 ds0 ds1 ds2 ds3 ds4 ds5 cr0 cr1 cr2 cr3 cr4 cr5 dr0 dr1 dr2 dr3 dr4 dr5
    refine (OK.out _).mono ?_
    rintro e v3 ⟨rfl, hb⟩
    have B3 := Lib.hid (B2.out.trans (hb.mono B2.out.size))
    have Ks3 := Lib.hid (Ks2.out.below hb)
    have Kr3 := Lib.hid (Kr2.out.below hb)
    clear hb B2 Ks2 Kr2
    obtain ⟨⟨cs0, cs1, cs2, cs3, cs4, cs5⟩, ds0, ds1, ds2, ds3, ds4, ds5⟩ := Ks3.out.of6
    obtain ⟨⟨cr0, cr1, cr2, cr3, cr4, cr5⟩, dr0, dr1, dr2, dr3, dr4, dr5⟩ := Kr3.out.of6
    go_wp2_with fail
    exact bodyPost_ret (v := .tuple #[.agg #[.int .i64 u, .string d, .int .i64 t, .bool f, .bool g, .bool h], .bool false]) (by simp [results, Try.results30, go_sem, cr0, cr1, cr2, cr3, cr4, cr5]) rfl ⟨rfl, ((((((B3.out.setCell l_r (.int .i64 u)).setCell l_r (.string d)).setCell l_r (.int .i64 t)).setCell l_r (.bool f)).setCell l_r (.bool g)).setCell l_r (.bool h))⟩
  | true =>
    rw [hok] at OK
    have hak : akOk ⟨u, d, t, f, g, h⟩ a = true := by unfold akOk; rw [hok]; simp only; rw [decide_eq_true hr]; rfl
    rw [hak]
    obtain ⟨-, ⟨hd, ht0, ht1⟩, hgt, -⟩ := sndOk_of hok
    obtain ⟨p, rfl⟩ : ∃ p : Nat, t = (p : Int) := ⟨t.toNat, by omega⟩
    obtain ⟨k, hk⟩ : ∃ k : Nat, df a u = (k : Int) := ⟨(df a u).toNat, by omega⟩
    have hfl := fl_in (g := g) ht0 (by omega)
    have SA := seqAddI_s u k
    by_cases hf : (p : Int) < df a u
    case pos =>
      rw [ak_fin (s := ⟨u, d, p, f, g, h⟩) hak hf]
      simp only [Snd.cs, Int.toNat_natCast]
      rw [hk] at hf hr PS ⊢
      have hg : g = true := by cases g with | true => rfl | false => rw [hfl] at hr; simp only [cond_false] at hr; omega
      subst hg
      simp only [cond_true] at hfl
      have hp : (p : Int) = d.size := (hgt rfl).2
      rw [hfl] at P PS
      have hkp : k = p + 1 := by omega
      generalize pl (u + (k : Int)) = z at SA ⊢
      replace SA := Lib.hid SA
      replace OK := Lib.hid OK
      replace P := Lib.hid P
      replace PS := Lib.hid PS
      have hpd : p ≤ d.size := by omega
      clear hok hak hfl hgt hr hk ht0 ht1
      have hn1 : (d.size : Int) < k := by omega
      have hmin : min (k : Int) (d.size : Int) = (p : Int) := by omega
      clear hkp hp
      go_enter Try.func30, Try.ntmps30
      have B0 := Lib.hid (show Below w.heap.size w ((w.alloc (.cells #[.int .i64 u, .string d, .int .i64 p, .bool f, .bool true, .bool h] 25)).alloc (.cells #[.int .i64 0, .string ⟨#[]⟩, .int .i64 0, .bool false, .bool false, .bool false] 25)) from (((Below.refl _ w).alloc (by simp) _).alloc (by simp) _))
      have Ks0 := Lib.hid (show Blk ((w.alloc (.cells #[.int .i64 u, .string d, .int .i64 p, .bool f, .bool true, .bool h] 25)).alloc (.cells #[.int .i64 0, .string ⟨#[]⟩, .int .i64 0, .bool false, .bool false, .bool false] 25)) (w.heap.size) [.int .i64 u, .string d, .int .i64 p, .bool f, .bool true, .bool h] from (Blk.new w [.int .i64 u, .string d, .int .i64 p, .bool f, .bool true, .bool h] 25).alloc (.cells #[.int .i64 0, .string ⟨#[]⟩, .int .i64 0, .bool false, .bool false, .bool false] 25))
      have s1 : (w.alloc (.cells #[.int .i64 u, .string d, .int .i64 p, .bool f, .bool true, .bool h] 25)).heap.size = w.heap.size + 1 := by simp
      have Kr0 := Lib.hid (show Blk ((w.alloc (.cells #[.int .i64 u, .string d, .int .i64 p, .bool f, .bool true, .bool h] 25)).alloc (.cells #[.int .i64 0, .string ⟨#[]⟩, .int .i64 0, .bool false, .bool false, .bool false] 25)) (w.heap.size + 1) [.int .i64 0, .string ⟨#[]⟩, .int .i64 0, .bool false, .bool false, .bool false] by have h0 := Blk.new (w.alloc (.cells #[.int .i64 u, .string d, .int .i64 p, .bool f, .bool true, .bool h] 25)) [.int .i64 0, .string ⟨#[]⟩, .int .i64 0, .bool false, .bool false, .bool false] 25; rwa [s1] at h0)
      have n_s_r : w.heap.size ≠ w.heap.size + 1 := by omega
      clear s1
      go_wp2_with fail
      change Calls _ _ _ ((w.alloc (.cells #[.int .i64 u, .string d, .int .i64 p, .bool f, .bool true, .bool h] 25)).alloc (.cells #[.int .i64 0, .string ⟨#[]⟩, .int .i64 0, .bool false, .bool false, .bool false] 25)) _
      generalize (w.alloc (.cells #[.int .i64 u, .string d, .int .i64 p, .bool f, .bool true, .bool h] 25)).alloc (.cells #[.int .i64 0, .string ⟨#[]⟩, .int .i64 0, .bool false, .bool false, .bool false] 25) = v0 at B0 Ks0 Kr0 ⊢
      generalize hh_r : w.heap.size + 1 = g_r at Kr0 n_s_r ⊢
      generalize hh_s : w.heap.size = g_s at Ks0 n_s_r ⊢
      have l_s : w.heap.size ≤ g_s := by omega
      have l_r : w.heap.size ≤ g_r := by omega
      clear hh_s hh_r
      refine (P.out _).mono ?_
      rintro e v1 ⟨rfl, hb⟩
      have B1 := Lib.hid (B0.out.trans (hb.mono B0.out.size))
      have Ks1 := Lib.hid (Ks0.out.below hb)
      have Kr1 := Lib.hid (Kr0.out.below hb)
      clear hb B0 Ks0 Kr0
      obtain ⟨⟨cs0, cs1, cs2, cs3, cs4, cs5⟩, ds0, ds1, ds2, ds3, ds4, ds5⟩ := Ks1.out.of6
      obtain ⟨⟨cr0, cr1, cr2, cr3, cr4, cr5⟩, dr0, dr1, dr2, dr3, dr4, dr5⟩ := Kr1.out.of6
      go_wp2_with fail
      clear cs0 cs1 cs2 cs3 cs4 cs5 ds0 ds1 ds2 ds3 ds4 ds5 cr0 cr1 cr2 cr3 cr4 cr5 dr0 dr1 dr2 dr3 dr4 dr5
      refine (PS.out _).mono ?_
      rintro e v2 ⟨rfl, hb⟩
      have B2 := Lib.hid (B1.out.trans (hb.mono B1.out.size))
      have Ks2 := Lib.hid (Ks1.out.below hb)
      have Kr2 := Lib.hid (Kr1.out.below hb)
      clear hb B1 Ks1 Kr1
      obtain ⟨⟨cs0, cs1, cs2, cs3, cs4, cs5⟩, ds0, ds1, ds2, ds3, ds4, ds5⟩ := Ks2.out.of6
      obtain ⟨⟨cr0, cr1, cr2, cr3, cr4, cr5⟩, dr0, dr1, dr2, dr3, dr4, dr5⟩ := Kr2.out.of6
      go_wp2_with fail
      clear cs0 cs1 cs2 cs3 cs4 cs5 ds0 ds1 ds2 ds3 ds4 ds5 cr0 cr1 cr2 cr3 cr4 cr5 dr0 dr1 dr2 dr3 dr4 dr5
      refine (OK.out _).mono ?_
      rintro e v3 ⟨rfl, hb⟩
      have B3 := Lib.hid (B2.out.trans (hb.mono B2.out.size))
      have Ks3 := Lib.hid (Ks2.out.below hb)
      have Kr3 := Lib.hid (Kr2.out.below hb)
      clear hb B2 Ks2 Kr2
      obtain ⟨⟨cs0, cs1, cs2, cs3, cs4, cs5⟩, ds0, ds1, ds2, ds3, ds4, ds5⟩ := Ks3.out.of6
      obtain ⟨⟨cr0, cr1, cr2, cr3, cr4, cr5⟩, dr0, dr1, dr2, dr3, dr4, dr5⟩ := Kr3.out.of6
      have Ks4 := Lib.hid (show Blk ((v3.setCell ⟨g_s, 4, none⟩ (.bool false)).setCell ⟨g_s, 5, none⟩ (.bool true)) g_s [.int .i64 u, .string d, .int .i64 p, .bool f, .bool false, .bool true] from ((Ks3.out.set 4 (.bool false)).set 5 (.bool true)))
      have Kr4 := Lib.hid (show Blk ((v3.setCell ⟨g_s, 4, none⟩ (.bool false)).setCell ⟨g_s, 5, none⟩ (.bool true)) g_r [.int .i64 0, .string ⟨#[]⟩, .int .i64 0, .bool false, .bool false, .bool false] from ((Kr3.out.setOther ⟨g_s, 4, none⟩ (.bool false) (fun e => n_s_r e.symm)).setOther ⟨g_s, 5, none⟩ (.bool true) (fun e => n_s_r e.symm)))
      have B4 := Lib.hid (show Below w.heap.size w ((v3.setCell ⟨g_s, 4, none⟩ (.bool false)).setCell ⟨g_s, 5, none⟩ (.bool true)) from ((B3.out.setCell l_s (.bool false)).setCell l_s (.bool true)))
      clear B3
      go_wp2_with fail
      clear Ks3 Kr3
      clear cs0 cs1 cs2 cs3 cs4 cs5 ds0 ds1 ds2 ds3 ds4 ds5 cr0 cr1 cr2 cr3 cr4 cr5 dr0 dr1 dr2 dr3 dr4 dr5
      change Calls _ _ _ ((v3.setCell ⟨g_s, 4, none⟩ (.bool false)).setCell ⟨g_s, 5, none⟩ (.bool true)) _
      generalize (v3.setCell ⟨g_s, 4, none⟩ (.bool false)).setCell ⟨g_s, 5, none⟩ (.bool true) = v4 at B4 Ks4 Kr4 ⊢
      refine (SA.out _).mono ?_
      rintro e v5 ⟨rfl, hb⟩
      have B5 := Lib.hid (B4.out.trans (hb.mono B4.out.size))
      have Ks5 := Lib.hid (Ks4.out.below hb)
      have Kr5 := Lib.hid (Kr4.out.below hb)
      clear hb B4 Ks4 Kr4
      obtain ⟨⟨cs0, cs1, cs2, cs3, cs4, cs5⟩, ds0, ds1, ds2, ds3, ds4, ds5⟩ := Ks5.out.of6
      obtain ⟨⟨cr0, cr1, cr2, cr3, cr4, cr5⟩, dr0, dr1, dr2, dr3, dr4, dr5⟩ := Kr5.out.of6
      go_wp2_with fail
      exact bodyPost_ret (v := .tuple #[.agg #[.int .i64 z, .string (d.extract p d.size), .int .i64 0, .bool f, .bool false, .bool true], .bool true]) (by simp [results, Try.results30, go_sem, cr0, cr1, cr2, cr3, cr4, cr5]) rfl ⟨rfl, (((((((((B5.out.setCell l_s (.int .i64 z)).setCell l_s (.string (d.extract p d.size))).setCell l_s (.int .i64 0)).setCell l_r (.int .i64 z)).setCell l_r (.string (d.extract p d.size))).setCell l_r (.int .i64 0)).setCell l_r (.bool f)).setCell l_r (.bool false)).setCell l_r (.bool true))⟩
    rw [ak_yes (s := ⟨u, d, p, f, g, h⟩) hak hf]
    simp only [Snd.cs]
    rw [hk] at hf hr PS ⊢
    simp only [Int.toNat_natCast]
    generalize fl p g = b at hfl hr P PS
    generalize pl (u + (k : Int)) = z at SA ⊢
    replace SA := Lib.hid SA
    replace OK := Lib.hid OK
    replace P := Lib.hid P
    replace PS := Lib.hid PS
    have hpd : p ≤ d.size := by omega
    have hkp : k ≤ p := by omega
    clear hok hak hfl hgt hr hk ht0 ht1
    have hn1 : ¬ (d.size : Int) < k := by omega
    have hmin : min (k : Int) (d.size : Int) = (k : Int) := by omega
    go_enter Try.func30, Try.ntmps30
    have B0 := Lib.hid (show Below w.heap.size w ((w.alloc (.cells #[.int .i64 u, .string d, .int .i64 p, .bool f, .bool g, .bool h] 25)).alloc (.cells #[.int .i64 0, .string ⟨#[]⟩, .int .i64 0, .bool false, .bool false, .bool false] 25)) from (((Below.refl _ w).alloc (by simp) _).alloc (by simp) _))
    have Ks0 := Lib.hid (show Blk ((w.alloc (.cells #[.int .i64 u, .string d, .int .i64 p, .bool f, .bool g, .bool h] 25)).alloc (.cells #[.int .i64 0, .string ⟨#[]⟩, .int .i64 0, .bool false, .bool false, .bool false] 25)) (w.heap.size) [.int .i64 u, .string d, .int .i64 p, .bool f, .bool g, .bool h] from (Blk.new w [.int .i64 u, .string d, .int .i64 p, .bool f, .bool g, .bool h] 25).alloc (.cells #[.int .i64 0, .string ⟨#[]⟩, .int .i64 0, .bool false, .bool false, .bool false] 25))
    have s1 : (w.alloc (.cells #[.int .i64 u, .string d, .int .i64 p, .bool f, .bool g, .bool h] 25)).heap.size = w.heap.size + 1 := by simp
    have Kr0 := Lib.hid (show Blk ((w.alloc (.cells #[.int .i64 u, .string d, .int .i64 p, .bool f, .bool g, .bool h] 25)).alloc (.cells #[.int .i64 0, .string ⟨#[]⟩, .int .i64 0, .bool false, .bool false, .bool false] 25)) (w.heap.size + 1) [.int .i64 0, .string ⟨#[]⟩, .int .i64 0, .bool false, .bool false, .bool false] by have h0 := Blk.new (w.alloc (.cells #[.int .i64 u, .string d, .int .i64 p, .bool f, .bool g, .bool h] 25)) [.int .i64 0, .string ⟨#[]⟩, .int .i64 0, .bool false, .bool false, .bool false] 25; rwa [s1] at h0)
    have n_s_r : w.heap.size ≠ w.heap.size + 1 := by omega
    clear s1
    go_wp2_with fail
    change Calls _ _ _ ((w.alloc (.cells #[.int .i64 u, .string d, .int .i64 p, .bool f, .bool g, .bool h] 25)).alloc (.cells #[.int .i64 0, .string ⟨#[]⟩, .int .i64 0, .bool false, .bool false, .bool false] 25)) _
    generalize (w.alloc (.cells #[.int .i64 u, .string d, .int .i64 p, .bool f, .bool g, .bool h] 25)).alloc (.cells #[.int .i64 0, .string ⟨#[]⟩, .int .i64 0, .bool false, .bool false, .bool false] 25) = v0 at B0 Ks0 Kr0 ⊢
    generalize hh_r : w.heap.size + 1 = g_r at Kr0 n_s_r ⊢
    generalize hh_s : w.heap.size = g_s at Ks0 n_s_r ⊢
    have l_s : w.heap.size ≤ g_s := by omega
    have l_r : w.heap.size ≤ g_r := by omega
    clear hh_s hh_r
    refine (P.out _).mono ?_
    rintro e v1 ⟨rfl, hb⟩
    have B1 := Lib.hid (B0.out.trans (hb.mono B0.out.size))
    have Ks1 := Lib.hid (Ks0.out.below hb)
    have Kr1 := Lib.hid (Kr0.out.below hb)
    clear hb B0 Ks0 Kr0
    obtain ⟨⟨cs0, cs1, cs2, cs3, cs4, cs5⟩, ds0, ds1, ds2, ds3, ds4, ds5⟩ := Ks1.out.of6
    obtain ⟨⟨cr0, cr1, cr2, cr3, cr4, cr5⟩, dr0, dr1, dr2, dr3, dr4, dr5⟩ := Kr1.out.of6
    go_wp2_with fail
    clear cs0 cs1 cs2 cs3 cs4 cs5 ds0 ds1 ds2 ds3 ds4 ds5 cr0 cr1 cr2 cr3 cr4 cr5 dr0 dr1 dr2 dr3 dr4 dr5
    refine (PS.out _).mono ?_
    rintro e v2 ⟨rfl, hb⟩
    have B2 := Lib.hid (B1.out.trans (hb.mono B1.out.size))
    have Ks2 := Lib.hid (Ks1.out.below hb)
    have Kr2 := Lib.hid (Kr1.out.below hb)
    clear hb B1 Ks1 Kr1
    obtain ⟨⟨cs0, cs1, cs2, cs3, cs4, cs5⟩, ds0, ds1, ds2, ds3, ds4, ds5⟩ := Ks2.out.of6
    obtain ⟨⟨cr0, cr1, cr2, cr3, cr4, cr5⟩, dr0, dr1, dr2, dr3, dr4, dr5⟩ := Kr2.out.of6
    go_wp2_with fail
    clear cs0 cs1 cs2 cs3 cs4 cs5 ds0 ds1 ds2 ds3 ds4 ds5 cr0 cr1 cr2 cr3 cr4 cr5 dr0 dr1 dr2 dr3 dr4 dr5
    refine (OK.out _).mono ?_
    rintro e v3 ⟨rfl, hb⟩
    have B3 := Lib.hid (B2.out.trans (hb.mono B2.out.size))
    have Ks3 := Lib.hid (Ks2.out.below hb)
    have Kr3 := Lib.hid (Kr2.out.below hb)
    clear hb B2 Ks2 Kr2
    obtain ⟨⟨cs0, cs1, cs2, cs3, cs4, cs5⟩, ds0, ds1, ds2, ds3, ds4, ds5⟩ := Ks3.out.of6
    obtain ⟨⟨cr0, cr1, cr2, cr3, cr4, cr5⟩, dr0, dr1, dr2, dr3, dr4, dr5⟩ := Kr3.out.of6
    go_wp2_with fail
    clear cs0 cs1 cs2 cs3 cs4 cs5 ds0 ds1 ds2 ds3 ds4 ds5 cr0 cr1 cr2 cr3 cr4 cr5 dr0 dr1 dr2 dr3 dr4 dr5
    refine (SA.out _).mono ?_
    rintro e v4 ⟨rfl, hb⟩
    have B4 := Lib.hid (B3.out.trans (hb.mono B3.out.size))
    have Ks4 := Lib.hid (Ks3.out.below hb)
    have Kr4 := Lib.hid (Kr3.out.below hb)
    clear hb B3 Ks3 Kr3
    obtain ⟨⟨cs0, cs1, cs2, cs3, cs4, cs5⟩, ds0, ds1, ds2, ds3, ds4, ds5⟩ := Ks4.out.of6
    obtain ⟨⟨cr0, cr1, cr2, cr3, cr4, cr5⟩, dr0, dr1, dr2, dr3, dr4, dr5⟩ := Kr4.out.of6
    go_wp2_with fail
    exact bodyPost_ret (v := .tuple #[.agg #[.int .i64 z, .string (d.extract k d.size), .int .i64 ((p : Int) - k), .bool f, .bool g, .bool h], .bool true]) (by simp [results, Try.results30, go_sem, cr0, cr1, cr2, cr3, cr4, cr5]) rfl ⟨rfl, (((((((((B4.out.setCell l_s (.int .i64 z)).setCell l_s (.string (d.extract k d.size))).setCell l_s (.int .i64 ((p : Int) - k))).setCell l_r (.int .i64 z)).setCell l_r (.string (d.extract k d.size))).setCell l_r (.int .i64 ((p : Int) - k))).setCell l_r (.bool f)).setCell l_r (.bool g)).setCell l_r (.bool h))⟩

theorem l1In_s (x lo hi : Int) (w : World) : Calls Try.prog 49 #[.int .i64 x, .int .i64 lo, .int .i64 hi] w (SndB (decide (lo ≤ x ∧ x ≤ hi)) w) := (l1In_any x lo hi w).mono fun _ _ h => ⟨h.1, by rw [← h.2]; exact Below.refl _ _⟩

set_option maxRecDepth 100000 in
set_option maxHeartbeats 4000000 in
theorem ackedS (u : Int) (d : ByteArray) (t : Int) (f g h : Bool) (a : Int) (w : World) : Calls Try.prog 31 #[.agg #[.int .i64 u, .string d, .int .i64 t, .bool f, .bool g, .bool h], .int .i64 a] w (EndA (acked ⟨u, d, t, f, g, h⟩ a) (akOk ⟨u, d, t, f, g, h⟩ a) w) := by
  unfold EndA
  have OK := (sndOkS u d t f g h)
  have DF := seqDiffS_s a u
  have FL := flownS u d t f g h
  have IN := l1In_s (df a u) 0 (fl t g)
  cases hok : sndOk ⟨u, d, t, f, g, h⟩ with
  | false =>
    rw [hok] at OK
    rw [show akOk ⟨u, d, t, f, g, h⟩ a = false from by unfold akOk; rw [hok]; rfl, ak_no (s := ⟨u, d, t, f, g, h⟩) (a := a) (by unfold akOk; rw [hok]; rfl)]
    simp only [Snd.cs]
    replace OK := Lib.hid OK
    replace DF := Lib.hid DF
    replace FL := Lib.hid FL
    replace IN := Lib.hid IN
    generalize fl t g = b at *
    generalize df a u = n at *
    clear hok
    go_enter Try.func31, Try.ntmps31
    have B0 := Lib.hid (show Below w.heap.size w ((w.alloc (.cells #[.int .i64 u, .string d, .int .i64 t, .bool f, .bool g, .bool h] 25)).alloc (.cells #[.int .i64 0, .string ⟨#[]⟩, .int .i64 0, .bool false, .bool false, .bool false] 25)) from (((Below.refl _ w).alloc (by simp) _).alloc (by simp) _))
    have Ks0 := Lib.hid (show Blk ((w.alloc (.cells #[.int .i64 u, .string d, .int .i64 t, .bool f, .bool g, .bool h] 25)).alloc (.cells #[.int .i64 0, .string ⟨#[]⟩, .int .i64 0, .bool false, .bool false, .bool false] 25)) (w.heap.size) [.int .i64 u, .string d, .int .i64 t, .bool f, .bool g, .bool h] from (Blk.new w [.int .i64 u, .string d, .int .i64 t, .bool f, .bool g, .bool h] 25).alloc (.cells #[.int .i64 0, .string ⟨#[]⟩, .int .i64 0, .bool false, .bool false, .bool false] 25))
    have s1 : (w.alloc (.cells #[.int .i64 u, .string d, .int .i64 t, .bool f, .bool g, .bool h] 25)).heap.size = w.heap.size + 1 := by simp
    have Kr0 := Lib.hid (show Blk ((w.alloc (.cells #[.int .i64 u, .string d, .int .i64 t, .bool f, .bool g, .bool h] 25)).alloc (.cells #[.int .i64 0, .string ⟨#[]⟩, .int .i64 0, .bool false, .bool false, .bool false] 25)) (w.heap.size + 1) [.int .i64 0, .string ⟨#[]⟩, .int .i64 0, .bool false, .bool false, .bool false] by have h0 := Blk.new (w.alloc (.cells #[.int .i64 u, .string d, .int .i64 t, .bool f, .bool g, .bool h] 25)) [.int .i64 0, .string ⟨#[]⟩, .int .i64 0, .bool false, .bool false, .bool false] 25; rwa [s1] at h0)
    have n_s_r : w.heap.size ≠ w.heap.size + 1 := by omega
    clear s1
    go_wp2_with fail
    change Calls _ _ _ ((w.alloc (.cells #[.int .i64 u, .string d, .int .i64 t, .bool f, .bool g, .bool h] 25)).alloc (.cells #[.int .i64 0, .string ⟨#[]⟩, .int .i64 0, .bool false, .bool false, .bool false] 25)) _
    generalize (w.alloc (.cells #[.int .i64 u, .string d, .int .i64 t, .bool f, .bool g, .bool h] 25)).alloc (.cells #[.int .i64 0, .string ⟨#[]⟩, .int .i64 0, .bool false, .bool false, .bool false] 25) = v0 at B0 Ks0 Kr0 ⊢
    generalize hh_r : w.heap.size + 1 = g_r at Kr0 n_s_r ⊢
    generalize hh_s : w.heap.size = g_s at Ks0 n_s_r ⊢
    have l_s : w.heap.size ≤ g_s := by omega
    have l_r : w.heap.size ≤ g_r := by omega
    clear hh_s hh_r
    refine (DF.out _).mono ?_
    rintro e v1 ⟨rfl, hb⟩
    have B1 := Lib.hid (B0.out.trans (hb.mono B0.out.size))
    have Ks1 := Lib.hid (Ks0.out.below hb)
    have Kr1 := Lib.hid (Kr0.out.below hb)
    clear hb B0 Ks0 Kr0
    obtain ⟨⟨cs0, cs1, cs2, cs3, cs4, cs5⟩, ds0, ds1, ds2, ds3, ds4, ds5⟩ := Ks1.out.of6
    obtain ⟨⟨cr0, cr1, cr2, cr3, cr4, cr5⟩, dr0, dr1, dr2, dr3, dr4, dr5⟩ := Kr1.out.of6
    go_wp2_with fail
    clear cs0 cs1 cs2 cs3 cs4 cs5 ds0 ds1 ds2 ds3 ds4 ds5 cr0 cr1 cr2 cr3 cr4 cr5 dr0 dr1 dr2 dr3 dr4 dr5
    refine (OK.out _).mono ?_
    rintro e v2 ⟨rfl, hb⟩
    have B2 := Lib.hid (B1.out.trans (hb.mono B1.out.size))
    have Ks2 := Lib.hid (Ks1.out.below hb)
    have Kr2 := Lib.hid (Kr1.out.below hb)
    clear hb B1 Ks1 Kr1
    obtain ⟨⟨cs0, cs1, cs2, cs3, cs4, cs5⟩, ds0, ds1, ds2, ds3, ds4, ds5⟩ := Ks2.out.of6
    obtain ⟨⟨cr0, cr1, cr2, cr3, cr4, cr5⟩, dr0, dr1, dr2, dr3, dr4, dr5⟩ := Kr2.out.of6
    go_wp2_with fail
    exact bodyPost_ret (v := .tuple #[.agg #[.int .i64 u, .string d, .int .i64 t, .bool f, .bool g, .bool h], .bool false]) (by simp [results, Try.results31, go_sem, cr0, cr1, cr2, cr3, cr4, cr5]) rfl ⟨rfl, ((((((B2.out.setCell l_r (.int .i64 u)).setCell l_r (.string d)).setCell l_r (.int .i64 t)).setCell l_r (.bool f)).setCell l_r (.bool g)).setCell l_r (.bool h))⟩
  | true =>
    rw [hok] at OK
    by_cases hr : 0 ≤ df a u ∧ df a u ≤ fl t g
    case neg =>
      rw [decide_eq_false hr] at IN
      rw [show akOk ⟨u, d, t, f, g, h⟩ a = false from by unfold akOk; simp only; rw [decide_eq_false hr, Bool.and_false], ak_no (s := ⟨u, d, t, f, g, h⟩) (a := a) (by unfold akOk; simp only; rw [decide_eq_false hr, Bool.and_false])]
      simp only [Snd.cs]
      replace OK := Lib.hid OK
      replace DF := Lib.hid DF
      replace FL := Lib.hid FL
      replace IN := Lib.hid IN
      generalize fl t g = b at FL IN hr
      generalize df a u = n at DF IN hr
      clear hr hok
      go_enter Try.func31, Try.ntmps31
      have B0 := Lib.hid (show Below w.heap.size w ((w.alloc (.cells #[.int .i64 u, .string d, .int .i64 t, .bool f, .bool g, .bool h] 25)).alloc (.cells #[.int .i64 0, .string ⟨#[]⟩, .int .i64 0, .bool false, .bool false, .bool false] 25)) from (((Below.refl _ w).alloc (by simp) _).alloc (by simp) _))
      have Ks0 := Lib.hid (show Blk ((w.alloc (.cells #[.int .i64 u, .string d, .int .i64 t, .bool f, .bool g, .bool h] 25)).alloc (.cells #[.int .i64 0, .string ⟨#[]⟩, .int .i64 0, .bool false, .bool false, .bool false] 25)) (w.heap.size) [.int .i64 u, .string d, .int .i64 t, .bool f, .bool g, .bool h] from (Blk.new w [.int .i64 u, .string d, .int .i64 t, .bool f, .bool g, .bool h] 25).alloc (.cells #[.int .i64 0, .string ⟨#[]⟩, .int .i64 0, .bool false, .bool false, .bool false] 25))
      have s1 : (w.alloc (.cells #[.int .i64 u, .string d, .int .i64 t, .bool f, .bool g, .bool h] 25)).heap.size = w.heap.size + 1 := by simp
      have Kr0 := Lib.hid (show Blk ((w.alloc (.cells #[.int .i64 u, .string d, .int .i64 t, .bool f, .bool g, .bool h] 25)).alloc (.cells #[.int .i64 0, .string ⟨#[]⟩, .int .i64 0, .bool false, .bool false, .bool false] 25)) (w.heap.size + 1) [.int .i64 0, .string ⟨#[]⟩, .int .i64 0, .bool false, .bool false, .bool false] by have h0 := Blk.new (w.alloc (.cells #[.int .i64 u, .string d, .int .i64 t, .bool f, .bool g, .bool h] 25)) [.int .i64 0, .string ⟨#[]⟩, .int .i64 0, .bool false, .bool false, .bool false] 25; rwa [s1] at h0)
      have n_s_r : w.heap.size ≠ w.heap.size + 1 := by omega
      clear s1
      go_wp2_with fail
      change Calls _ _ _ ((w.alloc (.cells #[.int .i64 u, .string d, .int .i64 t, .bool f, .bool g, .bool h] 25)).alloc (.cells #[.int .i64 0, .string ⟨#[]⟩, .int .i64 0, .bool false, .bool false, .bool false] 25)) _
      generalize (w.alloc (.cells #[.int .i64 u, .string d, .int .i64 t, .bool f, .bool g, .bool h] 25)).alloc (.cells #[.int .i64 0, .string ⟨#[]⟩, .int .i64 0, .bool false, .bool false, .bool false] 25) = v0 at B0 Ks0 Kr0 ⊢
      generalize hh_r : w.heap.size + 1 = g_r at Kr0 n_s_r ⊢
      generalize hh_s : w.heap.size = g_s at Ks0 n_s_r ⊢
      have l_s : w.heap.size ≤ g_s := by omega
      have l_r : w.heap.size ≤ g_r := by omega
      clear hh_s hh_r
      refine (DF.out _).mono ?_
      rintro e v1 ⟨rfl, hb⟩
      have B1 := Lib.hid (B0.out.trans (hb.mono B0.out.size))
      have Ks1 := Lib.hid (Ks0.out.below hb)
      have Kr1 := Lib.hid (Kr0.out.below hb)
      clear hb B0 Ks0 Kr0
      obtain ⟨⟨cs0, cs1, cs2, cs3, cs4, cs5⟩, ds0, ds1, ds2, ds3, ds4, ds5⟩ := Ks1.out.of6
      obtain ⟨⟨cr0, cr1, cr2, cr3, cr4, cr5⟩, dr0, dr1, dr2, dr3, dr4, dr5⟩ := Kr1.out.of6
      go_wp2_with fail
      clear cs0 cs1 cs2 cs3 cs4 cs5 ds0 ds1 ds2 ds3 ds4 ds5 cr0 cr1 cr2 cr3 cr4 cr5 dr0 dr1 dr2 dr3 dr4 dr5
      refine (OK.out _).mono ?_
      rintro e v2 ⟨rfl, hb⟩
      have B2 := Lib.hid (B1.out.trans (hb.mono B1.out.size))
      have Ks2 := Lib.hid (Ks1.out.below hb)
      have Kr2 := Lib.hid (Kr1.out.below hb)
      clear hb B1 Ks1 Kr1
      obtain ⟨⟨cs0, cs1, cs2, cs3, cs4, cs5⟩, ds0, ds1, ds2, ds3, ds4, ds5⟩ := Ks2.out.of6
      obtain ⟨⟨cr0, cr1, cr2, cr3, cr4, cr5⟩, dr0, dr1, dr2, dr3, dr4, dr5⟩ := Kr2.out.of6
      go_wp2_with fail
      clear cs0 cs1 cs2 cs3 cs4 cs5 ds0 ds1 ds2 ds3 ds4 ds5 cr0 cr1 cr2 cr3 cr4 cr5 dr0 dr1 dr2 dr3 dr4 dr5
      refine (FL.out _).mono ?_
      rintro e v3 ⟨rfl, hb⟩
      have B3 := Lib.hid (B2.out.trans (hb.mono B2.out.size))
      have Ks3 := Lib.hid (Ks2.out.below hb)
      have Kr3 := Lib.hid (Kr2.out.below hb)
      clear hb B2 Ks2 Kr2
      obtain ⟨⟨cs0, cs1, cs2, cs3, cs4, cs5⟩, ds0, ds1, ds2, ds3, ds4, ds5⟩ := Ks3.out.of6
      obtain ⟨⟨cr0, cr1, cr2, cr3, cr4, cr5⟩, dr0, dr1, dr2, dr3, dr4, dr5⟩ := Kr3.out.of6
      go_wp2_with fail
      clear cs0 cs1 cs2 cs3 cs4 cs5 ds0 ds1 ds2 ds3 ds4 ds5 cr0 cr1 cr2 cr3 cr4 cr5 dr0 dr1 dr2 dr3 dr4 dr5
      refine (IN.out _).mono ?_
      rintro e v4 ⟨rfl, hb⟩
      have B4 := Lib.hid (B3.out.trans (hb.mono B3.out.size))
      have Ks4 := Lib.hid (Ks3.out.below hb)
      have Kr4 := Lib.hid (Kr3.out.below hb)
      clear hb B3 Ks3 Kr3
      obtain ⟨⟨cs0, cs1, cs2, cs3, cs4, cs5⟩, ds0, ds1, ds2, ds3, ds4, ds5⟩ := Ks4.out.of6
      obtain ⟨⟨cr0, cr1, cr2, cr3, cr4, cr5⟩, dr0, dr1, dr2, dr3, dr4, dr5⟩ := Kr4.out.of6
      go_wp2_with fail
      exact bodyPost_ret (v := .tuple #[.agg #[.int .i64 u, .string d, .int .i64 t, .bool f, .bool g, .bool h], .bool false]) (by simp [results, Try.results31, go_sem, cr0, cr1, cr2, cr3, cr4, cr5]) rfl ⟨rfl, ((((((B4.out.setCell l_r (.int .i64 u)).setCell l_r (.string d)).setCell l_r (.int .i64 t)).setCell l_r (.bool f)).setCell l_r (.bool g)).setCell l_r (.bool h))⟩
    rw [decide_eq_true hr] at IN
    have hak : akOk ⟨u, d, t, f, g, h⟩ a = true := by unfold akOk; rw [hok]; simp only; rw [decide_eq_true hr]; rfl
    rw [hak]
    obtain ⟨-, ⟨hd, ht0, ht1⟩, hgt, -⟩ := sndOk_of hok
    obtain ⟨p, rfl⟩ : ∃ p : Nat, t = (p : Int) := ⟨t.toNat, by omega⟩
    obtain ⟨k, hk⟩ : ∃ k : Nat, df a u = (k : Int) := ⟨(df a u).toNat, by omega⟩
    have hfl := fl_in (g := g) ht0 (by omega)
    have SA := seqAddS_s u k
    by_cases hf : (p : Int) < df a u
    case pos =>
      rw [ak_fin (s := ⟨u, d, p, f, g, h⟩) hak hf]
      simp only [Snd.cs, Int.toNat_natCast]
      rw [hk] at hf hr DF IN ⊢
      have hg : g = true := by cases g with | true => rfl | false => rw [hfl] at hr; simp only [cond_false] at hr; omega
      subst hg
      simp only [cond_true] at hfl
      have hp : (p : Int) = d.size := (hgt rfl).2
      rw [hfl] at FL IN
      have hkp : k = p + 1 := by omega
      generalize pl (u + (k : Int)) = z at SA ⊢
      replace SA := Lib.hid SA
      replace OK := Lib.hid OK
      replace DF := Lib.hid DF
      replace FL := Lib.hid FL
      replace IN := Lib.hid IN
      have hpd : p ≤ d.size := by omega
      clear hok hak hfl hgt hr hk ht0 ht1
      clear hkp hp
      go_enter Try.func31, Try.ntmps31
      have B0 := Lib.hid (show Below w.heap.size w ((w.alloc (.cells #[.int .i64 u, .string d, .int .i64 p, .bool f, .bool true, .bool h] 25)).alloc (.cells #[.int .i64 0, .string ⟨#[]⟩, .int .i64 0, .bool false, .bool false, .bool false] 25)) from (((Below.refl _ w).alloc (by simp) _).alloc (by simp) _))
      have Ks0 := Lib.hid (show Blk ((w.alloc (.cells #[.int .i64 u, .string d, .int .i64 p, .bool f, .bool true, .bool h] 25)).alloc (.cells #[.int .i64 0, .string ⟨#[]⟩, .int .i64 0, .bool false, .bool false, .bool false] 25)) (w.heap.size) [.int .i64 u, .string d, .int .i64 p, .bool f, .bool true, .bool h] from (Blk.new w [.int .i64 u, .string d, .int .i64 p, .bool f, .bool true, .bool h] 25).alloc (.cells #[.int .i64 0, .string ⟨#[]⟩, .int .i64 0, .bool false, .bool false, .bool false] 25))
      have s1 : (w.alloc (.cells #[.int .i64 u, .string d, .int .i64 p, .bool f, .bool true, .bool h] 25)).heap.size = w.heap.size + 1 := by simp
      have Kr0 := Lib.hid (show Blk ((w.alloc (.cells #[.int .i64 u, .string d, .int .i64 p, .bool f, .bool true, .bool h] 25)).alloc (.cells #[.int .i64 0, .string ⟨#[]⟩, .int .i64 0, .bool false, .bool false, .bool false] 25)) (w.heap.size + 1) [.int .i64 0, .string ⟨#[]⟩, .int .i64 0, .bool false, .bool false, .bool false] by have h0 := Blk.new (w.alloc (.cells #[.int .i64 u, .string d, .int .i64 p, .bool f, .bool true, .bool h] 25)) [.int .i64 0, .string ⟨#[]⟩, .int .i64 0, .bool false, .bool false, .bool false] 25; rwa [s1] at h0)
      have n_s_r : w.heap.size ≠ w.heap.size + 1 := by omega
      clear s1
      go_wp2_with fail
      change Calls _ _ _ ((w.alloc (.cells #[.int .i64 u, .string d, .int .i64 p, .bool f, .bool true, .bool h] 25)).alloc (.cells #[.int .i64 0, .string ⟨#[]⟩, .int .i64 0, .bool false, .bool false, .bool false] 25)) _
      generalize (w.alloc (.cells #[.int .i64 u, .string d, .int .i64 p, .bool f, .bool true, .bool h] 25)).alloc (.cells #[.int .i64 0, .string ⟨#[]⟩, .int .i64 0, .bool false, .bool false, .bool false] 25) = v0 at B0 Ks0 Kr0 ⊢
      generalize hh_r : w.heap.size + 1 = g_r at Kr0 n_s_r ⊢
      generalize hh_s : w.heap.size = g_s at Ks0 n_s_r ⊢
      have l_s : w.heap.size ≤ g_s := by omega
      have l_r : w.heap.size ≤ g_r := by omega
      clear hh_s hh_r
      refine (DF.out _).mono ?_
      rintro e v1 ⟨rfl, hb⟩
      have B1 := Lib.hid (B0.out.trans (hb.mono B0.out.size))
      have Ks1 := Lib.hid (Ks0.out.below hb)
      have Kr1 := Lib.hid (Kr0.out.below hb)
      clear hb B0 Ks0 Kr0
      obtain ⟨⟨cs0, cs1, cs2, cs3, cs4, cs5⟩, ds0, ds1, ds2, ds3, ds4, ds5⟩ := Ks1.out.of6
      obtain ⟨⟨cr0, cr1, cr2, cr3, cr4, cr5⟩, dr0, dr1, dr2, dr3, dr4, dr5⟩ := Kr1.out.of6
      go_wp2_with fail
      clear cs0 cs1 cs2 cs3 cs4 cs5 ds0 ds1 ds2 ds3 ds4 ds5 cr0 cr1 cr2 cr3 cr4 cr5 dr0 dr1 dr2 dr3 dr4 dr5
      refine (OK.out _).mono ?_
      rintro e v2 ⟨rfl, hb⟩
      have B2 := Lib.hid (B1.out.trans (hb.mono B1.out.size))
      have Ks2 := Lib.hid (Ks1.out.below hb)
      have Kr2 := Lib.hid (Kr1.out.below hb)
      clear hb B1 Ks1 Kr1
      obtain ⟨⟨cs0, cs1, cs2, cs3, cs4, cs5⟩, ds0, ds1, ds2, ds3, ds4, ds5⟩ := Ks2.out.of6
      obtain ⟨⟨cr0, cr1, cr2, cr3, cr4, cr5⟩, dr0, dr1, dr2, dr3, dr4, dr5⟩ := Kr2.out.of6
      go_wp2_with fail
      clear cs0 cs1 cs2 cs3 cs4 cs5 ds0 ds1 ds2 ds3 ds4 ds5 cr0 cr1 cr2 cr3 cr4 cr5 dr0 dr1 dr2 dr3 dr4 dr5
      refine (FL.out _).mono ?_
      rintro e v3 ⟨rfl, hb⟩
      have B3 := Lib.hid (B2.out.trans (hb.mono B2.out.size))
      have Ks3 := Lib.hid (Ks2.out.below hb)
      have Kr3 := Lib.hid (Kr2.out.below hb)
      clear hb B2 Ks2 Kr2
      obtain ⟨⟨cs0, cs1, cs2, cs3, cs4, cs5⟩, ds0, ds1, ds2, ds3, ds4, ds5⟩ := Ks3.out.of6
      obtain ⟨⟨cr0, cr1, cr2, cr3, cr4, cr5⟩, dr0, dr1, dr2, dr3, dr4, dr5⟩ := Kr3.out.of6
      go_wp2_with fail
      clear cs0 cs1 cs2 cs3 cs4 cs5 ds0 ds1 ds2 ds3 ds4 ds5 cr0 cr1 cr2 cr3 cr4 cr5 dr0 dr1 dr2 dr3 dr4 dr5
      refine (IN.out _).mono ?_
      rintro e v4 ⟨rfl, hb⟩
      have B4 := Lib.hid (B3.out.trans (hb.mono B3.out.size))
      have Ks4 := Lib.hid (Ks3.out.below hb)
      have Kr4 := Lib.hid (Kr3.out.below hb)
      clear hb B3 Ks3 Kr3
      obtain ⟨es0, es1, es2, es3, es4, es5⟩ := Ks4.out.of6.1
      have hs_ := Ks4.out.lt
      have ps_ : ¬ v4.heap.size = g_s := by omega
      have qs_ : ¬ g_s = v4.heap.size := by omega
      have Kon := Lib.hid (Blk.new v4 [.int .i64 u, .string d, .int .i64 p, .bool f, .bool true, .bool h] 25)
      have l_o : w.heap.size ≤ v4.heap.size := B4.out.size
      have n_s_o : g_s ≠ v4.heap.size := by have h1 := Ks4.out.lt; omega
      have n_r_o : g_r ≠ v4.heap.size := by have h1 := Kr4.out.lt; omega
      have Bn := Lib.hid (B4.out.alloc B4.out.size (.cells #[.int .i64 u, .string d, .int .i64 p, .bool f, .bool true, .bool h] 25))
      have Ksn := Lib.hid (Ks4.out.alloc (.cells #[.int .i64 u, .string d, .int .i64 p, .bool f, .bool true, .bool h] 25))
      have Krn := Lib.hid (Kr4.out.alloc (.cells #[.int .i64 u, .string d, .int .i64 p, .bool f, .bool true, .bool h] 25))
      clear B4 Ks4 Kr4
      obtain ⟨⟨cs0, cs1, cs2, cs3, cs4, cs5⟩, ds0, ds1, ds2, ds3, ds4, ds5⟩ := Ksn.out.of6
      obtain ⟨⟨cr0, cr1, cr2, cr3, cr4, cr5⟩, dr0, dr1, dr2, dr3, dr4, dr5⟩ := Krn.out.of6
      go_wp2_with fail
      clear cs0 cs1 cs2 cs3 cs4 cs5 ds0 ds1 ds2 ds3 ds4 ds5 cr0 cr1 cr2 cr3 cr4 cr5 dr0 dr1 dr2 dr3 dr4 dr5
      clear es0 es1 es2 es3 es4 es5 hs_ ps_ qs_
      change Calls _ _ _ (v4.alloc (.cells #[.int .i64 u, .string d, .int .i64 p, .bool f, .bool true, .bool h] 25)) _
      generalize v4.alloc (.cells #[.int .i64 u, .string d, .int .i64 p, .bool f, .bool true, .bool h] 25) = v5 at Kon Bn Ksn Krn ⊢
      generalize v4.heap.size = g_o at Kon l_o n_s_o n_r_o ⊢
      clear v4
      have Ks5 := Ksn
      clear Ksn
      have Kr5 := Krn
      clear Krn
      have Ko5 := Kon
      clear Kon
      have B5 := Bn
      clear Bn
      refine (SA.out _).mono ?_
      rintro e v6 ⟨rfl, hb⟩
      have B6 := Lib.hid (B5.out.trans (hb.mono B5.out.size))
      have Ks6 := Lib.hid (Ks5.out.below hb)
      have Kr6 := Lib.hid (Kr5.out.below hb)
      have Ko6 := Lib.hid (Ko5.out.below hb)
      clear hb B5 Ks5 Kr5 Ko5
      obtain ⟨⟨cs0, cs1, cs2, cs3, cs4, cs5⟩, ds0, ds1, ds2, ds3, ds4, ds5⟩ := Ks6.out.of6
      obtain ⟨⟨cr0, cr1, cr2, cr3, cr4, cr5⟩, dr0, dr1, dr2, dr3, dr4, dr5⟩ := Kr6.out.of6
      obtain ⟨⟨co0, co1, co2, co3, co4, co5⟩, do0, do1, do2, do3, do4, do5⟩ := Ko6.out.of6
      go_wp2_with fail
      exact bodyPost_ret (v := .tuple #[.agg #[.int .i64 z, .string (d.extract p d.size), .int .i64 0, .bool f, .bool false, .bool true], .bool true]) (by simp [results, Try.results31, go_sem, cr0, cr1, cr2, cr3, cr4, cr5]) rfl ⟨rfl, (((((((((((B6.out.setCell l_o (.int .i64 z)).setCell l_o (.bool false)).setCell l_o (.bool true)).setCell l_o (.string (d.extract p d.size))).setCell l_o (.int .i64 0)).setCell l_r (.int .i64 z)).setCell l_r (.string (d.extract p d.size))).setCell l_r (.int .i64 0)).setCell l_r (.bool f)).setCell l_r (.bool false)).setCell l_r (.bool true))⟩
    rw [ak_yes (s := ⟨u, d, p, f, g, h⟩) hak hf]
    simp only [Snd.cs]
    rw [hk] at hf hr DF IN ⊢
    simp only [Int.toNat_natCast]
    generalize fl p g = b at hfl hr FL IN
    generalize pl (u + (k : Int)) = z at SA ⊢
    replace SA := Lib.hid SA
    replace OK := Lib.hid OK
    replace DF := Lib.hid DF
    replace FL := Lib.hid FL
    replace IN := Lib.hid IN
    have hpd : p ≤ d.size := by omega
    have hkp : k ≤ p := by omega
    clear hok hak hfl hgt hr hk ht0 ht1
    go_enter Try.func31, Try.ntmps31
    have B0 := Lib.hid (show Below w.heap.size w ((w.alloc (.cells #[.int .i64 u, .string d, .int .i64 p, .bool f, .bool g, .bool h] 25)).alloc (.cells #[.int .i64 0, .string ⟨#[]⟩, .int .i64 0, .bool false, .bool false, .bool false] 25)) from (((Below.refl _ w).alloc (by simp) _).alloc (by simp) _))
    have Ks0 := Lib.hid (show Blk ((w.alloc (.cells #[.int .i64 u, .string d, .int .i64 p, .bool f, .bool g, .bool h] 25)).alloc (.cells #[.int .i64 0, .string ⟨#[]⟩, .int .i64 0, .bool false, .bool false, .bool false] 25)) (w.heap.size) [.int .i64 u, .string d, .int .i64 p, .bool f, .bool g, .bool h] from (Blk.new w [.int .i64 u, .string d, .int .i64 p, .bool f, .bool g, .bool h] 25).alloc (.cells #[.int .i64 0, .string ⟨#[]⟩, .int .i64 0, .bool false, .bool false, .bool false] 25))
    have s1 : (w.alloc (.cells #[.int .i64 u, .string d, .int .i64 p, .bool f, .bool g, .bool h] 25)).heap.size = w.heap.size + 1 := by simp
    have Kr0 := Lib.hid (show Blk ((w.alloc (.cells #[.int .i64 u, .string d, .int .i64 p, .bool f, .bool g, .bool h] 25)).alloc (.cells #[.int .i64 0, .string ⟨#[]⟩, .int .i64 0, .bool false, .bool false, .bool false] 25)) (w.heap.size + 1) [.int .i64 0, .string ⟨#[]⟩, .int .i64 0, .bool false, .bool false, .bool false] by have h0 := Blk.new (w.alloc (.cells #[.int .i64 u, .string d, .int .i64 p, .bool f, .bool g, .bool h] 25)) [.int .i64 0, .string ⟨#[]⟩, .int .i64 0, .bool false, .bool false, .bool false] 25; rwa [s1] at h0)
    have n_s_r : w.heap.size ≠ w.heap.size + 1 := by omega
    clear s1
    go_wp2_with fail
    change Calls _ _ _ ((w.alloc (.cells #[.int .i64 u, .string d, .int .i64 p, .bool f, .bool g, .bool h] 25)).alloc (.cells #[.int .i64 0, .string ⟨#[]⟩, .int .i64 0, .bool false, .bool false, .bool false] 25)) _
    generalize (w.alloc (.cells #[.int .i64 u, .string d, .int .i64 p, .bool f, .bool g, .bool h] 25)).alloc (.cells #[.int .i64 0, .string ⟨#[]⟩, .int .i64 0, .bool false, .bool false, .bool false] 25) = v0 at B0 Ks0 Kr0 ⊢
    generalize hh_r : w.heap.size + 1 = g_r at Kr0 n_s_r ⊢
    generalize hh_s : w.heap.size = g_s at Ks0 n_s_r ⊢
    have l_s : w.heap.size ≤ g_s := by omega
    have l_r : w.heap.size ≤ g_r := by omega
    clear hh_s hh_r
    refine (DF.out _).mono ?_
    rintro e v1 ⟨rfl, hb⟩
    have B1 := Lib.hid (B0.out.trans (hb.mono B0.out.size))
    have Ks1 := Lib.hid (Ks0.out.below hb)
    have Kr1 := Lib.hid (Kr0.out.below hb)
    clear hb B0 Ks0 Kr0
    obtain ⟨⟨cs0, cs1, cs2, cs3, cs4, cs5⟩, ds0, ds1, ds2, ds3, ds4, ds5⟩ := Ks1.out.of6
    obtain ⟨⟨cr0, cr1, cr2, cr3, cr4, cr5⟩, dr0, dr1, dr2, dr3, dr4, dr5⟩ := Kr1.out.of6
    go_wp2_with fail
    clear cs0 cs1 cs2 cs3 cs4 cs5 ds0 ds1 ds2 ds3 ds4 ds5 cr0 cr1 cr2 cr3 cr4 cr5 dr0 dr1 dr2 dr3 dr4 dr5
    refine (OK.out _).mono ?_
    rintro e v2 ⟨rfl, hb⟩
    have B2 := Lib.hid (B1.out.trans (hb.mono B1.out.size))
    have Ks2 := Lib.hid (Ks1.out.below hb)
    have Kr2 := Lib.hid (Kr1.out.below hb)
    clear hb B1 Ks1 Kr1
    obtain ⟨⟨cs0, cs1, cs2, cs3, cs4, cs5⟩, ds0, ds1, ds2, ds3, ds4, ds5⟩ := Ks2.out.of6
    obtain ⟨⟨cr0, cr1, cr2, cr3, cr4, cr5⟩, dr0, dr1, dr2, dr3, dr4, dr5⟩ := Kr2.out.of6
    go_wp2_with fail
    clear cs0 cs1 cs2 cs3 cs4 cs5 ds0 ds1 ds2 ds3 ds4 ds5 cr0 cr1 cr2 cr3 cr4 cr5 dr0 dr1 dr2 dr3 dr4 dr5
    refine (FL.out _).mono ?_
    rintro e v3 ⟨rfl, hb⟩
    have B3 := Lib.hid (B2.out.trans (hb.mono B2.out.size))
    have Ks3 := Lib.hid (Ks2.out.below hb)
    have Kr3 := Lib.hid (Kr2.out.below hb)
    clear hb B2 Ks2 Kr2
    obtain ⟨⟨cs0, cs1, cs2, cs3, cs4, cs5⟩, ds0, ds1, ds2, ds3, ds4, ds5⟩ := Ks3.out.of6
    obtain ⟨⟨cr0, cr1, cr2, cr3, cr4, cr5⟩, dr0, dr1, dr2, dr3, dr4, dr5⟩ := Kr3.out.of6
    go_wp2_with fail
    clear cs0 cs1 cs2 cs3 cs4 cs5 ds0 ds1 ds2 ds3 ds4 ds5 cr0 cr1 cr2 cr3 cr4 cr5 dr0 dr1 dr2 dr3 dr4 dr5
    refine (IN.out _).mono ?_
    rintro e v4 ⟨rfl, hb⟩
    have B4 := Lib.hid (B3.out.trans (hb.mono B3.out.size))
    have Ks4 := Lib.hid (Ks3.out.below hb)
    have Kr4 := Lib.hid (Kr3.out.below hb)
    clear hb B3 Ks3 Kr3
    obtain ⟨es0, es1, es2, es3, es4, es5⟩ := Ks4.out.of6.1
    have hs_ := Ks4.out.lt
    have ps_ : ¬ v4.heap.size = g_s := by omega
    have qs_ : ¬ g_s = v4.heap.size := by omega
    have Kon := Lib.hid (Blk.new v4 [.int .i64 u, .string d, .int .i64 p, .bool f, .bool g, .bool h] 25)
    have l_o : w.heap.size ≤ v4.heap.size := B4.out.size
    have n_s_o : g_s ≠ v4.heap.size := by have h1 := Ks4.out.lt; omega
    have n_r_o : g_r ≠ v4.heap.size := by have h1 := Kr4.out.lt; omega
    have Bn := Lib.hid (B4.out.alloc B4.out.size (.cells #[.int .i64 u, .string d, .int .i64 p, .bool f, .bool g, .bool h] 25))
    have Ksn := Lib.hid (Ks4.out.alloc (.cells #[.int .i64 u, .string d, .int .i64 p, .bool f, .bool g, .bool h] 25))
    have Krn := Lib.hid (Kr4.out.alloc (.cells #[.int .i64 u, .string d, .int .i64 p, .bool f, .bool g, .bool h] 25))
    clear B4 Ks4 Kr4
    obtain ⟨⟨cs0, cs1, cs2, cs3, cs4, cs5⟩, ds0, ds1, ds2, ds3, ds4, ds5⟩ := Ksn.out.of6
    obtain ⟨⟨cr0, cr1, cr2, cr3, cr4, cr5⟩, dr0, dr1, dr2, dr3, dr4, dr5⟩ := Krn.out.of6
    go_wp2_with fail
    clear cs0 cs1 cs2 cs3 cs4 cs5 ds0 ds1 ds2 ds3 ds4 ds5 cr0 cr1 cr2 cr3 cr4 cr5 dr0 dr1 dr2 dr3 dr4 dr5
    clear es0 es1 es2 es3 es4 es5 hs_ ps_ qs_
    change Calls _ _ _ (v4.alloc (.cells #[.int .i64 u, .string d, .int .i64 p, .bool f, .bool g, .bool h] 25)) _
    generalize v4.alloc (.cells #[.int .i64 u, .string d, .int .i64 p, .bool f, .bool g, .bool h] 25) = v5 at Kon Bn Ksn Krn ⊢
    generalize v4.heap.size = g_o at Kon l_o n_s_o n_r_o ⊢
    clear v4
    have Ks5 := Ksn
    clear Ksn
    have Kr5 := Krn
    clear Krn
    have Ko5 := Kon
    clear Kon
    have B5 := Bn
    clear Bn
    refine (SA.out _).mono ?_
    rintro e v6 ⟨rfl, hb⟩
    have B6 := Lib.hid (B5.out.trans (hb.mono B5.out.size))
    have Ks6 := Lib.hid (Ks5.out.below hb)
    have Kr6 := Lib.hid (Kr5.out.below hb)
    have Ko6 := Lib.hid (Ko5.out.below hb)
    clear hb B5 Ks5 Kr5 Ko5
    obtain ⟨⟨cs0, cs1, cs2, cs3, cs4, cs5⟩, ds0, ds1, ds2, ds3, ds4, ds5⟩ := Ks6.out.of6
    obtain ⟨⟨cr0, cr1, cr2, cr3, cr4, cr5⟩, dr0, dr1, dr2, dr3, dr4, dr5⟩ := Kr6.out.of6
    obtain ⟨⟨co0, co1, co2, co3, co4, co5⟩, do0, do1, do2, do3, do4, do5⟩ := Ko6.out.of6
    go_wp2_with fail
    exact bodyPost_ret (v := .tuple #[.agg #[.int .i64 z, .string (d.extract k d.size), .int .i64 ((p : Int) - k), .bool f, .bool g, .bool h], .bool true]) (by simp [results, Try.results31, go_sem, cr0, cr1, cr2, cr3, cr4, cr5]) rfl ⟨rfl, (((((((((B6.out.setCell l_o (.int .i64 z)).setCell l_o (.string (d.extract k d.size))).setCell l_o (.int .i64 ((p : Int) - k))).setCell l_r (.int .i64 z)).setCell l_r (.string (d.extract k d.size))).setCell l_r (.int .i64 ((p : Int) - k))).setCell l_r (.bool f)).setCell l_r (.bool g)).setCell l_r (.bool h))⟩
end Go.Proofs.Ytkigkfedkjnkeaa
