/- Texts of a proof that belong together, joined. Nothing here is a claim. -/
import Derived.Test.YtkkimgjcefojdaaGreatDoorPkLk11
namespace Go.Proofs.YtkkimgjcefojdaaGreatDoor
open Go.RowKit Go.Lib

theorem rfD_bd (s : ByteArray) : -9223372036854775808 ≤ rfD s ∧ rfD s ≤ 9223372036854775807 := by
 unfold rfD
 split
 ·have := gw_lt s 0 6
  have e : (256 : Nat) ^ 6 = 281474976710656 := by decide
  omega
 ·omega
theorem rfB_le (s : ByteArray) : (rfB s).size ≤ s.size := by
 unfold rfB
 split
 ·rw [ByteArray.size_extract]; omega
 ·exact Nat.zero_le _

set_option maxRecDepth 100000 in
set_option maxHeartbeats 8000000 in
theorem arrivalI (m ip : Int) (a : Option Addr) (cap : Nat) (rs : List ER) (raw : ByteArray) (x : Addr) (w : World) (hrow : Row w w.heap.size a (ers rs)) (hl : rs.length ≤ 1048577) (hs : raw.size ≤ 1048576) (hm : -9223372036854775808 ≤ m ∧ m ≤ 9223372036854775807) (hg : ErrTy w) (hx : Sent x w) :
  Calls Tryz.prog 29 #[.agg #[.int .i64 m, .int .i64 ip, .slice a rs.length cap], .string raw] w (ArrEnd (arrOf m ip rs raw) x w) := by
 have C1 := Lib.hid (fun w => readFrameI raw w hs)
 have C2 := Lib.hid (fun w h => linkOkI m ip a cap rs w h hl)
 have C3 := Lib.hid (fun w => forMeI (rfD raw) (rfS raw) (rfT raw) m (rfB raw) w (rfD_bd raw) hm)
 have CP := Lib.hid (fun w g h => packetArrI m ip a rs.length cap (rfD raw) (rfS raw) (rfT raw) (rfB raw) x w (Nat.le_trans (rfB_le raw) hs) g h)
 have CA := Lib.hid (fun w h => arpArrI m ip a rs.length cap (rfD raw) (rfS raw) (rfT raw) (rfB raw) x w (Nat.le_trans (rfB_le raw) hs) h)
 have HR := Lib.hid hrow
 have HG := Lib.hid hg
 have HX := Lib.hid hx
 clear hrow hl hs hm hg hx
 unfold arrOf frmIn
 unfold rfV at C1
 generalize rfD raw = d at C1 C3 CP CA ⊢
 generalize rfS raw = s at C1 C3 CP CA ⊢
 generalize rfT raw = t at C1 C3 CP CA ⊢
 generalize rfB raw = b at C1 C3 CP CA ⊢
 generalize rfOk raw = ok at C1 ⊢
 generalize linkOk m ip rs = y at C2 ⊢
 generalize forMe d m = z at C3 ⊢
 cases y with
 | false =>
  rw [if_neg (by decide)]
  go_enter Tryz.func29, Tryz.ntmps29
  have B0 := Lib.hid (show Below w.heap.size w ((w.alloc (.cells #[.int .i64 m, .int .i64 ip, .slice a rs.length cap] 26)).alloc (.cells #[.int .i64 0, .int .i64 0, .int .i64 0, .int .i64 0, .int .i64 0, .int .i64 0, .int .i64 0, .int .i64 0, .string ⟨#[]⟩, .string ⟨#[]⟩] 58)) from (((Below.refl _ w).alloc (by simp) _).alloc (by simp) _))
  have Kl0 := Lib.hid (show Blk ((w.alloc (.cells #[.int .i64 m, .int .i64 ip, .slice a rs.length cap] 26)).alloc (.cells #[.int .i64 0, .int .i64 0, .int .i64 0, .int .i64 0, .int .i64 0, .int .i64 0, .int .i64 0, .int .i64 0, .string ⟨#[]⟩, .string ⟨#[]⟩] 58)) (w.heap.size) [.int .i64 m, .int .i64 ip, .slice a rs.length cap] from (Blk.new w [.int .i64 m, .int .i64 ip, .slice a rs.length cap] 26).alloc (.cells #[.int .i64 0, .int .i64 0, .int .i64 0, .int .i64 0, .int .i64 0, .int .i64 0, .int .i64 0, .int .i64 0, .string ⟨#[]⟩, .string ⟨#[]⟩] 58))
  have s1 : (w.alloc (.cells #[.int .i64 m, .int .i64 ip, .slice a rs.length cap] 26)).heap.size = w.heap.size + 1 := by simp
  have Kr0 := Lib.hid (show Blk ((w.alloc (.cells #[.int .i64 m, .int .i64 ip, .slice a rs.length cap] 26)).alloc (.cells #[.int .i64 0, .int .i64 0, .int .i64 0, .int .i64 0, .int .i64 0, .int .i64 0, .int .i64 0, .int .i64 0, .string ⟨#[]⟩, .string ⟨#[]⟩] 58)) (w.heap.size + 1) [.int .i64 0, .int .i64 0, .int .i64 0, .int .i64 0, .int .i64 0, .int .i64 0, .int .i64 0, .int .i64 0, .string ⟨#[]⟩, .string ⟨#[]⟩] by have h0 := Blk.new (w.alloc (.cells #[.int .i64 m, .int .i64 ip, .slice a rs.length cap] 26)) [.int .i64 0, .int .i64 0, .int .i64 0, .int .i64 0, .int .i64 0, .int .i64 0, .int .i64 0, .int .i64 0, .string ⟨#[]⟩, .string ⟨#[]⟩] 58; rwa [s1] at h0)
  have n_l_r : w.heap.size ≠ w.heap.size + 1 := by omega
  clear s1
  go_wp2_with fail
  change Calls _ _ _ ((w.alloc (.cells #[.int .i64 m, .int .i64 ip, .slice a rs.length cap] 26)).alloc (.cells #[.int .i64 0, .int .i64 0, .int .i64 0, .int .i64 0, .int .i64 0, .int .i64 0, .int .i64 0, .int .i64 0, .string ⟨#[]⟩, .string ⟨#[]⟩] 58)) _
  generalize (w.alloc (.cells #[.int .i64 m, .int .i64 ip, .slice a rs.length cap] 26)).alloc (.cells #[.int .i64 0, .int .i64 0, .int .i64 0, .int .i64 0, .int .i64 0, .int .i64 0, .int .i64 0, .int .i64 0, .string ⟨#[]⟩, .string ⟨#[]⟩] 58) = v0 at B0 Kl0 Kr0 ⊢
  generalize hh_r : w.heap.size + 1 = g_r at Kr0 n_l_r ⊢
  generalize hh_l : w.heap.size = g_l at Kl0 n_l_r ⊢
  have l_l : w.heap.size ≤ g_l := by omega
  have l_r : w.heap.size ≤ g_r := by omega
  clear hh_l hh_r
  refine (C1.out _).mono ?_
  rintro e v1 ⟨rfl, hb⟩
  have B1 := Lib.hid (B0.out.trans (hb.mono B0.out.size))
  have Kl1 := Lib.hid (Kl0.out.below hb)
  have Kr1 := Lib.hid (Kr0.out.below hb)
  clear hb B0 Kl0 Kr0
  have Kfn := Lib.hid (Blk.new v1 [.int .i64 d, .int .i64 s, .int .i64 t, .string b] 38)
  have l_f : w.heap.size ≤ v1.heap.size := B1.out.size
  have n_l_f : g_l ≠ v1.heap.size := by have h1 := Kl1.out.lt; omega
  have n_r_f : g_r ≠ v1.heap.size := by have h1 := Kr1.out.lt; omega
  have Bn := Lib.hid (B1.out.alloc B1.out.size (.cells #[.int .i64 d, .int .i64 s, .int .i64 t, .string b] 38))
  have Kln := Lib.hid (Kl1.out.alloc (.cells #[.int .i64 d, .int .i64 s, .int .i64 t, .string b] 38))
  have Krn := Lib.hid (Kr1.out.alloc (.cells #[.int .i64 d, .int .i64 s, .int .i64 t, .string b] 38))
  clear B1 Kl1 Kr1
  obtain ⟨⟨cl0, cl1, cl2⟩, dl0, dl1, dl2⟩ := Kln.out.o3
  obtain ⟨⟨cr0, cr1, cr2, cr3, cr4, cr5, cr6, cr7, cr8, cr9⟩, dr0, dr1, dr2, dr3, dr4, dr5, dr6, dr7, dr8, dr9⟩ := Krn.out.of10
  go_wp2_with fail
  clear cl0 cl1 cl2 dl0 dl1 dl2 cr0 cr1 cr2 cr3 cr4 cr5 cr6 cr7 cr8 cr9 dr0 dr1 dr2 dr3 dr4 dr5 dr6 dr7 dr8 dr9
  change Calls _ _ _ (v1.alloc (.cells #[.int .i64 d, .int .i64 s, .int .i64 t, .string b] 38)) _
  generalize v1.alloc (.cells #[.int .i64 d, .int .i64 s, .int .i64 t, .string b] 38) = v2 at Kfn Bn Kln Krn ⊢
  generalize v1.heap.size = g_f at Kfn l_f n_l_f n_r_f ⊢
  clear v1
  have Kl2 := Kln
  clear Kln
  have Kr2 := Krn
  clear Krn
  have Kf2 := Kfn
  clear Kfn
  have B2 := Bn
  clear Bn
  refine (C2.out _ ((HR.out.below B2.out).mono B2.out.size)).mono ?_
  rintro e v3 ⟨rfl, hb⟩
  have B3 := Lib.hid (B2.out.trans (hb.mono B2.out.size))
  have Kl3 := Lib.hid (Kl2.out.below hb)
  have Kr3 := Lib.hid (Kr2.out.below hb)
  have Kf3 := Lib.hid (Kf2.out.below hb)
  clear hb B2 Kl2 Kr2 Kf2
  obtain ⟨⟨cl0, cl1, cl2⟩, dl0, dl1, dl2⟩ := Kl3.out.o3
  obtain ⟨⟨cr0, cr1, cr2, cr3, cr4, cr5, cr6, cr7, cr8, cr9⟩, dr0, dr1, dr2, dr3, dr4, dr5, dr6, dr7, dr8, dr9⟩ := Kr3.out.of10
  obtain ⟨⟨cf0, cf1, cf2, cf3⟩, df0, df1, df2, df3⟩ := Kf3.out.four
  have hq1 : ¬ g_r = 0 := by have := HX.out.lt; omega
  have hq2 : ¬ 0 = g_r := fun e => hq1 e.symm
  have hq3 := HX.out.below B3.out HX.out.lt
  unfold Sent at hq3
  go_wp2_with fail
  go_region_with fail
  all_goals go_wp2_with fail
  all_goals refine post_put 5 rfl ?_
  all_goals exact bodyPost_ret (v := .tuple #[.agg #[.int .i64 0, .int .i64 0, .int .i64 0, .int .i64 0, .int .i64 0, .int .i64 0, .int .i64 0, .int .i64 0, .string ⟨#[]⟩, .string ⟨#[]⟩], .iface 168 (.pointer (some x))]) (by simp [results, Tryz.results29, go_sem, cr0, cr1, cr2, cr3, cr4, cr5, cr6, cr7, cr8, cr9]) rfl ⟨rfl, ((((((((((B3.out.setCell l_r _).setCell l_r _).setCell l_r _).setCell l_r _).setCell l_r _).setCell l_r _).setCell l_r _).setCell l_r _).setCell l_r _).setCell l_r _).drew⟩
 | true =>
  rw [if_pos rfl]
  cases ok with
  | false =>
   rw [if_neg (by decide)]
   go_enter Tryz.func29, Tryz.ntmps29
   have B0 := Lib.hid (show Below w.heap.size w ((w.alloc (.cells #[.int .i64 m, .int .i64 ip, .slice a rs.length cap] 26)).alloc (.cells #[.int .i64 0, .int .i64 0, .int .i64 0, .int .i64 0, .int .i64 0, .int .i64 0, .int .i64 0, .int .i64 0, .string ⟨#[]⟩, .string ⟨#[]⟩] 58)) from (((Below.refl _ w).alloc (by simp) _).alloc (by simp) _))
   have Kl0 := Lib.hid (show Blk ((w.alloc (.cells #[.int .i64 m, .int .i64 ip, .slice a rs.length cap] 26)).alloc (.cells #[.int .i64 0, .int .i64 0, .int .i64 0, .int .i64 0, .int .i64 0, .int .i64 0, .int .i64 0, .int .i64 0, .string ⟨#[]⟩, .string ⟨#[]⟩] 58)) (w.heap.size) [.int .i64 m, .int .i64 ip, .slice a rs.length cap] from (Blk.new w [.int .i64 m, .int .i64 ip, .slice a rs.length cap] 26).alloc (.cells #[.int .i64 0, .int .i64 0, .int .i64 0, .int .i64 0, .int .i64 0, .int .i64 0, .int .i64 0, .int .i64 0, .string ⟨#[]⟩, .string ⟨#[]⟩] 58))
   have s1 : (w.alloc (.cells #[.int .i64 m, .int .i64 ip, .slice a rs.length cap] 26)).heap.size = w.heap.size + 1 := by simp
   have Kr0 := Lib.hid (show Blk ((w.alloc (.cells #[.int .i64 m, .int .i64 ip, .slice a rs.length cap] 26)).alloc (.cells #[.int .i64 0, .int .i64 0, .int .i64 0, .int .i64 0, .int .i64 0, .int .i64 0, .int .i64 0, .int .i64 0, .string ⟨#[]⟩, .string ⟨#[]⟩] 58)) (w.heap.size + 1) [.int .i64 0, .int .i64 0, .int .i64 0, .int .i64 0, .int .i64 0, .int .i64 0, .int .i64 0, .int .i64 0, .string ⟨#[]⟩, .string ⟨#[]⟩] by have h0 := Blk.new (w.alloc (.cells #[.int .i64 m, .int .i64 ip, .slice a rs.length cap] 26)) [.int .i64 0, .int .i64 0, .int .i64 0, .int .i64 0, .int .i64 0, .int .i64 0, .int .i64 0, .int .i64 0, .string ⟨#[]⟩, .string ⟨#[]⟩] 58; rwa [s1] at h0)
   have n_l_r : w.heap.size ≠ w.heap.size + 1 := by omega
   clear s1
   go_wp2_with fail
   change Calls _ _ _ ((w.alloc (.cells #[.int .i64 m, .int .i64 ip, .slice a rs.length cap] 26)).alloc (.cells #[.int .i64 0, .int .i64 0, .int .i64 0, .int .i64 0, .int .i64 0, .int .i64 0, .int .i64 0, .int .i64 0, .string ⟨#[]⟩, .string ⟨#[]⟩] 58)) _
   generalize (w.alloc (.cells #[.int .i64 m, .int .i64 ip, .slice a rs.length cap] 26)).alloc (.cells #[.int .i64 0, .int .i64 0, .int .i64 0, .int .i64 0, .int .i64 0, .int .i64 0, .int .i64 0, .int .i64 0, .string ⟨#[]⟩, .string ⟨#[]⟩] 58) = v0 at B0 Kl0 Kr0 ⊢
   generalize hh_r : w.heap.size + 1 = g_r at Kr0 n_l_r ⊢
   generalize hh_l : w.heap.size = g_l at Kl0 n_l_r ⊢
   have l_l : w.heap.size ≤ g_l := by omega
   have l_r : w.heap.size ≤ g_r := by omega
   clear hh_l hh_r
   refine (C1.out _).mono ?_
   rintro e v1 ⟨rfl, hb⟩
   have B1 := Lib.hid (B0.out.trans (hb.mono B0.out.size))
   have Kl1 := Lib.hid (Kl0.out.below hb)
   have Kr1 := Lib.hid (Kr0.out.below hb)
   clear hb B0 Kl0 Kr0
   have Kfn := Lib.hid (Blk.new v1 [.int .i64 d, .int .i64 s, .int .i64 t, .string b] 38)
   have l_f : w.heap.size ≤ v1.heap.size := B1.out.size
   have n_l_f : g_l ≠ v1.heap.size := by have h1 := Kl1.out.lt; omega
   have n_r_f : g_r ≠ v1.heap.size := by have h1 := Kr1.out.lt; omega
   have Bn := Lib.hid (B1.out.alloc B1.out.size (.cells #[.int .i64 d, .int .i64 s, .int .i64 t, .string b] 38))
   have Kln := Lib.hid (Kl1.out.alloc (.cells #[.int .i64 d, .int .i64 s, .int .i64 t, .string b] 38))
   have Krn := Lib.hid (Kr1.out.alloc (.cells #[.int .i64 d, .int .i64 s, .int .i64 t, .string b] 38))
   clear B1 Kl1 Kr1
   obtain ⟨⟨cl0, cl1, cl2⟩, dl0, dl1, dl2⟩ := Kln.out.o3
   obtain ⟨⟨cr0, cr1, cr2, cr3, cr4, cr5, cr6, cr7, cr8, cr9⟩, dr0, dr1, dr2, dr3, dr4, dr5, dr6, dr7, dr8, dr9⟩ := Krn.out.of10
   go_wp2_with fail
   clear cl0 cl1 cl2 dl0 dl1 dl2 cr0 cr1 cr2 cr3 cr4 cr5 cr6 cr7 cr8 cr9 dr0 dr1 dr2 dr3 dr4 dr5 dr6 dr7 dr8 dr9
   change Calls _ _ _ (v1.alloc (.cells #[.int .i64 d, .int .i64 s, .int .i64 t, .string b] 38)) _
   generalize v1.alloc (.cells #[.int .i64 d, .int .i64 s, .int .i64 t, .string b] 38) = v2 at Kfn Bn Kln Krn ⊢
   generalize v1.heap.size = g_f at Kfn l_f n_l_f n_r_f ⊢
   clear v1
   have Kl2 := Kln
   clear Kln
   have Kr2 := Krn
   clear Krn
   have Kf2 := Kfn
   clear Kfn
   have B2 := Bn
   clear Bn
   refine (C2.out _ ((HR.out.below B2.out).mono B2.out.size)).mono ?_
   rintro e v3 ⟨rfl, hb⟩
   have B3 := Lib.hid (B2.out.trans (hb.mono B2.out.size))
   have Kl3 := Lib.hid (Kl2.out.below hb)
   have Kr3 := Lib.hid (Kr2.out.below hb)
   have Kf3 := Lib.hid (Kf2.out.below hb)
   clear hb B2 Kl2 Kr2 Kf2
   obtain ⟨⟨cl0, cl1, cl2⟩, dl0, dl1, dl2⟩ := Kl3.out.o3
   obtain ⟨⟨cr0, cr1, cr2, cr3, cr4, cr5, cr6, cr7, cr8, cr9⟩, dr0, dr1, dr2, dr3, dr4, dr5, dr6, dr7, dr8, dr9⟩ := Kr3.out.of10
   obtain ⟨⟨cf0, cf1, cf2, cf3⟩, df0, df1, df2, df3⟩ := Kf3.out.four
   have hq1 : ¬ g_r = 0 := by have := HX.out.lt; omega
   have hq2 : ¬ 0 = g_r := fun e => hq1 e.symm
   have hq3 := HX.out.below B3.out HX.out.lt
   unfold Sent at hq3
   go_wp2_with fail
   go_region_with fail
   all_goals go_wp2_with fail
   all_goals refine post_put 5 rfl ?_
   all_goals exact bodyPost_ret (v := .tuple #[.agg #[.int .i64 0, .int .i64 0, .int .i64 0, .int .i64 0, .int .i64 0, .int .i64 0, .int .i64 0, .int .i64 0, .string ⟨#[]⟩, .string ⟨#[]⟩], .iface 168 (.pointer (some x))]) (by simp [results, Tryz.results29, go_sem, cr0, cr1, cr2, cr3, cr4, cr5, cr6, cr7, cr8, cr9]) rfl ⟨rfl, ((((((((((B3.out.setCell l_r _).setCell l_r _).setCell l_r _).setCell l_r _).setCell l_r _).setCell l_r _).setCell l_r _).setCell l_r _).setCell l_r _).setCell l_r _).drew⟩
  | true =>
   rw [if_pos rfl]
   cases z with
   | false =>
    rw [if_neg (by decide)]
    go_enter Tryz.func29, Tryz.ntmps29
    have B0 := Lib.hid (show Below w.heap.size w ((w.alloc (.cells #[.int .i64 m, .int .i64 ip, .slice a rs.length cap] 26)).alloc (.cells #[.int .i64 0, .int .i64 0, .int .i64 0, .int .i64 0, .int .i64 0, .int .i64 0, .int .i64 0, .int .i64 0, .string ⟨#[]⟩, .string ⟨#[]⟩] 58)) from (((Below.refl _ w).alloc (by simp) _).alloc (by simp) _))
    have Kl0 := Lib.hid (show Blk ((w.alloc (.cells #[.int .i64 m, .int .i64 ip, .slice a rs.length cap] 26)).alloc (.cells #[.int .i64 0, .int .i64 0, .int .i64 0, .int .i64 0, .int .i64 0, .int .i64 0, .int .i64 0, .int .i64 0, .string ⟨#[]⟩, .string ⟨#[]⟩] 58)) (w.heap.size) [.int .i64 m, .int .i64 ip, .slice a rs.length cap] from (Blk.new w [.int .i64 m, .int .i64 ip, .slice a rs.length cap] 26).alloc (.cells #[.int .i64 0, .int .i64 0, .int .i64 0, .int .i64 0, .int .i64 0, .int .i64 0, .int .i64 0, .int .i64 0, .string ⟨#[]⟩, .string ⟨#[]⟩] 58))
    have s1 : (w.alloc (.cells #[.int .i64 m, .int .i64 ip, .slice a rs.length cap] 26)).heap.size = w.heap.size + 1 := by simp
    have Kr0 := Lib.hid (show Blk ((w.alloc (.cells #[.int .i64 m, .int .i64 ip, .slice a rs.length cap] 26)).alloc (.cells #[.int .i64 0, .int .i64 0, .int .i64 0, .int .i64 0, .int .i64 0, .int .i64 0, .int .i64 0, .int .i64 0, .string ⟨#[]⟩, .string ⟨#[]⟩] 58)) (w.heap.size + 1) [.int .i64 0, .int .i64 0, .int .i64 0, .int .i64 0, .int .i64 0, .int .i64 0, .int .i64 0, .int .i64 0, .string ⟨#[]⟩, .string ⟨#[]⟩] by have h0 := Blk.new (w.alloc (.cells #[.int .i64 m, .int .i64 ip, .slice a rs.length cap] 26)) [.int .i64 0, .int .i64 0, .int .i64 0, .int .i64 0, .int .i64 0, .int .i64 0, .int .i64 0, .int .i64 0, .string ⟨#[]⟩, .string ⟨#[]⟩] 58; rwa [s1] at h0)
    have n_l_r : w.heap.size ≠ w.heap.size + 1 := by omega
    clear s1
    go_wp2_with fail
    change Calls _ _ _ ((w.alloc (.cells #[.int .i64 m, .int .i64 ip, .slice a rs.length cap] 26)).alloc (.cells #[.int .i64 0, .int .i64 0, .int .i64 0, .int .i64 0, .int .i64 0, .int .i64 0, .int .i64 0, .int .i64 0, .string ⟨#[]⟩, .string ⟨#[]⟩] 58)) _
    generalize (w.alloc (.cells #[.int .i64 m, .int .i64 ip, .slice a rs.length cap] 26)).alloc (.cells #[.int .i64 0, .int .i64 0, .int .i64 0, .int .i64 0, .int .i64 0, .int .i64 0, .int .i64 0, .int .i64 0, .string ⟨#[]⟩, .string ⟨#[]⟩] 58) = v0 at B0 Kl0 Kr0 ⊢
    generalize hh_r : w.heap.size + 1 = g_r at Kr0 n_l_r ⊢
    generalize hh_l : w.heap.size = g_l at Kl0 n_l_r ⊢
    have l_l : w.heap.size ≤ g_l := by omega
    have l_r : w.heap.size ≤ g_r := by omega
    clear hh_l hh_r
    refine (C1.out _).mono ?_
    rintro e v1 ⟨rfl, hb⟩
    have B1 := Lib.hid (B0.out.trans (hb.mono B0.out.size))
    have Kl1 := Lib.hid (Kl0.out.below hb)
    have Kr1 := Lib.hid (Kr0.out.below hb)
    clear hb B0 Kl0 Kr0
    have Kfn := Lib.hid (Blk.new v1 [.int .i64 d, .int .i64 s, .int .i64 t, .string b] 38)
    have l_f : w.heap.size ≤ v1.heap.size := B1.out.size
    have n_l_f : g_l ≠ v1.heap.size := by have h1 := Kl1.out.lt; omega
    have n_r_f : g_r ≠ v1.heap.size := by have h1 := Kr1.out.lt; omega
    have Bn := Lib.hid (B1.out.alloc B1.out.size (.cells #[.int .i64 d, .int .i64 s, .int .i64 t, .string b] 38))
    have Kln := Lib.hid (Kl1.out.alloc (.cells #[.int .i64 d, .int .i64 s, .int .i64 t, .string b] 38))
    have Krn := Lib.hid (Kr1.out.alloc (.cells #[.int .i64 d, .int .i64 s, .int .i64 t, .string b] 38))
    clear B1 Kl1 Kr1
    obtain ⟨⟨cl0, cl1, cl2⟩, dl0, dl1, dl2⟩ := Kln.out.o3
    obtain ⟨⟨cr0, cr1, cr2, cr3, cr4, cr5, cr6, cr7, cr8, cr9⟩, dr0, dr1, dr2, dr3, dr4, dr5, dr6, dr7, dr8, dr9⟩ := Krn.out.of10
    go_wp2_with fail
    clear cl0 cl1 cl2 dl0 dl1 dl2 cr0 cr1 cr2 cr3 cr4 cr5 cr6 cr7 cr8 cr9 dr0 dr1 dr2 dr3 dr4 dr5 dr6 dr7 dr8 dr9
    change Calls _ _ _ (v1.alloc (.cells #[.int .i64 d, .int .i64 s, .int .i64 t, .string b] 38)) _
    generalize v1.alloc (.cells #[.int .i64 d, .int .i64 s, .int .i64 t, .string b] 38) = v2 at Kfn Bn Kln Krn ⊢
    generalize v1.heap.size = g_f at Kfn l_f n_l_f n_r_f ⊢
    clear v1
    have Kl2 := Kln
    clear Kln
    have Kr2 := Krn
    clear Krn
    have Kf2 := Kfn
    clear Kfn
    have B2 := Bn
    clear Bn
    refine (C2.out _ ((HR.out.below B2.out).mono B2.out.size)).mono ?_
    rintro e v3 ⟨rfl, hb⟩
    have B3 := Lib.hid (B2.out.trans (hb.mono B2.out.size))
    have Kl3 := Lib.hid (Kl2.out.below hb)
    have Kr3 := Lib.hid (Kr2.out.below hb)
    have Kf3 := Lib.hid (Kf2.out.below hb)
    clear hb B2 Kl2 Kr2 Kf2
    obtain ⟨⟨cl0, cl1, cl2⟩, dl0, dl1, dl2⟩ := Kl3.out.o3
    obtain ⟨⟨cr0, cr1, cr2, cr3, cr4, cr5, cr6, cr7, cr8, cr9⟩, dr0, dr1, dr2, dr3, dr4, dr5, dr6, dr7, dr8, dr9⟩ := Kr3.out.of10
    obtain ⟨⟨cf0, cf1, cf2, cf3⟩, df0, df1, df2, df3⟩ := Kf3.out.four
    go_wp2_with fail
    clear cl0 cl1 cl2 dl0 dl1 dl2 cr0 cr1 cr2 cr3 cr4 cr5 cr6 cr7 cr8 cr9 dr0 dr1 dr2 dr3 dr4 dr5 dr6 dr7 dr8 dr9 cf0 cf1 cf2 cf3 df0 df1 df2 df3
    refine (C3.out _).mono ?_
    rintro e v4 ⟨rfl, hb⟩
    have B4 := Lib.hid (B3.out.trans (hb.mono B3.out.size))
    have Kl4 := Lib.hid (Kl3.out.below hb)
    have Kr4 := Lib.hid (Kr3.out.below hb)
    have Kf4 := Lib.hid (Kf3.out.below hb)
    clear hb B3 Kl3 Kr3 Kf3
    obtain ⟨⟨cl0, cl1, cl2⟩, dl0, dl1, dl2⟩ := Kl4.out.o3
    obtain ⟨⟨cr0, cr1, cr2, cr3, cr4, cr5, cr6, cr7, cr8, cr9⟩, dr0, dr1, dr2, dr3, dr4, dr5, dr6, dr7, dr8, dr9⟩ := Kr4.out.of10
    obtain ⟨⟨cf0, cf1, cf2, cf3⟩, df0, df1, df2, df3⟩ := Kf4.out.four
    have hq1 : ¬ g_r = 0 := by have := HX.out.lt; omega
    have hq2 : ¬ 0 = g_r := fun e => hq1 e.symm
    have hq3 := HX.out.below B4.out HX.out.lt
    unfold Sent at hq3
    go_wp2_with fail
    go_region_with fail
    all_goals go_wp2_with fail
    all_goals refine post_put 5 rfl ?_
    all_goals exact bodyPost_ret (v := .tuple #[.agg #[.int .i64 0, .int .i64 0, .int .i64 0, .int .i64 0, .int .i64 0, .int .i64 0, .int .i64 0, .int .i64 0, .string ⟨#[]⟩, .string ⟨#[]⟩], .iface 168 (.pointer (some x))]) (by simp [results, Tryz.results29, go_sem, cr0, cr1, cr2, cr3, cr4, cr5, cr6, cr7, cr8, cr9]) rfl ⟨rfl, ((((((((((B4.out.setCell l_r _).setCell l_r _).setCell l_r _).setCell l_r _).setCell l_r _).setCell l_r _).setCell l_r _).setCell l_r _).setCell l_r _).setCell l_r _).drew⟩
   | true =>
    rw [if_pos rfl]
    by_cases ht : t = 2054
    ·have ht' : (t == 2054) = true := by simpa using ht
     rw [if_pos ht]
     clear ht
     have C4 := CA
     clear CA CP
     unfold ArrEnd at C4
     generalize arpIn m ip b = O at C4 ⊢
     cases O with
     | none =>
      simp only [arrV] at C4
      go_enter Tryz.func29, Tryz.ntmps29
      have B0 := Lib.hid (show Below w.heap.size w ((w.alloc (.cells #[.int .i64 m, .int .i64 ip, .slice a rs.length cap] 26)).alloc (.cells #[.int .i64 0, .int .i64 0, .int .i64 0, .int .i64 0, .int .i64 0, .int .i64 0, .int .i64 0, .int .i64 0, .string ⟨#[]⟩, .string ⟨#[]⟩] 58)) from (((Below.refl _ w).alloc (by simp) _).alloc (by simp) _))
      have Kl0 := Lib.hid (show Blk ((w.alloc (.cells #[.int .i64 m, .int .i64 ip, .slice a rs.length cap] 26)).alloc (.cells #[.int .i64 0, .int .i64 0, .int .i64 0, .int .i64 0, .int .i64 0, .int .i64 0, .int .i64 0, .int .i64 0, .string ⟨#[]⟩, .string ⟨#[]⟩] 58)) (w.heap.size) [.int .i64 m, .int .i64 ip, .slice a rs.length cap] from (Blk.new w [.int .i64 m, .int .i64 ip, .slice a rs.length cap] 26).alloc (.cells #[.int .i64 0, .int .i64 0, .int .i64 0, .int .i64 0, .int .i64 0, .int .i64 0, .int .i64 0, .int .i64 0, .string ⟨#[]⟩, .string ⟨#[]⟩] 58))
      have s1 : (w.alloc (.cells #[.int .i64 m, .int .i64 ip, .slice a rs.length cap] 26)).heap.size = w.heap.size + 1 := by simp
      have Kr0 := Lib.hid (show Blk ((w.alloc (.cells #[.int .i64 m, .int .i64 ip, .slice a rs.length cap] 26)).alloc (.cells #[.int .i64 0, .int .i64 0, .int .i64 0, .int .i64 0, .int .i64 0, .int .i64 0, .int .i64 0, .int .i64 0, .string ⟨#[]⟩, .string ⟨#[]⟩] 58)) (w.heap.size + 1) [.int .i64 0, .int .i64 0, .int .i64 0, .int .i64 0, .int .i64 0, .int .i64 0, .int .i64 0, .int .i64 0, .string ⟨#[]⟩, .string ⟨#[]⟩] by have h0 := Blk.new (w.alloc (.cells #[.int .i64 m, .int .i64 ip, .slice a rs.length cap] 26)) [.int .i64 0, .int .i64 0, .int .i64 0, .int .i64 0, .int .i64 0, .int .i64 0, .int .i64 0, .int .i64 0, .string ⟨#[]⟩, .string ⟨#[]⟩] 58; rwa [s1] at h0)
      have n_l_r : w.heap.size ≠ w.heap.size + 1 := by omega
      clear s1
      go_wp2_with fail
      change Calls _ _ _ ((w.alloc (.cells #[.int .i64 m, .int .i64 ip, .slice a rs.length cap] 26)).alloc (.cells #[.int .i64 0, .int .i64 0, .int .i64 0, .int .i64 0, .int .i64 0, .int .i64 0, .int .i64 0, .int .i64 0, .string ⟨#[]⟩, .string ⟨#[]⟩] 58)) _
      generalize (w.alloc (.cells #[.int .i64 m, .int .i64 ip, .slice a rs.length cap] 26)).alloc (.cells #[.int .i64 0, .int .i64 0, .int .i64 0, .int .i64 0, .int .i64 0, .int .i64 0, .int .i64 0, .int .i64 0, .string ⟨#[]⟩, .string ⟨#[]⟩] 58) = v0 at B0 Kl0 Kr0 ⊢
      generalize hh_r : w.heap.size + 1 = g_r at Kr0 n_l_r ⊢
      generalize hh_l : w.heap.size = g_l at Kl0 n_l_r ⊢
      have l_l : w.heap.size ≤ g_l := by omega
      have l_r : w.heap.size ≤ g_r := by omega
      clear hh_l hh_r
      refine (C1.out _).mono ?_
      rintro e v1 ⟨rfl, hb⟩
      have B1 := Lib.hid (B0.out.trans (hb.mono B0.out.size))
      have Kl1 := Lib.hid (Kl0.out.below hb)
      have Kr1 := Lib.hid (Kr0.out.below hb)
      clear hb B0 Kl0 Kr0
      have Kfn := Lib.hid (Blk.new v1 [.int .i64 d, .int .i64 s, .int .i64 t, .string b] 38)
      have l_f : w.heap.size ≤ v1.heap.size := B1.out.size
      have n_l_f : g_l ≠ v1.heap.size := by have h1 := Kl1.out.lt; omega
      have n_r_f : g_r ≠ v1.heap.size := by have h1 := Kr1.out.lt; omega
      have Bn := Lib.hid (B1.out.alloc B1.out.size (.cells #[.int .i64 d, .int .i64 s, .int .i64 t, .string b] 38))
      have Kln := Lib.hid (Kl1.out.alloc (.cells #[.int .i64 d, .int .i64 s, .int .i64 t, .string b] 38))
      have Krn := Lib.hid (Kr1.out.alloc (.cells #[.int .i64 d, .int .i64 s, .int .i64 t, .string b] 38))
      clear B1 Kl1 Kr1
      obtain ⟨⟨cl0, cl1, cl2⟩, dl0, dl1, dl2⟩ := Kln.out.o3
      obtain ⟨⟨cr0, cr1, cr2, cr3, cr4, cr5, cr6, cr7, cr8, cr9⟩, dr0, dr1, dr2, dr3, dr4, dr5, dr6, dr7, dr8, dr9⟩ := Krn.out.of10
      go_wp2_with fail
      clear cl0 cl1 cl2 dl0 dl1 dl2 cr0 cr1 cr2 cr3 cr4 cr5 cr6 cr7 cr8 cr9 dr0 dr1 dr2 dr3 dr4 dr5 dr6 dr7 dr8 dr9
      change Calls _ _ _ (v1.alloc (.cells #[.int .i64 d, .int .i64 s, .int .i64 t, .string b] 38)) _
      generalize v1.alloc (.cells #[.int .i64 d, .int .i64 s, .int .i64 t, .string b] 38) = v2 at Kfn Bn Kln Krn ⊢
      generalize v1.heap.size = g_f at Kfn l_f n_l_f n_r_f ⊢
      clear v1
      have Kl2 := Kln
      clear Kln
      have Kr2 := Krn
      clear Krn
      have Kf2 := Kfn
      clear Kfn
      have B2 := Bn
      clear Bn
      refine (C2.out _ ((HR.out.below B2.out).mono B2.out.size)).mono ?_
      rintro e v3 ⟨rfl, hb⟩
      have B3 := Lib.hid (B2.out.trans (hb.mono B2.out.size))
      have Kl3 := Lib.hid (Kl2.out.below hb)
      have Kr3 := Lib.hid (Kr2.out.below hb)
      have Kf3 := Lib.hid (Kf2.out.below hb)
      clear hb B2 Kl2 Kr2 Kf2
      obtain ⟨⟨cl0, cl1, cl2⟩, dl0, dl1, dl2⟩ := Kl3.out.o3
      obtain ⟨⟨cr0, cr1, cr2, cr3, cr4, cr5, cr6, cr7, cr8, cr9⟩, dr0, dr1, dr2, dr3, dr4, dr5, dr6, dr7, dr8, dr9⟩ := Kr3.out.of10
      obtain ⟨⟨cf0, cf1, cf2, cf3⟩, df0, df1, df2, df3⟩ := Kf3.out.four
      go_wp2_with fail
      clear cl0 cl1 cl2 dl0 dl1 dl2 cr0 cr1 cr2 cr3 cr4 cr5 cr6 cr7 cr8 cr9 dr0 dr1 dr2 dr3 dr4 dr5 dr6 dr7 dr8 dr9 cf0 cf1 cf2 cf3 df0 df1 df2 df3
      refine (C3.out _).mono ?_
      rintro e v4 ⟨rfl, hb⟩
      have B4 := Lib.hid (B3.out.trans (hb.mono B3.out.size))
      have Kl4 := Lib.hid (Kl3.out.below hb)
      have Kr4 := Lib.hid (Kr3.out.below hb)
      have Kf4 := Lib.hid (Kf3.out.below hb)
      clear hb B3 Kl3 Kr3 Kf3
      obtain ⟨⟨cl0, cl1, cl2⟩, dl0, dl1, dl2⟩ := Kl4.out.o3
      obtain ⟨⟨cr0, cr1, cr2, cr3, cr4, cr5, cr6, cr7, cr8, cr9⟩, dr0, dr1, dr2, dr3, dr4, dr5, dr6, dr7, dr8, dr9⟩ := Kr4.out.of10
      obtain ⟨⟨cf0, cf1, cf2, cf3⟩, df0, df1, df2, df3⟩ := Kf4.out.four
      go_wp2_with fail
      clear cl0 cl1 cl2 dl0 dl1 dl2 cr0 cr1 cr2 cr3 cr4 cr5 cr6 cr7 cr8 cr9 dr0 dr1 dr2 dr3 dr4 dr5 dr6 dr7 dr8 dr9 cf0 cf1 cf2 cf3 df0 df1 df2 df3
      refine (C4.out _ (HX.out.below B4.out HX.out.lt)).mono ?_
      rintro e v5 ⟨rfl, hb⟩
      have B5 := Lib.hid (B4.out.trans (hb.mono B4.out.size))
      have Kl5 := Lib.hid (Kl4.out.below hb)
      have Kr5 := Lib.hid (Kr4.out.below hb)
      have Kf5 := Lib.hid (Kf4.out.below hb)
      clear hb B4 Kl4 Kr4 Kf4
      obtain ⟨⟨cl0, cl1, cl2⟩, dl0, dl1, dl2⟩ := Kl5.out.o3
      obtain ⟨⟨cr0, cr1, cr2, cr3, cr4, cr5, cr6, cr7, cr8, cr9⟩, dr0, dr1, dr2, dr3, dr4, dr5, dr6, dr7, dr8, dr9⟩ := Kr5.out.of10
      obtain ⟨⟨cf0, cf1, cf2, cf3⟩, df0, df1, df2, df3⟩ := Kf5.out.four
      go_wp2_with fail
      exact bodyPost_ret (v := .tuple #[.agg #[.int .i64 0, .int .i64 0, .int .i64 0, .int .i64 0, .int .i64 0, .int .i64 0, .int .i64 0, .int .i64 0, .string ⟨#[]⟩, .string ⟨#[]⟩], .iface 168 (.pointer (some x))]) (by simp [results, Tryz.results29, go_sem, cr0, cr1, cr2, cr3, cr4, cr5, cr6, cr7, cr8, cr9]) rfl ⟨rfl, ((((((((((B5.out.setCell l_r _).setCell l_r _).setCell l_r _).setCell l_r _).setCell l_r _).setCell l_r _).setCell l_r _).setCell l_r _).setCell l_r _).setCell l_r _)⟩
     | some o =>
      simp only [arrV] at C4
      go_enter Tryz.func29, Tryz.ntmps29
      have B0 := Lib.hid (show Below w.heap.size w ((w.alloc (.cells #[.int .i64 m, .int .i64 ip, .slice a rs.length cap] 26)).alloc (.cells #[.int .i64 0, .int .i64 0, .int .i64 0, .int .i64 0, .int .i64 0, .int .i64 0, .int .i64 0, .int .i64 0, .string ⟨#[]⟩, .string ⟨#[]⟩] 58)) from (((Below.refl _ w).alloc (by simp) _).alloc (by simp) _))
      have Kl0 := Lib.hid (show Blk ((w.alloc (.cells #[.int .i64 m, .int .i64 ip, .slice a rs.length cap] 26)).alloc (.cells #[.int .i64 0, .int .i64 0, .int .i64 0, .int .i64 0, .int .i64 0, .int .i64 0, .int .i64 0, .int .i64 0, .string ⟨#[]⟩, .string ⟨#[]⟩] 58)) (w.heap.size) [.int .i64 m, .int .i64 ip, .slice a rs.length cap] from (Blk.new w [.int .i64 m, .int .i64 ip, .slice a rs.length cap] 26).alloc (.cells #[.int .i64 0, .int .i64 0, .int .i64 0, .int .i64 0, .int .i64 0, .int .i64 0, .int .i64 0, .int .i64 0, .string ⟨#[]⟩, .string ⟨#[]⟩] 58))
      have s1 : (w.alloc (.cells #[.int .i64 m, .int .i64 ip, .slice a rs.length cap] 26)).heap.size = w.heap.size + 1 := by simp
      have Kr0 := Lib.hid (show Blk ((w.alloc (.cells #[.int .i64 m, .int .i64 ip, .slice a rs.length cap] 26)).alloc (.cells #[.int .i64 0, .int .i64 0, .int .i64 0, .int .i64 0, .int .i64 0, .int .i64 0, .int .i64 0, .int .i64 0, .string ⟨#[]⟩, .string ⟨#[]⟩] 58)) (w.heap.size + 1) [.int .i64 0, .int .i64 0, .int .i64 0, .int .i64 0, .int .i64 0, .int .i64 0, .int .i64 0, .int .i64 0, .string ⟨#[]⟩, .string ⟨#[]⟩] by have h0 := Blk.new (w.alloc (.cells #[.int .i64 m, .int .i64 ip, .slice a rs.length cap] 26)) [.int .i64 0, .int .i64 0, .int .i64 0, .int .i64 0, .int .i64 0, .int .i64 0, .int .i64 0, .int .i64 0, .string ⟨#[]⟩, .string ⟨#[]⟩] 58; rwa [s1] at h0)
      have n_l_r : w.heap.size ≠ w.heap.size + 1 := by omega
      clear s1
      go_wp2_with fail
      change Calls _ _ _ ((w.alloc (.cells #[.int .i64 m, .int .i64 ip, .slice a rs.length cap] 26)).alloc (.cells #[.int .i64 0, .int .i64 0, .int .i64 0, .int .i64 0, .int .i64 0, .int .i64 0, .int .i64 0, .int .i64 0, .string ⟨#[]⟩, .string ⟨#[]⟩] 58)) _
      generalize (w.alloc (.cells #[.int .i64 m, .int .i64 ip, .slice a rs.length cap] 26)).alloc (.cells #[.int .i64 0, .int .i64 0, .int .i64 0, .int .i64 0, .int .i64 0, .int .i64 0, .int .i64 0, .int .i64 0, .string ⟨#[]⟩, .string ⟨#[]⟩] 58) = v0 at B0 Kl0 Kr0 ⊢
      generalize hh_r : w.heap.size + 1 = g_r at Kr0 n_l_r ⊢
      generalize hh_l : w.heap.size = g_l at Kl0 n_l_r ⊢
      have l_l : w.heap.size ≤ g_l := by omega
      have l_r : w.heap.size ≤ g_r := by omega
      clear hh_l hh_r
      refine (C1.out _).mono ?_
      rintro e v1 ⟨rfl, hb⟩
      have B1 := Lib.hid (B0.out.trans (hb.mono B0.out.size))
      have Kl1 := Lib.hid (Kl0.out.below hb)
      have Kr1 := Lib.hid (Kr0.out.below hb)
      clear hb B0 Kl0 Kr0
      have Kfn := Lib.hid (Blk.new v1 [.int .i64 d, .int .i64 s, .int .i64 t, .string b] 38)
      have l_f : w.heap.size ≤ v1.heap.size := B1.out.size
      have n_l_f : g_l ≠ v1.heap.size := by have h1 := Kl1.out.lt; omega
      have n_r_f : g_r ≠ v1.heap.size := by have h1 := Kr1.out.lt; omega
      have Bn := Lib.hid (B1.out.alloc B1.out.size (.cells #[.int .i64 d, .int .i64 s, .int .i64 t, .string b] 38))
      have Kln := Lib.hid (Kl1.out.alloc (.cells #[.int .i64 d, .int .i64 s, .int .i64 t, .string b] 38))
      have Krn := Lib.hid (Kr1.out.alloc (.cells #[.int .i64 d, .int .i64 s, .int .i64 t, .string b] 38))
      clear B1 Kl1 Kr1
      obtain ⟨⟨cl0, cl1, cl2⟩, dl0, dl1, dl2⟩ := Kln.out.o3
      obtain ⟨⟨cr0, cr1, cr2, cr3, cr4, cr5, cr6, cr7, cr8, cr9⟩, dr0, dr1, dr2, dr3, dr4, dr5, dr6, dr7, dr8, dr9⟩ := Krn.out.of10
      go_wp2_with fail
      clear cl0 cl1 cl2 dl0 dl1 dl2 cr0 cr1 cr2 cr3 cr4 cr5 cr6 cr7 cr8 cr9 dr0 dr1 dr2 dr3 dr4 dr5 dr6 dr7 dr8 dr9
      change Calls _ _ _ (v1.alloc (.cells #[.int .i64 d, .int .i64 s, .int .i64 t, .string b] 38)) _
      generalize v1.alloc (.cells #[.int .i64 d, .int .i64 s, .int .i64 t, .string b] 38) = v2 at Kfn Bn Kln Krn ⊢
      generalize v1.heap.size = g_f at Kfn l_f n_l_f n_r_f ⊢
      clear v1
      have Kl2 := Kln
      clear Kln
      have Kr2 := Krn
      clear Krn
      have Kf2 := Kfn
      clear Kfn
      have B2 := Bn
      clear Bn
      refine (C2.out _ ((HR.out.below B2.out).mono B2.out.size)).mono ?_
      rintro e v3 ⟨rfl, hb⟩
      have B3 := Lib.hid (B2.out.trans (hb.mono B2.out.size))
      have Kl3 := Lib.hid (Kl2.out.below hb)
      have Kr3 := Lib.hid (Kr2.out.below hb)
      have Kf3 := Lib.hid (Kf2.out.below hb)
      clear hb B2 Kl2 Kr2 Kf2
      obtain ⟨⟨cl0, cl1, cl2⟩, dl0, dl1, dl2⟩ := Kl3.out.o3
      obtain ⟨⟨cr0, cr1, cr2, cr3, cr4, cr5, cr6, cr7, cr8, cr9⟩, dr0, dr1, dr2, dr3, dr4, dr5, dr6, dr7, dr8, dr9⟩ := Kr3.out.of10
      obtain ⟨⟨cf0, cf1, cf2, cf3⟩, df0, df1, df2, df3⟩ := Kf3.out.four
      go_wp2_with fail
      clear cl0 cl1 cl2 dl0 dl1 dl2 cr0 cr1 cr2 cr3 cr4 cr5 cr6 cr7 cr8 cr9 dr0 dr1 dr2 dr3 dr4 dr5 dr6 dr7 dr8 dr9 cf0 cf1 cf2 cf3 df0 df1 df2 df3
      refine (C3.out _).mono ?_
      rintro e v4 ⟨rfl, hb⟩
      have B4 := Lib.hid (B3.out.trans (hb.mono B3.out.size))
      have Kl4 := Lib.hid (Kl3.out.below hb)
      have Kr4 := Lib.hid (Kr3.out.below hb)
      have Kf4 := Lib.hid (Kf3.out.below hb)
      clear hb B3 Kl3 Kr3 Kf3
      obtain ⟨⟨cl0, cl1, cl2⟩, dl0, dl1, dl2⟩ := Kl4.out.o3
      obtain ⟨⟨cr0, cr1, cr2, cr3, cr4, cr5, cr6, cr7, cr8, cr9⟩, dr0, dr1, dr2, dr3, dr4, dr5, dr6, dr7, dr8, dr9⟩ := Kr4.out.of10
      obtain ⟨⟨cf0, cf1, cf2, cf3⟩, df0, df1, df2, df3⟩ := Kf4.out.four
      go_wp2_with fail
      clear cl0 cl1 cl2 dl0 dl1 dl2 cr0 cr1 cr2 cr3 cr4 cr5 cr6 cr7 cr8 cr9 dr0 dr1 dr2 dr3 dr4 dr5 dr6 dr7 dr8 dr9 cf0 cf1 cf2 cf3 df0 df1 df2 df3
      refine (C4.out _ (HX.out.below B4.out HX.out.lt)).mono ?_
      rintro e v5 ⟨rfl, hb⟩
      have B5 := Lib.hid (B4.out.trans (hb.mono B4.out.size))
      have Kl5 := Lib.hid (Kl4.out.below hb)
      have Kr5 := Lib.hid (Kr4.out.below hb)
      have Kf5 := Lib.hid (Kf4.out.below hb)
      clear hb B4 Kl4 Kr4 Kf4
      obtain ⟨⟨cl0, cl1, cl2⟩, dl0, dl1, dl2⟩ := Kl5.out.o3
      obtain ⟨⟨cr0, cr1, cr2, cr3, cr4, cr5, cr6, cr7, cr8, cr9⟩, dr0, dr1, dr2, dr3, dr4, dr5, dr6, dr7, dr8, dr9⟩ := Kr5.out.of10
      obtain ⟨⟨cf0, cf1, cf2, cf3⟩, df0, df1, df2, df3⟩ := Kf5.out.four
      go_wp2_with fail
      exact bodyPost_ret (v := .tuple #[.agg #[.int .i64 o.ip, .int .i64 o.hw, .int .i64 o.kind, .int .i64 o.s, .int .i64 o.d, .int .i64 o.t, .int .i64 o.p, .int .i64 o.i, .string o.b, .string o.ans], .nilIface]) (by simp [results, Tryz.results29, go_sem, cr0, cr1, cr2, cr3, cr4, cr5, cr6, cr7, cr8, cr9]) rfl ⟨rfl, ((((((((((B5.out.setCell l_r _).setCell l_r _).setCell l_r _).setCell l_r _).setCell l_r _).setCell l_r _).setCell l_r _).setCell l_r _).setCell l_r _).setCell l_r _)⟩
    ·have ht' : (t == 2054) = false := by simpa using ht
     rw [if_neg ht]
     clear ht
     by_cases hu : t = 2048
     ·have hu' : (t == 2048) = true := by simpa using hu
      rw [if_pos hu]
      clear hu
      have C4 := CP
      clear CA CP
      unfold ArrEnd at C4
      generalize pkIn ip s b = O at C4 ⊢
      cases O with
      | none =>
       simp only [arrV] at C4
       go_enter Tryz.func29, Tryz.ntmps29
       have B0 := Lib.hid (show Below w.heap.size w ((w.alloc (.cells #[.int .i64 m, .int .i64 ip, .slice a rs.length cap] 26)).alloc (.cells #[.int .i64 0, .int .i64 0, .int .i64 0, .int .i64 0, .int .i64 0, .int .i64 0, .int .i64 0, .int .i64 0, .string ⟨#[]⟩, .string ⟨#[]⟩] 58)) from (((Below.refl _ w).alloc (by simp) _).alloc (by simp) _))
       have Kl0 := Lib.hid (show Blk ((w.alloc (.cells #[.int .i64 m, .int .i64 ip, .slice a rs.length cap] 26)).alloc (.cells #[.int .i64 0, .int .i64 0, .int .i64 0, .int .i64 0, .int .i64 0, .int .i64 0, .int .i64 0, .int .i64 0, .string ⟨#[]⟩, .string ⟨#[]⟩] 58)) (w.heap.size) [.int .i64 m, .int .i64 ip, .slice a rs.length cap] from (Blk.new w [.int .i64 m, .int .i64 ip, .slice a rs.length cap] 26).alloc (.cells #[.int .i64 0, .int .i64 0, .int .i64 0, .int .i64 0, .int .i64 0, .int .i64 0, .int .i64 0, .int .i64 0, .string ⟨#[]⟩, .string ⟨#[]⟩] 58))
       have s1 : (w.alloc (.cells #[.int .i64 m, .int .i64 ip, .slice a rs.length cap] 26)).heap.size = w.heap.size + 1 := by simp
       have Kr0 := Lib.hid (show Blk ((w.alloc (.cells #[.int .i64 m, .int .i64 ip, .slice a rs.length cap] 26)).alloc (.cells #[.int .i64 0, .int .i64 0, .int .i64 0, .int .i64 0, .int .i64 0, .int .i64 0, .int .i64 0, .int .i64 0, .string ⟨#[]⟩, .string ⟨#[]⟩] 58)) (w.heap.size + 1) [.int .i64 0, .int .i64 0, .int .i64 0, .int .i64 0, .int .i64 0, .int .i64 0, .int .i64 0, .int .i64 0, .string ⟨#[]⟩, .string ⟨#[]⟩] by have h0 := Blk.new (w.alloc (.cells #[.int .i64 m, .int .i64 ip, .slice a rs.length cap] 26)) [.int .i64 0, .int .i64 0, .int .i64 0, .int .i64 0, .int .i64 0, .int .i64 0, .int .i64 0, .int .i64 0, .string ⟨#[]⟩, .string ⟨#[]⟩] 58; rwa [s1] at h0)
       have n_l_r : w.heap.size ≠ w.heap.size + 1 := by omega
       clear s1
       go_wp2_with fail
       change Calls _ _ _ ((w.alloc (.cells #[.int .i64 m, .int .i64 ip, .slice a rs.length cap] 26)).alloc (.cells #[.int .i64 0, .int .i64 0, .int .i64 0, .int .i64 0, .int .i64 0, .int .i64 0, .int .i64 0, .int .i64 0, .string ⟨#[]⟩, .string ⟨#[]⟩] 58)) _
       generalize (w.alloc (.cells #[.int .i64 m, .int .i64 ip, .slice a rs.length cap] 26)).alloc (.cells #[.int .i64 0, .int .i64 0, .int .i64 0, .int .i64 0, .int .i64 0, .int .i64 0, .int .i64 0, .int .i64 0, .string ⟨#[]⟩, .string ⟨#[]⟩] 58) = v0 at B0 Kl0 Kr0 ⊢
       generalize hh_r : w.heap.size + 1 = g_r at Kr0 n_l_r ⊢
       generalize hh_l : w.heap.size = g_l at Kl0 n_l_r ⊢
       have l_l : w.heap.size ≤ g_l := by omega
       have l_r : w.heap.size ≤ g_r := by omega
       clear hh_l hh_r
       refine (C1.out _).mono ?_
       rintro e v1 ⟨rfl, hb⟩
       have B1 := Lib.hid (B0.out.trans (hb.mono B0.out.size))
       have Kl1 := Lib.hid (Kl0.out.below hb)
       have Kr1 := Lib.hid (Kr0.out.below hb)
       clear hb B0 Kl0 Kr0
       have Kfn := Lib.hid (Blk.new v1 [.int .i64 d, .int .i64 s, .int .i64 t, .string b] 38)
       have l_f : w.heap.size ≤ v1.heap.size := B1.out.size
       have n_l_f : g_l ≠ v1.heap.size := by have h1 := Kl1.out.lt; omega
       have n_r_f : g_r ≠ v1.heap.size := by have h1 := Kr1.out.lt; omega
       have Bn := Lib.hid (B1.out.alloc B1.out.size (.cells #[.int .i64 d, .int .i64 s, .int .i64 t, .string b] 38))
       have Kln := Lib.hid (Kl1.out.alloc (.cells #[.int .i64 d, .int .i64 s, .int .i64 t, .string b] 38))
       have Krn := Lib.hid (Kr1.out.alloc (.cells #[.int .i64 d, .int .i64 s, .int .i64 t, .string b] 38))
       clear B1 Kl1 Kr1
       obtain ⟨⟨cl0, cl1, cl2⟩, dl0, dl1, dl2⟩ := Kln.out.o3
       obtain ⟨⟨cr0, cr1, cr2, cr3, cr4, cr5, cr6, cr7, cr8, cr9⟩, dr0, dr1, dr2, dr3, dr4, dr5, dr6, dr7, dr8, dr9⟩ := Krn.out.of10
       go_wp2_with fail
       clear cl0 cl1 cl2 dl0 dl1 dl2 cr0 cr1 cr2 cr3 cr4 cr5 cr6 cr7 cr8 cr9 dr0 dr1 dr2 dr3 dr4 dr5 dr6 dr7 dr8 dr9
       change Calls _ _ _ (v1.alloc (.cells #[.int .i64 d, .int .i64 s, .int .i64 t, .string b] 38)) _
       generalize v1.alloc (.cells #[.int .i64 d, .int .i64 s, .int .i64 t, .string b] 38) = v2 at Kfn Bn Kln Krn ⊢
       generalize v1.heap.size = g_f at Kfn l_f n_l_f n_r_f ⊢
       clear v1
       have Kl2 := Kln
       clear Kln
       have Kr2 := Krn
       clear Krn
       have Kf2 := Kfn
       clear Kfn
       have B2 := Bn
       clear Bn
       refine (C2.out _ ((HR.out.below B2.out).mono B2.out.size)).mono ?_
       rintro e v3 ⟨rfl, hb⟩
       have B3 := Lib.hid (B2.out.trans (hb.mono B2.out.size))
       have Kl3 := Lib.hid (Kl2.out.below hb)
       have Kr3 := Lib.hid (Kr2.out.below hb)
       have Kf3 := Lib.hid (Kf2.out.below hb)
       clear hb B2 Kl2 Kr2 Kf2
       obtain ⟨⟨cl0, cl1, cl2⟩, dl0, dl1, dl2⟩ := Kl3.out.o3
       obtain ⟨⟨cr0, cr1, cr2, cr3, cr4, cr5, cr6, cr7, cr8, cr9⟩, dr0, dr1, dr2, dr3, dr4, dr5, dr6, dr7, dr8, dr9⟩ := Kr3.out.of10
       obtain ⟨⟨cf0, cf1, cf2, cf3⟩, df0, df1, df2, df3⟩ := Kf3.out.four
       go_wp2_with fail
       clear cl0 cl1 cl2 dl0 dl1 dl2 cr0 cr1 cr2 cr3 cr4 cr5 cr6 cr7 cr8 cr9 dr0 dr1 dr2 dr3 dr4 dr5 dr6 dr7 dr8 dr9 cf0 cf1 cf2 cf3 df0 df1 df2 df3
       refine (C3.out _).mono ?_
       rintro e v4 ⟨rfl, hb⟩
       have B4 := Lib.hid (B3.out.trans (hb.mono B3.out.size))
       have Kl4 := Lib.hid (Kl3.out.below hb)
       have Kr4 := Lib.hid (Kr3.out.below hb)
       have Kf4 := Lib.hid (Kf3.out.below hb)
       clear hb B3 Kl3 Kr3 Kf3
       obtain ⟨⟨cl0, cl1, cl2⟩, dl0, dl1, dl2⟩ := Kl4.out.o3
       obtain ⟨⟨cr0, cr1, cr2, cr3, cr4, cr5, cr6, cr7, cr8, cr9⟩, dr0, dr1, dr2, dr3, dr4, dr5, dr6, dr7, dr8, dr9⟩ := Kr4.out.of10
       obtain ⟨⟨cf0, cf1, cf2, cf3⟩, df0, df1, df2, df3⟩ := Kf4.out.four
       go_wp2_with fail
       clear cl0 cl1 cl2 dl0 dl1 dl2 cr0 cr1 cr2 cr3 cr4 cr5 cr6 cr7 cr8 cr9 dr0 dr1 dr2 dr3 dr4 dr5 dr6 dr7 dr8 dr9 cf0 cf1 cf2 cf3 df0 df1 df2 df3
       refine (C4.out _ (HG.out.below B4.out HG.out.lt) (HX.out.below B4.out HX.out.lt)).mono ?_
       rintro e v5 ⟨rfl, hb⟩
       have B5 := Lib.hid (B4.out.trans (hb.mono B4.out.size))
       have Kl5 := Lib.hid (Kl4.out.below hb)
       have Kr5 := Lib.hid (Kr4.out.below hb)
       have Kf5 := Lib.hid (Kf4.out.below hb)
       clear hb B4 Kl4 Kr4 Kf4
       obtain ⟨⟨cl0, cl1, cl2⟩, dl0, dl1, dl2⟩ := Kl5.out.o3
       obtain ⟨⟨cr0, cr1, cr2, cr3, cr4, cr5, cr6, cr7, cr8, cr9⟩, dr0, dr1, dr2, dr3, dr4, dr5, dr6, dr7, dr8, dr9⟩ := Kr5.out.of10
       obtain ⟨⟨cf0, cf1, cf2, cf3⟩, df0, df1, df2, df3⟩ := Kf5.out.four
       go_wp2_with fail
       exact bodyPost_ret (v := .tuple #[.agg #[.int .i64 0, .int .i64 0, .int .i64 0, .int .i64 0, .int .i64 0, .int .i64 0, .int .i64 0, .int .i64 0, .string ⟨#[]⟩, .string ⟨#[]⟩], .iface 168 (.pointer (some x))]) (by simp [results, Tryz.results29, go_sem, cr0, cr1, cr2, cr3, cr4, cr5, cr6, cr7, cr8, cr9]) rfl ⟨rfl, ((((((((((B5.out.setCell l_r _).setCell l_r _).setCell l_r _).setCell l_r _).setCell l_r _).setCell l_r _).setCell l_r _).setCell l_r _).setCell l_r _).setCell l_r _)⟩
      | some o =>
       simp only [arrV] at C4
       go_enter Tryz.func29, Tryz.ntmps29
       have B0 := Lib.hid (show Below w.heap.size w ((w.alloc (.cells #[.int .i64 m, .int .i64 ip, .slice a rs.length cap] 26)).alloc (.cells #[.int .i64 0, .int .i64 0, .int .i64 0, .int .i64 0, .int .i64 0, .int .i64 0, .int .i64 0, .int .i64 0, .string ⟨#[]⟩, .string ⟨#[]⟩] 58)) from (((Below.refl _ w).alloc (by simp) _).alloc (by simp) _))
       have Kl0 := Lib.hid (show Blk ((w.alloc (.cells #[.int .i64 m, .int .i64 ip, .slice a rs.length cap] 26)).alloc (.cells #[.int .i64 0, .int .i64 0, .int .i64 0, .int .i64 0, .int .i64 0, .int .i64 0, .int .i64 0, .int .i64 0, .string ⟨#[]⟩, .string ⟨#[]⟩] 58)) (w.heap.size) [.int .i64 m, .int .i64 ip, .slice a rs.length cap] from (Blk.new w [.int .i64 m, .int .i64 ip, .slice a rs.length cap] 26).alloc (.cells #[.int .i64 0, .int .i64 0, .int .i64 0, .int .i64 0, .int .i64 0, .int .i64 0, .int .i64 0, .int .i64 0, .string ⟨#[]⟩, .string ⟨#[]⟩] 58))
       have s1 : (w.alloc (.cells #[.int .i64 m, .int .i64 ip, .slice a rs.length cap] 26)).heap.size = w.heap.size + 1 := by simp
       have Kr0 := Lib.hid (show Blk ((w.alloc (.cells #[.int .i64 m, .int .i64 ip, .slice a rs.length cap] 26)).alloc (.cells #[.int .i64 0, .int .i64 0, .int .i64 0, .int .i64 0, .int .i64 0, .int .i64 0, .int .i64 0, .int .i64 0, .string ⟨#[]⟩, .string ⟨#[]⟩] 58)) (w.heap.size + 1) [.int .i64 0, .int .i64 0, .int .i64 0, .int .i64 0, .int .i64 0, .int .i64 0, .int .i64 0, .int .i64 0, .string ⟨#[]⟩, .string ⟨#[]⟩] by have h0 := Blk.new (w.alloc (.cells #[.int .i64 m, .int .i64 ip, .slice a rs.length cap] 26)) [.int .i64 0, .int .i64 0, .int .i64 0, .int .i64 0, .int .i64 0, .int .i64 0, .int .i64 0, .int .i64 0, .string ⟨#[]⟩, .string ⟨#[]⟩] 58; rwa [s1] at h0)
       have n_l_r : w.heap.size ≠ w.heap.size + 1 := by omega
       clear s1
       go_wp2_with fail
       change Calls _ _ _ ((w.alloc (.cells #[.int .i64 m, .int .i64 ip, .slice a rs.length cap] 26)).alloc (.cells #[.int .i64 0, .int .i64 0, .int .i64 0, .int .i64 0, .int .i64 0, .int .i64 0, .int .i64 0, .int .i64 0, .string ⟨#[]⟩, .string ⟨#[]⟩] 58)) _
       generalize (w.alloc (.cells #[.int .i64 m, .int .i64 ip, .slice a rs.length cap] 26)).alloc (.cells #[.int .i64 0, .int .i64 0, .int .i64 0, .int .i64 0, .int .i64 0, .int .i64 0, .int .i64 0, .int .i64 0, .string ⟨#[]⟩, .string ⟨#[]⟩] 58) = v0 at B0 Kl0 Kr0 ⊢
       generalize hh_r : w.heap.size + 1 = g_r at Kr0 n_l_r ⊢
       generalize hh_l : w.heap.size = g_l at Kl0 n_l_r ⊢
       have l_l : w.heap.size ≤ g_l := by omega
       have l_r : w.heap.size ≤ g_r := by omega
       clear hh_l hh_r
       refine (C1.out _).mono ?_
       rintro e v1 ⟨rfl, hb⟩
       have B1 := Lib.hid (B0.out.trans (hb.mono B0.out.size))
       have Kl1 := Lib.hid (Kl0.out.below hb)
       have Kr1 := Lib.hid (Kr0.out.below hb)
       clear hb B0 Kl0 Kr0
       have Kfn := Lib.hid (Blk.new v1 [.int .i64 d, .int .i64 s, .int .i64 t, .string b] 38)
       have l_f : w.heap.size ≤ v1.heap.size := B1.out.size
       have n_l_f : g_l ≠ v1.heap.size := by have h1 := Kl1.out.lt; omega
       have n_r_f : g_r ≠ v1.heap.size := by have h1 := Kr1.out.lt; omega
       have Bn := Lib.hid (B1.out.alloc B1.out.size (.cells #[.int .i64 d, .int .i64 s, .int .i64 t, .string b] 38))
       have Kln := Lib.hid (Kl1.out.alloc (.cells #[.int .i64 d, .int .i64 s, .int .i64 t, .string b] 38))
       have Krn := Lib.hid (Kr1.out.alloc (.cells #[.int .i64 d, .int .i64 s, .int .i64 t, .string b] 38))
       clear B1 Kl1 Kr1
       obtain ⟨⟨cl0, cl1, cl2⟩, dl0, dl1, dl2⟩ := Kln.out.o3
       obtain ⟨⟨cr0, cr1, cr2, cr3, cr4, cr5, cr6, cr7, cr8, cr9⟩, dr0, dr1, dr2, dr3, dr4, dr5, dr6, dr7, dr8, dr9⟩ := Krn.out.of10
       go_wp2_with fail
       clear cl0 cl1 cl2 dl0 dl1 dl2 cr0 cr1 cr2 cr3 cr4 cr5 cr6 cr7 cr8 cr9 dr0 dr1 dr2 dr3 dr4 dr5 dr6 dr7 dr8 dr9
       change Calls _ _ _ (v1.alloc (.cells #[.int .i64 d, .int .i64 s, .int .i64 t, .string b] 38)) _
       generalize v1.alloc (.cells #[.int .i64 d, .int .i64 s, .int .i64 t, .string b] 38) = v2 at Kfn Bn Kln Krn ⊢
       generalize v1.heap.size = g_f at Kfn l_f n_l_f n_r_f ⊢
       clear v1
       have Kl2 := Kln
       clear Kln
       have Kr2 := Krn
       clear Krn
       have Kf2 := Kfn
       clear Kfn
       have B2 := Bn
       clear Bn
       refine (C2.out _ ((HR.out.below B2.out).mono B2.out.size)).mono ?_
       rintro e v3 ⟨rfl, hb⟩
       have B3 := Lib.hid (B2.out.trans (hb.mono B2.out.size))
       have Kl3 := Lib.hid (Kl2.out.below hb)
       have Kr3 := Lib.hid (Kr2.out.below hb)
       have Kf3 := Lib.hid (Kf2.out.below hb)
       clear hb B2 Kl2 Kr2 Kf2
       obtain ⟨⟨cl0, cl1, cl2⟩, dl0, dl1, dl2⟩ := Kl3.out.o3
       obtain ⟨⟨cr0, cr1, cr2, cr3, cr4, cr5, cr6, cr7, cr8, cr9⟩, dr0, dr1, dr2, dr3, dr4, dr5, dr6, dr7, dr8, dr9⟩ := Kr3.out.of10
       obtain ⟨⟨cf0, cf1, cf2, cf3⟩, df0, df1, df2, df3⟩ := Kf3.out.four
       go_wp2_with fail
       clear cl0 cl1 cl2 dl0 dl1 dl2 cr0 cr1 cr2 cr3 cr4 cr5 cr6 cr7 cr8 cr9 dr0 dr1 dr2 dr3 dr4 dr5 dr6 dr7 dr8 dr9 cf0 cf1 cf2 cf3 df0 df1 df2 df3
       refine (C3.out _).mono ?_
       rintro e v4 ⟨rfl, hb⟩
       have B4 := Lib.hid (B3.out.trans (hb.mono B3.out.size))
       have Kl4 := Lib.hid (Kl3.out.below hb)
       have Kr4 := Lib.hid (Kr3.out.below hb)
       have Kf4 := Lib.hid (Kf3.out.below hb)
       clear hb B3 Kl3 Kr3 Kf3
       obtain ⟨⟨cl0, cl1, cl2⟩, dl0, dl1, dl2⟩ := Kl4.out.o3
       obtain ⟨⟨cr0, cr1, cr2, cr3, cr4, cr5, cr6, cr7, cr8, cr9⟩, dr0, dr1, dr2, dr3, dr4, dr5, dr6, dr7, dr8, dr9⟩ := Kr4.out.of10
       obtain ⟨⟨cf0, cf1, cf2, cf3⟩, df0, df1, df2, df3⟩ := Kf4.out.four
       go_wp2_with fail
       clear cl0 cl1 cl2 dl0 dl1 dl2 cr0 cr1 cr2 cr3 cr4 cr5 cr6 cr7 cr8 cr9 dr0 dr1 dr2 dr3 dr4 dr5 dr6 dr7 dr8 dr9 cf0 cf1 cf2 cf3 df0 df1 df2 df3
       refine (C4.out _ (HG.out.below B4.out HG.out.lt) (HX.out.below B4.out HX.out.lt)).mono ?_
       rintro e v5 ⟨rfl, hb⟩
       have B5 := Lib.hid (B4.out.trans (hb.mono B4.out.size))
       have Kl5 := Lib.hid (Kl4.out.below hb)
       have Kr5 := Lib.hid (Kr4.out.below hb)
       have Kf5 := Lib.hid (Kf4.out.below hb)
       clear hb B4 Kl4 Kr4 Kf4
       obtain ⟨⟨cl0, cl1, cl2⟩, dl0, dl1, dl2⟩ := Kl5.out.o3
       obtain ⟨⟨cr0, cr1, cr2, cr3, cr4, cr5, cr6, cr7, cr8, cr9⟩, dr0, dr1, dr2, dr3, dr4, dr5, dr6, dr7, dr8, dr9⟩ := Kr5.out.of10
       obtain ⟨⟨cf0, cf1, cf2, cf3⟩, df0, df1, df2, df3⟩ := Kf5.out.four
       go_wp2_with fail
       exact bodyPost_ret (v := .tuple #[.agg #[.int .i64 o.ip, .int .i64 o.hw, .int .i64 o.kind, .int .i64 o.s, .int .i64 o.d, .int .i64 o.t, .int .i64 o.p, .int .i64 o.i, .string o.b, .string o.ans], .nilIface]) (by simp [results, Tryz.results29, go_sem, cr0, cr1, cr2, cr3, cr4, cr5, cr6, cr7, cr8, cr9]) rfl ⟨rfl, ((((((((((B5.out.setCell l_r _).setCell l_r _).setCell l_r _).setCell l_r _).setCell l_r _).setCell l_r _).setCell l_r _).setCell l_r _).setCell l_r _).setCell l_r _)⟩
     ·have hu' : (t == 2048) = false := by simpa using hu
      rw [if_neg hu]
      clear hu
      go_enter Tryz.func29, Tryz.ntmps29
      have B0 := Lib.hid (show Below w.heap.size w ((w.alloc (.cells #[.int .i64 m, .int .i64 ip, .slice a rs.length cap] 26)).alloc (.cells #[.int .i64 0, .int .i64 0, .int .i64 0, .int .i64 0, .int .i64 0, .int .i64 0, .int .i64 0, .int .i64 0, .string ⟨#[]⟩, .string ⟨#[]⟩] 58)) from (((Below.refl _ w).alloc (by simp) _).alloc (by simp) _))
      have Kl0 := Lib.hid (show Blk ((w.alloc (.cells #[.int .i64 m, .int .i64 ip, .slice a rs.length cap] 26)).alloc (.cells #[.int .i64 0, .int .i64 0, .int .i64 0, .int .i64 0, .int .i64 0, .int .i64 0, .int .i64 0, .int .i64 0, .string ⟨#[]⟩, .string ⟨#[]⟩] 58)) (w.heap.size) [.int .i64 m, .int .i64 ip, .slice a rs.length cap] from (Blk.new w [.int .i64 m, .int .i64 ip, .slice a rs.length cap] 26).alloc (.cells #[.int .i64 0, .int .i64 0, .int .i64 0, .int .i64 0, .int .i64 0, .int .i64 0, .int .i64 0, .int .i64 0, .string ⟨#[]⟩, .string ⟨#[]⟩] 58))
      have s1 : (w.alloc (.cells #[.int .i64 m, .int .i64 ip, .slice a rs.length cap] 26)).heap.size = w.heap.size + 1 := by simp
      have Kr0 := Lib.hid (show Blk ((w.alloc (.cells #[.int .i64 m, .int .i64 ip, .slice a rs.length cap] 26)).alloc (.cells #[.int .i64 0, .int .i64 0, .int .i64 0, .int .i64 0, .int .i64 0, .int .i64 0, .int .i64 0, .int .i64 0, .string ⟨#[]⟩, .string ⟨#[]⟩] 58)) (w.heap.size + 1) [.int .i64 0, .int .i64 0, .int .i64 0, .int .i64 0, .int .i64 0, .int .i64 0, .int .i64 0, .int .i64 0, .string ⟨#[]⟩, .string ⟨#[]⟩] by have h0 := Blk.new (w.alloc (.cells #[.int .i64 m, .int .i64 ip, .slice a rs.length cap] 26)) [.int .i64 0, .int .i64 0, .int .i64 0, .int .i64 0, .int .i64 0, .int .i64 0, .int .i64 0, .int .i64 0, .string ⟨#[]⟩, .string ⟨#[]⟩] 58; rwa [s1] at h0)
      have n_l_r : w.heap.size ≠ w.heap.size + 1 := by omega
      clear s1
      go_wp2_with fail
      change Calls _ _ _ ((w.alloc (.cells #[.int .i64 m, .int .i64 ip, .slice a rs.length cap] 26)).alloc (.cells #[.int .i64 0, .int .i64 0, .int .i64 0, .int .i64 0, .int .i64 0, .int .i64 0, .int .i64 0, .int .i64 0, .string ⟨#[]⟩, .string ⟨#[]⟩] 58)) _
      generalize (w.alloc (.cells #[.int .i64 m, .int .i64 ip, .slice a rs.length cap] 26)).alloc (.cells #[.int .i64 0, .int .i64 0, .int .i64 0, .int .i64 0, .int .i64 0, .int .i64 0, .int .i64 0, .int .i64 0, .string ⟨#[]⟩, .string ⟨#[]⟩] 58) = v0 at B0 Kl0 Kr0 ⊢
      generalize hh_r : w.heap.size + 1 = g_r at Kr0 n_l_r ⊢
      generalize hh_l : w.heap.size = g_l at Kl0 n_l_r ⊢
      have l_l : w.heap.size ≤ g_l := by omega
      have l_r : w.heap.size ≤ g_r := by omega
      clear hh_l hh_r
      refine (C1.out _).mono ?_
      rintro e v1 ⟨rfl, hb⟩
      have B1 := Lib.hid (B0.out.trans (hb.mono B0.out.size))
      have Kl1 := Lib.hid (Kl0.out.below hb)
      have Kr1 := Lib.hid (Kr0.out.below hb)
      clear hb B0 Kl0 Kr0
      have Kfn := Lib.hid (Blk.new v1 [.int .i64 d, .int .i64 s, .int .i64 t, .string b] 38)
      have l_f : w.heap.size ≤ v1.heap.size := B1.out.size
      have n_l_f : g_l ≠ v1.heap.size := by have h1 := Kl1.out.lt; omega
      have n_r_f : g_r ≠ v1.heap.size := by have h1 := Kr1.out.lt; omega
      have Bn := Lib.hid (B1.out.alloc B1.out.size (.cells #[.int .i64 d, .int .i64 s, .int .i64 t, .string b] 38))
      have Kln := Lib.hid (Kl1.out.alloc (.cells #[.int .i64 d, .int .i64 s, .int .i64 t, .string b] 38))
      have Krn := Lib.hid (Kr1.out.alloc (.cells #[.int .i64 d, .int .i64 s, .int .i64 t, .string b] 38))
      clear B1 Kl1 Kr1
      obtain ⟨⟨cl0, cl1, cl2⟩, dl0, dl1, dl2⟩ := Kln.out.o3
      obtain ⟨⟨cr0, cr1, cr2, cr3, cr4, cr5, cr6, cr7, cr8, cr9⟩, dr0, dr1, dr2, dr3, dr4, dr5, dr6, dr7, dr8, dr9⟩ := Krn.out.of10
      go_wp2_with fail
      clear cl0 cl1 cl2 dl0 dl1 dl2 cr0 cr1 cr2 cr3 cr4 cr5 cr6 cr7 cr8 cr9 dr0 dr1 dr2 dr3 dr4 dr5 dr6 dr7 dr8 dr9
      change Calls _ _ _ (v1.alloc (.cells #[.int .i64 d, .int .i64 s, .int .i64 t, .string b] 38)) _
      generalize v1.alloc (.cells #[.int .i64 d, .int .i64 s, .int .i64 t, .string b] 38) = v2 at Kfn Bn Kln Krn ⊢
      generalize v1.heap.size = g_f at Kfn l_f n_l_f n_r_f ⊢
      clear v1
      have Kl2 := Kln
      clear Kln
      have Kr2 := Krn
      clear Krn
      have Kf2 := Kfn
      clear Kfn
      have B2 := Bn
      clear Bn
      refine (C2.out _ ((HR.out.below B2.out).mono B2.out.size)).mono ?_
      rintro e v3 ⟨rfl, hb⟩
      have B3 := Lib.hid (B2.out.trans (hb.mono B2.out.size))
      have Kl3 := Lib.hid (Kl2.out.below hb)
      have Kr3 := Lib.hid (Kr2.out.below hb)
      have Kf3 := Lib.hid (Kf2.out.below hb)
      clear hb B2 Kl2 Kr2 Kf2
      obtain ⟨⟨cl0, cl1, cl2⟩, dl0, dl1, dl2⟩ := Kl3.out.o3
      obtain ⟨⟨cr0, cr1, cr2, cr3, cr4, cr5, cr6, cr7, cr8, cr9⟩, dr0, dr1, dr2, dr3, dr4, dr5, dr6, dr7, dr8, dr9⟩ := Kr3.out.of10
      obtain ⟨⟨cf0, cf1, cf2, cf3⟩, df0, df1, df2, df3⟩ := Kf3.out.four
      go_wp2_with fail
      clear cl0 cl1 cl2 dl0 dl1 dl2 cr0 cr1 cr2 cr3 cr4 cr5 cr6 cr7 cr8 cr9 dr0 dr1 dr2 dr3 dr4 dr5 dr6 dr7 dr8 dr9 cf0 cf1 cf2 cf3 df0 df1 df2 df3
      refine (C3.out _).mono ?_
      rintro e v4 ⟨rfl, hb⟩
      have B4 := Lib.hid (B3.out.trans (hb.mono B3.out.size))
      have Kl4 := Lib.hid (Kl3.out.below hb)
      have Kr4 := Lib.hid (Kr3.out.below hb)
      have Kf4 := Lib.hid (Kf3.out.below hb)
      clear hb B3 Kl3 Kr3 Kf3
      obtain ⟨⟨cl0, cl1, cl2⟩, dl0, dl1, dl2⟩ := Kl4.out.o3
      obtain ⟨⟨cr0, cr1, cr2, cr3, cr4, cr5, cr6, cr7, cr8, cr9⟩, dr0, dr1, dr2, dr3, dr4, dr5, dr6, dr7, dr8, dr9⟩ := Kr4.out.of10
      obtain ⟨⟨cf0, cf1, cf2, cf3⟩, df0, df1, df2, df3⟩ := Kf4.out.four
      have hq1 : ¬ g_r = 0 := by have := HX.out.lt; omega
      have hq2 : ¬ 0 = g_r := fun e => hq1 e.symm
      have hq3 := HX.out.below B4.out HX.out.lt
      unfold Sent at hq3
      go_wp2_with fail
      go_region_with fail
      all_goals go_wp2_with fail
      all_goals refine post_put 5 rfl ?_
      all_goals exact bodyPost_ret (v := .tuple #[.agg #[.int .i64 0, .int .i64 0, .int .i64 0, .int .i64 0, .int .i64 0, .int .i64 0, .int .i64 0, .int .i64 0, .string ⟨#[]⟩, .string ⟨#[]⟩], .iface 168 (.pointer (some x))]) (by simp [results, Tryz.results29, go_sem, cr0, cr1, cr2, cr3, cr4, cr5, cr6, cr7, cr8, cr9]) rfl ⟨rfl, ((((((((((B4.out.setCell l_r _).setCell l_r _).setCell l_r _).setCell l_r _).setCell l_r _).setCell l_r _).setCell l_r _).setCell l_r _).setCell l_r _).setCell l_r _).drew⟩
end Go.Proofs.YtkkimgjcefojdaaGreatDoor
