/- Texts of a proof that belong together, joined. Nothing here is a claim. -/
import Derived.Test.YtkkimgjcefojdaaGreatDoorPkLk10
namespace Go.Proofs.YtkkimgjcefojdaaGreatDoor
open Go.RowKit Go.Lib

set_option maxRecDepth 100000 in
set_option maxHeartbeats 4000000 in
theorem arpArrI (m ip : Int) (a : Option Addr) (n cap : Nat) (fd fs ft : Int) (fb : ByteArray) (x : Addr) (w : World) (hs : fb.size ≤ 1048576) (hx : Sent x w) :
  Calls Tryz.prog 71 #[.agg #[.int .i64 m, .int .i64 ip, .slice a n cap], .agg #[.int .i64 fd, .int .i64 fs, .int .i64 ft, .string fb]] w (ArrEnd (arpIn m ip fb) x w) := by
 have C1 := Lib.hid (fun w => readArpI fb w hs)
 have HX := Lib.hid hx
 unfold arpIn
 unfold raV at C1
 clear hx hs
 generalize raF fb 6 2 = k at C1 ⊢
 generalize raF fb 8 6 = sh at C1 ⊢
 generalize raF fb 14 4 = si at C1 ⊢
 generalize raF fb 18 6 = th at C1
 generalize raF fb 24 4 = di at C1 ⊢
 generalize raOk fb = ok at C1 ⊢
 unfold arpMsg
 cases ok with
 | false =>
  rw [if_neg (by decide)]
  go_enter Tryz.func71, Tryz.ntmps71
  have B0 := Lib.hid (show Below w.heap.size w (((w.alloc (.cells #[.int .i64 m, .int .i64 ip, .slice a n cap] 26)).alloc (.cells #[.int .i64 fd, .int .i64 fs, .int .i64 ft, .string fb] 38)).alloc (.cells #[.int .i64 0, .int .i64 0, .int .i64 0, .int .i64 0, .int .i64 0, .int .i64 0, .int .i64 0, .int .i64 0, .string ⟨#[]⟩, .string ⟨#[]⟩] 58)) from ((((Below.refl _ w).alloc (by simp) _).alloc (by simp) _).alloc (by simp; omega) _))
  have Kl0 := Lib.hid (show Blk (((w.alloc (.cells #[.int .i64 m, .int .i64 ip, .slice a n cap] 26)).alloc (.cells #[.int .i64 fd, .int .i64 fs, .int .i64 ft, .string fb] 38)).alloc (.cells #[.int .i64 0, .int .i64 0, .int .i64 0, .int .i64 0, .int .i64 0, .int .i64 0, .int .i64 0, .int .i64 0, .string ⟨#[]⟩, .string ⟨#[]⟩] 58)) (w.heap.size) [.int .i64 m, .int .i64 ip, .slice a n cap] from ((Blk.new w [.int .i64 m, .int .i64 ip, .slice a n cap] 26).alloc (.cells #[.int .i64 fd, .int .i64 fs, .int .i64 ft, .string fb] 38)).alloc (.cells #[.int .i64 0, .int .i64 0, .int .i64 0, .int .i64 0, .int .i64 0, .int .i64 0, .int .i64 0, .int .i64 0, .string ⟨#[]⟩, .string ⟨#[]⟩] 58))
  have s1 : (w.alloc (.cells #[.int .i64 m, .int .i64 ip, .slice a n cap] 26)).heap.size = w.heap.size + 1 := by simp
  have Kf0 := Lib.hid (show Blk (((w.alloc (.cells #[.int .i64 m, .int .i64 ip, .slice a n cap] 26)).alloc (.cells #[.int .i64 fd, .int .i64 fs, .int .i64 ft, .string fb] 38)).alloc (.cells #[.int .i64 0, .int .i64 0, .int .i64 0, .int .i64 0, .int .i64 0, .int .i64 0, .int .i64 0, .int .i64 0, .string ⟨#[]⟩, .string ⟨#[]⟩] 58)) (w.heap.size + 1) [.int .i64 fd, .int .i64 fs, .int .i64 ft, .string fb] by have h0 := (Blk.new (w.alloc (.cells #[.int .i64 m, .int .i64 ip, .slice a n cap] 26)) [.int .i64 fd, .int .i64 fs, .int .i64 ft, .string fb] 38).alloc (.cells #[.int .i64 0, .int .i64 0, .int .i64 0, .int .i64 0, .int .i64 0, .int .i64 0, .int .i64 0, .int .i64 0, .string ⟨#[]⟩, .string ⟨#[]⟩] 58); rwa [s1] at h0)
  have n_l_f : w.heap.size ≠ w.heap.size + 1 := by omega
  have s2 : ((w.alloc (.cells #[.int .i64 m, .int .i64 ip, .slice a n cap] 26)).alloc (.cells #[.int .i64 fd, .int .i64 fs, .int .i64 ft, .string fb] 38)).heap.size = w.heap.size + 1 + 1 := by simp
  have Kr0 := Lib.hid (show Blk (((w.alloc (.cells #[.int .i64 m, .int .i64 ip, .slice a n cap] 26)).alloc (.cells #[.int .i64 fd, .int .i64 fs, .int .i64 ft, .string fb] 38)).alloc (.cells #[.int .i64 0, .int .i64 0, .int .i64 0, .int .i64 0, .int .i64 0, .int .i64 0, .int .i64 0, .int .i64 0, .string ⟨#[]⟩, .string ⟨#[]⟩] 58)) (w.heap.size + 1 + 1) [.int .i64 0, .int .i64 0, .int .i64 0, .int .i64 0, .int .i64 0, .int .i64 0, .int .i64 0, .int .i64 0, .string ⟨#[]⟩, .string ⟨#[]⟩] by have h0 := Blk.new ((w.alloc (.cells #[.int .i64 m, .int .i64 ip, .slice a n cap] 26)).alloc (.cells #[.int .i64 fd, .int .i64 fs, .int .i64 ft, .string fb] 38)) [.int .i64 0, .int .i64 0, .int .i64 0, .int .i64 0, .int .i64 0, .int .i64 0, .int .i64 0, .int .i64 0, .string ⟨#[]⟩, .string ⟨#[]⟩] 58; rwa [s2] at h0)
  have n_l_r : w.heap.size ≠ w.heap.size + 1 + 1 := by omega
  have n_f_r : w.heap.size + 1 ≠ w.heap.size + 1 + 1 := by omega
  clear s1 s2
  go_wp2_with fail
  change Calls _ _ _ (((w.alloc (.cells #[.int .i64 m, .int .i64 ip, .slice a n cap] 26)).alloc (.cells #[.int .i64 fd, .int .i64 fs, .int .i64 ft, .string fb] 38)).alloc (.cells #[.int .i64 0, .int .i64 0, .int .i64 0, .int .i64 0, .int .i64 0, .int .i64 0, .int .i64 0, .int .i64 0, .string ⟨#[]⟩, .string ⟨#[]⟩] 58)) _
  generalize ((w.alloc (.cells #[.int .i64 m, .int .i64 ip, .slice a n cap] 26)).alloc (.cells #[.int .i64 fd, .int .i64 fs, .int .i64 ft, .string fb] 38)).alloc (.cells #[.int .i64 0, .int .i64 0, .int .i64 0, .int .i64 0, .int .i64 0, .int .i64 0, .int .i64 0, .int .i64 0, .string ⟨#[]⟩, .string ⟨#[]⟩] 58) = v0 at B0 Kl0 Kf0 Kr0 ⊢
  generalize hh_r : w.heap.size + 1 + 1 = g_r at Kr0 n_l_r n_f_r ⊢
  generalize hh_f : w.heap.size + 1 = g_f at Kf0 n_l_f n_f_r ⊢
  generalize hh_l : w.heap.size = g_l at Kl0 n_l_f n_l_r ⊢
  have l_l : w.heap.size ≤ g_l := by omega
  have l_f : w.heap.size ≤ g_f := by omega
  have l_r : w.heap.size ≤ g_r := by omega
  clear hh_l hh_f hh_r
  refine (C1.out _).mono ?_
  rintro e v1 ⟨rfl, hb⟩
  have B1 := Lib.hid (B0.out.trans (hb.mono B0.out.size))
  have Kl1 := Lib.hid (Kl0.out.below hb)
  have Kf1 := Lib.hid (Kf0.out.below hb)
  have Kr1 := Lib.hid (Kr0.out.below hb)
  clear hb B0 Kl0 Kf0 Kr0
  have Kqn := Lib.hid (Blk.new v1 [.int .i64 k, .int .i64 sh, .int .i64 si, .int .i64 th, .int .i64 di] 96)
  have l_q : w.heap.size ≤ v1.heap.size := B1.out.size
  have n_l_q : g_l ≠ v1.heap.size := by have h1 := Kl1.out.lt; omega
  have n_f_q : g_f ≠ v1.heap.size := by have h1 := Kf1.out.lt; omega
  have n_r_q : g_r ≠ v1.heap.size := by have h1 := Kr1.out.lt; omega
  have Bn := Lib.hid (B1.out.alloc B1.out.size (.cells #[.int .i64 k, .int .i64 sh, .int .i64 si, .int .i64 th, .int .i64 di] 96))
  have Kln := Lib.hid (Kl1.out.alloc (.cells #[.int .i64 k, .int .i64 sh, .int .i64 si, .int .i64 th, .int .i64 di] 96))
  have Kfn := Lib.hid (Kf1.out.alloc (.cells #[.int .i64 k, .int .i64 sh, .int .i64 si, .int .i64 th, .int .i64 di] 96))
  have Krn := Lib.hid (Kr1.out.alloc (.cells #[.int .i64 k, .int .i64 sh, .int .i64 si, .int .i64 th, .int .i64 di] 96))
  clear B1 Kl1 Kf1 Kr1
  obtain ⟨⟨cl0, cl1, cl2⟩, dl0, dl1, dl2⟩ := Kln.out.o3
  obtain ⟨⟨cf0, cf1, cf2, cf3⟩, df0, df1, df2, df3⟩ := Kfn.out.four
  obtain ⟨⟨cr0, cr1, cr2, cr3, cr4, cr5, cr6, cr7, cr8, cr9⟩, dr0, dr1, dr2, dr3, dr4, dr5, dr6, dr7, dr8, dr9⟩ := Krn.out.of10
  go_upto_region 3 with fail
  clear cl0 cl1 cl2 dl0 dl1 dl2 cf0 cf1 cf2 cf3 df0 df1 df2 df3 cr0 cr1 cr2 cr3 cr4 cr5 cr6 cr7 cr8 cr9 dr0 dr1 dr2 dr3 dr4 dr5 dr6 dr7 dr8 dr9
  generalize v1.alloc (.cells #[.int .i64 k, .int .i64 sh, .int .i64 si, .int .i64 th, .int .i64 di] 96) = v2 at Kqn Bn Kln Kfn Krn ⊢
  generalize v1.heap.size = g_q at Kqn l_q n_l_q n_f_q n_r_q ⊢
  clear v1
  have Kl2 := Kln
  clear Kln
  have Kf2 := Kfn
  clear Kfn
  have Kr2 := Krn
  clear Krn
  have Kq2 := Kqn
  clear Kqn
  have B2 := Bn
  clear Bn
  obtain ⟨⟨cl0, cl1, cl2⟩, dl0, dl1, dl2⟩ := Kl2.out.o3
  obtain ⟨⟨cf0, cf1, cf2, cf3⟩, df0, df1, df2, df3⟩ := Kf2.out.four
  obtain ⟨⟨cr0, cr1, cr2, cr3, cr4, cr5, cr6, cr7, cr8, cr9⟩, dr0, dr1, dr2, dr3, dr4, dr5, dr6, dr7, dr8, dr9⟩ := Kr2.out.of10
  obtain ⟨⟨cq0, cq1, cq2, cq3, cq4⟩, dq0, dq1, dq2, dq3, dq4⟩ := Kq2.out.of5
  have hq1 : ¬ g_r = 0 := by have := HX.out.lt; omega
  have hq2 : ¬ 0 = g_r := fun e => hq1 e.symm
  have hq3 := HX.out.below B2.out HX.out.lt
  unfold Sent at hq3
  go_wp2_with fail
  go_region_with fail
  all_goals go_wp2_with fail
  all_goals refine post_put 5 rfl ?_
  all_goals exact bodyPost_ret (v := .tuple #[.agg #[.int .i64 0, .int .i64 0, .int .i64 0, .int .i64 0, .int .i64 0, .int .i64 0, .int .i64 0, .int .i64 0, .string ⟨#[]⟩, .string ⟨#[]⟩], .iface 168 (.pointer (some x))]) (by simp [results, Tryz.results71, go_sem, cr0, cr1, cr2, cr3, cr4, cr5, cr6, cr7, cr8, cr9]) rfl ⟨rfl, ((((((((((B2.out.setCell l_r _).setCell l_r _).setCell l_r _).setCell l_r _).setCell l_r _).setCell l_r _).setCell l_r _).setCell l_r _).setCell l_r _).setCell l_r _).drew⟩
 | true =>
  rw [if_pos rfl]
  by_cases hd : di = ip
  case neg =>
   rw [if_neg hd]
   have hd' : (di != ip) = true := by simpa using hd
   clear hd
   go_enter Tryz.func71, Tryz.ntmps71
   have B0 := Lib.hid (show Below w.heap.size w (((w.alloc (.cells #[.int .i64 m, .int .i64 ip, .slice a n cap] 26)).alloc (.cells #[.int .i64 fd, .int .i64 fs, .int .i64 ft, .string fb] 38)).alloc (.cells #[.int .i64 0, .int .i64 0, .int .i64 0, .int .i64 0, .int .i64 0, .int .i64 0, .int .i64 0, .int .i64 0, .string ⟨#[]⟩, .string ⟨#[]⟩] 58)) from ((((Below.refl _ w).alloc (by simp) _).alloc (by simp) _).alloc (by simp; omega) _))
   have Kl0 := Lib.hid (show Blk (((w.alloc (.cells #[.int .i64 m, .int .i64 ip, .slice a n cap] 26)).alloc (.cells #[.int .i64 fd, .int .i64 fs, .int .i64 ft, .string fb] 38)).alloc (.cells #[.int .i64 0, .int .i64 0, .int .i64 0, .int .i64 0, .int .i64 0, .int .i64 0, .int .i64 0, .int .i64 0, .string ⟨#[]⟩, .string ⟨#[]⟩] 58)) (w.heap.size) [.int .i64 m, .int .i64 ip, .slice a n cap] from ((Blk.new w [.int .i64 m, .int .i64 ip, .slice a n cap] 26).alloc (.cells #[.int .i64 fd, .int .i64 fs, .int .i64 ft, .string fb] 38)).alloc (.cells #[.int .i64 0, .int .i64 0, .int .i64 0, .int .i64 0, .int .i64 0, .int .i64 0, .int .i64 0, .int .i64 0, .string ⟨#[]⟩, .string ⟨#[]⟩] 58))
   have s1 : (w.alloc (.cells #[.int .i64 m, .int .i64 ip, .slice a n cap] 26)).heap.size = w.heap.size + 1 := by simp
   have Kf0 := Lib.hid (show Blk (((w.alloc (.cells #[.int .i64 m, .int .i64 ip, .slice a n cap] 26)).alloc (.cells #[.int .i64 fd, .int .i64 fs, .int .i64 ft, .string fb] 38)).alloc (.cells #[.int .i64 0, .int .i64 0, .int .i64 0, .int .i64 0, .int .i64 0, .int .i64 0, .int .i64 0, .int .i64 0, .string ⟨#[]⟩, .string ⟨#[]⟩] 58)) (w.heap.size + 1) [.int .i64 fd, .int .i64 fs, .int .i64 ft, .string fb] by have h0 := (Blk.new (w.alloc (.cells #[.int .i64 m, .int .i64 ip, .slice a n cap] 26)) [.int .i64 fd, .int .i64 fs, .int .i64 ft, .string fb] 38).alloc (.cells #[.int .i64 0, .int .i64 0, .int .i64 0, .int .i64 0, .int .i64 0, .int .i64 0, .int .i64 0, .int .i64 0, .string ⟨#[]⟩, .string ⟨#[]⟩] 58); rwa [s1] at h0)
   have n_l_f : w.heap.size ≠ w.heap.size + 1 := by omega
   have s2 : ((w.alloc (.cells #[.int .i64 m, .int .i64 ip, .slice a n cap] 26)).alloc (.cells #[.int .i64 fd, .int .i64 fs, .int .i64 ft, .string fb] 38)).heap.size = w.heap.size + 1 + 1 := by simp
   have Kr0 := Lib.hid (show Blk (((w.alloc (.cells #[.int .i64 m, .int .i64 ip, .slice a n cap] 26)).alloc (.cells #[.int .i64 fd, .int .i64 fs, .int .i64 ft, .string fb] 38)).alloc (.cells #[.int .i64 0, .int .i64 0, .int .i64 0, .int .i64 0, .int .i64 0, .int .i64 0, .int .i64 0, .int .i64 0, .string ⟨#[]⟩, .string ⟨#[]⟩] 58)) (w.heap.size + 1 + 1) [.int .i64 0, .int .i64 0, .int .i64 0, .int .i64 0, .int .i64 0, .int .i64 0, .int .i64 0, .int .i64 0, .string ⟨#[]⟩, .string ⟨#[]⟩] by have h0 := Blk.new ((w.alloc (.cells #[.int .i64 m, .int .i64 ip, .slice a n cap] 26)).alloc (.cells #[.int .i64 fd, .int .i64 fs, .int .i64 ft, .string fb] 38)) [.int .i64 0, .int .i64 0, .int .i64 0, .int .i64 0, .int .i64 0, .int .i64 0, .int .i64 0, .int .i64 0, .string ⟨#[]⟩, .string ⟨#[]⟩] 58; rwa [s2] at h0)
   have n_l_r : w.heap.size ≠ w.heap.size + 1 + 1 := by omega
   have n_f_r : w.heap.size + 1 ≠ w.heap.size + 1 + 1 := by omega
   clear s1 s2
   go_wp2_with fail
   change Calls _ _ _ (((w.alloc (.cells #[.int .i64 m, .int .i64 ip, .slice a n cap] 26)).alloc (.cells #[.int .i64 fd, .int .i64 fs, .int .i64 ft, .string fb] 38)).alloc (.cells #[.int .i64 0, .int .i64 0, .int .i64 0, .int .i64 0, .int .i64 0, .int .i64 0, .int .i64 0, .int .i64 0, .string ⟨#[]⟩, .string ⟨#[]⟩] 58)) _
   generalize ((w.alloc (.cells #[.int .i64 m, .int .i64 ip, .slice a n cap] 26)).alloc (.cells #[.int .i64 fd, .int .i64 fs, .int .i64 ft, .string fb] 38)).alloc (.cells #[.int .i64 0, .int .i64 0, .int .i64 0, .int .i64 0, .int .i64 0, .int .i64 0, .int .i64 0, .int .i64 0, .string ⟨#[]⟩, .string ⟨#[]⟩] 58) = v0 at B0 Kl0 Kf0 Kr0 ⊢
   generalize hh_r : w.heap.size + 1 + 1 = g_r at Kr0 n_l_r n_f_r ⊢
   generalize hh_f : w.heap.size + 1 = g_f at Kf0 n_l_f n_f_r ⊢
   generalize hh_l : w.heap.size = g_l at Kl0 n_l_f n_l_r ⊢
   have l_l : w.heap.size ≤ g_l := by omega
   have l_f : w.heap.size ≤ g_f := by omega
   have l_r : w.heap.size ≤ g_r := by omega
   clear hh_l hh_f hh_r
   refine (C1.out _).mono ?_
   rintro e v1 ⟨rfl, hb⟩
   have B1 := Lib.hid (B0.out.trans (hb.mono B0.out.size))
   have Kl1 := Lib.hid (Kl0.out.below hb)
   have Kf1 := Lib.hid (Kf0.out.below hb)
   have Kr1 := Lib.hid (Kr0.out.below hb)
   clear hb B0 Kl0 Kf0 Kr0
   have Kqn := Lib.hid (Blk.new v1 [.int .i64 k, .int .i64 sh, .int .i64 si, .int .i64 th, .int .i64 di] 96)
   have l_q : w.heap.size ≤ v1.heap.size := B1.out.size
   have n_l_q : g_l ≠ v1.heap.size := by have h1 := Kl1.out.lt; omega
   have n_f_q : g_f ≠ v1.heap.size := by have h1 := Kf1.out.lt; omega
   have n_r_q : g_r ≠ v1.heap.size := by have h1 := Kr1.out.lt; omega
   have Bn := Lib.hid (B1.out.alloc B1.out.size (.cells #[.int .i64 k, .int .i64 sh, .int .i64 si, .int .i64 th, .int .i64 di] 96))
   have Kln := Lib.hid (Kl1.out.alloc (.cells #[.int .i64 k, .int .i64 sh, .int .i64 si, .int .i64 th, .int .i64 di] 96))
   have Kfn := Lib.hid (Kf1.out.alloc (.cells #[.int .i64 k, .int .i64 sh, .int .i64 si, .int .i64 th, .int .i64 di] 96))
   have Krn := Lib.hid (Kr1.out.alloc (.cells #[.int .i64 k, .int .i64 sh, .int .i64 si, .int .i64 th, .int .i64 di] 96))
   clear B1 Kl1 Kf1 Kr1
   obtain ⟨⟨cl0, cl1, cl2⟩, dl0, dl1, dl2⟩ := Kln.out.o3
   obtain ⟨⟨cf0, cf1, cf2, cf3⟩, df0, df1, df2, df3⟩ := Kfn.out.four
   obtain ⟨⟨cr0, cr1, cr2, cr3, cr4, cr5, cr6, cr7, cr8, cr9⟩, dr0, dr1, dr2, dr3, dr4, dr5, dr6, dr7, dr8, dr9⟩ := Krn.out.of10
   go_upto_region 3 with fail
   clear cl0 cl1 cl2 dl0 dl1 dl2 cf0 cf1 cf2 cf3 df0 df1 df2 df3 cr0 cr1 cr2 cr3 cr4 cr5 cr6 cr7 cr8 cr9 dr0 dr1 dr2 dr3 dr4 dr5 dr6 dr7 dr8 dr9
   generalize v1.alloc (.cells #[.int .i64 k, .int .i64 sh, .int .i64 si, .int .i64 th, .int .i64 di] 96) = v2 at Kqn Bn Kln Kfn Krn ⊢
   generalize v1.heap.size = g_q at Kqn l_q n_l_q n_f_q n_r_q ⊢
   clear v1
   have Kl2 := Kln
   clear Kln
   have Kf2 := Kfn
   clear Kfn
   have Kr2 := Krn
   clear Krn
   have Kq2 := Kqn
   clear Kqn
   have B2 := Bn
   clear Bn
   obtain ⟨⟨cl0, cl1, cl2⟩, dl0, dl1, dl2⟩ := Kl2.out.o3
   obtain ⟨⟨cf0, cf1, cf2, cf3⟩, df0, df1, df2, df3⟩ := Kf2.out.four
   obtain ⟨⟨cr0, cr1, cr2, cr3, cr4, cr5, cr6, cr7, cr8, cr9⟩, dr0, dr1, dr2, dr3, dr4, dr5, dr6, dr7, dr8, dr9⟩ := Kr2.out.of10
   obtain ⟨⟨cq0, cq1, cq2, cq3, cq4⟩, dq0, dq1, dq2, dq3, dq4⟩ := Kq2.out.of5
   have hq1 : ¬ g_r = 0 := by have := HX.out.lt; omega
   have hq2 : ¬ 0 = g_r := fun e => hq1 e.symm
   have hq3 := HX.out.below B2.out HX.out.lt
   unfold Sent at hq3
   go_wp2_with fail
   go_region_with fail
   all_goals go_wp2_with fail
   all_goals refine post_put 5 rfl ?_
   all_goals exact bodyPost_ret (v := .tuple #[.agg #[.int .i64 0, .int .i64 0, .int .i64 0, .int .i64 0, .int .i64 0, .int .i64 0, .int .i64 0, .int .i64 0, .string ⟨#[]⟩, .string ⟨#[]⟩], .iface 168 (.pointer (some x))]) (by simp [results, Tryz.results71, go_sem, cr0, cr1, cr2, cr3, cr4, cr5, cr6, cr7, cr8, cr9]) rfl ⟨rfl, ((((((((((B2.out.setCell l_r _).setCell l_r _).setCell l_r _).setCell l_r _).setCell l_r _).setCell l_r _).setCell l_r _).setCell l_r _).setCell l_r _).setCell l_r _).drew⟩
  rw [if_pos hd]
  have hd' : (di != ip) = false := by simpa using hd
  clear hd
  have C2 := Lib.hid (fun w => arpReplyI k sh si th di m ip w)
  cases hr : rpOk k sh si di m ip with
  | false =>
   rw [if_neg (by decide)]
   rw [rpV_no k sh si di m ip hr] at C2
   clear hr
   go_enter Tryz.func71, Tryz.ntmps71
   have B0 := Lib.hid (show Below w.heap.size w (((w.alloc (.cells #[.int .i64 m, .int .i64 ip, .slice a n cap] 26)).alloc (.cells #[.int .i64 fd, .int .i64 fs, .int .i64 ft, .string fb] 38)).alloc (.cells #[.int .i64 0, .int .i64 0, .int .i64 0, .int .i64 0, .int .i64 0, .int .i64 0, .int .i64 0, .int .i64 0, .string ⟨#[]⟩, .string ⟨#[]⟩] 58)) from ((((Below.refl _ w).alloc (by simp) _).alloc (by simp) _).alloc (by simp; omega) _))
   have Kl0 := Lib.hid (show Blk (((w.alloc (.cells #[.int .i64 m, .int .i64 ip, .slice a n cap] 26)).alloc (.cells #[.int .i64 fd, .int .i64 fs, .int .i64 ft, .string fb] 38)).alloc (.cells #[.int .i64 0, .int .i64 0, .int .i64 0, .int .i64 0, .int .i64 0, .int .i64 0, .int .i64 0, .int .i64 0, .string ⟨#[]⟩, .string ⟨#[]⟩] 58)) (w.heap.size) [.int .i64 m, .int .i64 ip, .slice a n cap] from ((Blk.new w [.int .i64 m, .int .i64 ip, .slice a n cap] 26).alloc (.cells #[.int .i64 fd, .int .i64 fs, .int .i64 ft, .string fb] 38)).alloc (.cells #[.int .i64 0, .int .i64 0, .int .i64 0, .int .i64 0, .int .i64 0, .int .i64 0, .int .i64 0, .int .i64 0, .string ⟨#[]⟩, .string ⟨#[]⟩] 58))
   have s1 : (w.alloc (.cells #[.int .i64 m, .int .i64 ip, .slice a n cap] 26)).heap.size = w.heap.size + 1 := by simp
   have Kf0 := Lib.hid (show Blk (((w.alloc (.cells #[.int .i64 m, .int .i64 ip, .slice a n cap] 26)).alloc (.cells #[.int .i64 fd, .int .i64 fs, .int .i64 ft, .string fb] 38)).alloc (.cells #[.int .i64 0, .int .i64 0, .int .i64 0, .int .i64 0, .int .i64 0, .int .i64 0, .int .i64 0, .int .i64 0, .string ⟨#[]⟩, .string ⟨#[]⟩] 58)) (w.heap.size + 1) [.int .i64 fd, .int .i64 fs, .int .i64 ft, .string fb] by have h0 := (Blk.new (w.alloc (.cells #[.int .i64 m, .int .i64 ip, .slice a n cap] 26)) [.int .i64 fd, .int .i64 fs, .int .i64 ft, .string fb] 38).alloc (.cells #[.int .i64 0, .int .i64 0, .int .i64 0, .int .i64 0, .int .i64 0, .int .i64 0, .int .i64 0, .int .i64 0, .string ⟨#[]⟩, .string ⟨#[]⟩] 58); rwa [s1] at h0)
   have n_l_f : w.heap.size ≠ w.heap.size + 1 := by omega
   have s2 : ((w.alloc (.cells #[.int .i64 m, .int .i64 ip, .slice a n cap] 26)).alloc (.cells #[.int .i64 fd, .int .i64 fs, .int .i64 ft, .string fb] 38)).heap.size = w.heap.size + 1 + 1 := by simp
   have Kr0 := Lib.hid (show Blk (((w.alloc (.cells #[.int .i64 m, .int .i64 ip, .slice a n cap] 26)).alloc (.cells #[.int .i64 fd, .int .i64 fs, .int .i64 ft, .string fb] 38)).alloc (.cells #[.int .i64 0, .int .i64 0, .int .i64 0, .int .i64 0, .int .i64 0, .int .i64 0, .int .i64 0, .int .i64 0, .string ⟨#[]⟩, .string ⟨#[]⟩] 58)) (w.heap.size + 1 + 1) [.int .i64 0, .int .i64 0, .int .i64 0, .int .i64 0, .int .i64 0, .int .i64 0, .int .i64 0, .int .i64 0, .string ⟨#[]⟩, .string ⟨#[]⟩] by have h0 := Blk.new ((w.alloc (.cells #[.int .i64 m, .int .i64 ip, .slice a n cap] 26)).alloc (.cells #[.int .i64 fd, .int .i64 fs, .int .i64 ft, .string fb] 38)) [.int .i64 0, .int .i64 0, .int .i64 0, .int .i64 0, .int .i64 0, .int .i64 0, .int .i64 0, .int .i64 0, .string ⟨#[]⟩, .string ⟨#[]⟩] 58; rwa [s2] at h0)
   have n_l_r : w.heap.size ≠ w.heap.size + 1 + 1 := by omega
   have n_f_r : w.heap.size + 1 ≠ w.heap.size + 1 + 1 := by omega
   clear s1 s2
   go_wp2_with fail
   change Calls _ _ _ (((w.alloc (.cells #[.int .i64 m, .int .i64 ip, .slice a n cap] 26)).alloc (.cells #[.int .i64 fd, .int .i64 fs, .int .i64 ft, .string fb] 38)).alloc (.cells #[.int .i64 0, .int .i64 0, .int .i64 0, .int .i64 0, .int .i64 0, .int .i64 0, .int .i64 0, .int .i64 0, .string ⟨#[]⟩, .string ⟨#[]⟩] 58)) _
   generalize ((w.alloc (.cells #[.int .i64 m, .int .i64 ip, .slice a n cap] 26)).alloc (.cells #[.int .i64 fd, .int .i64 fs, .int .i64 ft, .string fb] 38)).alloc (.cells #[.int .i64 0, .int .i64 0, .int .i64 0, .int .i64 0, .int .i64 0, .int .i64 0, .int .i64 0, .int .i64 0, .string ⟨#[]⟩, .string ⟨#[]⟩] 58) = v0 at B0 Kl0 Kf0 Kr0 ⊢
   generalize hh_r : w.heap.size + 1 + 1 = g_r at Kr0 n_l_r n_f_r ⊢
   generalize hh_f : w.heap.size + 1 = g_f at Kf0 n_l_f n_f_r ⊢
   generalize hh_l : w.heap.size = g_l at Kl0 n_l_f n_l_r ⊢
   have l_l : w.heap.size ≤ g_l := by omega
   have l_f : w.heap.size ≤ g_f := by omega
   have l_r : w.heap.size ≤ g_r := by omega
   clear hh_l hh_f hh_r
   refine (C1.out _).mono ?_
   rintro e v1 ⟨rfl, hb⟩
   have B1 := Lib.hid (B0.out.trans (hb.mono B0.out.size))
   have Kl1 := Lib.hid (Kl0.out.below hb)
   have Kf1 := Lib.hid (Kf0.out.below hb)
   have Kr1 := Lib.hid (Kr0.out.below hb)
   clear hb B0 Kl0 Kf0 Kr0
   have Kqn := Lib.hid (Blk.new v1 [.int .i64 k, .int .i64 sh, .int .i64 si, .int .i64 th, .int .i64 di] 96)
   have l_q : w.heap.size ≤ v1.heap.size := B1.out.size
   have n_l_q : g_l ≠ v1.heap.size := by have h1 := Kl1.out.lt; omega
   have n_f_q : g_f ≠ v1.heap.size := by have h1 := Kf1.out.lt; omega
   have n_r_q : g_r ≠ v1.heap.size := by have h1 := Kr1.out.lt; omega
   have Bn := Lib.hid (B1.out.alloc B1.out.size (.cells #[.int .i64 k, .int .i64 sh, .int .i64 si, .int .i64 th, .int .i64 di] 96))
   have Kln := Lib.hid (Kl1.out.alloc (.cells #[.int .i64 k, .int .i64 sh, .int .i64 si, .int .i64 th, .int .i64 di] 96))
   have Kfn := Lib.hid (Kf1.out.alloc (.cells #[.int .i64 k, .int .i64 sh, .int .i64 si, .int .i64 th, .int .i64 di] 96))
   have Krn := Lib.hid (Kr1.out.alloc (.cells #[.int .i64 k, .int .i64 sh, .int .i64 si, .int .i64 th, .int .i64 di] 96))
   clear B1 Kl1 Kf1 Kr1
   obtain ⟨⟨cl0, cl1, cl2⟩, dl0, dl1, dl2⟩ := Kln.out.o3
   obtain ⟨⟨cf0, cf1, cf2, cf3⟩, df0, df1, df2, df3⟩ := Kfn.out.four
   obtain ⟨⟨cr0, cr1, cr2, cr3, cr4, cr5, cr6, cr7, cr8, cr9⟩, dr0, dr1, dr2, dr3, dr4, dr5, dr6, dr7, dr8, dr9⟩ := Krn.out.of10
   go_upto_region 4 with fail
   clear cl0 cl1 cl2 dl0 dl1 dl2 cf0 cf1 cf2 cf3 df0 df1 df2 df3 cr0 cr1 cr2 cr3 cr4 cr5 cr6 cr7 cr8 cr9 dr0 dr1 dr2 dr3 dr4 dr5 dr6 dr7 dr8 dr9
   generalize v1.alloc (.cells #[.int .i64 k, .int .i64 sh, .int .i64 si, .int .i64 th, .int .i64 di] 96) = v2 at Kqn Bn Kln Kfn Krn ⊢
   generalize v1.heap.size = g_q at Kqn l_q n_l_q n_f_q n_r_q ⊢
   clear v1
   have Kl2 := Kln
   clear Kln
   have Kf2 := Kfn
   clear Kfn
   have Kr2 := Krn
   clear Krn
   have Kq2 := Kqn
   clear Kqn
   have B2 := Bn
   clear Bn
   obtain ⟨eq0, eq1, eq2, eq3, eq4⟩ := Kq2.out.of5.1
   have hq_ := Kq2.out.lt
   have pq_ : ¬ v2.heap.size = g_q := by omega
   have qq_ : ¬ g_q = v2.heap.size := by omega
   have Knn := Lib.hid (Blk.new v2 [.int .i64 si, .int .i64 sh, .int .i64 0, .int .i64 0, .int .i64 0, .int .i64 0, .int .i64 0, .int .i64 0, .string ⟨#[]⟩, .string ⟨#[]⟩] 58)
   have l_n : w.heap.size ≤ v2.heap.size := B2.out.size
   have n_l_n : g_l ≠ v2.heap.size := by have h1 := Kl2.out.lt; omega
   have n_f_n : g_f ≠ v2.heap.size := by have h1 := Kf2.out.lt; omega
   have n_r_n : g_r ≠ v2.heap.size := by have h1 := Kr2.out.lt; omega
   have n_q_n : g_q ≠ v2.heap.size := by have h1 := Kq2.out.lt; omega
   have Bn := Lib.hid (B2.out.alloc B2.out.size (.cells #[.int .i64 si, .int .i64 sh, .int .i64 0, .int .i64 0, .int .i64 0, .int .i64 0, .int .i64 0, .int .i64 0, .string ⟨#[]⟩, .string ⟨#[]⟩] 58))
   have Kln := Lib.hid (Kl2.out.alloc (.cells #[.int .i64 si, .int .i64 sh, .int .i64 0, .int .i64 0, .int .i64 0, .int .i64 0, .int .i64 0, .int .i64 0, .string ⟨#[]⟩, .string ⟨#[]⟩] 58))
   have Kfn := Lib.hid (Kf2.out.alloc (.cells #[.int .i64 si, .int .i64 sh, .int .i64 0, .int .i64 0, .int .i64 0, .int .i64 0, .int .i64 0, .int .i64 0, .string ⟨#[]⟩, .string ⟨#[]⟩] 58))
   have Krn := Lib.hid (Kr2.out.alloc (.cells #[.int .i64 si, .int .i64 sh, .int .i64 0, .int .i64 0, .int .i64 0, .int .i64 0, .int .i64 0, .int .i64 0, .string ⟨#[]⟩, .string ⟨#[]⟩] 58))
   have Kqn := Lib.hid (Kq2.out.alloc (.cells #[.int .i64 si, .int .i64 sh, .int .i64 0, .int .i64 0, .int .i64 0, .int .i64 0, .int .i64 0, .int .i64 0, .string ⟨#[]⟩, .string ⟨#[]⟩] 58))
   clear B2 Kl2 Kf2 Kr2 Kq2
   obtain ⟨⟨cl0, cl1, cl2⟩, dl0, dl1, dl2⟩ := Kln.out.o3
   obtain ⟨⟨cf0, cf1, cf2, cf3⟩, df0, df1, df2, df3⟩ := Kfn.out.four
   obtain ⟨⟨cr0, cr1, cr2, cr3, cr4, cr5, cr6, cr7, cr8, cr9⟩, dr0, dr1, dr2, dr3, dr4, dr5, dr6, dr7, dr8, dr9⟩ := Krn.out.of10
   obtain ⟨⟨cq0, cq1, cq2, cq3, cq4⟩, dq0, dq1, dq2, dq3, dq4⟩ := Kqn.out.of5
   go_wp2_with fail
   clear cl0 cl1 cl2 dl0 dl1 dl2 cf0 cf1 cf2 cf3 df0 df1 df2 df3 cr0 cr1 cr2 cr3 cr4 cr5 cr6 cr7 cr8 cr9 dr0 dr1 dr2 dr3 dr4 dr5 dr6 dr7 dr8 dr9 cq0 cq1 cq2 cq3 cq4 dq0 dq1 dq2 dq3 dq4
   clear eq0 eq1 eq2 eq3 eq4 hq_ pq_ qq_
   change Calls _ _ _ (v2.alloc (.cells #[.int .i64 si, .int .i64 sh, .int .i64 0, .int .i64 0, .int .i64 0, .int .i64 0, .int .i64 0, .int .i64 0, .string ⟨#[]⟩, .string ⟨#[]⟩] 58)) _
   generalize v2.alloc (.cells #[.int .i64 si, .int .i64 sh, .int .i64 0, .int .i64 0, .int .i64 0, .int .i64 0, .int .i64 0, .int .i64 0, .string ⟨#[]⟩, .string ⟨#[]⟩] 58) = v3 at Knn Bn Kln Kfn Krn Kqn ⊢
   generalize v2.heap.size = g_n at Knn l_n n_l_n n_f_n n_r_n n_q_n ⊢
   clear v2
   have Kl3 := Kln
   clear Kln
   have Kf3 := Kfn
   clear Kfn
   have Kr3 := Krn
   clear Krn
   have Kq3 := Kqn
   clear Kqn
   have Kn3 := Knn
   clear Knn
   have B3 := Bn
   clear Bn
   refine (C2.out _).mono ?_
   rintro e v4 ⟨rfl, hb⟩
   have B4 := Lib.hid (B3.out.trans (hb.mono B3.out.size))
   have Kl4 := Lib.hid (Kl3.out.below hb)
   have Kf4 := Lib.hid (Kf3.out.below hb)
   have Kr4 := Lib.hid (Kr3.out.below hb)
   have Kq4 := Lib.hid (Kq3.out.below hb)
   have Kn4 := Lib.hid (Kn3.out.below hb)
   clear hb B3 Kl3 Kf3 Kr3 Kq3 Kn3
   have KRn := Lib.hid (Blk.new v4 [.int .i64 0, .int .i64 0, .int .i64 0, .int .i64 0, .int .i64 0] 96)
   have l_R : w.heap.size ≤ v4.heap.size := B4.out.size
   have n_l_R : g_l ≠ v4.heap.size := by have h1 := Kl4.out.lt; omega
   have n_f_R : g_f ≠ v4.heap.size := by have h1 := Kf4.out.lt; omega
   have n_r_R : g_r ≠ v4.heap.size := by have h1 := Kr4.out.lt; omega
   have n_q_R : g_q ≠ v4.heap.size := by have h1 := Kq4.out.lt; omega
   have n_n_R : g_n ≠ v4.heap.size := by have h1 := Kn4.out.lt; omega
   have Bn := Lib.hid (B4.out.alloc B4.out.size (.cells #[.int .i64 0, .int .i64 0, .int .i64 0, .int .i64 0, .int .i64 0] 96))
   have Kln := Lib.hid (Kl4.out.alloc (.cells #[.int .i64 0, .int .i64 0, .int .i64 0, .int .i64 0, .int .i64 0] 96))
   have Kfn := Lib.hid (Kf4.out.alloc (.cells #[.int .i64 0, .int .i64 0, .int .i64 0, .int .i64 0, .int .i64 0] 96))
   have Krn := Lib.hid (Kr4.out.alloc (.cells #[.int .i64 0, .int .i64 0, .int .i64 0, .int .i64 0, .int .i64 0] 96))
   have Kqn := Lib.hid (Kq4.out.alloc (.cells #[.int .i64 0, .int .i64 0, .int .i64 0, .int .i64 0, .int .i64 0] 96))
   have Knn := Lib.hid (Kn4.out.alloc (.cells #[.int .i64 0, .int .i64 0, .int .i64 0, .int .i64 0, .int .i64 0] 96))
   clear B4 Kl4 Kf4 Kr4 Kq4 Kn4
   obtain ⟨⟨cl0, cl1, cl2⟩, dl0, dl1, dl2⟩ := Kln.out.o3
   obtain ⟨⟨cf0, cf1, cf2, cf3⟩, df0, df1, df2, df3⟩ := Kfn.out.four
   obtain ⟨⟨cr0, cr1, cr2, cr3, cr4, cr5, cr6, cr7, cr8, cr9⟩, dr0, dr1, dr2, dr3, dr4, dr5, dr6, dr7, dr8, dr9⟩ := Krn.out.of10
   obtain ⟨⟨cq0, cq1, cq2, cq3, cq4⟩, dq0, dq1, dq2, dq3, dq4⟩ := Kqn.out.of5
   obtain ⟨⟨cn0, cn1, cn2, cn3, cn4, cn5, cn6, cn7, cn8, cn9⟩, dn0, dn1, dn2, dn3, dn4, dn5, dn6, dn7, dn8, dn9⟩ := Knn.out.of10
   go_upto_region 9 with fail
   clear cl0 cl1 cl2 dl0 dl1 dl2 cf0 cf1 cf2 cf3 df0 df1 df2 df3 cr0 cr1 cr2 cr3 cr4 cr5 cr6 cr7 cr8 cr9 dr0 dr1 dr2 dr3 dr4 dr5 dr6 dr7 dr8 dr9 cq0 cq1 cq2 cq3 cq4 dq0 dq1 dq2 dq3 dq4 cn0 cn1 cn2 cn3 cn4 cn5 cn6 cn7 cn8 cn9 dn0 dn1 dn2 dn3 dn4 dn5 dn6 dn7 dn8 dn9
   generalize v4.alloc (.cells #[.int .i64 0, .int .i64 0, .int .i64 0, .int .i64 0, .int .i64 0] 96) = v5 at KRn Bn Kln Kfn Krn Kqn Knn ⊢
   generalize v4.heap.size = g_R at KRn l_R n_l_R n_f_R n_r_R n_q_R n_n_R ⊢
   clear v4
   have Kl5 := Kln
   clear Kln
   have Kf5 := Kfn
   clear Kfn
   have Kr5 := Krn
   clear Krn
   have Kq5 := Kqn
   clear Kqn
   have Kn5 := Knn
   clear Knn
   have KR5 := KRn
   clear KRn
   have B5 := Bn
   clear Bn
   obtain ⟨⟨cl0, cl1, cl2⟩, dl0, dl1, dl2⟩ := Kl5.out.o3
   obtain ⟨⟨cf0, cf1, cf2, cf3⟩, df0, df1, df2, df3⟩ := Kf5.out.four
   obtain ⟨⟨cr0, cr1, cr2, cr3, cr4, cr5, cr6, cr7, cr8, cr9⟩, dr0, dr1, dr2, dr3, dr4, dr5, dr6, dr7, dr8, dr9⟩ := Kr5.out.of10
   obtain ⟨⟨cq0, cq1, cq2, cq3, cq4⟩, dq0, dq1, dq2, dq3, dq4⟩ := Kq5.out.of5
   obtain ⟨⟨cn0, cn1, cn2, cn3, cn4, cn5, cn6, cn7, cn8, cn9⟩, dn0, dn1, dn2, dn3, dn4, dn5, dn6, dn7, dn8, dn9⟩ := Kn5.out.of10
   obtain ⟨⟨cR0, cR1, cR2, cR3, cR4⟩, dR0, dR1, dR2, dR3, dR4⟩ := KR5.out.of5
   go_wp2_with fail
   exact bodyPost_ret (v := .tuple #[.agg #[.int .i64 si, .int .i64 sh, .int .i64 0, .int .i64 0, .int .i64 0, .int .i64 0, .int .i64 0, .int .i64 0, .string ⟨#[]⟩, .string ⟨#[]⟩], .nilIface]) (by simp [results, Tryz.results71, go_sem, cr0, cr1, cr2, cr3, cr4, cr5, cr6, cr7, cr8, cr9]) rfl ⟨rfl, ((((((((((B5.out.setCell l_r _).setCell l_r _).setCell l_r _).setCell l_r _).setCell l_r _).setCell l_r _).setCell l_r _).setCell l_r _).setCell l_r _).setCell l_r _)⟩
  | true =>
   rw [if_pos rfl]
   rw [rpV_yes k sh si di m ip hr] at C2
   clear hr
   have C3 := Lib.hid (fun w => arpTextI 2 m ip sh si w)
   have C4 := Lib.hid (fun w => frameTextI sh m 2054 (arpText 2 m ip sh si) w)
   generalize arpText 2 m ip sh si = y at C3 C4 ⊢
   generalize frameText sh m 2054 y = z at C4 ⊢
   go_enter Tryz.func71, Tryz.ntmps71
   have B0 := Lib.hid (show Below w.heap.size w (((w.alloc (.cells #[.int .i64 m, .int .i64 ip, .slice a n cap] 26)).alloc (.cells #[.int .i64 fd, .int .i64 fs, .int .i64 ft, .string fb] 38)).alloc (.cells #[.int .i64 0, .int .i64 0, .int .i64 0, .int .i64 0, .int .i64 0, .int .i64 0, .int .i64 0, .int .i64 0, .string ⟨#[]⟩, .string ⟨#[]⟩] 58)) from ((((Below.refl _ w).alloc (by simp) _).alloc (by simp) _).alloc (by simp; omega) _))
   have Kl0 := Lib.hid (show Blk (((w.alloc (.cells #[.int .i64 m, .int .i64 ip, .slice a n cap] 26)).alloc (.cells #[.int .i64 fd, .int .i64 fs, .int .i64 ft, .string fb] 38)).alloc (.cells #[.int .i64 0, .int .i64 0, .int .i64 0, .int .i64 0, .int .i64 0, .int .i64 0, .int .i64 0, .int .i64 0, .string ⟨#[]⟩, .string ⟨#[]⟩] 58)) (w.heap.size) [.int .i64 m, .int .i64 ip, .slice a n cap] from ((Blk.new w [.int .i64 m, .int .i64 ip, .slice a n cap] 26).alloc (.cells #[.int .i64 fd, .int .i64 fs, .int .i64 ft, .string fb] 38)).alloc (.cells #[.int .i64 0, .int .i64 0, .int .i64 0, .int .i64 0, .int .i64 0, .int .i64 0, .int .i64 0, .int .i64 0, .string ⟨#[]⟩, .string ⟨#[]⟩] 58))
   have s1 : (w.alloc (.cells #[.int .i64 m, .int .i64 ip, .slice a n cap] 26)).heap.size = w.heap.size + 1 := by simp
   have Kf0 := Lib.hid (show Blk (((w.alloc (.cells #[.int .i64 m, .int .i64 ip, .slice a n cap] 26)).alloc (.cells #[.int .i64 fd, .int .i64 fs, .int .i64 ft, .string fb] 38)).alloc (.cells #[.int .i64 0, .int .i64 0, .int .i64 0, .int .i64 0, .int .i64 0, .int .i64 0, .int .i64 0, .int .i64 0, .string ⟨#[]⟩, .string ⟨#[]⟩] 58)) (w.heap.size + 1) [.int .i64 fd, .int .i64 fs, .int .i64 ft, .string fb] by have h0 := (Blk.new (w.alloc (.cells #[.int .i64 m, .int .i64 ip, .slice a n cap] 26)) [.int .i64 fd, .int .i64 fs, .int .i64 ft, .string fb] 38).alloc (.cells #[.int .i64 0, .int .i64 0, .int .i64 0, .int .i64 0, .int .i64 0, .int .i64 0, .int .i64 0, .int .i64 0, .string ⟨#[]⟩, .string ⟨#[]⟩] 58); rwa [s1] at h0)
   have n_l_f : w.heap.size ≠ w.heap.size + 1 := by omega
   have s2 : ((w.alloc (.cells #[.int .i64 m, .int .i64 ip, .slice a n cap] 26)).alloc (.cells #[.int .i64 fd, .int .i64 fs, .int .i64 ft, .string fb] 38)).heap.size = w.heap.size + 1 + 1 := by simp
   have Kr0 := Lib.hid (show Blk (((w.alloc (.cells #[.int .i64 m, .int .i64 ip, .slice a n cap] 26)).alloc (.cells #[.int .i64 fd, .int .i64 fs, .int .i64 ft, .string fb] 38)).alloc (.cells #[.int .i64 0, .int .i64 0, .int .i64 0, .int .i64 0, .int .i64 0, .int .i64 0, .int .i64 0, .int .i64 0, .string ⟨#[]⟩, .string ⟨#[]⟩] 58)) (w.heap.size + 1 + 1) [.int .i64 0, .int .i64 0, .int .i64 0, .int .i64 0, .int .i64 0, .int .i64 0, .int .i64 0, .int .i64 0, .string ⟨#[]⟩, .string ⟨#[]⟩] by have h0 := Blk.new ((w.alloc (.cells #[.int .i64 m, .int .i64 ip, .slice a n cap] 26)).alloc (.cells #[.int .i64 fd, .int .i64 fs, .int .i64 ft, .string fb] 38)) [.int .i64 0, .int .i64 0, .int .i64 0, .int .i64 0, .int .i64 0, .int .i64 0, .int .i64 0, .int .i64 0, .string ⟨#[]⟩, .string ⟨#[]⟩] 58; rwa [s2] at h0)
   have n_l_r : w.heap.size ≠ w.heap.size + 1 + 1 := by omega
   have n_f_r : w.heap.size + 1 ≠ w.heap.size + 1 + 1 := by omega
   clear s1 s2
   go_wp2_with fail
   change Calls _ _ _ (((w.alloc (.cells #[.int .i64 m, .int .i64 ip, .slice a n cap] 26)).alloc (.cells #[.int .i64 fd, .int .i64 fs, .int .i64 ft, .string fb] 38)).alloc (.cells #[.int .i64 0, .int .i64 0, .int .i64 0, .int .i64 0, .int .i64 0, .int .i64 0, .int .i64 0, .int .i64 0, .string ⟨#[]⟩, .string ⟨#[]⟩] 58)) _
   generalize ((w.alloc (.cells #[.int .i64 m, .int .i64 ip, .slice a n cap] 26)).alloc (.cells #[.int .i64 fd, .int .i64 fs, .int .i64 ft, .string fb] 38)).alloc (.cells #[.int .i64 0, .int .i64 0, .int .i64 0, .int .i64 0, .int .i64 0, .int .i64 0, .int .i64 0, .int .i64 0, .string ⟨#[]⟩, .string ⟨#[]⟩] 58) = v0 at B0 Kl0 Kf0 Kr0 ⊢
   generalize hh_r : w.heap.size + 1 + 1 = g_r at Kr0 n_l_r n_f_r ⊢
   generalize hh_f : w.heap.size + 1 = g_f at Kf0 n_l_f n_f_r ⊢
   generalize hh_l : w.heap.size = g_l at Kl0 n_l_f n_l_r ⊢
   have l_l : w.heap.size ≤ g_l := by omega
   have l_f : w.heap.size ≤ g_f := by omega
   have l_r : w.heap.size ≤ g_r := by omega
   clear hh_l hh_f hh_r
   refine (C1.out _).mono ?_
   rintro e v1 ⟨rfl, hb⟩
   have B1 := Lib.hid (B0.out.trans (hb.mono B0.out.size))
   have Kl1 := Lib.hid (Kl0.out.below hb)
   have Kf1 := Lib.hid (Kf0.out.below hb)
   have Kr1 := Lib.hid (Kr0.out.below hb)
   clear hb B0 Kl0 Kf0 Kr0
   have Kqn := Lib.hid (Blk.new v1 [.int .i64 k, .int .i64 sh, .int .i64 si, .int .i64 th, .int .i64 di] 96)
   have l_q : w.heap.size ≤ v1.heap.size := B1.out.size
   have n_l_q : g_l ≠ v1.heap.size := by have h1 := Kl1.out.lt; omega
   have n_f_q : g_f ≠ v1.heap.size := by have h1 := Kf1.out.lt; omega
   have n_r_q : g_r ≠ v1.heap.size := by have h1 := Kr1.out.lt; omega
   have Bn := Lib.hid (B1.out.alloc B1.out.size (.cells #[.int .i64 k, .int .i64 sh, .int .i64 si, .int .i64 th, .int .i64 di] 96))
   have Kln := Lib.hid (Kl1.out.alloc (.cells #[.int .i64 k, .int .i64 sh, .int .i64 si, .int .i64 th, .int .i64 di] 96))
   have Kfn := Lib.hid (Kf1.out.alloc (.cells #[.int .i64 k, .int .i64 sh, .int .i64 si, .int .i64 th, .int .i64 di] 96))
   have Krn := Lib.hid (Kr1.out.alloc (.cells #[.int .i64 k, .int .i64 sh, .int .i64 si, .int .i64 th, .int .i64 di] 96))
   clear B1 Kl1 Kf1 Kr1
   obtain ⟨⟨cl0, cl1, cl2⟩, dl0, dl1, dl2⟩ := Kln.out.o3
   obtain ⟨⟨cf0, cf1, cf2, cf3⟩, df0, df1, df2, df3⟩ := Kfn.out.four
   obtain ⟨⟨cr0, cr1, cr2, cr3, cr4, cr5, cr6, cr7, cr8, cr9⟩, dr0, dr1, dr2, dr3, dr4, dr5, dr6, dr7, dr8, dr9⟩ := Krn.out.of10
   go_upto_region 4 with fail
   clear cl0 cl1 cl2 dl0 dl1 dl2 cf0 cf1 cf2 cf3 df0 df1 df2 df3 cr0 cr1 cr2 cr3 cr4 cr5 cr6 cr7 cr8 cr9 dr0 dr1 dr2 dr3 dr4 dr5 dr6 dr7 dr8 dr9
   generalize v1.alloc (.cells #[.int .i64 k, .int .i64 sh, .int .i64 si, .int .i64 th, .int .i64 di] 96) = v2 at Kqn Bn Kln Kfn Krn ⊢
   generalize v1.heap.size = g_q at Kqn l_q n_l_q n_f_q n_r_q ⊢
   clear v1
   have Kl2 := Kln
   clear Kln
   have Kf2 := Kfn
   clear Kfn
   have Kr2 := Krn
   clear Krn
   have Kq2 := Kqn
   clear Kqn
   have B2 := Bn
   clear Bn
   obtain ⟨eq0, eq1, eq2, eq3, eq4⟩ := Kq2.out.of5.1
   have hq_ := Kq2.out.lt
   have pq_ : ¬ v2.heap.size = g_q := by omega
   have qq_ : ¬ g_q = v2.heap.size := by omega
   have Knn := Lib.hid (Blk.new v2 [.int .i64 si, .int .i64 sh, .int .i64 0, .int .i64 0, .int .i64 0, .int .i64 0, .int .i64 0, .int .i64 0, .string ⟨#[]⟩, .string ⟨#[]⟩] 58)
   have l_n : w.heap.size ≤ v2.heap.size := B2.out.size
   have n_l_n : g_l ≠ v2.heap.size := by have h1 := Kl2.out.lt; omega
   have n_f_n : g_f ≠ v2.heap.size := by have h1 := Kf2.out.lt; omega
   have n_r_n : g_r ≠ v2.heap.size := by have h1 := Kr2.out.lt; omega
   have n_q_n : g_q ≠ v2.heap.size := by have h1 := Kq2.out.lt; omega
   have Bn := Lib.hid (B2.out.alloc B2.out.size (.cells #[.int .i64 si, .int .i64 sh, .int .i64 0, .int .i64 0, .int .i64 0, .int .i64 0, .int .i64 0, .int .i64 0, .string ⟨#[]⟩, .string ⟨#[]⟩] 58))
   have Kln := Lib.hid (Kl2.out.alloc (.cells #[.int .i64 si, .int .i64 sh, .int .i64 0, .int .i64 0, .int .i64 0, .int .i64 0, .int .i64 0, .int .i64 0, .string ⟨#[]⟩, .string ⟨#[]⟩] 58))
   have Kfn := Lib.hid (Kf2.out.alloc (.cells #[.int .i64 si, .int .i64 sh, .int .i64 0, .int .i64 0, .int .i64 0, .int .i64 0, .int .i64 0, .int .i64 0, .string ⟨#[]⟩, .string ⟨#[]⟩] 58))
   have Krn := Lib.hid (Kr2.out.alloc (.cells #[.int .i64 si, .int .i64 sh, .int .i64 0, .int .i64 0, .int .i64 0, .int .i64 0, .int .i64 0, .int .i64 0, .string ⟨#[]⟩, .string ⟨#[]⟩] 58))
   have Kqn := Lib.hid (Kq2.out.alloc (.cells #[.int .i64 si, .int .i64 sh, .int .i64 0, .int .i64 0, .int .i64 0, .int .i64 0, .int .i64 0, .int .i64 0, .string ⟨#[]⟩, .string ⟨#[]⟩] 58))
   clear B2 Kl2 Kf2 Kr2 Kq2
   obtain ⟨⟨cl0, cl1, cl2⟩, dl0, dl1, dl2⟩ := Kln.out.o3
   obtain ⟨⟨cf0, cf1, cf2, cf3⟩, df0, df1, df2, df3⟩ := Kfn.out.four
   obtain ⟨⟨cr0, cr1, cr2, cr3, cr4, cr5, cr6, cr7, cr8, cr9⟩, dr0, dr1, dr2, dr3, dr4, dr5, dr6, dr7, dr8, dr9⟩ := Krn.out.of10
   obtain ⟨⟨cq0, cq1, cq2, cq3, cq4⟩, dq0, dq1, dq2, dq3, dq4⟩ := Kqn.out.of5
   go_wp2_with fail
   clear cl0 cl1 cl2 dl0 dl1 dl2 cf0 cf1 cf2 cf3 df0 df1 df2 df3 cr0 cr1 cr2 cr3 cr4 cr5 cr6 cr7 cr8 cr9 dr0 dr1 dr2 dr3 dr4 dr5 dr6 dr7 dr8 dr9 cq0 cq1 cq2 cq3 cq4 dq0 dq1 dq2 dq3 dq4
   clear eq0 eq1 eq2 eq3 eq4 hq_ pq_ qq_
   change Calls _ _ _ (v2.alloc (.cells #[.int .i64 si, .int .i64 sh, .int .i64 0, .int .i64 0, .int .i64 0, .int .i64 0, .int .i64 0, .int .i64 0, .string ⟨#[]⟩, .string ⟨#[]⟩] 58)) _
   generalize v2.alloc (.cells #[.int .i64 si, .int .i64 sh, .int .i64 0, .int .i64 0, .int .i64 0, .int .i64 0, .int .i64 0, .int .i64 0, .string ⟨#[]⟩, .string ⟨#[]⟩] 58) = v3 at Knn Bn Kln Kfn Krn Kqn ⊢
   generalize v2.heap.size = g_n at Knn l_n n_l_n n_f_n n_r_n n_q_n ⊢
   clear v2
   have Kl3 := Kln
   clear Kln
   have Kf3 := Kfn
   clear Kfn
   have Kr3 := Krn
   clear Krn
   have Kq3 := Kqn
   clear Kqn
   have Kn3 := Knn
   clear Knn
   have B3 := Bn
   clear Bn
   refine (C2.out _).mono ?_
   rintro e v4 ⟨rfl, hb⟩
   have B4 := Lib.hid (B3.out.trans (hb.mono B3.out.size))
   have Kl4 := Lib.hid (Kl3.out.below hb)
   have Kf4 := Lib.hid (Kf3.out.below hb)
   have Kr4 := Lib.hid (Kr3.out.below hb)
   have Kq4 := Lib.hid (Kq3.out.below hb)
   have Kn4 := Lib.hid (Kn3.out.below hb)
   clear hb B3 Kl3 Kf3 Kr3 Kq3 Kn3
   have KRn := Lib.hid (Blk.new v4 [.int .i64 2, .int .i64 m, .int .i64 ip, .int .i64 sh, .int .i64 si] 96)
   have l_R : w.heap.size ≤ v4.heap.size := B4.out.size
   have n_l_R : g_l ≠ v4.heap.size := by have h1 := Kl4.out.lt; omega
   have n_f_R : g_f ≠ v4.heap.size := by have h1 := Kf4.out.lt; omega
   have n_r_R : g_r ≠ v4.heap.size := by have h1 := Kr4.out.lt; omega
   have n_q_R : g_q ≠ v4.heap.size := by have h1 := Kq4.out.lt; omega
   have n_n_R : g_n ≠ v4.heap.size := by have h1 := Kn4.out.lt; omega
   have Bn := Lib.hid (B4.out.alloc B4.out.size (.cells #[.int .i64 2, .int .i64 m, .int .i64 ip, .int .i64 sh, .int .i64 si] 96))
   have Kln := Lib.hid (Kl4.out.alloc (.cells #[.int .i64 2, .int .i64 m, .int .i64 ip, .int .i64 sh, .int .i64 si] 96))
   have Kfn := Lib.hid (Kf4.out.alloc (.cells #[.int .i64 2, .int .i64 m, .int .i64 ip, .int .i64 sh, .int .i64 si] 96))
   have Krn := Lib.hid (Kr4.out.alloc (.cells #[.int .i64 2, .int .i64 m, .int .i64 ip, .int .i64 sh, .int .i64 si] 96))
   have Kqn := Lib.hid (Kq4.out.alloc (.cells #[.int .i64 2, .int .i64 m, .int .i64 ip, .int .i64 sh, .int .i64 si] 96))
   have Knn := Lib.hid (Kn4.out.alloc (.cells #[.int .i64 2, .int .i64 m, .int .i64 ip, .int .i64 sh, .int .i64 si] 96))
   clear B4 Kl4 Kf4 Kr4 Kq4 Kn4
   obtain ⟨⟨cl0, cl1, cl2⟩, dl0, dl1, dl2⟩ := Kln.out.o3
   obtain ⟨⟨cf0, cf1, cf2, cf3⟩, df0, df1, df2, df3⟩ := Kfn.out.four
   obtain ⟨⟨cr0, cr1, cr2, cr3, cr4, cr5, cr6, cr7, cr8, cr9⟩, dr0, dr1, dr2, dr3, dr4, dr5, dr6, dr7, dr8, dr9⟩ := Krn.out.of10
   obtain ⟨⟨cq0, cq1, cq2, cq3, cq4⟩, dq0, dq1, dq2, dq3, dq4⟩ := Kqn.out.of5
   obtain ⟨⟨cn0, cn1, cn2, cn3, cn4, cn5, cn6, cn7, cn8, cn9⟩, dn0, dn1, dn2, dn3, dn4, dn5, dn6, dn7, dn8, dn9⟩ := Knn.out.of10
   go_upto_region 7 with fail
   clear cl0 cl1 cl2 dl0 dl1 dl2 cf0 cf1 cf2 cf3 df0 df1 df2 df3 cr0 cr1 cr2 cr3 cr4 cr5 cr6 cr7 cr8 cr9 dr0 dr1 dr2 dr3 dr4 dr5 dr6 dr7 dr8 dr9 cq0 cq1 cq2 cq3 cq4 dq0 dq1 dq2 dq3 dq4 cn0 cn1 cn2 cn3 cn4 cn5 cn6 cn7 cn8 cn9 dn0 dn1 dn2 dn3 dn4 dn5 dn6 dn7 dn8 dn9
   generalize v4.alloc (.cells #[.int .i64 2, .int .i64 m, .int .i64 ip, .int .i64 sh, .int .i64 si] 96) = v5 at KRn Bn Kln Kfn Krn Kqn Knn ⊢
   generalize v4.heap.size = g_R at KRn l_R n_l_R n_f_R n_r_R n_q_R n_n_R ⊢
   clear v4
   have Kl5 := Kln
   clear Kln
   have Kf5 := Kfn
   clear Kfn
   have Kr5 := Krn
   clear Krn
   have Kq5 := Kqn
   clear Kqn
   have Kn5 := Knn
   clear Knn
   have KR5 := KRn
   clear KRn
   have B5 := Bn
   clear Bn
   obtain ⟨⟨cl0, cl1, cl2⟩, dl0, dl1, dl2⟩ := Kl5.out.o3
   obtain ⟨⟨cf0, cf1, cf2, cf3⟩, df0, df1, df2, df3⟩ := Kf5.out.four
   obtain ⟨⟨cr0, cr1, cr2, cr3, cr4, cr5, cr6, cr7, cr8, cr9⟩, dr0, dr1, dr2, dr3, dr4, dr5, dr6, dr7, dr8, dr9⟩ := Kr5.out.of10
   obtain ⟨⟨cq0, cq1, cq2, cq3, cq4⟩, dq0, dq1, dq2, dq3, dq4⟩ := Kq5.out.of5
   obtain ⟨⟨cn0, cn1, cn2, cn3, cn4, cn5, cn6, cn7, cn8, cn9⟩, dn0, dn1, dn2, dn3, dn4, dn5, dn6, dn7, dn8, dn9⟩ := Kn5.out.of10
   obtain ⟨⟨cR0, cR1, cR2, cR3, cR4⟩, dR0, dR1, dR2, dR3, dR4⟩ := KR5.out.of5
   have Kl6 := Lib.hid (show Blk (v5.setCell ⟨g_n, 2, none⟩ (.int .i64 1)) g_l [.int .i64 m, .int .i64 ip, .slice a n cap] from (Kl5.out.setOther ⟨g_n, 2, none⟩ (.int .i64 1) (n_l_n)))
   have Kf6 := Lib.hid (show Blk (v5.setCell ⟨g_n, 2, none⟩ (.int .i64 1)) g_f [.int .i64 fd, .int .i64 fs, .int .i64 ft, .string fb] from (Kf5.out.setOther ⟨g_n, 2, none⟩ (.int .i64 1) (n_f_n)))
   have Kr6 := Lib.hid (show Blk (v5.setCell ⟨g_n, 2, none⟩ (.int .i64 1)) g_r [.int .i64 0, .int .i64 0, .int .i64 0, .int .i64 0, .int .i64 0, .int .i64 0, .int .i64 0, .int .i64 0, .string ⟨#[]⟩, .string ⟨#[]⟩] from (Kr5.out.setOther ⟨g_n, 2, none⟩ (.int .i64 1) (n_r_n)))
   have Kq6 := Lib.hid (show Blk (v5.setCell ⟨g_n, 2, none⟩ (.int .i64 1)) g_q [.int .i64 k, .int .i64 sh, .int .i64 si, .int .i64 th, .int .i64 di] from (Kq5.out.setOther ⟨g_n, 2, none⟩ (.int .i64 1) (n_q_n)))
   have Kn6 := Lib.hid (show Blk (v5.setCell ⟨g_n, 2, none⟩ (.int .i64 1)) g_n [.int .i64 si, .int .i64 sh, .int .i64 1, .int .i64 0, .int .i64 0, .int .i64 0, .int .i64 0, .int .i64 0, .string ⟨#[]⟩, .string ⟨#[]⟩] from (Kn5.out.set 2 (.int .i64 1)))
   have KR6 := Lib.hid (show Blk (v5.setCell ⟨g_n, 2, none⟩ (.int .i64 1)) g_R [.int .i64 2, .int .i64 m, .int .i64 ip, .int .i64 sh, .int .i64 si] from (KR5.out.setOther ⟨g_n, 2, none⟩ (.int .i64 1) (fun e => n_n_R e.symm)))
   have B6 := Lib.hid (show Below w.heap.size w (v5.setCell ⟨g_n, 2, none⟩ (.int .i64 1)) from (B5.out.setCell l_n (.int .i64 1)))
   clear B5
   go_upto_region 8 with fail
   clear Kl5 Kf5 Kr5 Kq5 Kn5 KR5
   clear cl0 cl1 cl2 dl0 dl1 dl2 cf0 cf1 cf2 cf3 df0 df1 df2 df3 cr0 cr1 cr2 cr3 cr4 cr5 cr6 cr7 cr8 cr9 dr0 dr1 dr2 dr3 dr4 dr5 dr6 dr7 dr8 dr9 cq0 cq1 cq2 cq3 cq4 dq0 dq1 dq2 dq3 dq4 cn0 cn1 cn2 cn3 cn4 cn5 cn6 cn7 cn8 cn9 dn0 dn1 dn2 dn3 dn4 dn5 dn6 dn7 dn8 dn9 cR0 cR1 cR2 cR3 cR4 dR0 dR1 dR2 dR3 dR4
   generalize v5.setCell ⟨g_n, 2, none⟩ (.int .i64 1) = v6 at B6 Kl6 Kf6 Kr6 Kq6 Kn6 KR6 ⊢
   refine wp_region_noPanic ?_
   refine wp_region_held_drew (S := fun w' => Blk w' g_q [.int .i64 k, .int .i64 sh, .int .i64 si, .int .i64 th, .int .i64 di] ∧ Blk w' g_l [.int .i64 m, .int .i64 ip, .slice a n cap] ∧ Blk w' g_R [.int .i64 2, .int .i64 m, .int .i64 ip, .int .i64 sh, .int .i64 si]) (by kernel_rfl) ⟨Kq6.out, Kl6.out, KR6.out⟩ (fun hS => ?_)
   refine wpAnyH_take (i := 0) (v := .pointer (some ⟨g_q, 1, none⟩)) rfl (by kernel_rfl) (by kernel_rfl) (by kernel_rfl) (fun _ _ _ h => h) (Or.inl ⟨rfl, by intro w hS; go_simp⟩) hS ?_
   refine wpAnyH_take (i := 1) (v := .int .i64 sh) rfl (by kernel_rfl) (by kernel_rfl) (by kernel_rfl) (fun _ _ _ h => h) (Or.inl ⟨rfl, by intro w hS; obtain ⟨⟨h0, h1, h2, h3, h4⟩, _⟩ := hS.1.of5; go_simp⟩) hS ?_
   refine wpAnyH_take (i := 2) (v := .pointer (some ⟨g_l, 0, none⟩)) rfl (by kernel_rfl) (by kernel_rfl) (by kernel_rfl) (fun _ _ _ h => h) (Or.inl ⟨rfl, by intro w hS; go_simp⟩) hS ?_
   refine wpAnyH_take (i := 3) (v := .int .i64 m) rfl (by kernel_rfl) (by kernel_rfl) (by kernel_rfl) (fun _ _ _ h => h) (Or.inl ⟨rfl, by intro w hS; obtain ⟨⟨h0, h1, h2⟩, _⟩ := hS.2.1.o3; go_simp⟩) hS ?_
   refine wpAnyH_take (i := 4) (v := .agg #[.int .i64 2, .int .i64 m, .int .i64 ip, .int .i64 sh, .int .i64 si]) rfl (by kernel_rfl) (by kernel_rfl) (by kernel_rfl) (fun _ _ _ h => h) (Or.inl ⟨rfl, by intro w hS; obtain ⟨⟨h0, h1, h2, h3, h4⟩, _⟩ := hS.2.2.of5; go_simp⟩) hS ?_
   refine wpAnyH_ready (rs := [5]) (by kernel_rfl) (by simp) ?_
   refine AllReadyH.cons (i := 5) rfl (fun K hK => ?zr1) AllReadyH.nil
   rw [if_pos (by rfl)]
   go_simp
   clear hS
   refine (C3.out _).mono ?_
   rintro e v7 ⟨rfl, hb⟩
   replace hb := (Below.refl _ v6).drew.trans hb
   have B7 := Lib.hid (B6.out.trans (hb.mono B6.out.size))
   have Kl7 := Lib.hid (Kl6.out.below hb)
   have Kf7 := Lib.hid (Kf6.out.below hb)
   have Kr7 := Lib.hid (Kr6.out.below hb)
   have Kq7 := Lib.hid (Kq6.out.below hb)
   have Kn7 := Lib.hid (Kn6.out.below hb)
   have KR7 := Lib.hid (KR6.out.below hb)
   clear hb B6 Kl6 Kf6 Kr6 Kq6 Kn6 KR6
   refine hK.out _ _ ⟨Kq7.out, Kl7.out, KR7.out⟩ (fun hS => ?_)
   clear hK K
   refine wpAnyH_take (i := 6) (v := .agg #[.int .i64 sh, .int .i64 m, .int .i64 2054, .string y]) rfl (by kernel_rfl) (by kernel_rfl) (by kernel_rfl) (fun _ _ _ h => h) (Or.inl ⟨rfl, by intro w hS; go_simp⟩) hS ?_
   refine wpAnyH_ready (rs := [7]) (by kernel_rfl) (by simp) ?_
   refine AllReadyH.cons (i := 7) rfl (fun K hK => ?zr2) AllReadyH.nil
   rw [if_pos (by rfl)]
   go_simp
   clear hS
   refine (C4.out _).mono ?_
   rintro e v8 ⟨rfl, hb⟩
   have B8 := Lib.hid (B7.out.trans (hb.mono B7.out.size))
   have Kl8 := Lib.hid (Kl7.out.below hb)
   have Kf8 := Lib.hid (Kf7.out.below hb)
   have Kr8 := Lib.hid (Kr7.out.below hb)
   have Kq8 := Lib.hid (Kq7.out.below hb)
   have Kn8 := Lib.hid (Kn7.out.below hb)
   have KR8 := Lib.hid (KR7.out.below hb)
   clear hb B7 Kl7 Kf7 Kr7 Kq7 Kn7 KR7
   refine hK.out _ _ ⟨Kq8.out, Kl8.out, KR8.out⟩ (fun hS => ?_)
   clear hK K
   refine wpAnyH_take (i := 8) (v := .pointer (some ⟨g_n, 9, none⟩)) rfl (by kernel_rfl) (by kernel_rfl) (by kernel_rfl) (fun _ _ _ h => h) (Or.inl ⟨rfl, by intro w hS; go_simp⟩) hS ?_
   obtain ⟨⟨cn0, cn1, cn2, cn3, cn4, cn5, cn6, cn7, cn8, cn9⟩, dn0, dn1, dn2, dn3, dn4, dn5, dn6, dn7, dn8, dn9⟩ := Kn8.out.of10
   refine wpAnyH_ready (rs := [9]) (by kernel_rfl) (by simp) ?_
   refine AllReadyH.cons (i := 9) rfl (fun K hK => ?zr3) AllReadyH.nil
   rw [if_pos (by rfl)]
   go_simp
   clear hS
   have Kl9 := Lib.hid (show Blk (v8.setCell ⟨g_n, 9, none⟩ (.string z)) g_l [.int .i64 m, .int .i64 ip, .slice a n cap] from (Kl8.out.setOther ⟨g_n, 9, none⟩ (.string z) (n_l_n)))
   have Kf9 := Lib.hid (show Blk (v8.setCell ⟨g_n, 9, none⟩ (.string z)) g_f [.int .i64 fd, .int .i64 fs, .int .i64 ft, .string fb] from (Kf8.out.setOther ⟨g_n, 9, none⟩ (.string z) (n_f_n)))
   have Kr9 := Lib.hid (show Blk (v8.setCell ⟨g_n, 9, none⟩ (.string z)) g_r [.int .i64 0, .int .i64 0, .int .i64 0, .int .i64 0, .int .i64 0, .int .i64 0, .int .i64 0, .int .i64 0, .string ⟨#[]⟩, .string ⟨#[]⟩] from (Kr8.out.setOther ⟨g_n, 9, none⟩ (.string z) (n_r_n)))
   have Kq9 := Lib.hid (show Blk (v8.setCell ⟨g_n, 9, none⟩ (.string z)) g_q [.int .i64 k, .int .i64 sh, .int .i64 si, .int .i64 th, .int .i64 di] from (Kq8.out.setOther ⟨g_n, 9, none⟩ (.string z) (n_q_n)))
   have Kn9 := Lib.hid (show Blk (v8.setCell ⟨g_n, 9, none⟩ (.string z)) g_n [.int .i64 si, .int .i64 sh, .int .i64 1, .int .i64 0, .int .i64 0, .int .i64 0, .int .i64 0, .int .i64 0, .string ⟨#[]⟩, .string z] from (Kn8.out.set 9 (.string z)))
   have KR9 := Lib.hid (show Blk (v8.setCell ⟨g_n, 9, none⟩ (.string z)) g_R [.int .i64 2, .int .i64 m, .int .i64 ip, .int .i64 sh, .int .i64 si] from (KR8.out.setOther ⟨g_n, 9, none⟩ (.string z) (fun e => n_n_R e.symm)))
   have B9 := Lib.hid (show Below w.heap.size w (v8.setCell ⟨g_n, 9, none⟩ (.string z)) from (B8.out.setCell l_n (.string z)))
   refine hK.out _ _ ⟨Kq9.out, Kl9.out, KR9.out⟩ (fun hS => ?_)
   clear hK K hS B8 cn0 cn1 cn2 cn3 cn4 cn5 cn6 cn7 cn8 cn9 dn0 dn1 dn2 dn3 dn4 dn5 dn6 dn7 dn8 dn9 Kl8 Kf8 Kr8 Kq8 Kn8 KR8
   generalize v8.setCell ⟨g_n, 9, none⟩ (.string z) = v9 at Kl9 Kf9 Kr9 Kq9 Kn9 KR9 B9 ⊢
   refine wpAnyH_done (by kernel_rfl) ?_ _
   refine NoPanic.normal ?_
   obtain ⟨⟨cl0, cl1, cl2⟩, dl0, dl1, dl2⟩ := Kl9.out.o3
   obtain ⟨⟨cf0, cf1, cf2, cf3⟩, df0, df1, df2, df3⟩ := Kf9.out.four
   obtain ⟨⟨cr0, cr1, cr2, cr3, cr4, cr5, cr6, cr7, cr8, cr9⟩, dr0, dr1, dr2, dr3, dr4, dr5, dr6, dr7, dr8, dr9⟩ := Kr9.out.of10
   obtain ⟨⟨cq0, cq1, cq2, cq3, cq4⟩, dq0, dq1, dq2, dq3, dq4⟩ := Kq9.out.of5
   obtain ⟨⟨cn0, cn1, cn2, cn3, cn4, cn5, cn6, cn7, cn8, cn9⟩, dn0, dn1, dn2, dn3, dn4, dn5, dn6, dn7, dn8, dn9⟩ := Kn9.out.of10
   obtain ⟨⟨cR0, cR1, cR2, cR3, cR4⟩, dR0, dR1, dR2, dR3, dR4⟩ := KR9.out.of5
   go_wp2_with fail
   exact bodyPost_ret (v := .tuple #[.agg #[.int .i64 si, .int .i64 sh, .int .i64 1, .int .i64 0, .int .i64 0, .int .i64 0, .int .i64 0, .int .i64 0, .string ⟨#[]⟩, .string z], .nilIface]) (by simp [results, Tryz.results71, go_sem, cr0, cr1, cr2, cr3, cr4, cr5, cr6, cr7, cr8, cr9]) rfl ⟨rfl, ((((((((((B9.out.setCell l_r _).setCell l_r _).setCell l_r _).setCell l_r _).setCell l_r _).setCell l_r _).setCell l_r _).setCell l_r _).setCell l_r _).setCell l_r _)⟩
end Go.Proofs.YtkkimgjcefojdaaGreatDoor
