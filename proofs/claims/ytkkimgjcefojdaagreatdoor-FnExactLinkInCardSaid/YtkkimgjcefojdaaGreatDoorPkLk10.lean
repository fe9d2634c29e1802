/- Texts of a proof that belong together, joined. Nothing here is a claim. -/
import Derived.Test.YtkkimgjcefojdaaGreatDoorPkLk9
namespace Go.Proofs.YtkkimgjcefojdaaGreatDoor
open Go.RowKit Go.Lib

def Arr.cs (a : Arr) : List Value := [.int .i64 a.ip, .int .i64 a.hw, .int .i64 a.kind, .int .i64 a.s, .int .i64 a.d, .int .i64 a.t, .int .i64 a.p, .int .i64 a.i, .string a.b, .string a.ans]
/-- What an arrival's function answers. -/
def arrV (x : Addr) : Option Arr → Value
 | some a => .tuple #[.agg #[.int .i64 a.ip, .int .i64 a.hw, .int .i64 a.kind, .int .i64 a.s, .int .i64 a.d, .int .i64 a.t, .int .i64 a.p, .int .i64 a.i, .string a.b, .string a.ans], .nilIface]
 | none => .tuple #[.agg #[.int .i64 0, .int .i64 0, .int .i64 0, .int .i64 0, .int .i64 0, .int .i64 0, .int .i64 0, .int .i64 0, .string ⟨#[]⟩, .string ⟨#[]⟩], .iface 168 (.pointer (some x))]
def ArrEnd (q : Option Arr) (x : Addr) (w : World) (e : Ending) (w' : World) : Prop := e = .returned (arrV x q) ∧ Below w.heap.size w w'


set_option maxRecDepth 100000 in
set_option maxHeartbeats 4000000 in
theorem packetArrI (m ip : Int) (a : Option Addr) (n cap : Nat) (fd fs ft : Int) (fb : ByteArray) (x : Addr) (w : World) (hs : fb.size ≤ 1048576) (hg : ErrTy w) (hx : Sent x w) :
  Calls Tryz.prog 72 #[.agg #[.int .i64 m, .int .i64 ip, .slice a n cap], .agg #[.int .i64 fd, .int .i64 fs, .int .i64 ft, .string fb]] w (ArrEnd (pkIn ip fs fb) x w) := by
 have C := Lib.hid (fun w h => readPkI fb w h hs)
 have HG := Lib.hid hg
 have HX := Lib.hid hx
 unfold pkIn
 unfold rkV at C
 clear hg hx hs
 generalize rkS fb = s at C ⊢
 generalize rkD fb = d at C ⊢
 generalize rkT fb = t at C ⊢
 generalize rkP fb = p at C ⊢
 generalize rkI fb = i at C ⊢
 generalize rkB fb = b at C ⊢
 generalize pkWhy fb = k at C ⊢
 unfold pkMsg
 by_cases hk : k = 0
 case neg =>
  rw [if_neg hk]
  have hk' : ((k : Int) != 0) = true := by simp; omega
  clear hk
  go_enter Tryz.func72, Tryz.ntmps72
  have B0 := Lib.hid (show Below w.heap.size w (((w.alloc (.cells #[.int .i64 m, .int .i64 ip, .slice a n cap] 26)).alloc (.cells #[.int .i64 fd, .int .i64 fs, .int .i64 ft, .string fb] 38)).alloc (.cells #[.int .i64 0, .int .i64 0, .int .i64 0, .int .i64 0, .int .i64 0, .int .i64 0, .int .i64 0, .int .i64 0, .string ⟨#[]⟩, .string ⟨#[]⟩] 58)) from ((((Below.refl _ w).alloc (by simp) _).alloc (by simp) _).alloc (by simp; omega) _))
  have Kl0 := Lib.hid (show Blk (((w.alloc (.cells #[.int .i64 m, .int .i64 ip, .slice a n cap] 26)).alloc (.cells #[.int .i64 fd, .int .i64 fs, .int .i64 ft, .string fb] 38)).alloc (.cells #[.int .i64 0, .int .i64 0, .int .i64 0, .int .i64 0, .int .i64 0, .int .i64 0, .int .i64 0, .int .i64 0, .string ⟨#[]⟩, .string ⟨#[]⟩] 58)) (w.heap.size) [.int .i64 m, .int .i64 ip, .slice a n cap] from ((Blk.new w [.int .i64 m, .int .i64 ip, .slice a n cap] 26).alloc (.cells #[.int .i64 fd, .int .i64 fs, .int .i64 ft, .string fb] 38)).alloc (.cells #[.int .i64 0, .int .i64 0, .int .i64 0, .int .i64 0, .int .i64 0, .int .i64 0, .int .i64 0, .int .i64 0, .string ⟨#[]⟩, .string ⟨#[]⟩] 58))
  have s1 : (w.alloc (.cells #[.int .i64 m, .int .i64 ip, .slice a n cap] 26)).heap.size = w.heap.size + 1 := by simp
  have Kf0 := Lib.hid (show Blk (((w.alloc (.cells #[.int .i64 m, .int .i64 ip, .slice a n cap] 26)).alloc (.cells #[.int .i64 fd, .int .i64 fs, .int .i64 ft, .string fb] 38)).alloc (.cells #[.int .i64 0, .int .i64 0, .int .i64 0, .int .i64 0, .int .i64 0, .int .i64 0, .int .i64 0, .int .i64 0, .string ⟨#[]⟩, .string ⟨#[]⟩] 58)) (w.heap.size + 1) [.int .i64 fd, .int .i64 fs, .int .i64 ft, .string fb] by have h0 := (Blk.new (w.alloc (.cells #[.int .i64 m, .int .i64 ip, .slice a n cap] 26)) [.int .i64 fd, .int .i64 fs, .int .i64 ft, .string fb] 38).alloc (.cells #[.int .i64 0, .int .i64 0, .int .i64 0, .int .i64 0, .int .i64 0, .int .i64 0, .int .i64 0, .int .i64 0, .string ⟨#[]⟩, .string ⟨#[]⟩] 58); rwa [s1] at h0)
  have n_l_f : w.heap.size ≠ w.heap.size + 1 := by omega
  have s2 : ((w.alloc (.cells #[.int .i64 m, .int .i64 ip, .slice a n cap] 26)).alloc (.cells #[.int .i64 fd, .int .i64 fs, .int .i64 ft, .string fb] 38)).heap.size = w.heap.size + 1 + 1 := by simp
  have Kr0 := Lib.hid (show Blk (((w.alloc (.cells #[.int .i64 m, .int .i64 ip, .slice a n cap] 26)).alloc (.cells #[.int .i64 fd, .int .i64 fs, .int .i64 ft, .string fb] 38)).alloc (.cells #[.int .i64 0, .int .i64 0, .int .i64 0, .int .i64 0, .int .i64 0, .int .i64 0, .int .i64 0, .int .i64 0, .string ⟨#[]⟩, .string ⟨#[]⟩] 58)) (w.heap.size + 1 + 1) [.int .i64 0, .int .i64 0, .int .i64 0, .int .i64 0, .int .i64 0, .int .i64 0, .int .i64 0, .int .i64 0, .string ⟨#[]⟩, .string ⟨#[]⟩] by have h0 := Blk.new ((w.alloc (.cells #[.int .i64 m, .int .i64 ip, .slice a n cap] 26)).alloc (.cells #[.int .i64 fd, .int .i64 fs, .int .i64 ft, .string fb] 38)) [.int .i64 0, .int .i64 0, .int .i64 0, .int .i64 0, .int .i64 0, .int .i64 0, .int .i64 0, .int .i64 0, .string ⟨#[]⟩, .string ⟨#[]⟩] 58; rwa [s2] at h0)
  have n_l_r : w.heap.size ≠ w.heap.size + 1 + 1 := by omega
  have n_f_r : w.heap.size + 1 ≠ w.heap.size + 1 + 1 := by omega
  clear s1 s2
  go_wp2_with fail
  change Calls _ _ _ (((w.alloc (.cells #[.int .i64 m, .int .i64 ip, .slice a n cap] 26)).alloc (.cells #[.int .i64 fd, .int .i64 fs, .int .i64 ft, .string fb] 38)).alloc (.cells #[.int .i64 0, .int .i64 0, .int .i64 0, .int .i64 0, .int .i64 0, .int .i64 0, .int .i64 0, .int .i64 0, .string ⟨#[]⟩, .string ⟨#[]⟩] 58)) _
  generalize ((w.alloc (.cells #[.int .i64 m, .int .i64 ip, .slice a n cap] 26)).alloc (.cells #[.int .i64 fd, .int .i64 fs, .int .i64 ft, .string fb] 38)).alloc (.cells #[.int .i64 0, .int .i64 0, .int .i64 0, .int .i64 0, .int .i64 0, .int .i64 0, .int .i64 0, .int .i64 0, .string ⟨#[]⟩, .string ⟨#[]⟩] 58) = v0 at B0 Kl0 Kf0 Kr0 ⊢
  generalize hh_r : w.heap.size + 1 + 1 = g_r at Kr0 n_l_r n_f_r ⊢
  generalize hh_f : w.heap.size + 1 = g_f at Kf0 n_l_f n_f_r ⊢
  generalize hh_l : w.heap.size = g_l at Kl0 n_l_f n_l_r ⊢
  have l_l : w.heap.size ≤ g_l := by omega
  have l_f : w.heap.size ≤ g_f := by omega
  have l_r : w.heap.size ≤ g_r := by omega
  clear hh_l hh_f hh_r
  refine (C.out _ (HG.out.below B0.out HG.out.lt)).mono ?_
  rintro e v1 ⟨rfl, hb⟩
  have B1 := Lib.hid (B0.out.trans (hb.mono B0.out.size))
  have Kl1 := Lib.hid (Kl0.out.below hb)
  have Kf1 := Lib.hid (Kf0.out.below hb)
  have Kr1 := Lib.hid (Kr0.out.below hb)
  clear hb B0 Kl0 Kf0 Kr0
  have Kpn := Lib.hid (Blk.new v1 [.int .i64 s, .int .i64 d, .int .i64 t, .int .i64 p, .int .i64 i, .string b] 30)
  have l_p : w.heap.size ≤ v1.heap.size := B1.out.size
  have n_l_p : g_l ≠ v1.heap.size := by have h1 := Kl1.out.lt; omega
  have n_f_p : g_f ≠ v1.heap.size := by have h1 := Kf1.out.lt; omega
  have n_r_p : g_r ≠ v1.heap.size := by have h1 := Kr1.out.lt; omega
  have Bn := Lib.hid (B1.out.alloc B1.out.size (.cells #[.int .i64 s, .int .i64 d, .int .i64 t, .int .i64 p, .int .i64 i, .string b] 30))
  have Kln := Lib.hid (Kl1.out.alloc (.cells #[.int .i64 s, .int .i64 d, .int .i64 t, .int .i64 p, .int .i64 i, .string b] 30))
  have Kfn := Lib.hid (Kf1.out.alloc (.cells #[.int .i64 s, .int .i64 d, .int .i64 t, .int .i64 p, .int .i64 i, .string b] 30))
  have Krn := Lib.hid (Kr1.out.alloc (.cells #[.int .i64 s, .int .i64 d, .int .i64 t, .int .i64 p, .int .i64 i, .string b] 30))
  clear B1 Kl1 Kf1 Kr1
  obtain ⟨⟨cl0, cl1, cl2⟩, dl0, dl1, dl2⟩ := Kln.out.o3
  obtain ⟨⟨cf0, cf1, cf2, cf3⟩, df0, df1, df2, df3⟩ := Kfn.out.four
  obtain ⟨⟨cr0, cr1, cr2, cr3, cr4, cr5, cr6, cr7, cr8, cr9⟩, dr0, dr1, dr2, dr3, dr4, dr5, dr6, dr7, dr8, dr9⟩ := Krn.out.of10
  go_upto_region 3 with fail
  clear cl0 cl1 cl2 dl0 dl1 dl2 cf0 cf1 cf2 cf3 df0 df1 df2 df3 cr0 cr1 cr2 cr3 cr4 cr5 cr6 cr7 cr8 cr9 dr0 dr1 dr2 dr3 dr4 dr5 dr6 dr7 dr8 dr9
  generalize v1.alloc (.cells #[.int .i64 s, .int .i64 d, .int .i64 t, .int .i64 p, .int .i64 i, .string b] 30) = v2 at Kpn Bn Kln Kfn Krn ⊢
  generalize v1.heap.size = g_p at Kpn l_p n_l_p n_f_p n_r_p ⊢
  clear v1
  have Kl2 := Kln
  clear Kln
  have Kf2 := Kfn
  clear Kfn
  have Kr2 := Krn
  clear Krn
  have Kp2 := Kpn
  clear Kpn
  have B2 := Bn
  clear Bn
  obtain ⟨⟨cl0, cl1, cl2⟩, dl0, dl1, dl2⟩ := Kl2.out.o3
  obtain ⟨⟨cf0, cf1, cf2, cf3⟩, df0, df1, df2, df3⟩ := Kf2.out.four
  obtain ⟨⟨cr0, cr1, cr2, cr3, cr4, cr5, cr6, cr7, cr8, cr9⟩, dr0, dr1, dr2, dr3, dr4, dr5, dr6, dr7, dr8, dr9⟩ := Kr2.out.of10
  obtain ⟨⟨cp0, cp1, cp2, cp3, cp4, cp5⟩, dp0, dp1, dp2, dp3, dp4, dp5⟩ := Kp2.out.of6
  have hq1 : ¬ g_r = 0 := by have := HX.out.lt; omega
  have hq2 : ¬ 0 = g_r := fun e => hq1 e.symm
  have hq3 := HX.out.below B2.out HX.out.lt
  unfold Sent at hq3
  go_wp2_with fail
  go_region_with fail
  all_goals go_wp2_with fail
  all_goals refine post_put 5 rfl ?_
  all_goals exact bodyPost_ret (v := .tuple #[.agg #[.int .i64 0, .int .i64 0, .int .i64 0, .int .i64 0, .int .i64 0, .int .i64 0, .int .i64 0, .int .i64 0, .string ⟨#[]⟩, .string ⟨#[]⟩], .iface 168 (.pointer (some x))]) (by simp [results, Tryz.results72, go_sem, cr0, cr1, cr2, cr3, cr4, cr5, cr6, cr7, cr8, cr9]) rfl ⟨rfl, ((((((((((B2.out.setCell l_r _).setCell l_r _).setCell l_r _).setCell l_r _).setCell l_r _).setCell l_r _).setCell l_r _).setCell l_r _).setCell l_r _).setCell l_r _).drew⟩
 subst hk
 rw [if_pos rfl]
 by_cases hd : d = ip
 case neg =>
  rw [if_neg hd]
  have hd' : (d != ip) = true := by simpa using hd
  clear hd
  go_enter Tryz.func72, Tryz.ntmps72
  have B0 := Lib.hid (show Below w.heap.size w (((w.alloc (.cells #[.int .i64 m, .int .i64 ip, .slice a n cap] 26)).alloc (.cells #[.int .i64 fd, .int .i64 fs, .int .i64 ft, .string fb] 38)).alloc (.cells #[.int .i64 0, .int .i64 0, .int .i64 0, .int .i64 0, .int .i64 0, .int .i64 0, .int .i64 0, .int .i64 0, .string ⟨#[]⟩, .string ⟨#[]⟩] 58)) from ((((Below.refl _ w).alloc (by simp) _).alloc (by simp) _).alloc (by simp; omega) _))
  have Kl0 := Lib.hid (show Blk (((w.alloc (.cells #[.int .i64 m, .int .i64 ip, .slice a n cap] 26)).alloc (.cells #[.int .i64 fd, .int .i64 fs, .int .i64 ft, .string fb] 38)).alloc (.cells #[.int .i64 0, .int .i64 0, .int .i64 0, .int .i64 0, .int .i64 0, .int .i64 0, .int .i64 0, .int .i64 0, .string ⟨#[]⟩, .string ⟨#[]⟩] 58)) (w.heap.size) [.int .i64 m, .int .i64 ip, .slice a n cap] from ((Blk.new w [.int .i64 m, .int .i64 ip, .slice a n cap] 26).alloc (.cells #[.int .i64 fd, .int .i64 fs, .int .i64 ft, .string fb] 38)).alloc (.cells #[.int .i64 0, .int .i64 0, .int .i64 0, .int .i64 0, .int .i64 0, .int .i64 0, .int .i64 0, .int .i64 0, .string ⟨#[]⟩, .string ⟨#[]⟩] 58))
  have s1 : (w.alloc (.cells #[.int .i64 m, .int .i64 ip, .slice a n cap] 26)).heap.size = w.heap.size + 1 := by simp
  have Kf0 := Lib.hid (show Blk (((w.alloc (.cells #[.int .i64 m, .int .i64 ip, .slice a n cap] 26)).alloc (.cells #[.int .i64 fd, .int .i64 fs, .int .i64 ft, .string fb] 38)).alloc (.cells #[.int .i64 0, .int .i64 0, .int .i64 0, .int .i64 0, .int .i64 0, .int .i64 0, .int .i64 0, .int .i64 0, .string ⟨#[]⟩, .string ⟨#[]⟩] 58)) (w.heap.size + 1) [.int .i64 fd, .int .i64 fs, .int .i64 ft, .string fb] by have h0 := (Blk.new (w.alloc (.cells #[.int .i64 m, .int .i64 ip, .slice a n cap] 26)) [.int .i64 fd, .int .i64 fs, .int .i64 ft, .string fb] 38).alloc (.cells #[.int .i64 0, .int .i64 0, .int .i64 0, .int .i64 0, .int .i64 0, .int .i64 0, .int .i64 0, .int .i64 0, .string ⟨#[]⟩, .string ⟨#[]⟩] 58); rwa [s1] at h0)
  have n_l_f : w.heap.size ≠ w.heap.size + 1 := by omega
  have s2 : ((w.alloc (.cells #[.int .i64 m, .int .i64 ip, .slice a n cap] 26)).alloc (.cells #[.int .i64 fd, .int .i64 fs, .int .i64 ft, .string fb] 38)).heap.size = w.heap.size + 1 + 1 := by simp
  have Kr0 := Lib.hid (show Blk (((w.alloc (.cells #[.int .i64 m, .int .i64 ip, .slice a n cap] 26)).alloc (.cells #[.int .i64 fd, .int .i64 fs, .int .i64 ft, .string fb] 38)).alloc (.cells #[.int .i64 0, .int .i64 0, .int .i64 0, .int .i64 0, .int .i64 0, .int .i64 0, .int .i64 0, .int .i64 0, .string ⟨#[]⟩, .string ⟨#[]⟩] 58)) (w.heap.size + 1 + 1) [.int .i64 0, .int .i64 0, .int .i64 0, .int .i64 0, .int .i64 0, .int .i64 0, .int .i64 0, .int .i64 0, .string ⟨#[]⟩, .string ⟨#[]⟩] by have h0 := Blk.new ((w.alloc (.cells #[.int .i64 m, .int .i64 ip, .slice a n cap] 26)).alloc (.cells #[.int .i64 fd, .int .i64 fs, .int .i64 ft, .string fb] 38)) [.int .i64 0, .int .i64 0, .int .i64 0, .int .i64 0, .int .i64 0, .int .i64 0, .int .i64 0, .int .i64 0, .string ⟨#[]⟩, .string ⟨#[]⟩] 58; rwa [s2] at h0)
  have n_l_r : w.heap.size ≠ w.heap.size + 1 + 1 := by omega
  have n_f_r : w.heap.size + 1 ≠ w.heap.size + 1 + 1 := by omega
  clear s1 s2
  go_wp2_with fail
  change Calls _ _ _ (((w.alloc (.cells #[.int .i64 m, .int .i64 ip, .slice a n cap] 26)).alloc (.cells #[.int .i64 fd, .int .i64 fs, .int .i64 ft, .string fb] 38)).alloc (.cells #[.int .i64 0, .int .i64 0, .int .i64 0, .int .i64 0, .int .i64 0, .int .i64 0, .int .i64 0, .int .i64 0, .string ⟨#[]⟩, .string ⟨#[]⟩] 58)) _
  generalize ((w.alloc (.cells #[.int .i64 m, .int .i64 ip, .slice a n cap] 26)).alloc (.cells #[.int .i64 fd, .int .i64 fs, .int .i64 ft, .string fb] 38)).alloc (.cells #[.int .i64 0, .int .i64 0, .int .i64 0, .int .i64 0, .int .i64 0, .int .i64 0, .int .i64 0, .int .i64 0, .string ⟨#[]⟩, .string ⟨#[]⟩] 58) = v0 at B0 Kl0 Kf0 Kr0 ⊢
  generalize hh_r : w.heap.size + 1 + 1 = g_r at Kr0 n_l_r n_f_r ⊢
  generalize hh_f : w.heap.size + 1 = g_f at Kf0 n_l_f n_f_r ⊢
  generalize hh_l : w.heap.size = g_l at Kl0 n_l_f n_l_r ⊢
  have l_l : w.heap.size ≤ g_l := by omega
  have l_f : w.heap.size ≤ g_f := by omega
  have l_r : w.heap.size ≤ g_r := by omega
  clear hh_l hh_f hh_r
  refine (C.out _ (HG.out.below B0.out HG.out.lt)).mono ?_
  rintro e v1 ⟨rfl, hb⟩
  have B1 := Lib.hid (B0.out.trans (hb.mono B0.out.size))
  have Kl1 := Lib.hid (Kl0.out.below hb)
  have Kf1 := Lib.hid (Kf0.out.below hb)
  have Kr1 := Lib.hid (Kr0.out.below hb)
  clear hb B0 Kl0 Kf0 Kr0
  have Kpn := Lib.hid (Blk.new v1 [.int .i64 s, .int .i64 d, .int .i64 t, .int .i64 p, .int .i64 i, .string b] 30)
  have l_p : w.heap.size ≤ v1.heap.size := B1.out.size
  have n_l_p : g_l ≠ v1.heap.size := by have h1 := Kl1.out.lt; omega
  have n_f_p : g_f ≠ v1.heap.size := by have h1 := Kf1.out.lt; omega
  have n_r_p : g_r ≠ v1.heap.size := by have h1 := Kr1.out.lt; omega
  have Bn := Lib.hid (B1.out.alloc B1.out.size (.cells #[.int .i64 s, .int .i64 d, .int .i64 t, .int .i64 p, .int .i64 i, .string b] 30))
  have Kln := Lib.hid (Kl1.out.alloc (.cells #[.int .i64 s, .int .i64 d, .int .i64 t, .int .i64 p, .int .i64 i, .string b] 30))
  have Kfn := Lib.hid (Kf1.out.alloc (.cells #[.int .i64 s, .int .i64 d, .int .i64 t, .int .i64 p, .int .i64 i, .string b] 30))
  have Krn := Lib.hid (Kr1.out.alloc (.cells #[.int .i64 s, .int .i64 d, .int .i64 t, .int .i64 p, .int .i64 i, .string b] 30))
  clear B1 Kl1 Kf1 Kr1
  obtain ⟨⟨cl0, cl1, cl2⟩, dl0, dl1, dl2⟩ := Kln.out.o3
  obtain ⟨⟨cf0, cf1, cf2, cf3⟩, df0, df1, df2, df3⟩ := Kfn.out.four
  obtain ⟨⟨cr0, cr1, cr2, cr3, cr4, cr5, cr6, cr7, cr8, cr9⟩, dr0, dr1, dr2, dr3, dr4, dr5, dr6, dr7, dr8, dr9⟩ := Krn.out.of10
  go_upto_region 3 with fail
  clear cl0 cl1 cl2 dl0 dl1 dl2 cf0 cf1 cf2 cf3 df0 df1 df2 df3 cr0 cr1 cr2 cr3 cr4 cr5 cr6 cr7 cr8 cr9 dr0 dr1 dr2 dr3 dr4 dr5 dr6 dr7 dr8 dr9
  generalize v1.alloc (.cells #[.int .i64 s, .int .i64 d, .int .i64 t, .int .i64 p, .int .i64 i, .string b] 30) = v2 at Kpn Bn Kln Kfn Krn ⊢
  generalize v1.heap.size = g_p at Kpn l_p n_l_p n_f_p n_r_p ⊢
  clear v1
  have Kl2 := Kln
  clear Kln
  have Kf2 := Kfn
  clear Kfn
  have Kr2 := Krn
  clear Krn
  have Kp2 := Kpn
  clear Kpn
  have B2 := Bn
  clear Bn
  obtain ⟨⟨cl0, cl1, cl2⟩, dl0, dl1, dl2⟩ := Kl2.out.o3
  obtain ⟨⟨cf0, cf1, cf2, cf3⟩, df0, df1, df2, df3⟩ := Kf2.out.four
  obtain ⟨⟨cr0, cr1, cr2, cr3, cr4, cr5, cr6, cr7, cr8, cr9⟩, dr0, dr1, dr2, dr3, dr4, dr5, dr6, dr7, dr8, dr9⟩ := Kr2.out.of10
  obtain ⟨⟨cp0, cp1, cp2, cp3, cp4, cp5⟩, dp0, dp1, dp2, dp3, dp4, dp5⟩ := Kp2.out.of6
  have hq1 : ¬ g_r = 0 := by have := HX.out.lt; omega
  have hq2 : ¬ 0 = g_r := fun e => hq1 e.symm
  have hq3 := HX.out.below B2.out HX.out.lt
  unfold Sent at hq3
  go_wp2_with fail
  go_region_with fail
  all_goals go_wp2_with fail
  all_goals refine post_put 5 rfl ?_
  all_goals exact bodyPost_ret (v := .tuple #[.agg #[.int .i64 0, .int .i64 0, .int .i64 0, .int .i64 0, .int .i64 0, .int .i64 0, .int .i64 0, .int .i64 0, .string ⟨#[]⟩, .string ⟨#[]⟩], .iface 168 (.pointer (some x))]) (by simp [results, Tryz.results72, go_sem, cr0, cr1, cr2, cr3, cr4, cr5, cr6, cr7, cr8, cr9]) rfl ⟨rfl, ((((((((((B2.out.setCell l_r _).setCell l_r _).setCell l_r _).setCell l_r _).setCell l_r _).setCell l_r _).setCell l_r _).setCell l_r _).setCell l_r _).setCell l_r _).drew⟩
 have hd' : (d != ip) = false := by simpa using hd
 rw [if_pos hd]
 clear hd
 by_cases hp : p = 6
 case neg =>
  rw [if_neg hp]
  have hp' : (p != 6) = true := by simpa using hp
  clear hp
  go_enter Tryz.func72, Tryz.ntmps72
  have B0 := Lib.hid (show Below w.heap.size w (((w.alloc (.cells #[.int .i64 m, .int .i64 ip, .slice a n cap] 26)).alloc (.cells #[.int .i64 fd, .int .i64 fs, .int .i64 ft, .string fb] 38)).alloc (.cells #[.int .i64 0, .int .i64 0, .int .i64 0, .int .i64 0, .int .i64 0, .int .i64 0, .int .i64 0, .int .i64 0, .string ⟨#[]⟩, .string ⟨#[]⟩] 58)) from ((((Below.refl _ w).alloc (by simp) _).alloc (by simp) _).alloc (by simp; omega) _))
  have Kl0 := Lib.hid (show Blk (((w.alloc (.cells #[.int .i64 m, .int .i64 ip, .slice a n cap] 26)).alloc (.cells #[.int .i64 fd, .int .i64 fs, .int .i64 ft, .string fb] 38)).alloc (.cells #[.int .i64 0, .int .i64 0, .int .i64 0, .int .i64 0, .int .i64 0, .int .i64 0, .int .i64 0, .int .i64 0, .string ⟨#[]⟩, .string ⟨#[]⟩] 58)) (w.heap.size) [.int .i64 m, .int .i64 ip, .slice a n cap] from ((Blk.new w [.int .i64 m, .int .i64 ip, .slice a n cap] 26).alloc (.cells #[.int .i64 fd, .int .i64 fs, .int .i64 ft, .string fb] 38)).alloc (.cells #[.int .i64 0, .int .i64 0, .int .i64 0, .int .i64 0, .int .i64 0, .int .i64 0, .int .i64 0, .int .i64 0, .string ⟨#[]⟩, .string ⟨#[]⟩] 58))
  have s1 : (w.alloc (.cells #[.int .i64 m, .int .i64 ip, .slice a n cap] 26)).heap.size = w.heap.size + 1 := by simp
  have Kf0 := Lib.hid (show Blk (((w.alloc (.cells #[.int .i64 m, .int .i64 ip, .slice a n cap] 26)).alloc (.cells #[.int .i64 fd, .int .i64 fs, .int .i64 ft, .string fb] 38)).alloc (.cells #[.int .i64 0, .int .i64 0, .int .i64 0, .int .i64 0, .int .i64 0, .int .i64 0, .int .i64 0, .int .i64 0, .string ⟨#[]⟩, .string ⟨#[]⟩] 58)) (w.heap.size + 1) [.int .i64 fd, .int .i64 fs, .int .i64 ft, .string fb] by have h0 := (Blk.new (w.alloc (.cells #[.int .i64 m, .int .i64 ip, .slice a n cap] 26)) [.int .i64 fd, .int .i64 fs, .int .i64 ft, .string fb] 38).alloc (.cells #[.int .i64 0, .int .i64 0, .int .i64 0, .int .i64 0, .int .i64 0, .int .i64 0, .int .i64 0, .int .i64 0, .string ⟨#[]⟩, .string ⟨#[]⟩] 58); rwa [s1] at h0)
  have n_l_f : w.heap.size ≠ w.heap.size + 1 := by omega
  have s2 : ((w.alloc (.cells #[.int .i64 m, .int .i64 ip, .slice a n cap] 26)).alloc (.cells #[.int .i64 fd, .int .i64 fs, .int .i64 ft, .string fb] 38)).heap.size = w.heap.size + 1 + 1 := by simp
  have Kr0 := Lib.hid (show Blk (((w.alloc (.cells #[.int .i64 m, .int .i64 ip, .slice a n cap] 26)).alloc (.cells #[.int .i64 fd, .int .i64 fs, .int .i64 ft, .string fb] 38)).alloc (.cells #[.int .i64 0, .int .i64 0, .int .i64 0, .int .i64 0, .int .i64 0, .int .i64 0, .int .i64 0, .int .i64 0, .string ⟨#[]⟩, .string ⟨#[]⟩] 58)) (w.heap.size + 1 + 1) [.int .i64 0, .int .i64 0, .int .i64 0, .int .i64 0, .int .i64 0, .int .i64 0, .int .i64 0, .int .i64 0, .string ⟨#[]⟩, .string ⟨#[]⟩] by have h0 := Blk.new ((w.alloc (.cells #[.int .i64 m, .int .i64 ip, .slice a n cap] 26)).alloc (.cells #[.int .i64 fd, .int .i64 fs, .int .i64 ft, .string fb] 38)) [.int .i64 0, .int .i64 0, .int .i64 0, .int .i64 0, .int .i64 0, .int .i64 0, .int .i64 0, .int .i64 0, .string ⟨#[]⟩, .string ⟨#[]⟩] 58; rwa [s2] at h0)
  have n_l_r : w.heap.size ≠ w.heap.size + 1 + 1 := by omega
  have n_f_r : w.heap.size + 1 ≠ w.heap.size + 1 + 1 := by omega
  clear s1 s2
  go_wp2_with fail
  change Calls _ _ _ (((w.alloc (.cells #[.int .i64 m, .int .i64 ip, .slice a n cap] 26)).alloc (.cells #[.int .i64 fd, .int .i64 fs, .int .i64 ft, .string fb] 38)).alloc (.cells #[.int .i64 0, .int .i64 0, .int .i64 0, .int .i64 0, .int .i64 0, .int .i64 0, .int .i64 0, .int .i64 0, .string ⟨#[]⟩, .string ⟨#[]⟩] 58)) _
  generalize ((w.alloc (.cells #[.int .i64 m, .int .i64 ip, .slice a n cap] 26)).alloc (.cells #[.int .i64 fd, .int .i64 fs, .int .i64 ft, .string fb] 38)).alloc (.cells #[.int .i64 0, .int .i64 0, .int .i64 0, .int .i64 0, .int .i64 0, .int .i64 0, .int .i64 0, .int .i64 0, .string ⟨#[]⟩, .string ⟨#[]⟩] 58) = v0 at B0 Kl0 Kf0 Kr0 ⊢
  generalize hh_r : w.heap.size + 1 + 1 = g_r at Kr0 n_l_r n_f_r ⊢
  generalize hh_f : w.heap.size + 1 = g_f at Kf0 n_l_f n_f_r ⊢
  generalize hh_l : w.heap.size = g_l at Kl0 n_l_f n_l_r ⊢
  have l_l : w.heap.size ≤ g_l := by omega
  have l_f : w.heap.size ≤ g_f := by omega
  have l_r : w.heap.size ≤ g_r := by omega
  clear hh_l hh_f hh_r
  refine (C.out _ (HG.out.below B0.out HG.out.lt)).mono ?_
  rintro e v1 ⟨rfl, hb⟩
  have B1 := Lib.hid (B0.out.trans (hb.mono B0.out.size))
  have Kl1 := Lib.hid (Kl0.out.below hb)
  have Kf1 := Lib.hid (Kf0.out.below hb)
  have Kr1 := Lib.hid (Kr0.out.below hb)
  clear hb B0 Kl0 Kf0 Kr0
  have Kpn := Lib.hid (Blk.new v1 [.int .i64 s, .int .i64 d, .int .i64 t, .int .i64 p, .int .i64 i, .string b] 30)
  have l_p : w.heap.size ≤ v1.heap.size := B1.out.size
  have n_l_p : g_l ≠ v1.heap.size := by have h1 := Kl1.out.lt; omega
  have n_f_p : g_f ≠ v1.heap.size := by have h1 := Kf1.out.lt; omega
  have n_r_p : g_r ≠ v1.heap.size := by have h1 := Kr1.out.lt; omega
  have Bn := Lib.hid (B1.out.alloc B1.out.size (.cells #[.int .i64 s, .int .i64 d, .int .i64 t, .int .i64 p, .int .i64 i, .string b] 30))
  have Kln := Lib.hid (Kl1.out.alloc (.cells #[.int .i64 s, .int .i64 d, .int .i64 t, .int .i64 p, .int .i64 i, .string b] 30))
  have Kfn := Lib.hid (Kf1.out.alloc (.cells #[.int .i64 s, .int .i64 d, .int .i64 t, .int .i64 p, .int .i64 i, .string b] 30))
  have Krn := Lib.hid (Kr1.out.alloc (.cells #[.int .i64 s, .int .i64 d, .int .i64 t, .int .i64 p, .int .i64 i, .string b] 30))
  clear B1 Kl1 Kf1 Kr1
  obtain ⟨⟨cl0, cl1, cl2⟩, dl0, dl1, dl2⟩ := Kln.out.o3
  obtain ⟨⟨cf0, cf1, cf2, cf3⟩, df0, df1, df2, df3⟩ := Kfn.out.four
  obtain ⟨⟨cr0, cr1, cr2, cr3, cr4, cr5, cr6, cr7, cr8, cr9⟩, dr0, dr1, dr2, dr3, dr4, dr5, dr6, dr7, dr8, dr9⟩ := Krn.out.of10
  go_upto_region 3 with fail
  clear cl0 cl1 cl2 dl0 dl1 dl2 cf0 cf1 cf2 cf3 df0 df1 df2 df3 cr0 cr1 cr2 cr3 cr4 cr5 cr6 cr7 cr8 cr9 dr0 dr1 dr2 dr3 dr4 dr5 dr6 dr7 dr8 dr9
  generalize v1.alloc (.cells #[.int .i64 s, .int .i64 d, .int .i64 t, .int .i64 p, .int .i64 i, .string b] 30) = v2 at Kpn Bn Kln Kfn Krn ⊢
  generalize v1.heap.size = g_p at Kpn l_p n_l_p n_f_p n_r_p ⊢
  clear v1
  have Kl2 := Kln
  clear Kln
  have Kf2 := Kfn
  clear Kfn
  have Kr2 := Krn
  clear Krn
  have Kp2 := Kpn
  clear Kpn
  have B2 := Bn
  clear Bn
  obtain ⟨⟨cl0, cl1, cl2⟩, dl0, dl1, dl2⟩ := Kl2.out.o3
  obtain ⟨⟨cf0, cf1, cf2, cf3⟩, df0, df1, df2, df3⟩ := Kf2.out.four
  obtain ⟨⟨cr0, cr1, cr2, cr3, cr4, cr5, cr6, cr7, cr8, cr9⟩, dr0, dr1, dr2, dr3, dr4, dr5, dr6, dr7, dr8, dr9⟩ := Kr2.out.of10
  obtain ⟨⟨cp0, cp1, cp2, cp3, cp4, cp5⟩, dp0, dp1, dp2, dp3, dp4, dp5⟩ := Kp2.out.of6
  have hq1 : ¬ g_r = 0 := by have := HX.out.lt; omega
  have hq2 : ¬ 0 = g_r := fun e => hq1 e.symm
  have hq3 := HX.out.below B2.out HX.out.lt
  unfold Sent at hq3
  go_wp2_with fail
  go_region_with fail
  all_goals go_wp2_with fail
  all_goals refine post_put 5 rfl ?_
  all_goals exact bodyPost_ret (v := .tuple #[.agg #[.int .i64 0, .int .i64 0, .int .i64 0, .int .i64 0, .int .i64 0, .int .i64 0, .int .i64 0, .int .i64 0, .string ⟨#[]⟩, .string ⟨#[]⟩], .iface 168 (.pointer (some x))]) (by simp [results, Tryz.results72, go_sem, cr0, cr1, cr2, cr3, cr4, cr5, cr6, cr7, cr8, cr9]) rfl ⟨rfl, ((((((((((B2.out.setCell l_r _).setCell l_r _).setCell l_r _).setCell l_r _).setCell l_r _).setCell l_r _).setCell l_r _).setCell l_r _).setCell l_r _).setCell l_r _).drew⟩
 have hp' : (p != 6) = false := by simpa using hp
 rw [if_pos hp]
 clear hp
 by_cases hi : s = ip
 case pos =>
  rw [if_pos hi]
  have hi' : (s == ip) = true := by simpa using hi
  clear hi
  go_enter Tryz.func72, Tryz.ntmps72
  have B0 := Lib.hid (show Below w.heap.size w (((w.alloc (.cells #[.int .i64 m, .int .i64 ip, .slice a n cap] 26)).alloc (.cells #[.int .i64 fd, .int .i64 fs, .int .i64 ft, .string fb] 38)).alloc (.cells #[.int .i64 0, .int .i64 0, .int .i64 0, .int .i64 0, .int .i64 0, .int .i64 0, .int .i64 0, .int .i64 0, .string ⟨#[]⟩, .string ⟨#[]⟩] 58)) from ((((Below.refl _ w).alloc (by simp) _).alloc (by simp) _).alloc (by simp; omega) _))
  have Kl0 := Lib.hid (show Blk (((w.alloc (.cells #[.int .i64 m, .int .i64 ip, .slice a n cap] 26)).alloc (.cells #[.int .i64 fd, .int .i64 fs, .int .i64 ft, .string fb] 38)).alloc (.cells #[.int .i64 0, .int .i64 0, .int .i64 0, .int .i64 0, .int .i64 0, .int .i64 0, .int .i64 0, .int .i64 0, .string ⟨#[]⟩, .string ⟨#[]⟩] 58)) (w.heap.size) [.int .i64 m, .int .i64 ip, .slice a n cap] from ((Blk.new w [.int .i64 m, .int .i64 ip, .slice a n cap] 26).alloc (.cells #[.int .i64 fd, .int .i64 fs, .int .i64 ft, .string fb] 38)).alloc (.cells #[.int .i64 0, .int .i64 0, .int .i64 0, .int .i64 0, .int .i64 0, .int .i64 0, .int .i64 0, .int .i64 0, .string ⟨#[]⟩, .string ⟨#[]⟩] 58))
  have s1 : (w.alloc (.cells #[.int .i64 m, .int .i64 ip, .slice a n cap] 26)).heap.size = w.heap.size + 1 := by simp
  have Kf0 := Lib.hid (show Blk (((w.alloc (.cells #[.int .i64 m, .int .i64 ip, .slice a n cap] 26)).alloc (.cells #[.int .i64 fd, .int .i64 fs, .int .i64 ft, .string fb] 38)).alloc (.cells #[.int .i64 0, .int .i64 0, .int .i64 0, .int .i64 0, .int .i64 0, .int .i64 0, .int .i64 0, .int .i64 0, .string ⟨#[]⟩, .string ⟨#[]⟩] 58)) (w.heap.size + 1) [.int .i64 fd, .int .i64 fs, .int .i64 ft, .string fb] by have h0 := (Blk.new (w.alloc (.cells #[.int .i64 m, .int .i64 ip, .slice a n cap] 26)) [.int .i64 fd, .int .i64 fs, .int .i64 ft, .string fb] 38).alloc (.cells #[.int .i64 0, .int .i64 0, .int .i64 0, .int .i64 0, .int .i64 0, .int .i64 0, .int .i64 0, .int .i64 0, .string ⟨#[]⟩, .string ⟨#[]⟩] 58); rwa [s1] at h0)
  have n_l_f : w.heap.size ≠ w.heap.size + 1 := by omega
  have s2 : ((w.alloc (.cells #[.int .i64 m, .int .i64 ip, .slice a n cap] 26)).alloc (.cells #[.int .i64 fd, .int .i64 fs, .int .i64 ft, .string fb] 38)).heap.size = w.heap.size + 1 + 1 := by simp
  have Kr0 := Lib.hid (show Blk (((w.alloc (.cells #[.int .i64 m, .int .i64 ip, .slice a n cap] 26)).alloc (.cells #[.int .i64 fd, .int .i64 fs, .int .i64 ft, .string fb] 38)).alloc (.cells #[.int .i64 0, .int .i64 0, .int .i64 0, .int .i64 0, .int .i64 0, .int .i64 0, .int .i64 0, .int .i64 0, .string ⟨#[]⟩, .string ⟨#[]⟩] 58)) (w.heap.size + 1 + 1) [.int .i64 0, .int .i64 0, .int .i64 0, .int .i64 0, .int .i64 0, .int .i64 0, .int .i64 0, .int .i64 0, .string ⟨#[]⟩, .string ⟨#[]⟩] by have h0 := Blk.new ((w.alloc (.cells #[.int .i64 m, .int .i64 ip, .slice a n cap] 26)).alloc (.cells #[.int .i64 fd, .int .i64 fs, .int .i64 ft, .string fb] 38)) [.int .i64 0, .int .i64 0, .int .i64 0, .int .i64 0, .int .i64 0, .int .i64 0, .int .i64 0, .int .i64 0, .string ⟨#[]⟩, .string ⟨#[]⟩] 58; rwa [s2] at h0)
  have n_l_r : w.heap.size ≠ w.heap.size + 1 + 1 := by omega
  have n_f_r : w.heap.size + 1 ≠ w.heap.size + 1 + 1 := by omega
  clear s1 s2
  go_wp2_with fail
  change Calls _ _ _ (((w.alloc (.cells #[.int .i64 m, .int .i64 ip, .slice a n cap] 26)).alloc (.cells #[.int .i64 fd, .int .i64 fs, .int .i64 ft, .string fb] 38)).alloc (.cells #[.int .i64 0, .int .i64 0, .int .i64 0, .int .i64 0, .int .i64 0, .int .i64 0, .int .i64 0, .int .i64 0, .string ⟨#[]⟩, .string ⟨#[]⟩] 58)) _
  generalize ((w.alloc (.cells #[.int .i64 m, .int .i64 ip, .slice a n cap] 26)).alloc (.cells #[.int .i64 fd, .int .i64 fs, .int .i64 ft, .string fb] 38)).alloc (.cells #[.int .i64 0, .int .i64 0, .int .i64 0, .int .i64 0, .int .i64 0, .int .i64 0, .int .i64 0, .int .i64 0, .string ⟨#[]⟩, .string ⟨#[]⟩] 58) = v0 at B0 Kl0 Kf0 Kr0 ⊢
  generalize hh_r : w.heap.size + 1 + 1 = g_r at Kr0 n_l_r n_f_r ⊢
  generalize hh_f : w.heap.size + 1 = g_f at Kf0 n_l_f n_f_r ⊢
  generalize hh_l : w.heap.size = g_l at Kl0 n_l_f n_l_r ⊢
  have l_l : w.heap.size ≤ g_l := by omega
  have l_f : w.heap.size ≤ g_f := by omega
  have l_r : w.heap.size ≤ g_r := by omega
  clear hh_l hh_f hh_r
  refine (C.out _ (HG.out.below B0.out HG.out.lt)).mono ?_
  rintro e v1 ⟨rfl, hb⟩
  have B1 := Lib.hid (B0.out.trans (hb.mono B0.out.size))
  have Kl1 := Lib.hid (Kl0.out.below hb)
  have Kf1 := Lib.hid (Kf0.out.below hb)
  have Kr1 := Lib.hid (Kr0.out.below hb)
  clear hb B0 Kl0 Kf0 Kr0
  have Kpn := Lib.hid (Blk.new v1 [.int .i64 s, .int .i64 d, .int .i64 t, .int .i64 p, .int .i64 i, .string b] 30)
  have l_p : w.heap.size ≤ v1.heap.size := B1.out.size
  have n_l_p : g_l ≠ v1.heap.size := by have h1 := Kl1.out.lt; omega
  have n_f_p : g_f ≠ v1.heap.size := by have h1 := Kf1.out.lt; omega
  have n_r_p : g_r ≠ v1.heap.size := by have h1 := Kr1.out.lt; omega
  have Bn := Lib.hid (B1.out.alloc B1.out.size (.cells #[.int .i64 s, .int .i64 d, .int .i64 t, .int .i64 p, .int .i64 i, .string b] 30))
  have Kln := Lib.hid (Kl1.out.alloc (.cells #[.int .i64 s, .int .i64 d, .int .i64 t, .int .i64 p, .int .i64 i, .string b] 30))
  have Kfn := Lib.hid (Kf1.out.alloc (.cells #[.int .i64 s, .int .i64 d, .int .i64 t, .int .i64 p, .int .i64 i, .string b] 30))
  have Krn := Lib.hid (Kr1.out.alloc (.cells #[.int .i64 s, .int .i64 d, .int .i64 t, .int .i64 p, .int .i64 i, .string b] 30))
  clear B1 Kl1 Kf1 Kr1
  obtain ⟨⟨cl0, cl1, cl2⟩, dl0, dl1, dl2⟩ := Kln.out.o3
  obtain ⟨⟨cf0, cf1, cf2, cf3⟩, df0, df1, df2, df3⟩ := Kfn.out.four
  obtain ⟨⟨cr0, cr1, cr2, cr3, cr4, cr5, cr6, cr7, cr8, cr9⟩, dr0, dr1, dr2, dr3, dr4, dr5, dr6, dr7, dr8, dr9⟩ := Krn.out.of10
  go_upto_region 3 with fail
  clear cl0 cl1 cl2 dl0 dl1 dl2 cf0 cf1 cf2 cf3 df0 df1 df2 df3 cr0 cr1 cr2 cr3 cr4 cr5 cr6 cr7 cr8 cr9 dr0 dr1 dr2 dr3 dr4 dr5 dr6 dr7 dr8 dr9
  generalize v1.alloc (.cells #[.int .i64 s, .int .i64 d, .int .i64 t, .int .i64 p, .int .i64 i, .string b] 30) = v2 at Kpn Bn Kln Kfn Krn ⊢
  generalize v1.heap.size = g_p at Kpn l_p n_l_p n_f_p n_r_p ⊢
  clear v1
  have Kl2 := Kln
  clear Kln
  have Kf2 := Kfn
  clear Kfn
  have Kr2 := Krn
  clear Krn
  have Kp2 := Kpn
  clear Kpn
  have B2 := Bn
  clear Bn
  obtain ⟨⟨cl0, cl1, cl2⟩, dl0, dl1, dl2⟩ := Kl2.out.o3
  obtain ⟨⟨cf0, cf1, cf2, cf3⟩, df0, df1, df2, df3⟩ := Kf2.out.four
  obtain ⟨⟨cr0, cr1, cr2, cr3, cr4, cr5, cr6, cr7, cr8, cr9⟩, dr0, dr1, dr2, dr3, dr4, dr5, dr6, dr7, dr8, dr9⟩ := Kr2.out.of10
  obtain ⟨⟨cp0, cp1, cp2, cp3, cp4, cp5⟩, dp0, dp1, dp2, dp3, dp4, dp5⟩ := Kp2.out.of6
  have hq1 : ¬ g_r = 0 := by have := HX.out.lt; omega
  have hq2 : ¬ 0 = g_r := fun e => hq1 e.symm
  have hq3 := HX.out.below B2.out HX.out.lt
  unfold Sent at hq3
  go_wp2_with fail
  go_region_with fail
  all_goals go_wp2_with fail
  all_goals refine post_put 5 rfl ?_
  all_goals exact bodyPost_ret (v := .tuple #[.agg #[.int .i64 0, .int .i64 0, .int .i64 0, .int .i64 0, .int .i64 0, .int .i64 0, .int .i64 0, .int .i64 0, .string ⟨#[]⟩, .string ⟨#[]⟩], .iface 168 (.pointer (some x))]) (by simp [results, Tryz.results72, go_sem, cr0, cr1, cr2, cr3, cr4, cr5, cr6, cr7, cr8, cr9]) rfl ⟨rfl, ((((((((((B2.out.setCell l_r _).setCell l_r _).setCell l_r _).setCell l_r _).setCell l_r _).setCell l_r _).setCell l_r _).setCell l_r _).setCell l_r _).setCell l_r _).drew⟩
 rw [if_neg hi]
 have hi' : (s == ip) = false := by simpa using hi
 clear hi
 go_enter Tryz.func72, Tryz.ntmps72
 have B0 := Lib.hid (show Below w.heap.size w (((w.alloc (.cells #[.int .i64 m, .int .i64 ip, .slice a n cap] 26)).alloc (.cells #[.int .i64 fd, .int .i64 fs, .int .i64 ft, .string fb] 38)).alloc (.cells #[.int .i64 0, .int .i64 0, .int .i64 0, .int .i64 0, .int .i64 0, .int .i64 0, .int .i64 0, .int .i64 0, .string ⟨#[]⟩, .string ⟨#[]⟩] 58)) from ((((Below.refl _ w).alloc (by simp) _).alloc (by simp) _).alloc (by simp; omega) _))
 have Kl0 := Lib.hid (show Blk (((w.alloc (.cells #[.int .i64 m, .int .i64 ip, .slice a n cap] 26)).alloc (.cells #[.int .i64 fd, .int .i64 fs, .int .i64 ft, .string fb] 38)).alloc (.cells #[.int .i64 0, .int .i64 0, .int .i64 0, .int .i64 0, .int .i64 0, .int .i64 0, .int .i64 0, .int .i64 0, .string ⟨#[]⟩, .string ⟨#[]⟩] 58)) (w.heap.size) [.int .i64 m, .int .i64 ip, .slice a n cap] from ((Blk.new w [.int .i64 m, .int .i64 ip, .slice a n cap] 26).alloc (.cells #[.int .i64 fd, .int .i64 fs, .int .i64 ft, .string fb] 38)).alloc (.cells #[.int .i64 0, .int .i64 0, .int .i64 0, .int .i64 0, .int .i64 0, .int .i64 0, .int .i64 0, .int .i64 0, .string ⟨#[]⟩, .string ⟨#[]⟩] 58))
 have s1 : (w.alloc (.cells #[.int .i64 m, .int .i64 ip, .slice a n cap] 26)).heap.size = w.heap.size + 1 := by simp
 have Kf0 := Lib.hid (show Blk (((w.alloc (.cells #[.int .i64 m, .int .i64 ip, .slice a n cap] 26)).alloc (.cells #[.int .i64 fd, .int .i64 fs, .int .i64 ft, .string fb] 38)).alloc (.cells #[.int .i64 0, .int .i64 0, .int .i64 0, .int .i64 0, .int .i64 0, .int .i64 0, .int .i64 0, .int .i64 0, .string ⟨#[]⟩, .string ⟨#[]⟩] 58)) (w.heap.size + 1) [.int .i64 fd, .int .i64 fs, .int .i64 ft, .string fb] by have h0 := (Blk.new (w.alloc (.cells #[.int .i64 m, .int .i64 ip, .slice a n cap] 26)) [.int .i64 fd, .int .i64 fs, .int .i64 ft, .string fb] 38).alloc (.cells #[.int .i64 0, .int .i64 0, .int .i64 0, .int .i64 0, .int .i64 0, .int .i64 0, .int .i64 0, .int .i64 0, .string ⟨#[]⟩, .string ⟨#[]⟩] 58); rwa [s1] at h0)
 have n_l_f : w.heap.size ≠ w.heap.size + 1 := by omega
 have s2 : ((w.alloc (.cells #[.int .i64 m, .int .i64 ip, .slice a n cap] 26)).alloc (.cells #[.int .i64 fd, .int .i64 fs, .int .i64 ft, .string fb] 38)).heap.size = w.heap.size + 1 + 1 := by simp
 have Kr0 := Lib.hid (show Blk (((w.alloc (.cells #[.int .i64 m, .int .i64 ip, .slice a n cap] 26)).alloc (.cells #[.int .i64 fd, .int .i64 fs, .int .i64 ft, .string fb] 38)).alloc (.cells #[.int .i64 0, .int .i64 0, .int .i64 0, .int .i64 0, .int .i64 0, .int .i64 0, .int .i64 0, .int .i64 0, .string ⟨#[]⟩, .string ⟨#[]⟩] 58)) (w.heap.size + 1 + 1) [.int .i64 0, .int .i64 0, .int .i64 0, .int .i64 0, .int .i64 0, .int .i64 0, .int .i64 0, .int .i64 0, .string ⟨#[]⟩, .string ⟨#[]⟩] by have h0 := Blk.new ((w.alloc (.cells #[.int .i64 m, .int .i64 ip, .slice a n cap] 26)).alloc (.cells #[.int .i64 fd, .int .i64 fs, .int .i64 ft, .string fb] 38)) [.int .i64 0, .int .i64 0, .int .i64 0, .int .i64 0, .int .i64 0, .int .i64 0, .int .i64 0, .int .i64 0, .string ⟨#[]⟩, .string ⟨#[]⟩] 58; rwa [s2] at h0)
 have n_l_r : w.heap.size ≠ w.heap.size + 1 + 1 := by omega
 have n_f_r : w.heap.size + 1 ≠ w.heap.size + 1 + 1 := by omega
 clear s1 s2
 go_wp2_with fail
 change Calls _ _ _ (((w.alloc (.cells #[.int .i64 m, .int .i64 ip, .slice a n cap] 26)).alloc (.cells #[.int .i64 fd, .int .i64 fs, .int .i64 ft, .string fb] 38)).alloc (.cells #[.int .i64 0, .int .i64 0, .int .i64 0, .int .i64 0, .int .i64 0, .int .i64 0, .int .i64 0, .int .i64 0, .string ⟨#[]⟩, .string ⟨#[]⟩] 58)) _
 generalize ((w.alloc (.cells #[.int .i64 m, .int .i64 ip, .slice a n cap] 26)).alloc (.cells #[.int .i64 fd, .int .i64 fs, .int .i64 ft, .string fb] 38)).alloc (.cells #[.int .i64 0, .int .i64 0, .int .i64 0, .int .i64 0, .int .i64 0, .int .i64 0, .int .i64 0, .int .i64 0, .string ⟨#[]⟩, .string ⟨#[]⟩] 58) = v0 at B0 Kl0 Kf0 Kr0 ⊢
 generalize hh_r : w.heap.size + 1 + 1 = g_r at Kr0 n_l_r n_f_r ⊢
 generalize hh_f : w.heap.size + 1 = g_f at Kf0 n_l_f n_f_r ⊢
 generalize hh_l : w.heap.size = g_l at Kl0 n_l_f n_l_r ⊢
 have l_l : w.heap.size ≤ g_l := by omega
 have l_f : w.heap.size ≤ g_f := by omega
 have l_r : w.heap.size ≤ g_r := by omega
 clear hh_l hh_f hh_r
 refine (C.out _ (HG.out.below B0.out HG.out.lt)).mono ?_
 rintro e v1 ⟨rfl, hb⟩
 have B1 := Lib.hid (B0.out.trans (hb.mono B0.out.size))
 have Kl1 := Lib.hid (Kl0.out.below hb)
 have Kf1 := Lib.hid (Kf0.out.below hb)
 have Kr1 := Lib.hid (Kr0.out.below hb)
 clear hb B0 Kl0 Kf0 Kr0
 have Kpn := Lib.hid (Blk.new v1 [.int .i64 s, .int .i64 d, .int .i64 t, .int .i64 p, .int .i64 i, .string b] 30)
 have l_p : w.heap.size ≤ v1.heap.size := B1.out.size
 have n_l_p : g_l ≠ v1.heap.size := by have h1 := Kl1.out.lt; omega
 have n_f_p : g_f ≠ v1.heap.size := by have h1 := Kf1.out.lt; omega
 have n_r_p : g_r ≠ v1.heap.size := by have h1 := Kr1.out.lt; omega
 have Bn := Lib.hid (B1.out.alloc B1.out.size (.cells #[.int .i64 s, .int .i64 d, .int .i64 t, .int .i64 p, .int .i64 i, .string b] 30))
 have Kln := Lib.hid (Kl1.out.alloc (.cells #[.int .i64 s, .int .i64 d, .int .i64 t, .int .i64 p, .int .i64 i, .string b] 30))
 have Kfn := Lib.hid (Kf1.out.alloc (.cells #[.int .i64 s, .int .i64 d, .int .i64 t, .int .i64 p, .int .i64 i, .string b] 30))
 have Krn := Lib.hid (Kr1.out.alloc (.cells #[.int .i64 s, .int .i64 d, .int .i64 t, .int .i64 p, .int .i64 i, .string b] 30))
 clear B1 Kl1 Kf1 Kr1
 obtain ⟨⟨cl0, cl1, cl2⟩, dl0, dl1, dl2⟩ := Kln.out.o3
 obtain ⟨⟨cf0, cf1, cf2, cf3⟩, df0, df1, df2, df3⟩ := Kfn.out.four
 obtain ⟨⟨cr0, cr1, cr2, cr3, cr4, cr5, cr6, cr7, cr8, cr9⟩, dr0, dr1, dr2, dr3, dr4, dr5, dr6, dr7, dr8, dr9⟩ := Krn.out.of10
 go_upto_region 4 with fail
 clear cl0 cl1 cl2 dl0 dl1 dl2 cf0 cf1 cf2 cf3 df0 df1 df2 df3 cr0 cr1 cr2 cr3 cr4 cr5 cr6 cr7 cr8 cr9 dr0 dr1 dr2 dr3 dr4 dr5 dr6 dr7 dr8 dr9
 generalize v1.alloc (.cells #[.int .i64 s, .int .i64 d, .int .i64 t, .int .i64 p, .int .i64 i, .string b] 30) = v2 at Kpn Bn Kln Kfn Krn ⊢
 generalize v1.heap.size = g_p at Kpn l_p n_l_p n_f_p n_r_p ⊢
 clear v1
 have Kl2 := Kln
 clear Kln
 have Kf2 := Kfn
 clear Kfn
 have Kr2 := Krn
 clear Krn
 have Kp2 := Kpn
 clear Kpn
 have B2 := Bn
 clear Bn
 obtain ⟨⟨cl0, cl1, cl2⟩, dl0, dl1, dl2⟩ := Kl2.out.o3
 obtain ⟨⟨cf0, cf1, cf2, cf3⟩, df0, df1, df2, df3⟩ := Kf2.out.four
 obtain ⟨⟨cr0, cr1, cr2, cr3, cr4, cr5, cr6, cr7, cr8, cr9⟩, dr0, dr1, dr2, dr3, dr4, dr5, dr6, dr7, dr8, dr9⟩ := Kr2.out.of10
 obtain ⟨⟨cp0, cp1, cp2, cp3, cp4, cp5⟩, dp0, dp1, dp2, dp3, dp4, dp5⟩ := Kp2.out.of6
 go_wp2_with fail
 exact bodyPost_ret (v := .tuple #[.agg #[.int .i64 s, .int .i64 fs, .int .i64 2, .int .i64 s, .int .i64 d, .int .i64 t, .int .i64 p, .int .i64 i, .string b, .string ⟨#[]⟩], .nilIface]) (by simp [results, Tryz.results72, go_sem, cr0, cr1, cr2, cr3, cr4, cr5, cr6, cr7, cr8, cr9]) rfl ⟨rfl, ((((((((((B2.out.setCell l_r _).setCell l_r _).setCell l_r _).setCell l_r _).setCell l_r _).setCell l_r _).setCell l_r _).setCell l_r _).setCell l_r _).setCell l_r _)⟩
end Go.Proofs.YtkkimgjcefojdaaGreatDoor
