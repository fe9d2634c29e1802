/- Texts of a proof that belong together, joined. Nothing here is a claim. -/
import Derived.Test.YtkkimgjcefojdaaGreatDoorPkLk22
import Derived.Test.YtkkimgjcefojdaaGreatDoorPkLk23
import Derived.Test.YtkkimgjcefojdaaGreatDoorPkLk24
import Derived.Test.YtkkimgjcefojdaaGreatDoorPkLk25
namespace Go.Proofs.YtkkimgjcefojdaaGreatDoor
open Go.RowKit Go.Lib


set_option maxRecDepth 100000 in
set_option maxHeartbeats 8000000 in
theorem linkInS_pk4 (m ip : Int) (b off cap : Nat) (rs : List ER) (raw : ByteArray) (w : World) (hrow : Row w w.heap.size (some ⟨b, off, none⟩) (ers rs)) (hcap : rs.length ≤ cap) (hl : rs.length ≤ 1048577) (hs : raw.size ≤ 1048576) (hy : linkOk m ip rs = true) (hk : rfOk raw = true) (hz : forMe (rfD raw) m = true) (ht : rfT raw = 2048) (hk0 : pkWhy (rfB raw) = 0) (hd : rkD (rfB raw) = ip) (hp : rkP (rfB raw) = 6) (hi : ¬ rkS (rfB raw) = ip) :
  Calls Tryz.prog 9 #[.agg #[.int .i64 m, .int .i64 ip, .slice (some ⟨b, off, none⟩) rs.length cap], .string raw] w (LinkEndS m ip (some ⟨rkS (rfB raw), rfS raw, 2, rkS (rfB raw), rkD (rfB raw), rkT (rfB raw), rkP (rfB raw), rkI (rfB raw), rkB (rfB raw), ⟨#[]⟩⟩) rs w) := by
 have C0 := Lib.hid (fun w h => copyS m ip b off cap rs w h hl)
 have C1 := Lib.hid (fun w => readFrameS raw w hs)
 have C2 := Lib.hid (fun w h => linkOkS m ip (some ⟨b, off, none⟩) cap rs w h hl hcap)
 have C3 := Lib.hid (fun w => forMeS (rfD raw) (rfS raw) (rfT raw) m (rfB raw) w)
 have C5 := Lib.hid (fun w => readPkS (rfB raw) w (Nat.le_trans (rfB_le raw) hs))
 have HR := Lib.hid hrow
 replace hl := Lib.hid hl
 clear hrow hs hcap
 unfold rfV at C1
 generalize rfD raw = d at C1 C3 hz
 generalize rfS raw = s at C1 C3 ⊢
 generalize rfT raw = t at C1 C3 ht
 generalize rfB raw = fb at C1 C3 C5 hk0 hd hp hi ⊢
 rw [hy] at C2
 rw [hk] at C1
 clear hy hk
 rw [hz] at C3
 clear hz
 have ht1 : (t == 2054) = false := by rw [ht]; rfl
 have hu' : (t != 2048) = false := by rw [ht]; rfl
 clear ht
 unfold rkV at C5
 generalize rkS fb = i at C5 hi ⊢
 generalize rkD fb = j at C5 hd ⊢
 generalize rkT fb = u at C5  ⊢
 generalize rkP fb = v at C5 hp ⊢
 generalize rkI fb = y at C5  ⊢
 generalize rkB fb = pb at C5  ⊢
 generalize pkWhy fb = k at C5 hk0 ⊢
 subst hk0
 have hd' : (j != ip) = false := by simpa using hd
 clear hd
 have hp' : (v != 6) = false := by simpa using hp
 clear hp
 have hi' : (i == ip) = false := by simpa using hi
 clear hi
 go_enter Tryz.func9, Tryz.ntmps9
 have B0 := Lib.hid (show Below w.heap.size w (((w.alloc (.cells #[.int .i64 m, .int .i64 ip, .slice (some ⟨b, off, none⟩) rs.length cap] 26)).alloc (.cells #[.int .i64 0, .int .i64 0, .slice none 0 0] 26)).alloc (.cells #[.int .i64 0, .int .i64 0, .int .i64 0, .int .i64 0, .int .i64 0, .string ⟨#[]⟩] 30)) from ((((Below.refl _ w).alloc (by simp) _).alloc (by simp) _).alloc (by simp; omega) _))
 have Kl0 := Lib.hid (show Blk (((w.alloc (.cells #[.int .i64 m, .int .i64 ip, .slice (some ⟨b, off, none⟩) rs.length cap] 26)).alloc (.cells #[.int .i64 0, .int .i64 0, .slice none 0 0] 26)).alloc (.cells #[.int .i64 0, .int .i64 0, .int .i64 0, .int .i64 0, .int .i64 0, .string ⟨#[]⟩] 30)) (w.heap.size) [.int .i64 m, .int .i64 ip, .slice (some ⟨b, off, none⟩) rs.length cap] from ((Blk.new w [.int .i64 m, .int .i64 ip, .slice (some ⟨b, off, none⟩) rs.length cap] 26).alloc (.cells #[.int .i64 0, .int .i64 0, .slice none 0 0] 26)).alloc (.cells #[.int .i64 0, .int .i64 0, .int .i64 0, .int .i64 0, .int .i64 0, .string ⟨#[]⟩] 30))
 have s1 : (w.alloc (.cells #[.int .i64 m, .int .i64 ip, .slice (some ⟨b, off, none⟩) rs.length cap] 26)).heap.size = w.heap.size + 1 := by simp
 have KR0 := Lib.hid (show Blk (((w.alloc (.cells #[.int .i64 m, .int .i64 ip, .slice (some ⟨b, off, none⟩) rs.length cap] 26)).alloc (.cells #[.int .i64 0, .int .i64 0, .slice none 0 0] 26)).alloc (.cells #[.int .i64 0, .int .i64 0, .int .i64 0, .int .i64 0, .int .i64 0, .string ⟨#[]⟩] 30)) (w.heap.size + 1) [.int .i64 0, .int .i64 0, .slice none 0 0] by have h0 := (Blk.new (w.alloc (.cells #[.int .i64 m, .int .i64 ip, .slice (some ⟨b, off, none⟩) rs.length cap] 26)) [.int .i64 0, .int .i64 0, .slice none 0 0] 26).alloc (.cells #[.int .i64 0, .int .i64 0, .int .i64 0, .int .i64 0, .int .i64 0, .string ⟨#[]⟩] 30); rwa [s1] at h0)
 have n_l_R : w.heap.size ≠ w.heap.size + 1 := by omega
 have s2 : ((w.alloc (.cells #[.int .i64 m, .int .i64 ip, .slice (some ⟨b, off, none⟩) rs.length cap] 26)).alloc (.cells #[.int .i64 0, .int .i64 0, .slice none 0 0] 26)).heap.size = w.heap.size + 1 + 1 := by simp
 have KP0 := Lib.hid (show Blk (((w.alloc (.cells #[.int .i64 m, .int .i64 ip, .slice (some ⟨b, off, none⟩) rs.length cap] 26)).alloc (.cells #[.int .i64 0, .int .i64 0, .slice none 0 0] 26)).alloc (.cells #[.int .i64 0, .int .i64 0, .int .i64 0, .int .i64 0, .int .i64 0, .string ⟨#[]⟩] 30)) (w.heap.size + 1 + 1) [.int .i64 0, .int .i64 0, .int .i64 0, .int .i64 0, .int .i64 0, .string ⟨#[]⟩] by have h0 := Blk.new ((w.alloc (.cells #[.int .i64 m, .int .i64 ip, .slice (some ⟨b, off, none⟩) rs.length cap] 26)).alloc (.cells #[.int .i64 0, .int .i64 0, .slice none 0 0] 26)) [.int .i64 0, .int .i64 0, .int .i64 0, .int .i64 0, .int .i64 0, .string ⟨#[]⟩] 30; rwa [s2] at h0)
 have n_l_P : w.heap.size ≠ w.heap.size + 1 + 1 := by omega
 have n_R_P : w.heap.size + 1 ≠ w.heap.size + 1 + 1 := by omega
 clear s1 s2
 go_wp2_with fail
 change Calls _ _ _ (((w.alloc (.cells #[.int .i64 m, .int .i64 ip, .slice (some ⟨b, off, none⟩) rs.length cap] 26)).alloc (.cells #[.int .i64 0, .int .i64 0, .slice none 0 0] 26)).alloc (.cells #[.int .i64 0, .int .i64 0, .int .i64 0, .int .i64 0, .int .i64 0, .string ⟨#[]⟩] 30)) _
 generalize ((w.alloc (.cells #[.int .i64 m, .int .i64 ip, .slice (some ⟨b, off, none⟩) rs.length cap] 26)).alloc (.cells #[.int .i64 0, .int .i64 0, .slice none 0 0] 26)).alloc (.cells #[.int .i64 0, .int .i64 0, .int .i64 0, .int .i64 0, .int .i64 0, .string ⟨#[]⟩] 30) = v0 at B0 Kl0 KR0 KP0 ⊢
 generalize hh_P : w.heap.size + 1 + 1 = g_P at KP0 n_l_P n_R_P ⊢
 generalize hh_R : w.heap.size + 1 = g_R at KR0 n_l_R n_R_P ⊢
 generalize hh_l : w.heap.size = g_l at Kl0 n_l_R n_l_P ⊢
 have l_l : w.heap.size ≤ g_l := by omega
 have l_R : w.heap.size ≤ g_R := by omega
 have l_P : w.heap.size ≤ g_P := by omega
 clear hh_l hh_R hh_P
 refine (C0.out _ ((HR.out.below B0.out).mono B0.out.size)).mono ?_
 rintro e v1 ⟨g_c, c_c, rfl, ho_c, hb⟩
 have hcc := Lib.hid (own_cap ho_c).1
 have n_l_c : g_l ≠ g_c := by have h1 := Kl0.out.lt; have h2 := (ho_c.lt g_c rfl).1; omega
 have n_R_c : g_R ≠ g_c := by have h1 := KR0.out.lt; have h2 := (ho_c.lt g_c rfl).1; omega
 have n_P_c : g_P ≠ g_c := by have h1 := KP0.out.lt; have h2 := (ho_c.lt g_c rfl).1; omega
 have l_c : w.heap.size ≤ g_c := Nat.le_trans B0.out.size (ho_c.lt g_c rfl).1
 have B1 := Lib.hid (B0.out.trans (hb.mono B0.out.size))
 have Kl1 := Lib.hid (Kl0.out.below hb)
 have KR1 := Lib.hid (KR0.out.below hb)
 have KP1 := Lib.hid (KP0.out.below hb)
 have Oc1 := Lib.hid (own_down ho_c (Nat.zero_le _))
 clear hb B0 Kl0 KR0 KP0 ho_c
 have KOn := Lib.hid (Blk.new v1 [.int .i64 m, .int .i64 ip, .slice (some ⟨g_c, 0, none⟩) rs.length c_c] 26)
 have l_O : w.heap.size ≤ v1.heap.size := B1.out.size
 have n_l_O : g_l ≠ v1.heap.size := by have h1 := Kl1.out.lt; omega
 have n_R_O : g_R ≠ v1.heap.size := by have h1 := KR1.out.lt; omega
 have n_P_O : g_P ≠ v1.heap.size := by have h1 := KP1.out.lt; omega
 have n_c_O : g_c ≠ v1.heap.size := by have h1 := (Oc1.out.lt g_c rfl).2; omega
 have Bn := Lib.hid (B1.out.alloc B1.out.size (.cells #[.int .i64 m, .int .i64 ip, .slice (some ⟨g_c, 0, none⟩) rs.length c_c] 26))
 have Kln := Lib.hid (Kl1.out.alloc (.cells #[.int .i64 m, .int .i64 ip, .slice (some ⟨g_c, 0, none⟩) rs.length c_c] 26))
 have KRn := Lib.hid (KR1.out.alloc (.cells #[.int .i64 m, .int .i64 ip, .slice (some ⟨g_c, 0, none⟩) rs.length c_c] 26))
 have KPn := Lib.hid (KP1.out.alloc (.cells #[.int .i64 m, .int .i64 ip, .slice (some ⟨g_c, 0, none⟩) rs.length c_c] 26))
 have Ocn := Lib.hid (Oc1.out.alloc (.cells #[.int .i64 m, .int .i64 ip, .slice (some ⟨g_c, 0, none⟩) rs.length c_c] 26))
 clear B1 Kl1 KR1 KP1 Oc1
 obtain ⟨⟨cl0, cl1, cl2⟩, dl0, dl1, dl2⟩ := Kln.out.o3
 obtain ⟨⟨cR0, cR1, cR2⟩, dR0, dR1, dR2⟩ := KRn.out.o3
 obtain ⟨⟨cP0, cP1, cP2, cP3, cP4, cP5⟩, dP0, dP1, dP2, dP3, dP4, dP5⟩ := KPn.out.of6
 go_wp2_with fail
 clear cl0 cl1 cl2 dl0 dl1 dl2 cR0 cR1 cR2 dR0 dR1 dR2 cP0 cP1 cP2 cP3 cP4 cP5 dP0 dP1 dP2 dP3 dP4 dP5
 change Calls _ _ _ (v1.alloc (.cells #[.int .i64 m, .int .i64 ip, .slice (some ⟨g_c, 0, none⟩) rs.length c_c] 26)) _
 generalize v1.alloc (.cells #[.int .i64 m, .int .i64 ip, .slice (some ⟨g_c, 0, none⟩) rs.length c_c] 26) = v2 at KOn Bn Kln KRn KPn Ocn ⊢
 generalize v1.heap.size = g_O at KOn l_O n_l_O n_R_O n_P_O n_c_O ⊢
 clear v1
 have Kl2 := Kln
 clear Kln
 have KR2 := KRn
 clear KRn
 have KP2 := KPn
 clear KPn
 have KO2 := KOn
 clear KOn
 have Oc2 := Ocn
 clear Ocn
 have B2 := Bn
 clear Bn
 refine (C1.out _).mono ?_
 rintro e v3 ⟨rfl, hb⟩
 have B3 := Lib.hid (B2.out.trans (hb.mono B2.out.size))
 have Kl3 := Lib.hid (Kl2.out.below hb)
 have KR3 := Lib.hid (KR2.out.below hb)
 have KP3 := Lib.hid (KP2.out.below hb)
 have KO3 := Lib.hid (KO2.out.below hb)
 have Oc3 := Lib.hid (Oc2.out.kept (below_any (row := none) hb) (.inr (by simp [Value.ownBlock])))
 clear hb B2 Kl2 KR2 KP2 KO2 Oc2
 have Kfn := Lib.hid (Blk.new v3 [.int .i64 d, .int .i64 s, .int .i64 t, .string fb] 38)
 have l_f : w.heap.size ≤ v3.heap.size := B3.out.size
 have n_l_f : g_l ≠ v3.heap.size := by have h1 := Kl3.out.lt; omega
 have n_R_f : g_R ≠ v3.heap.size := by have h1 := KR3.out.lt; omega
 have n_P_f : g_P ≠ v3.heap.size := by have h1 := KP3.out.lt; omega
 have n_O_f : g_O ≠ v3.heap.size := by have h1 := KO3.out.lt; omega
 have n_c_f : g_c ≠ v3.heap.size := by have h1 := (Oc3.out.lt g_c rfl).2; omega
 have Bn := Lib.hid (B3.out.alloc B3.out.size (.cells #[.int .i64 d, .int .i64 s, .int .i64 t, .string fb] 38))
 have Kln := Lib.hid (Kl3.out.alloc (.cells #[.int .i64 d, .int .i64 s, .int .i64 t, .string fb] 38))
 have KRn := Lib.hid (KR3.out.alloc (.cells #[.int .i64 d, .int .i64 s, .int .i64 t, .string fb] 38))
 have KPn := Lib.hid (KP3.out.alloc (.cells #[.int .i64 d, .int .i64 s, .int .i64 t, .string fb] 38))
 have KOn := Lib.hid (KO3.out.alloc (.cells #[.int .i64 d, .int .i64 s, .int .i64 t, .string fb] 38))
 have Ocn := Lib.hid (Oc3.out.alloc (.cells #[.int .i64 d, .int .i64 s, .int .i64 t, .string fb] 38))
 clear B3 Kl3 KR3 KP3 KO3 Oc3
 obtain ⟨⟨cl0, cl1, cl2⟩, dl0, dl1, dl2⟩ := Kln.out.o3
 obtain ⟨⟨cR0, cR1, cR2⟩, dR0, dR1, dR2⟩ := KRn.out.o3
 obtain ⟨⟨cP0, cP1, cP2, cP3, cP4, cP5⟩, dP0, dP1, dP2, dP3, dP4, dP5⟩ := KPn.out.of6
 obtain ⟨⟨cO0, cO1, cO2⟩, dO0, dO1, dO2⟩ := KOn.out.o3
 go_wp2_with fail
 clear cl0 cl1 cl2 dl0 dl1 dl2 cR0 cR1 cR2 dR0 dR1 dR2 cP0 cP1 cP2 cP3 cP4 cP5 dP0 dP1 dP2 dP3 dP4 dP5 cO0 cO1 cO2 dO0 dO1 dO2
 change Calls _ _ _ (v3.alloc (.cells #[.int .i64 d, .int .i64 s, .int .i64 t, .string fb] 38)) _
 generalize v3.alloc (.cells #[.int .i64 d, .int .i64 s, .int .i64 t, .string fb] 38) = v4 at Kfn Bn Kln KRn KPn KOn Ocn ⊢
 generalize v3.heap.size = g_f at Kfn l_f n_l_f n_R_f n_P_f n_O_f n_c_f ⊢
 clear v3
 have Kl4 := Kln
 clear Kln
 have KR4 := KRn
 clear KRn
 have KP4 := KPn
 clear KPn
 have KO4 := KOn
 clear KOn
 have Kf4 := Kfn
 clear Kfn
 have Oc4 := Ocn
 clear Ocn
 have B4 := Bn
 clear Bn
 refine (C2.out _ ((HR.out.below B4.out).mono B4.out.size)).mono ?_
 rintro e v5 ⟨rfl, hb⟩
 have B5 := Lib.hid (B4.out.trans (hb.mono B4.out.size))
 have Kl5 := Lib.hid (Kl4.out.below hb)
 have KR5 := Lib.hid (KR4.out.below hb)
 have KP5 := Lib.hid (KP4.out.below hb)
 have KO5 := Lib.hid (KO4.out.below hb)
 have Kf5 := Lib.hid (Kf4.out.below hb)
 have Oc5 := Lib.hid (Oc4.out.kept (below_any (row := none) hb) (.inr (by simp [Value.ownBlock])))
 clear hb B4 Kl4 KR4 KP4 KO4 Kf4 Oc4
 obtain ⟨⟨cl0, cl1, cl2⟩, dl0, dl1, dl2⟩ := Kl5.out.o3
 obtain ⟨⟨cR0, cR1, cR2⟩, dR0, dR1, dR2⟩ := KR5.out.o3
 obtain ⟨⟨cP0, cP1, cP2, cP3, cP4, cP5⟩, dP0, dP1, dP2, dP3, dP4, dP5⟩ := KP5.out.of6
 obtain ⟨⟨cO0, cO1, cO2⟩, dO0, dO1, dO2⟩ := KO5.out.o3
 obtain ⟨⟨cf0, cf1, cf2, cf3⟩, df0, df1, df2, df3⟩ := Kf5.out.four
 go_wp2_with fail
 clear cl0 cl1 cl2 dl0 dl1 dl2 cR0 cR1 cR2 dR0 dR1 dR2 cP0 cP1 cP2 cP3 cP4 cP5 dP0 dP1 dP2 dP3 dP4 dP5 cO0 cO1 cO2 dO0 dO1 dO2 cf0 cf1 cf2 cf3 df0 df1 df2 df3
 refine (C3.out _).mono ?_
 rintro e v6 ⟨rfl, hb⟩
 have B6 := Lib.hid (B5.out.trans (hb.mono B5.out.size))
 have Kl6 := Lib.hid (Kl5.out.below hb)
 have KR6 := Lib.hid (KR5.out.below hb)
 have KP6 := Lib.hid (KP5.out.below hb)
 have KO6 := Lib.hid (KO5.out.below hb)
 have Kf6 := Lib.hid (Kf5.out.below hb)
 have Oc6 := Lib.hid (Oc5.out.kept (below_any (row := none) hb) (.inr (by simp [Value.ownBlock])))
 clear hb B5 Kl5 KR5 KP5 KO5 Kf5 Oc5
 obtain ⟨⟨cl0, cl1, cl2⟩, dl0, dl1, dl2⟩ := Kl6.out.o3
 obtain ⟨⟨cR0, cR1, cR2⟩, dR0, dR1, dR2⟩ := KR6.out.o3
 obtain ⟨⟨cP0, cP1, cP2, cP3, cP4, cP5⟩, dP0, dP1, dP2, dP3, dP4, dP5⟩ := KP6.out.of6
 obtain ⟨⟨cO0, cO1, cO2⟩, dO0, dO1, dO2⟩ := KO6.out.o3
 obtain ⟨⟨cf0, cf1, cf2, cf3⟩, df0, df1, df2, df3⟩ := Kf6.out.four
 go_wp2_with fail
 clear cl0 cl1 cl2 dl0 dl1 dl2 cR0 cR1 cR2 dR0 dR1 dR2 cP0 cP1 cP2 cP3 cP4 cP5 dP0 dP1 dP2 dP3 dP4 dP5 cO0 cO1 cO2 dO0 dO1 dO2 cf0 cf1 cf2 cf3 df0 df1 df2 df3
 refine (C5.out _).mono ?_
 rintro e v7 ⟨rfl, hb⟩
 have B7 := Lib.hid (B6.out.trans (hb.mono B6.out.size))
 have Kl7 := Lib.hid (Kl6.out.below hb)
 have KR7 := Lib.hid (KR6.out.below hb)
 have KP7 := Lib.hid (KP6.out.below hb)
 have KO7 := Lib.hid (KO6.out.below hb)
 have Kf7 := Lib.hid (Kf6.out.below hb)
 have Oc7 := Lib.hid (Oc6.out.kept (below_any (row := none) hb) (.inr (by simp [Value.ownBlock])))
 clear hb B6 Kl6 KR6 KP6 KO6 Kf6 Oc6
 have Kpn := Lib.hid (Blk.new v7 [.int .i64 i, .int .i64 j, .int .i64 u, .int .i64 v, .int .i64 y, .string pb] 30)
 have l_p : w.heap.size ≤ v7.heap.size := B7.out.size
 have n_l_p : g_l ≠ v7.heap.size := by have h1 := Kl7.out.lt; omega
 have n_R_p : g_R ≠ v7.heap.size := by have h1 := KR7.out.lt; omega
 have n_P_p : g_P ≠ v7.heap.size := by have h1 := KP7.out.lt; omega
 have n_O_p : g_O ≠ v7.heap.size := by have h1 := KO7.out.lt; omega
 have n_f_p : g_f ≠ v7.heap.size := by have h1 := Kf7.out.lt; omega
 have n_c_p : g_c ≠ v7.heap.size := by have h1 := (Oc7.out.lt g_c rfl).2; omega
 have Bn := Lib.hid (B7.out.alloc B7.out.size (.cells #[.int .i64 i, .int .i64 j, .int .i64 u, .int .i64 v, .int .i64 y, .string pb] 30))
 have Kln := Lib.hid (Kl7.out.alloc (.cells #[.int .i64 i, .int .i64 j, .int .i64 u, .int .i64 v, .int .i64 y, .string pb] 30))
 have KRn := Lib.hid (KR7.out.alloc (.cells #[.int .i64 i, .int .i64 j, .int .i64 u, .int .i64 v, .int .i64 y, .string pb] 30))
 have KPn := Lib.hid (KP7.out.alloc (.cells #[.int .i64 i, .int .i64 j, .int .i64 u, .int .i64 v, .int .i64 y, .string pb] 30))
 have KOn := Lib.hid (KO7.out.alloc (.cells #[.int .i64 i, .int .i64 j, .int .i64 u, .int .i64 v, .int .i64 y, .string pb] 30))
 have Kfn := Lib.hid (Kf7.out.alloc (.cells #[.int .i64 i, .int .i64 j, .int .i64 u, .int .i64 v, .int .i64 y, .string pb] 30))
 have Ocn := Lib.hid (Oc7.out.alloc (.cells #[.int .i64 i, .int .i64 j, .int .i64 u, .int .i64 v, .int .i64 y, .string pb] 30))
 clear B7 Kl7 KR7 KP7 KO7 Kf7 Oc7
 obtain ⟨⟨cl0, cl1, cl2⟩, dl0, dl1, dl2⟩ := Kln.out.o3
 obtain ⟨⟨cR0, cR1, cR2⟩, dR0, dR1, dR2⟩ := KRn.out.o3
 obtain ⟨⟨cP0, cP1, cP2, cP3, cP4, cP5⟩, dP0, dP1, dP2, dP3, dP4, dP5⟩ := KPn.out.of6
 obtain ⟨⟨cO0, cO1, cO2⟩, dO0, dO1, dO2⟩ := KOn.out.o3
 obtain ⟨⟨cf0, cf1, cf2, cf3⟩, df0, df1, df2, df3⟩ := Kfn.out.four
 go_upto_region 12 with fail
 clear cl0 cl1 cl2 dl0 dl1 dl2 cR0 cR1 cR2 dR0 dR1 dR2 cP0 cP1 cP2 cP3 cP4 cP5 dP0 dP1 dP2 dP3 dP4 dP5 cO0 cO1 cO2 dO0 dO1 dO2 cf0 cf1 cf2 cf3 df0 df1 df2 df3
 generalize v7.alloc (.cells #[.int .i64 i, .int .i64 j, .int .i64 u, .int .i64 v, .int .i64 y, .string pb] 30) = v8 at Kpn Bn Kln KRn KPn KOn Kfn Ocn ⊢
 generalize v7.heap.size = g_p at Kpn l_p n_l_p n_R_p n_P_p n_O_p n_f_p n_c_p ⊢
 clear v7
 have Kl8 := Kln
 clear Kln
 have KR8 := KRn
 clear KRn
 have KP8 := KPn
 clear KPn
 have KO8 := KOn
 clear KOn
 have Kf8 := Kfn
 clear Kfn
 have Kp8 := Kpn
 clear Kpn
 have Oc8 := Ocn
 clear Ocn
 have B8 := Bn
 clear Bn
 obtain ⟨⟨cl0, cl1, cl2⟩, dl0, dl1, dl2⟩ := Kl8.out.o3
 obtain ⟨⟨cR0, cR1, cR2⟩, dR0, dR1, dR2⟩ := KR8.out.o3
 obtain ⟨⟨cP0, cP1, cP2, cP3, cP4, cP5⟩, dP0, dP1, dP2, dP3, dP4, dP5⟩ := KP8.out.of6
 obtain ⟨⟨cO0, cO1, cO2⟩, dO0, dO1, dO2⟩ := KO8.out.o3
 obtain ⟨⟨cf0, cf1, cf2, cf3⟩, df0, df1, df2, df3⟩ := Kf8.out.four
 obtain ⟨⟨cp0, cp1, cp2, cp3, cp4, cp5⟩, dp0, dp1, dp2, dp3, dp4, dp5⟩ := Kp8.out.of6
 go_wp2_with fail
 clear cl0 cl1 cl2 dl0 dl1 dl2 cR0 cR1 cR2 dR0 dR1 dR2 cP0 cP1 cP2 cP3 cP4 cP5 dP0 dP1 dP2 dP3 dP4 dP5 cO0 cO1 cO2 dO0 dO1 dO2 cf0 cf1 cf2 cf3 df0 df1 df2 df3 cp0 cp1 cp2 cp3 cp4 cp5 dp0 dp1 dp2 dp3 dp4 dp5
 refine (learnedN g_c 0 c_c rs i s _ (Row.ownK Oc8.out) hl.out hcc.out).mono ?_
 rintro e v9 ⟨g_o, c_o, rfl, ho_o, hb⟩
 have n_l_o : g_l ≠ g_o := by have h1 := Kl8.out.lt; have h2 := (ho_o.lt g_o rfl).1; omega
 have n_R_o : g_R ≠ g_o := by have h1 := KR8.out.lt; have h2 := (ho_o.lt g_o rfl).1; omega
 have n_P_o : g_P ≠ g_o := by have h1 := KP8.out.lt; have h2 := (ho_o.lt g_o rfl).1; omega
 have n_O_o : g_O ≠ g_o := by have h1 := KO8.out.lt; have h2 := (ho_o.lt g_o rfl).1; omega
 have n_f_o : g_f ≠ g_o := by have h1 := Kf8.out.lt; have h2 := (ho_o.lt g_o rfl).1; omega
 have n_p_o : g_p ≠ g_o := by have h1 := Kp8.out.lt; have h2 := (ho_o.lt g_o rfl).1; omega
 have n_c_o : g_c ≠ g_o := by have h1 := (Oc8.out.lt g_c rfl).2; have h2 := (ho_o.lt g_o rfl).1; omega
 have l_o : w.heap.size ≤ g_o := Nat.le_trans B8.out.size (ho_o.lt g_o rfl).1
 have B9 := Lib.hid (B8.out.trans (hb.mono B8.out.size))
 have Kl9 := Lib.hid (Kl8.out.below hb)
 have KR9 := Lib.hid (KR8.out.below hb)
 have KP9 := Lib.hid (KP8.out.below hb)
 have KO9 := Lib.hid (KO8.out.below hb)
 have Kf9 := Lib.hid (Kf8.out.below hb)
 have Kp9 := Lib.hid (Kp8.out.below hb)
 have Oc9 := Lib.hid (Oc8.out.kept (below_any (row := none) hb) (.inr (by simp [Value.ownBlock])))
 have Oo9 := Lib.hid (own_down ho_o (Nat.zero_le _))
 clear hb B8 Kl8 KR8 KP8 KO8 Kf8 Kp8 Oc8 ho_o
 obtain ⟨⟨cl0, cl1, cl2⟩, dl0, dl1, dl2⟩ := Kl9.out.o3
 obtain ⟨⟨cR0, cR1, cR2⟩, dR0, dR1, dR2⟩ := KR9.out.o3
 obtain ⟨⟨cP0, cP1, cP2, cP3, cP4, cP5⟩, dP0, dP1, dP2, dP3, dP4, dP5⟩ := KP9.out.of6
 obtain ⟨⟨cO0, cO1, cO2⟩, dO0, dO1, dO2⟩ := KO9.out.o3
 obtain ⟨⟨cf0, cf1, cf2, cf3⟩, df0, df1, df2, df3⟩ := Kf9.out.four
 obtain ⟨⟨cp0, cp1, cp2, cp3, cp4, cp5⟩, dp0, dp1, dp2, dp3, dp4, dp5⟩ := Kp9.out.of6
 have Kl10 := Lib.hid (show Blk (v9.setCell ⟨g_O, 2, none⟩ (.slice (some ⟨g_o, 0, none⟩) (learnE rs i s).length c_o)) g_l [.int .i64 m, .int .i64 ip, .slice (some ⟨b, off, none⟩) rs.length cap] from (Kl9.out.setOther ⟨g_O, 2, none⟩ (.slice (some ⟨g_o, 0, none⟩) (learnE rs i s).length c_o) (n_l_O)))
 have KR10 := Lib.hid (show Blk (v9.setCell ⟨g_O, 2, none⟩ (.slice (some ⟨g_o, 0, none⟩) (learnE rs i s).length c_o)) g_R [.int .i64 0, .int .i64 0, .slice none 0 0] from (KR9.out.setOther ⟨g_O, 2, none⟩ (.slice (some ⟨g_o, 0, none⟩) (learnE rs i s).length c_o) (n_R_O)))
 have KP10 := Lib.hid (show Blk (v9.setCell ⟨g_O, 2, none⟩ (.slice (some ⟨g_o, 0, none⟩) (learnE rs i s).length c_o)) g_P [.int .i64 0, .int .i64 0, .int .i64 0, .int .i64 0, .int .i64 0, .string ⟨#[]⟩] from (KP9.out.setOther ⟨g_O, 2, none⟩ (.slice (some ⟨g_o, 0, none⟩) (learnE rs i s).length c_o) (n_P_O)))
 have KO10 := Lib.hid (show Blk (v9.setCell ⟨g_O, 2, none⟩ (.slice (some ⟨g_o, 0, none⟩) (learnE rs i s).length c_o)) g_O [.int .i64 m, .int .i64 ip, .slice (some ⟨g_o, 0, none⟩) (learnE rs i s).length c_o] from (KO9.out.set 2 (.slice (some ⟨g_o, 0, none⟩) (learnE rs i s).length c_o)))
 have Kf10 := Lib.hid (show Blk (v9.setCell ⟨g_O, 2, none⟩ (.slice (some ⟨g_o, 0, none⟩) (learnE rs i s).length c_o)) g_f [.int .i64 d, .int .i64 s, .int .i64 t, .string fb] from (Kf9.out.setOther ⟨g_O, 2, none⟩ (.slice (some ⟨g_o, 0, none⟩) (learnE rs i s).length c_o) (fun e => n_O_f e.symm)))
 have Kp10 := Lib.hid (show Blk (v9.setCell ⟨g_O, 2, none⟩ (.slice (some ⟨g_o, 0, none⟩) (learnE rs i s).length c_o)) g_p [.int .i64 i, .int .i64 j, .int .i64 u, .int .i64 v, .int .i64 y, .string pb] from (Kp9.out.setOther ⟨g_O, 2, none⟩ (.slice (some ⟨g_o, 0, none⟩) (learnE rs i s).length c_o) (fun e => n_O_p e.symm)))
 have Oc10 := Lib.hid (own_set' Oc9.out 2 (.slice (some ⟨g_o, 0, none⟩) (learnE rs i s).length c_o) (fun e => n_c_O e.symm))
 have Oo10 := Lib.hid (own_set' Oo9.out 2 (.slice (some ⟨g_o, 0, none⟩) (learnE rs i s).length c_o) (n_O_o))
 have B10 := Lib.hid (show Below w.heap.size w (v9.setCell ⟨g_O, 2, none⟩ (.slice (some ⟨g_o, 0, none⟩) (learnE rs i s).length c_o)) from (B9.out.setCell l_O (.slice (some ⟨g_o, 0, none⟩) (learnE rs i s).length c_o)))
 clear B9
 go_upto_region 13 with fail
 clear Kl9 KR9 KP9 KO9 Kf9 Kp9 Oc9 Oo9
 clear cl0 cl1 cl2 dl0 dl1 dl2 cR0 cR1 cR2 dR0 dR1 dR2 cP0 cP1 cP2 cP3 cP4 cP5 dP0 dP1 dP2 dP3 dP4 dP5 cO0 cO1 cO2 dO0 dO1 dO2 cf0 cf1 cf2 cf3 df0 df1 df2 df3 cp0 cp1 cp2 cp3 cp4 cp5 dp0 dp1 dp2 dp3 dp4 dp5
 generalize v9.setCell ⟨g_O, 2, none⟩ (.slice (some ⟨g_o, 0, none⟩) (learnE rs i s).length c_o) = v10 at B10 Kl10 KR10 KP10 KO10 Kf10 Kp10 Oc10 Oo10 ⊢
 refine wp_region_noPanic ?_
 refine wp_region_held_drew (S := fun w' => Blk w' g_O [.int .i64 m, .int .i64 ip, .slice (some ⟨g_o, 0, none⟩) (learnE rs i s).length c_o] ∧ Blk w' g_p [.int .i64 i, .int .i64 j, .int .i64 u, .int .i64 v, .int .i64 y, .string pb]) (by kernel_rfl) ⟨KO10.out, Kp10.out⟩ (fun hS => ?_)
 refine wpAnyH_take (i := 0) (v := .agg #[.int .i64 m, .int .i64 ip, .slice (some ⟨g_o, 0, none⟩) (learnE rs i s).length c_o]) rfl (by kernel_rfl) (by kernel_rfl) (by kernel_rfl) (fun _ _ _ h => h) (Or.inl ⟨rfl, by intro w hS; obtain ⟨⟨h0, h1, h2⟩, _⟩ := hS.1.o3; go_simp⟩) hS ?_
 refine wpAnyH_take (i := 1) (v := .agg #[.int .i64 i, .int .i64 j, .int .i64 u, .int .i64 v, .int .i64 y, .string pb]) rfl (by kernel_rfl) (by kernel_rfl) (by kernel_rfl) (fun _ _ _ h => h) (Or.inl ⟨rfl, by intro w hS; obtain ⟨⟨h0, h1, h2, h3, h4, h5⟩, _⟩ := hS.2.of6; go_simp⟩) hS ?_
 obtain ⟨⟨cR0, cR1, cR2⟩, dR0, dR1, dR2⟩ := KR10.out.o3
 refine wpAnyH_ready (rs := [2]) (by kernel_rfl) (by simp) ?_
 refine AllReadyH.cons (i := 2) rfl (fun K hK => ?zr8) AllReadyH.nil
 rw [if_pos (by rfl)]
 go_simp
 clear hS
 have Kl11 := Lib.hid (show Blk ((((v10.setCell ⟨g_R, 0, none⟩ (.int .i64 m)).setCell ⟨g_R, 1, none⟩ (.int .i64 ip)).setCell ⟨g_R, 2, none⟩ (.slice (some ⟨g_o, 0, none⟩) (learnE rs i s).length c_o)).drew) g_l [.int .i64 m, .int .i64 ip, .slice (some ⟨b, off, none⟩) rs.length cap] from (((Kl10.out.setOther ⟨g_R, 0, none⟩ (.int .i64 m) (n_l_R)).setOther ⟨g_R, 1, none⟩ (.int .i64 ip) (n_l_R)).setOther ⟨g_R, 2, none⟩ (.slice (some ⟨g_o, 0, none⟩) (learnE rs i s).length c_o) (n_l_R)))
 have KR11 := Lib.hid (show Blk ((((v10.setCell ⟨g_R, 0, none⟩ (.int .i64 m)).setCell ⟨g_R, 1, none⟩ (.int .i64 ip)).setCell ⟨g_R, 2, none⟩ (.slice (some ⟨g_o, 0, none⟩) (learnE rs i s).length c_o)).drew) g_R [.int .i64 m, .int .i64 ip, .slice (some ⟨g_o, 0, none⟩) (learnE rs i s).length c_o] from (((KR10.out.set 0 (.int .i64 m)).set 1 (.int .i64 ip)).set 2 (.slice (some ⟨g_o, 0, none⟩) (learnE rs i s).length c_o)))
 have KP11 := Lib.hid (show Blk ((((v10.setCell ⟨g_R, 0, none⟩ (.int .i64 m)).setCell ⟨g_R, 1, none⟩ (.int .i64 ip)).setCell ⟨g_R, 2, none⟩ (.slice (some ⟨g_o, 0, none⟩) (learnE rs i s).length c_o)).drew) g_P [.int .i64 0, .int .i64 0, .int .i64 0, .int .i64 0, .int .i64 0, .string ⟨#[]⟩] from (((KP10.out.setOther ⟨g_R, 0, none⟩ (.int .i64 m) (fun e => n_R_P e.symm)).setOther ⟨g_R, 1, none⟩ (.int .i64 ip) (fun e => n_R_P e.symm)).setOther ⟨g_R, 2, none⟩ (.slice (some ⟨g_o, 0, none⟩) (learnE rs i s).length c_o) (fun e => n_R_P e.symm)))
 have KO11 := Lib.hid (show Blk ((((v10.setCell ⟨g_R, 0, none⟩ (.int .i64 m)).setCell ⟨g_R, 1, none⟩ (.int .i64 ip)).setCell ⟨g_R, 2, none⟩ (.slice (some ⟨g_o, 0, none⟩) (learnE rs i s).length c_o)).drew) g_O [.int .i64 m, .int .i64 ip, .slice (some ⟨g_o, 0, none⟩) (learnE rs i s).length c_o] from (((KO10.out.setOther ⟨g_R, 0, none⟩ (.int .i64 m) (fun e => n_R_O e.symm)).setOther ⟨g_R, 1, none⟩ (.int .i64 ip) (fun e => n_R_O e.symm)).setOther ⟨g_R, 2, none⟩ (.slice (some ⟨g_o, 0, none⟩) (learnE rs i s).length c_o) (fun e => n_R_O e.symm)))
 have Kf11 := Lib.hid (show Blk ((((v10.setCell ⟨g_R, 0, none⟩ (.int .i64 m)).setCell ⟨g_R, 1, none⟩ (.int .i64 ip)).setCell ⟨g_R, 2, none⟩ (.slice (some ⟨g_o, 0, none⟩) (learnE rs i s).length c_o)).drew) g_f [.int .i64 d, .int .i64 s, .int .i64 t, .string fb] from (((Kf10.out.setOther ⟨g_R, 0, none⟩ (.int .i64 m) (fun e => n_R_f e.symm)).setOther ⟨g_R, 1, none⟩ (.int .i64 ip) (fun e => n_R_f e.symm)).setOther ⟨g_R, 2, none⟩ (.slice (some ⟨g_o, 0, none⟩) (learnE rs i s).length c_o) (fun e => n_R_f e.symm)))
 have Kp11 := Lib.hid (show Blk ((((v10.setCell ⟨g_R, 0, none⟩ (.int .i64 m)).setCell ⟨g_R, 1, none⟩ (.int .i64 ip)).setCell ⟨g_R, 2, none⟩ (.slice (some ⟨g_o, 0, none⟩) (learnE rs i s).length c_o)).drew) g_p [.int .i64 i, .int .i64 j, .int .i64 u, .int .i64 v, .int .i64 y, .string pb] from (((Kp10.out.setOther ⟨g_R, 0, none⟩ (.int .i64 m) (fun e => n_R_p e.symm)).setOther ⟨g_R, 1, none⟩ (.int .i64 ip) (fun e => n_R_p e.symm)).setOther ⟨g_R, 2, none⟩ (.slice (some ⟨g_o, 0, none⟩) (learnE rs i s).length c_o) (fun e => n_R_p e.symm)))
 have B11 := Lib.hid (show Below w.heap.size w ((((v10.setCell ⟨g_R, 0, none⟩ (.int .i64 m)).setCell ⟨g_R, 1, none⟩ (.int .i64 ip)).setCell ⟨g_R, 2, none⟩ (.slice (some ⟨g_o, 0, none⟩) (learnE rs i s).length c_o)).drew) from (((B10.out.setCell l_R (.int .i64 m)).setCell l_R (.int .i64 ip)).setCell l_R (.slice (some ⟨g_o, 0, none⟩) (learnE rs i s).length c_o)).drew)
 have Oc11 := Lib.hid (own_drew (own_set' (own_set' (own_set' Oc10.out 0 (.int .i64 m) (n_R_c)) 1 (.int .i64 ip) (n_R_c)) 2 (.slice (some ⟨g_o, 0, none⟩) (learnE rs i s).length c_o) (n_R_c)))
 have Oo11 := Lib.hid (own_drew (own_set' (own_set' (own_set' Oo10.out 0 (.int .i64 m) (n_R_o)) 1 (.int .i64 ip) (n_R_o)) 2 (.slice (some ⟨g_o, 0, none⟩) (learnE rs i s).length c_o) (n_R_o)))
 refine hK.out _ _ ⟨KO11.out, Kp11.out⟩ (fun hS => ?_)
 clear hK K B10 cR0 cR1 cR2 dR0 dR1 dR2 Kl10 KR10 KP10 KO10 Kf10 Kp10 Oc10 Oo10
 generalize (((v10.setCell ⟨g_R, 0, none⟩ (.int .i64 m)).setCell ⟨g_R, 1, none⟩ (.int .i64 ip)).setCell ⟨g_R, 2, none⟩ (.slice (some ⟨g_o, 0, none⟩) (learnE rs i s).length c_o)).drew = v11 at hS Kl11 KR11 KP11 KO11 Kf11 Kp11 Oc11 Oo11 B11 ⊢
 refine wpAnyH_take (i := 3) (v := .int .i64 2) rfl (by kernel_rfl) (by kernel_rfl) (by kernel_rfl) (fun _ _ _ h => h) (Or.inl ⟨rfl, by intro w hS; go_simp⟩) hS ?_
 obtain ⟨⟨cP0, cP1, cP2, cP3, cP4, cP5⟩, dP0, dP1, dP2, dP3, dP4, dP5⟩ := KP11.out.of6
 refine wpAnyH_ready (rs := [4]) (by kernel_rfl) (by simp) ?_
 refine AllReadyH.cons (i := 4) rfl (fun K hK => ?zr9) AllReadyH.nil
 rw [if_pos (by rfl)]
 go_simp
 clear hS
 have Kl12 := Lib.hid (show Blk ((((((v11.setCell ⟨g_P, 0, none⟩ (.int .i64 i)).setCell ⟨g_P, 1, none⟩ (.int .i64 j)).setCell ⟨g_P, 2, none⟩ (.int .i64 u)).setCell ⟨g_P, 3, none⟩ (.int .i64 v)).setCell ⟨g_P, 4, none⟩ (.int .i64 y)).setCell ⟨g_P, 5, none⟩ (.string pb)) g_l [.int .i64 m, .int .i64 ip, .slice (some ⟨b, off, none⟩) rs.length cap] from ((((((Kl11.out.setOther ⟨g_P, 0, none⟩ (.int .i64 i) (n_l_P)).setOther ⟨g_P, 1, none⟩ (.int .i64 j) (n_l_P)).setOther ⟨g_P, 2, none⟩ (.int .i64 u) (n_l_P)).setOther ⟨g_P, 3, none⟩ (.int .i64 v) (n_l_P)).setOther ⟨g_P, 4, none⟩ (.int .i64 y) (n_l_P)).setOther ⟨g_P, 5, none⟩ (.string pb) (n_l_P)))
 have KR12 := Lib.hid (show Blk ((((((v11.setCell ⟨g_P, 0, none⟩ (.int .i64 i)).setCell ⟨g_P, 1, none⟩ (.int .i64 j)).setCell ⟨g_P, 2, none⟩ (.int .i64 u)).setCell ⟨g_P, 3, none⟩ (.int .i64 v)).setCell ⟨g_P, 4, none⟩ (.int .i64 y)).setCell ⟨g_P, 5, none⟩ (.string pb)) g_R [.int .i64 m, .int .i64 ip, .slice (some ⟨g_o, 0, none⟩) (learnE rs i s).length c_o] from ((((((KR11.out.setOther ⟨g_P, 0, none⟩ (.int .i64 i) (n_R_P)).setOther ⟨g_P, 1, none⟩ (.int .i64 j) (n_R_P)).setOther ⟨g_P, 2, none⟩ (.int .i64 u) (n_R_P)).setOther ⟨g_P, 3, none⟩ (.int .i64 v) (n_R_P)).setOther ⟨g_P, 4, none⟩ (.int .i64 y) (n_R_P)).setOther ⟨g_P, 5, none⟩ (.string pb) (n_R_P)))
 have KP12 := Lib.hid (show Blk ((((((v11.setCell ⟨g_P, 0, none⟩ (.int .i64 i)).setCell ⟨g_P, 1, none⟩ (.int .i64 j)).setCell ⟨g_P, 2, none⟩ (.int .i64 u)).setCell ⟨g_P, 3, none⟩ (.int .i64 v)).setCell ⟨g_P, 4, none⟩ (.int .i64 y)).setCell ⟨g_P, 5, none⟩ (.string pb)) g_P [.int .i64 i, .int .i64 j, .int .i64 u, .int .i64 v, .int .i64 y, .string pb] from ((((((KP11.out.set 0 (.int .i64 i)).set 1 (.int .i64 j)).set 2 (.int .i64 u)).set 3 (.int .i64 v)).set 4 (.int .i64 y)).set 5 (.string pb)))
 have KO12 := Lib.hid (show Blk ((((((v11.setCell ⟨g_P, 0, none⟩ (.int .i64 i)).setCell ⟨g_P, 1, none⟩ (.int .i64 j)).setCell ⟨g_P, 2, none⟩ (.int .i64 u)).setCell ⟨g_P, 3, none⟩ (.int .i64 v)).setCell ⟨g_P, 4, none⟩ (.int .i64 y)).setCell ⟨g_P, 5, none⟩ (.string pb)) g_O [.int .i64 m, .int .i64 ip, .slice (some ⟨g_o, 0, none⟩) (learnE rs i s).length c_o] from ((((((KO11.out.setOther ⟨g_P, 0, none⟩ (.int .i64 i) (fun e => n_P_O e.symm)).setOther ⟨g_P, 1, none⟩ (.int .i64 j) (fun e => n_P_O e.symm)).setOther ⟨g_P, 2, none⟩ (.int .i64 u) (fun e => n_P_O e.symm)).setOther ⟨g_P, 3, none⟩ (.int .i64 v) (fun e => n_P_O e.symm)).setOther ⟨g_P, 4, none⟩ (.int .i64 y) (fun e => n_P_O e.symm)).setOther ⟨g_P, 5, none⟩ (.string pb) (fun e => n_P_O e.symm)))
 have Kf12 := Lib.hid (show Blk ((((((v11.setCell ⟨g_P, 0, none⟩ (.int .i64 i)).setCell ⟨g_P, 1, none⟩ (.int .i64 j)).setCell ⟨g_P, 2, none⟩ (.int .i64 u)).setCell ⟨g_P, 3, none⟩ (.int .i64 v)).setCell ⟨g_P, 4, none⟩ (.int .i64 y)).setCell ⟨g_P, 5, none⟩ (.string pb)) g_f [.int .i64 d, .int .i64 s, .int .i64 t, .string fb] from ((((((Kf11.out.setOther ⟨g_P, 0, none⟩ (.int .i64 i) (fun e => n_P_f e.symm)).setOther ⟨g_P, 1, none⟩ (.int .i64 j) (fun e => n_P_f e.symm)).setOther ⟨g_P, 2, none⟩ (.int .i64 u) (fun e => n_P_f e.symm)).setOther ⟨g_P, 3, none⟩ (.int .i64 v) (fun e => n_P_f e.symm)).setOther ⟨g_P, 4, none⟩ (.int .i64 y) (fun e => n_P_f e.symm)).setOther ⟨g_P, 5, none⟩ (.string pb) (fun e => n_P_f e.symm)))
 have Kp12 := Lib.hid (show Blk ((((((v11.setCell ⟨g_P, 0, none⟩ (.int .i64 i)).setCell ⟨g_P, 1, none⟩ (.int .i64 j)).setCell ⟨g_P, 2, none⟩ (.int .i64 u)).setCell ⟨g_P, 3, none⟩ (.int .i64 v)).setCell ⟨g_P, 4, none⟩ (.int .i64 y)).setCell ⟨g_P, 5, none⟩ (.string pb)) g_p [.int .i64 i, .int .i64 j, .int .i64 u, .int .i64 v, .int .i64 y, .string pb] from ((((((Kp11.out.setOther ⟨g_P, 0, none⟩ (.int .i64 i) (fun e => n_P_p e.symm)).setOther ⟨g_P, 1, none⟩ (.int .i64 j) (fun e => n_P_p e.symm)).setOther ⟨g_P, 2, none⟩ (.int .i64 u) (fun e => n_P_p e.symm)).setOther ⟨g_P, 3, none⟩ (.int .i64 v) (fun e => n_P_p e.symm)).setOther ⟨g_P, 4, none⟩ (.int .i64 y) (fun e => n_P_p e.symm)).setOther ⟨g_P, 5, none⟩ (.string pb) (fun e => n_P_p e.symm)))
 have B12 := Lib.hid (show Below w.heap.size w ((((((v11.setCell ⟨g_P, 0, none⟩ (.int .i64 i)).setCell ⟨g_P, 1, none⟩ (.int .i64 j)).setCell ⟨g_P, 2, none⟩ (.int .i64 u)).setCell ⟨g_P, 3, none⟩ (.int .i64 v)).setCell ⟨g_P, 4, none⟩ (.int .i64 y)).setCell ⟨g_P, 5, none⟩ (.string pb)) from ((((((B11.out.setCell l_P (.int .i64 i)).setCell l_P (.int .i64 j)).setCell l_P (.int .i64 u)).setCell l_P (.int .i64 v)).setCell l_P (.int .i64 y)).setCell l_P (.string pb)))
 have Oc12 := Lib.hid (own_set' (own_set' (own_set' (own_set' (own_set' (own_set' Oc11.out 0 (.int .i64 i) (n_P_c)) 1 (.int .i64 j) (n_P_c)) 2 (.int .i64 u) (n_P_c)) 3 (.int .i64 v) (n_P_c)) 4 (.int .i64 y) (n_P_c)) 5 (.string pb) (n_P_c))
 have Oo12 := Lib.hid (own_set' (own_set' (own_set' (own_set' (own_set' (own_set' Oo11.out 0 (.int .i64 i) (n_P_o)) 1 (.int .i64 j) (n_P_o)) 2 (.int .i64 u) (n_P_o)) 3 (.int .i64 v) (n_P_o)) 4 (.int .i64 y) (n_P_o)) 5 (.string pb) (n_P_o))
 refine hK.out _ _ ⟨KO12.out, Kp12.out⟩ (fun hS => ?_)
 clear hK K B11 cP0 cP1 cP2 cP3 cP4 cP5 dP0 dP1 dP2 dP3 dP4 dP5 Kl11 KR11 KP11 KO11 Kf11 Kp11 Oc11 Oo11
 generalize (((((v11.setCell ⟨g_P, 0, none⟩ (.int .i64 i)).setCell ⟨g_P, 1, none⟩ (.int .i64 j)).setCell ⟨g_P, 2, none⟩ (.int .i64 u)).setCell ⟨g_P, 3, none⟩ (.int .i64 v)).setCell ⟨g_P, 4, none⟩ (.int .i64 y)).setCell ⟨g_P, 5, none⟩ (.string pb) = v12 at hS Kl12 KR12 KP12 KO12 Kf12 Kp12 Oc12 Oo12 B12 ⊢
 refine wpAnyH_take (i := 5) (v := .string ⟨#[]⟩) rfl (by kernel_rfl) (by kernel_rfl) (by kernel_rfl) (fun _ _ _ h => h) (Or.inl ⟨rfl, by intro w hS; go_simp⟩) hS ?_
 refine wpAnyH_done (by kernel_rfl) ?_ _
 refine NoPanic.normal ?_
 obtain ⟨⟨cl0, cl1, cl2⟩, dl0, dl1, dl2⟩ := Kl12.out.o3
 obtain ⟨⟨cR0, cR1, cR2⟩, dR0, dR1, dR2⟩ := KR12.out.o3
 obtain ⟨⟨cP0, cP1, cP2, cP3, cP4, cP5⟩, dP0, dP1, dP2, dP3, dP4, dP5⟩ := KP12.out.of6
 obtain ⟨⟨cO0, cO1, cO2⟩, dO0, dO1, dO2⟩ := KO12.out.o3
 obtain ⟨⟨cf0, cf1, cf2, cf3⟩, df0, df1, df2, df3⟩ := Kf12.out.four
 obtain ⟨⟨cp0, cp1, cp2, cp3, cp4, cp5⟩, dp0, dp1, dp2, dp3, dp4, dp5⟩ := Kp12.out.of6
 go_wp2_with fail
 refine bodyPost_ret (v := .tuple #[.agg #[.int .i64 m, .int .i64 ip, .slice (some ⟨g_o, 0, none⟩) (learnE rs i s).length c_o], .int .i64 2, .agg #[.int .i64 i, .int .i64 j, .int .i64 u, .int .i64 v, .int .i64 y, .string pb], .string ⟨#[]⟩]) (by simp [results, Tryz.results9, go_sem, cR0, cR1, cR2, cP0, cP1, cP2, cP3, cP4, cP5]) rfl ⟨g_o, c_o, rfl, own_up Oo12.out l_o, B12.out⟩
end Go.Proofs.YtkkimgjcefojdaaGreatDoor
namespace Go.Proofs.YtkkimgjcefojdaaGreatDoor
open Go.RowKit Go.Lib


set_option maxRecDepth 100000 in
set_option maxHeartbeats 1000000 in
theorem linkInS (m ip : Int) (b off cap : Nat) (rs : List ER) (raw : ByteArray) (w : World) (hrow : Row w w.heap.size (some ⟨b, off, none⟩) (ers rs)) (hcap : rs.length ≤ cap) (hl : rs.length ≤ 1048577) (hs : raw.size ≤ 1048576) :
  Calls Tryz.prog 9 #[.agg #[.int .i64 m, .int .i64 ip, .slice (some ⟨b, off, none⟩) rs.length cap], .string raw] w (LinkEndS m ip (arrOf m ip rs raw) rs w) := by
 unfold arrOf
 cases hy : linkOk m ip rs with
 | false => rw [if_neg (by decide)]; exact linkInS_bad m ip b off cap rs raw w hrow hcap hl hs hy
 | true =>
  rw [if_pos rfl]
  cases hk : rfOk raw with
  | false => rw [if_neg (by decide)]; exact linkInS_text m ip b off cap rs raw w hrow hcap hl hs hy hk
  | true =>
   rw [if_pos rfl]
   cases hz : forMe (rfD raw) m with
   | false => rw [if_neg (by decide)]; exact linkInS_other m ip b off cap rs raw w hrow hcap hl hs hy hk hz
   | true =>
    rw [if_pos rfl]
    unfold frmIn
    by_cases ht : rfT raw = 2054
    ·rw [if_pos ht]
     cases hO : arpIn m ip (rfB raw) with
     | none => exact linkInS_arp_no m ip b off cap rs raw w hrow hcap hl hs hy hk hz ht hO
     | some o => exact linkInS_arp_yes m ip b off cap rs raw w hrow hcap hl hs hy hk hz ht o hO
    ·rw [if_neg ht]
     by_cases hu : rfT raw = 2048
     ·rw [if_pos hu]
      unfold pkIn pkMsg
      by_cases h0 : pkWhy (rfB raw) = 0
      ·rw [if_pos h0]
       by_cases hd : rkD (rfB raw) = ip
       ·rw [if_pos hd]
        by_cases hp : rkP (rfB raw) = 6
        ·rw [if_pos hp]
         by_cases hi : rkS (rfB raw) = ip
         ·rw [if_pos hi]; exact linkInS_pk3 m ip b off cap rs raw w hrow hcap hl hs hy hk hz hu h0 hd hp hi
         ·rw [if_neg hi]; exact linkInS_pk4 m ip b off cap rs raw w hrow hcap hl hs hy hk hz hu h0 hd hp hi
        ·rw [if_neg hp]; exact linkInS_pk2 m ip b off cap rs raw w hrow hcap hl hs hy hk hz hu h0 hd hp
       ·rw [if_neg hd]; exact linkInS_pk1 m ip b off cap rs raw w hrow hcap hl hs hy hk hz hu h0 hd
      ·rw [if_neg h0]; exact linkInS_pk0 m ip b off cap rs raw w hrow hcap hl hs hy hk hz hu h0
     ·rw [if_neg hu]; exact linkInS_type m ip b off cap rs raw w hrow hcap hl hs hy hk hz ht hu
end Go.Proofs.YtkkimgjcefojdaaGreatDoor
