/- Texts of a proof that belong together, joined. Nothing here is a claim. -/
import Derived.Test.YtkkimgjcefojdaaGreatDoorPkLk21
namespace Go.Proofs.YtkkimgjcefojdaaGreatDoor
open Go.RowKit Go.Lib


set_option maxRecDepth 100000 in
set_option maxHeartbeats 8000000 in
theorem linkInS_arp_no (m ip : Int) (b off cap : Nat) (rs : List ER) (raw : ByteArray) (w : World) (hrow : Row w w.heap.size (some ⟨b, off, none⟩) (ers rs)) (hcap : rs.length ≤ cap) (hl : rs.length ≤ 1048577) (hs : raw.size ≤ 1048576) (hy : linkOk m ip rs = true) (hk : rfOk raw = true) (hz : forMe (rfD raw) m = true) (ht : rfT raw = 2054) (hO : arpIn m ip (rfB raw) = none) :
  Calls Tryz.prog 9 #[.agg #[.int .i64 m, .int .i64 ip, .slice (some ⟨b, off, none⟩) rs.length cap], .string raw] w (LinkEndS m ip (none) rs w) := by
 have C0 := Lib.hid (fun w h => copyS m ip b off cap rs w h hl)
 have C1 := Lib.hid (fun w => readFrameS raw w hs)
 have C2 := Lib.hid (fun w h => linkOkS m ip (some ⟨b, off, none⟩) cap rs w h hl hcap)
 have C3 := Lib.hid (fun w => forMeS (rfD raw) (rfS raw) (rfT raw) m (rfB raw) w)
 have CA := Lib.hid (fun g cap w h hc => l16ArpS m ip g cap rs (rfD raw) (rfS raw) (rfT raw) (rfB raw) w h hc hl (Nat.le_trans (rfB_le raw) hs))
 have HR := Lib.hid hrow
 replace hl := Lib.hid hl
 clear hrow hs hcap
 unfold rfV at C1
 generalize rfD raw = d at C1 C3 CA hz
 generalize rfS raw = s at C1 C3 CA
 generalize rfT raw = t at C1 C3 CA ht
 generalize rfB raw = fb at C1 C3 CA hO ⊢
 rw [hy] at C2
 rw [hk] at C1
 clear hy hk
 rw [hz] at C3
 clear hz
 have ht' : (t == 2054) = true := by simpa using ht
 clear ht
 go_enter Tryz.func9, Tryz.ntmps9
 have B0 := Lib.hid (show Below w.heap.size w (((w.alloc (.cells #[.int .i64 m, .int .i64 ip, .slice (some ⟨b, off, none⟩) rs.length cap] 26)).alloc (.cells #[.int .i64 0, .int .i64 0, .slice none 0 0] 26)).alloc (.cells #[.int .i64 0, .int .i64 0, .int .i64 0, .int .i64 0, .int .i64 0, .string ⟨#[]⟩] 30)) from ((((Below.refl _ w).alloc (by simp) _).alloc (by simp) _).alloc (by simp; omega) _))
 have Kl0 := Lib.hid (show Blk (((w.alloc (.cells #[.int .i64 m, .int .i64 ip, .slice (some ⟨b, off, none⟩) rs.length cap] 26)).alloc (.cells #[.int .i64 0, .int .i64 0, .slice none 0 0] 26)).alloc (.cells #[.int .i64 0, .int .i64 0, .int .i64 0, .int .i64 0, .int .i64 0, .string ⟨#[]⟩] 30)) (w.heap.size) [.int .i64 m, .int .i64 ip, .slice (some ⟨b, off, none⟩) rs.length cap] from ((Blk.new w [.int .i64 m, .int .i64 ip, .slice (some ⟨b, off, none⟩) rs.length cap] 26).alloc (.cells #[.int .i64 0, .int .i64 0, .slice none 0 0] 26)).alloc (.cells #[.int .i64 0, .int .i64 0, .int .i64 0, .int .i64 0, .int .i64 0, .string ⟨#[]⟩] 30))
 have s1 : (w.alloc (.cells #[.int .i64 m, .int .i64 ip, .slice (some ⟨b, off, none⟩) rs.length cap] 26)).heap.size = w.heap.size + 1 := by simp
 have KR0 := Lib.hid (show Blk (((w.alloc (.cells #[.int .i64 m, .int .i64 ip, .slice (some ⟨b, off, none⟩) rs.length cap] 26)).alloc (.cells #[.int .i64 0, .int .i64 0, .slice none 0 0] 26)).alloc (.cells #[.int .i64 0, .int .i64 0, .int .i64 0, .int .i64 0, .int .i64 0, .string ⟨#[]⟩] 30)) (w.heap.size + 1) [.int .i64 0, .int .i64 0, .slice none 0 0] by have h0 := (Blk.new (w.alloc (.cells #[.int .i64 m, .int .i64 ip, .slice (some ⟨b, off, none⟩) rs.length cap] 26)) [.int .i64 0, .int .i64 0, .slice none 0 0] 26).alloc (.cells #[.int .i64 0, .int .i64 0, .int .i64 0, .int .i64 0, .int .i64 0, .string ⟨#[]⟩] 30); rwa [s1] at h0)
 have n_l_R : w.heap.size ≠ w.heap.size + 1 := by omega
 have s2 : ((w.alloc (.cells #[.int .i64 m, .int .i64 ip, .slice (some ⟨b, off, none⟩) rs.length cap] 26)).alloc (.cells #[.int .i64 0, .int .i64 0, .slice none 0 0] 26)).heap.size = w.heap.size + 1 + 1 := by simp
 have KP0 := Lib.hid (show Blk (((w.alloc (.cells #[.int .i64 m, .int .i64 ip, .slice (some ⟨b, off, none⟩) rs.length cap] 26)).alloc (.cells #[.int .i64 0, .int .i64 0, .slice none 0 0] 26)).alloc (.cells #[.int .i64 0, .int .i64 0, .int .i64 0, .int .i64 0, .int .i64 0, .string ⟨#[]⟩] 30)) (w.heap.size + 1 + 1) [.int .i64 0, .int .i64 0, .int .i64 0, .int .i64 0, .int .i64 0, .string ⟨#[]⟩] by have h0 := Blk.new ((w.alloc (.cells #[.int .i64 m, .int .i64 ip, .slice (some ⟨b, off, none⟩) rs.length cap] 26)).alloc (.cells #[.int .i64 0, .int .i64 0, .slice none 0 0] 26)) [.int .i64 0, .int .i64 0, .int .i64 0, .int .i64 0, .int .i64 0, .string ⟨#[]⟩] 30; rwa [s2] at h0)
 have n_l_P : w.heap.size ≠ w.heap.size + 1 + 1 := by omega
 have n_R_P : w.heap.size + 1 ≠ w.heap.size + 1 + 1 := by omega
 clear s1 s2
 go_wp2_with fail
 change Calls _ _ _ (((w.alloc (.cells #[.int .i64 m, .int .i64 ip, .slice (some ⟨b, off, none⟩) rs.length cap] 26)).alloc (.cells #[.int .i64 0, .int .i64 0, .slice none 0 0] 26)).alloc (.cells #[.int .i64 0, .int .i64 0, .int .i64 0, .int .i64 0, .int .i64 0, .string ⟨#[]⟩] 30)) _
 generalize ((w.alloc (.cells #[.int .i64 m, .int .i64 ip, .slice (some ⟨b, off, none⟩) rs.length cap] 26)).alloc (.cells #[.int .i64 0, .int .i64 0, .slice none 0 0] 26)).alloc (.cells #[.int .i64 0, .int .i64 0, .int .i64 0, .int .i64 0, .int .i64 0, .string ⟨#[]⟩] 30) = v0 at B0 Kl0 KR0 KP0 ⊢
 generalize hh_P : w.heap.size + 1 + 1 = g_P at KP0 n_l_P n_R_P ⊢
 generalize hh_R : w.heap.size + 1 = g_R at KR0 n_l_R n_R_P ⊢
 generalize hh_l : w.heap.size = g_l at Kl0 n_l_R n_l_P ⊢
 have l_l : w.heap.size ≤ g_l := by omega
 have l_R : w.heap.size ≤ g_R := by omega
 have l_P : w.heap.size ≤ g_P := by omega
 clear hh_l hh_R hh_P
 refine (C0.out _ ((HR.out.below B0.out).mono B0.out.size)).mono ?_
 rintro e v1 ⟨g_c, c_c, rfl, ho_c, hb⟩
 have hcc := Lib.hid (own_cap ho_c).1
 have n_l_c : g_l ≠ g_c := by have h1 := Kl0.out.lt; have h2 := (ho_c.lt g_c rfl).1; omega
 have n_R_c : g_R ≠ g_c := by have h1 := KR0.out.lt; have h2 := (ho_c.lt g_c rfl).1; omega
 have n_P_c : g_P ≠ g_c := by have h1 := KP0.out.lt; have h2 := (ho_c.lt g_c rfl).1; omega
 have l_c : w.heap.size ≤ g_c := Nat.le_trans B0.out.size (ho_c.lt g_c rfl).1
 have B1 := Lib.hid (B0.out.trans (hb.mono B0.out.size))
 have Kl1 := Lib.hid (Kl0.out.below hb)
 have KR1 := Lib.hid (KR0.out.below hb)
 have KP1 := Lib.hid (KP0.out.below hb)
 have Oc1 := Lib.hid (own_down ho_c (Nat.zero_le _))
 clear hb B0 Kl0 KR0 KP0 ho_c
 have KOn := Lib.hid (Blk.new v1 [.int .i64 m, .int .i64 ip, .slice (some ⟨g_c, 0, none⟩) rs.length c_c] 26)
 have l_O : w.heap.size ≤ v1.heap.size := B1.out.size
 have n_l_O : g_l ≠ v1.heap.size := by have h1 := Kl1.out.lt; omega
 have n_R_O : g_R ≠ v1.heap.size := by have h1 := KR1.out.lt; omega
 have n_P_O : g_P ≠ v1.heap.size := by have h1 := KP1.out.lt; omega
 have n_c_O : g_c ≠ v1.heap.size := by have h1 := (Oc1.out.lt g_c rfl).2; omega
 have Bn := Lib.hid (B1.out.alloc B1.out.size (.cells #[.int .i64 m, .int .i64 ip, .slice (some ⟨g_c, 0, none⟩) rs.length c_c] 26))
 have Kln := Lib.hid (Kl1.out.alloc (.cells #[.int .i64 m, .int .i64 ip, .slice (some ⟨g_c, 0, none⟩) rs.length c_c] 26))
 have KRn := Lib.hid (KR1.out.alloc (.cells #[.int .i64 m, .int .i64 ip, .slice (some ⟨g_c, 0, none⟩) rs.length c_c] 26))
 have KPn := Lib.hid (KP1.out.alloc (.cells #[.int .i64 m, .int .i64 ip, .slice (some ⟨g_c, 0, none⟩) rs.length c_c] 26))
 have Ocn := Lib.hid (Oc1.out.alloc (.cells #[.int .i64 m, .int .i64 ip, .slice (some ⟨g_c, 0, none⟩) rs.length c_c] 26))
 clear B1 Kl1 KR1 KP1 Oc1
 obtain ⟨⟨cl0, cl1, cl2⟩, dl0, dl1, dl2⟩ := Kln.out.o3
 obtain ⟨⟨cR0, cR1, cR2⟩, dR0, dR1, dR2⟩ := KRn.out.o3
 obtain ⟨⟨cP0, cP1, cP2, cP3, cP4, cP5⟩, dP0, dP1, dP2, dP3, dP4, dP5⟩ := KPn.out.of6
 go_wp2_with fail
 clear cl0 cl1 cl2 dl0 dl1 dl2 cR0 cR1 cR2 dR0 dR1 dR2 cP0 cP1 cP2 cP3 cP4 cP5 dP0 dP1 dP2 dP3 dP4 dP5
 change Calls _ _ _ (v1.alloc (.cells #[.int .i64 m, .int .i64 ip, .slice (some ⟨g_c, 0, none⟩) rs.length c_c] 26)) _
 generalize v1.alloc (.cells #[.int .i64 m, .int .i64 ip, .slice (some ⟨g_c, 0, none⟩) rs.length c_c] 26) = v2 at KOn Bn Kln KRn KPn Ocn ⊢
 generalize v1.heap.size = g_O at KOn l_O n_l_O n_R_O n_P_O n_c_O ⊢
 clear v1
 have Kl2 := Kln
 clear Kln
 have KR2 := KRn
 clear KRn
 have KP2 := KPn
 clear KPn
 have KO2 := KOn
 clear KOn
 have Oc2 := Ocn
 clear Ocn
 have B2 := Bn
 clear Bn
 refine (C1.out _).mono ?_
 rintro e v3 ⟨rfl, hb⟩
 have B3 := Lib.hid (B2.out.trans (hb.mono B2.out.size))
 have Kl3 := Lib.hid (Kl2.out.below hb)
 have KR3 := Lib.hid (KR2.out.below hb)
 have KP3 := Lib.hid (KP2.out.below hb)
 have KO3 := Lib.hid (KO2.out.below hb)
 have Oc3 := Lib.hid (Oc2.out.kept (below_any (row := none) hb) (.inr (by simp [Value.ownBlock])))
 clear hb B2 Kl2 KR2 KP2 KO2 Oc2
 have Kfn := Lib.hid (Blk.new v3 [.int .i64 d, .int .i64 s, .int .i64 t, .string fb] 38)
 have l_f : w.heap.size ≤ v3.heap.size := B3.out.size
 have n_l_f : g_l ≠ v3.heap.size := by have h1 := Kl3.out.lt; omega
 have n_R_f : g_R ≠ v3.heap.size := by have h1 := KR3.out.lt; omega
 have n_P_f : g_P ≠ v3.heap.size := by have h1 := KP3.out.lt; omega
 have n_O_f : g_O ≠ v3.heap.size := by have h1 := KO3.out.lt; omega
 have n_c_f : g_c ≠ v3.heap.size := by have h1 := (Oc3.out.lt g_c rfl).2; omega
 have Bn := Lib.hid (B3.out.alloc B3.out.size (.cells #[.int .i64 d, .int .i64 s, .int .i64 t, .string fb] 38))
 have Kln := Lib.hid (Kl3.out.alloc (.cells #[.int .i64 d, .int .i64 s, .int .i64 t, .string fb] 38))
 have KRn := Lib.hid (KR3.out.alloc (.cells #[.int .i64 d, .int .i64 s, .int .i64 t, .string fb] 38))
 have KPn := Lib.hid (KP3.out.alloc (.cells #[.int .i64 d, .int .i64 s, .int .i64 t, .string fb] 38))
 have KOn := Lib.hid (KO3.out.alloc (.cells #[.int .i64 d, .int .i64 s, .int .i64 t, .string fb] 38))
 have Ocn := Lib.hid (Oc3.out.alloc (.cells #[.int .i64 d, .int .i64 s, .int .i64 t, .string fb] 38))
 clear B3 Kl3 KR3 KP3 KO3 Oc3
 obtain ⟨⟨cl0, cl1, cl2⟩, dl0, dl1, dl2⟩ := Kln.out.o3
 obtain ⟨⟨cR0, cR1, cR2⟩, dR0, dR1, dR2⟩ := KRn.out.o3
 obtain ⟨⟨cP0, cP1, cP2, cP3, cP4, cP5⟩, dP0, dP1, dP2, dP3, dP4, dP5⟩ := KPn.out.of6
 obtain ⟨⟨cO0, cO1, cO2⟩, dO0, dO1, dO2⟩ := KOn.out.o3
 go_wp2_with fail
 clear cl0 cl1 cl2 dl0 dl1 dl2 cR0 cR1 cR2 dR0 dR1 dR2 cP0 cP1 cP2 cP3 cP4 cP5 dP0 dP1 dP2 dP3 dP4 dP5 cO0 cO1 cO2 dO0 dO1 dO2
 change Calls _ _ _ (v3.alloc (.cells #[.int .i64 d, .int .i64 s, .int .i64 t, .string fb] 38)) _
 generalize v3.alloc (.cells #[.int .i64 d, .int .i64 s, .int .i64 t, .string fb] 38) = v4 at Kfn Bn Kln KRn KPn KOn Ocn ⊢
 generalize v3.heap.size = g_f at Kfn l_f n_l_f n_R_f n_P_f n_O_f n_c_f ⊢
 clear v3
 have Kl4 := Kln
 clear Kln
 have KR4 := KRn
 clear KRn
 have KP4 := KPn
 clear KPn
 have KO4 := KOn
 clear KOn
 have Kf4 := Kfn
 clear Kfn
 have Oc4 := Ocn
 clear Ocn
 have B4 := Bn
 clear Bn
 refine (C2.out _ ((HR.out.below B4.out).mono B4.out.size)).mono ?_
 rintro e v5 ⟨rfl, hb⟩
 have B5 := Lib.hid (B4.out.trans (hb.mono B4.out.size))
 have Kl5 := Lib.hid (Kl4.out.below hb)
 have KR5 := Lib.hid (KR4.out.below hb)
 have KP5 := Lib.hid (KP4.out.below hb)
 have KO5 := Lib.hid (KO4.out.below hb)
 have Kf5 := Lib.hid (Kf4.out.below hb)
 have Oc5 := Lib.hid (Oc4.out.kept (below_any (row := none) hb) (.inr (by simp [Value.ownBlock])))
 clear hb B4 Kl4 KR4 KP4 KO4 Kf4 Oc4
 obtain ⟨⟨cl0, cl1, cl2⟩, dl0, dl1, dl2⟩ := Kl5.out.o3
 obtain ⟨⟨cR0, cR1, cR2⟩, dR0, dR1, dR2⟩ := KR5.out.o3
 obtain ⟨⟨cP0, cP1, cP2, cP3, cP4, cP5⟩, dP0, dP1, dP2, dP3, dP4, dP5⟩ := KP5.out.of6
 obtain ⟨⟨cO0, cO1, cO2⟩, dO0, dO1, dO2⟩ := KO5.out.o3
 obtain ⟨⟨cf0, cf1, cf2, cf3⟩, df0, df1, df2, df3⟩ := Kf5.out.four
 go_wp2_with fail
 clear cl0 cl1 cl2 dl0 dl1 dl2 cR0 cR1 cR2 dR0 dR1 dR2 cP0 cP1 cP2 cP3 cP4 cP5 dP0 dP1 dP2 dP3 dP4 dP5 cO0 cO1 cO2 dO0 dO1 dO2 cf0 cf1 cf2 cf3 df0 df1 df2 df3
 refine (C3.out _).mono ?_
 rintro e v6 ⟨rfl, hb⟩
 have B6 := Lib.hid (B5.out.trans (hb.mono B5.out.size))
 have Kl6 := Lib.hid (Kl5.out.below hb)
 have KR6 := Lib.hid (KR5.out.below hb)
 have KP6 := Lib.hid (KP5.out.below hb)
 have KO6 := Lib.hid (KO5.out.below hb)
 have Kf6 := Lib.hid (Kf5.out.below hb)
 have Oc6 := Lib.hid (Oc5.out.kept (below_any (row := none) hb) (.inr (by simp [Value.ownBlock])))
 clear hb B5 Kl5 KR5 KP5 KO5 Kf5 Oc5
 obtain ⟨⟨cl0, cl1, cl2⟩, dl0, dl1, dl2⟩ := Kl6.out.o3
 obtain ⟨⟨cR0, cR1, cR2⟩, dR0, dR1, dR2⟩ := KR6.out.o3
 obtain ⟨⟨cP0, cP1, cP2, cP3, cP4, cP5⟩, dP0, dP1, dP2, dP3, dP4, dP5⟩ := KP6.out.of6
 obtain ⟨⟨cO0, cO1, cO2⟩, dO0, dO1, dO2⟩ := KO6.out.o3
 obtain ⟨⟨cf0, cf1, cf2, cf3⟩, df0, df1, df2, df3⟩ := Kf6.out.four
 go_wp2_with fail
 have C4 := CA.out g_c c_c _ (Row.ownK Oc6.out) hcc.out
 rw [hO] at C4
 change Calls _ _ _ _ (fun e w' => e = .returned (.tuple #[.agg #[.int .i64 m, .int .i64 ip, .slice (some ⟨g_c, 0, none⟩) rs.length c_c], .int .i64 0, .agg #[.int .i64 0, .int .i64 0, .int .i64 0, .int .i64 0, .int .i64 0, .string ⟨#[]⟩], .string ⟨#[]⟩]) ∧ Below _ _ w') at C4
 clear cl0 cl1 cl2 dl0 dl1 dl2 cR0 cR1 cR2 dR0 dR1 dR2 cP0 cP1 cP2 cP3 cP4 cP5 dP0 dP1 dP2 dP3 dP4 dP5 cO0 cO1 cO2 dO0 dO1 dO2 cf0 cf1 cf2 cf3 df0 df1 df2 df3
 refine (C4).mono ?_
 rintro e v7 ⟨rfl, hb⟩
 have B7 := Lib.hid (B6.out.trans (hb.mono B6.out.size))
 have Kl7 := Lib.hid (Kl6.out.below hb)
 have KR7 := Lib.hid (KR6.out.below hb)
 have KP7 := Lib.hid (KP6.out.below hb)
 have KO7 := Lib.hid (KO6.out.below hb)
 have Kf7 := Lib.hid (Kf6.out.below hb)
 have Oc7 := Lib.hid (Oc6.out.kept (below_any (row := none) hb) (.inr (by simp [Value.ownBlock])))
 clear hb B6 Kl6 KR6 KP6 KO6 Kf6 Oc6
 obtain ⟨⟨cl0, cl1, cl2⟩, dl0, dl1, dl2⟩ := Kl7.out.o3
 obtain ⟨⟨cR0, cR1, cR2⟩, dR0, dR1, dR2⟩ := KR7.out.o3
 obtain ⟨⟨cP0, cP1, cP2, cP3, cP4, cP5⟩, dP0, dP1, dP2, dP3, dP4, dP5⟩ := KP7.out.of6
 obtain ⟨⟨cO0, cO1, cO2⟩, dO0, dO1, dO2⟩ := KO7.out.o3
 obtain ⟨⟨cf0, cf1, cf2, cf3⟩, df0, df1, df2, df3⟩ := Kf7.out.four
 go_wp2_with fail
 refine bodyPost_ret (v := .tuple #[.agg #[.int .i64 m, .int .i64 ip, .slice (some ⟨g_c, 0, none⟩) rs.length c_c], .int .i64 0, .agg #[.int .i64 0, .int .i64 0, .int .i64 0, .int .i64 0, .int .i64 0, .string ⟨#[]⟩], .string ⟨#[]⟩]) (by simp [results, Tryz.results9, go_sem, cR0, cR1, cR2, cP0, cP1, cP2, cP3, cP4, cP5]) rfl ⟨g_c, c_c, rfl, own_up (own_set' (own_set' (own_set' (own_set' (own_set' (own_set' (own_set' (own_set' (own_set' Oc7.out 0 _ (n_R_c)) 1 _ (n_R_c)) 2 _ (n_R_c)) 0 _ (n_P_c)) 1 _ (n_P_c)) 2 _ (n_P_c)) 3 _ (n_P_c)) 4 _ (n_P_c)) 5 _ (n_P_c)) l_c, (((((((((B7.out.setCell l_R _).setCell l_R _).setCell l_R _).setCell l_P _).setCell l_P _).setCell l_P _).setCell l_P _).setCell l_P _).setCell l_P _)⟩

set_option maxRecDepth 100000 in
set_option maxHeartbeats 8000000 in
theorem linkInS_arp_yes (m ip : Int) (b off cap : Nat) (rs : List ER) (raw : ByteArray) (w : World) (hrow : Row w w.heap.size (some ⟨b, off, none⟩) (ers rs)) (hcap : rs.length ≤ cap) (hl : rs.length ≤ 1048577) (hs : raw.size ≤ 1048576) (hy : linkOk m ip rs = true) (hk : rfOk raw = true) (hz : forMe (rfD raw) m = true) (ht : rfT raw = 2054) (o : Arr) (hO : arpIn m ip (rfB raw) = some o) :
  Calls Tryz.prog 9 #[.agg #[.int .i64 m, .int .i64 ip, .slice (some ⟨b, off, none⟩) rs.length cap], .string raw] w (LinkEndS m ip (some o) rs w) := by
 have C0 := Lib.hid (fun w h => copyS m ip b off cap rs w h hl)
 have C1 := Lib.hid (fun w => readFrameS raw w hs)
 have C2 := Lib.hid (fun w h => linkOkS m ip (some ⟨b, off, none⟩) cap rs w h hl hcap)
 have C3 := Lib.hid (fun w => forMeS (rfD raw) (rfS raw) (rfT raw) m (rfB raw) w)
 have CA := Lib.hid (fun g cap w h hc => l16ArpS m ip g cap rs (rfD raw) (rfS raw) (rfT raw) (rfB raw) w h hc hl (Nat.le_trans (rfB_le raw) hs))
 have HR := Lib.hid hrow
 replace hl := Lib.hid hl
 clear hrow hs hcap
 unfold rfV at C1
 generalize rfD raw = d at C1 C3 CA hz
 generalize rfS raw = s at C1 C3 CA
 generalize rfT raw = t at C1 C3 CA ht
 generalize rfB raw = fb at C1 C3 CA hO ⊢
 rw [hy] at C2
 rw [hk] at C1
 clear hy hk
 rw [hz] at C3
 clear hz
 have ht' : (t == 2054) = true := by simpa using ht
 clear ht
 go_enter Tryz.func9, Tryz.ntmps9
 have B0 := Lib.hid (show Below w.heap.size w (((w.alloc (.cells #[.int .i64 m, .int .i64 ip, .slice (some ⟨b, off, none⟩) rs.length cap] 26)).alloc (.cells #[.int .i64 0, .int .i64 0, .slice none 0 0] 26)).alloc (.cells #[.int .i64 0, .int .i64 0, .int .i64 0, .int .i64 0, .int .i64 0, .string ⟨#[]⟩] 30)) from ((((Below.refl _ w).alloc (by simp) _).alloc (by simp) _).alloc (by simp; omega) _))
 have Kl0 := Lib.hid (show Blk (((w.alloc (.cells #[.int .i64 m, .int .i64 ip, .slice (some ⟨b, off, none⟩) rs.length cap] 26)).alloc (.cells #[.int .i64 0, .int .i64 0, .slice none 0 0] 26)).alloc (.cells #[.int .i64 0, .int .i64 0, .int .i64 0, .int .i64 0, .int .i64 0, .string ⟨#[]⟩] 30)) (w.heap.size) [.int .i64 m, .int .i64 ip, .slice (some ⟨b, off, none⟩) rs.length cap] from ((Blk.new w [.int .i64 m, .int .i64 ip, .slice (some ⟨b, off, none⟩) rs.length cap] 26).alloc (.cells #[.int .i64 0, .int .i64 0, .slice none 0 0] 26)).alloc (.cells #[.int .i64 0, .int .i64 0, .int .i64 0, .int .i64 0, .int .i64 0, .string ⟨#[]⟩] 30))
 have s1 : (w.alloc (.cells #[.int .i64 m, .int .i64 ip, .slice (some ⟨b, off, none⟩) rs.length cap] 26)).heap.size = w.heap.size + 1 := by simp
 have KR0 := Lib.hid (show Blk (((w.alloc (.cells #[.int .i64 m, .int .i64 ip, .slice (some ⟨b, off, none⟩) rs.length cap] 26)).alloc (.cells #[.int .i64 0, .int .i64 0, .slice none 0 0] 26)).alloc (.cells #[.int .i64 0, .int .i64 0, .int .i64 0, .int .i64 0, .int .i64 0, .string ⟨#[]⟩] 30)) (w.heap.size + 1) [.int .i64 0, .int .i64 0, .slice none 0 0] by have h0 := (Blk.new (w.alloc (.cells #[.int .i64 m, .int .i64 ip, .slice (some ⟨b, off, none⟩) rs.length cap] 26)) [.int .i64 0, .int .i64 0, .slice none 0 0] 26).alloc (.cells #[.int .i64 0, .int .i64 0, .int .i64 0, .int .i64 0, .int .i64 0, .string ⟨#[]⟩] 30); rwa [s1] at h0)
 have n_l_R : w.heap.size ≠ w.heap.size + 1 := by omega
 have s2 : ((w.alloc (.cells #[.int .i64 m, .int .i64 ip, .slice (some ⟨b, off, none⟩) rs.length cap] 26)).alloc (.cells #[.int .i64 0, .int .i64 0, .slice none 0 0] 26)).heap.size = w.heap.size + 1 + 1 := by simp
 have KP0 := Lib.hid (show Blk (((w.alloc (.cells #[.int .i64 m, .int .i64 ip, .slice (some ⟨b, off, none⟩) rs.length cap] 26)).alloc (.cells #[.int .i64 0, .int .i64 0, .slice none 0 0] 26)).alloc (.cells #[.int .i64 0, .int .i64 0, .int .i64 0, .int .i64 0, .int .i64 0, .string ⟨#[]⟩] 30)) (w.heap.size + 1 + 1) [.int .i64 0, .int .i64 0, .int .i64 0, .int .i64 0, .int .i64 0, .string ⟨#[]⟩] by have h0 := Blk.new ((w.alloc (.cells #[.int .i64 m, .int .i64 ip, .slice (some ⟨b, off, none⟩) rs.length cap] 26)).alloc (.cells #[.int .i64 0, .int .i64 0, .slice none 0 0] 26)) [.int .i64 0, .int .i64 0, .int .i64 0, .int .i64 0, .int .i64 0, .string ⟨#[]⟩] 30; rwa [s2] at h0)
 have n_l_P : w.heap.size ≠ w.heap.size + 1 + 1 := by omega
 have n_R_P : w.heap.size + 1 ≠ w.heap.size + 1 + 1 := by omega
 clear s1 s2
 go_wp2_with fail
 change Calls _ _ _ (((w.alloc (.cells #[.int .i64 m, .int .i64 ip, .slice (some ⟨b, off, none⟩) rs.length cap] 26)).alloc (.cells #[.int .i64 0, .int .i64 0, .slice none 0 0] 26)).alloc (.cells #[.int .i64 0, .int .i64 0, .int .i64 0, .int .i64 0, .int .i64 0, .string ⟨#[]⟩] 30)) _
 generalize ((w.alloc (.cells #[.int .i64 m, .int .i64 ip, .slice (some ⟨b, off, none⟩) rs.length cap] 26)).alloc (.cells #[.int .i64 0, .int .i64 0, .slice none 0 0] 26)).alloc (.cells #[.int .i64 0, .int .i64 0, .int .i64 0, .int .i64 0, .int .i64 0, .string ⟨#[]⟩] 30) = v0 at B0 Kl0 KR0 KP0 ⊢
 generalize hh_P : w.heap.size + 1 + 1 = g_P at KP0 n_l_P n_R_P ⊢
 generalize hh_R : w.heap.size + 1 = g_R at KR0 n_l_R n_R_P ⊢
 generalize hh_l : w.heap.size = g_l at Kl0 n_l_R n_l_P ⊢
 have l_l : w.heap.size ≤ g_l := by omega
 have l_R : w.heap.size ≤ g_R := by omega
 have l_P : w.heap.size ≤ g_P := by omega
 clear hh_l hh_R hh_P
 refine (C0.out _ ((HR.out.below B0.out).mono B0.out.size)).mono ?_
 rintro e v1 ⟨g_c, c_c, rfl, ho_c, hb⟩
 have hcc := Lib.hid (own_cap ho_c).1
 have n_l_c : g_l ≠ g_c := by have h1 := Kl0.out.lt; have h2 := (ho_c.lt g_c rfl).1; omega
 have n_R_c : g_R ≠ g_c := by have h1 := KR0.out.lt; have h2 := (ho_c.lt g_c rfl).1; omega
 have n_P_c : g_P ≠ g_c := by have h1 := KP0.out.lt; have h2 := (ho_c.lt g_c rfl).1; omega
 have l_c : w.heap.size ≤ g_c := Nat.le_trans B0.out.size (ho_c.lt g_c rfl).1
 have B1 := Lib.hid (B0.out.trans (hb.mono B0.out.size))
 have Kl1 := Lib.hid (Kl0.out.below hb)
 have KR1 := Lib.hid (KR0.out.below hb)
 have KP1 := Lib.hid (KP0.out.below hb)
 have Oc1 := Lib.hid (own_down ho_c (Nat.zero_le _))
 clear hb B0 Kl0 KR0 KP0 ho_c
 have KOn := Lib.hid (Blk.new v1 [.int .i64 m, .int .i64 ip, .slice (some ⟨g_c, 0, none⟩) rs.length c_c] 26)
 have l_O : w.heap.size ≤ v1.heap.size := B1.out.size
 have n_l_O : g_l ≠ v1.heap.size := by have h1 := Kl1.out.lt; omega
 have n_R_O : g_R ≠ v1.heap.size := by have h1 := KR1.out.lt; omega
 have n_P_O : g_P ≠ v1.heap.size := by have h1 := KP1.out.lt; omega
 have n_c_O : g_c ≠ v1.heap.size := by have h1 := (Oc1.out.lt g_c rfl).2; omega
 have Bn := Lib.hid (B1.out.alloc B1.out.size (.cells #[.int .i64 m, .int .i64 ip, .slice (some ⟨g_c, 0, none⟩) rs.length c_c] 26))
 have Kln := Lib.hid (Kl1.out.alloc (.cells #[.int .i64 m, .int .i64 ip, .slice (some ⟨g_c, 0, none⟩) rs.length c_c] 26))
 have KRn := Lib.hid (KR1.out.alloc (.cells #[.int .i64 m, .int .i64 ip, .slice (some ⟨g_c, 0, none⟩) rs.length c_c] 26))
 have KPn := Lib.hid (KP1.out.alloc (.cells #[.int .i64 m, .int .i64 ip, .slice (some ⟨g_c, 0, none⟩) rs.length c_c] 26))
 have Ocn := Lib.hid (Oc1.out.alloc (.cells #[.int .i64 m, .int .i64 ip, .slice (some ⟨g_c, 0, none⟩) rs.length c_c] 26))
 clear B1 Kl1 KR1 KP1 Oc1
 obtain ⟨⟨cl0, cl1, cl2⟩, dl0, dl1, dl2⟩ := Kln.out.o3
 obtain ⟨⟨cR0, cR1, cR2⟩, dR0, dR1, dR2⟩ := KRn.out.o3
 obtain ⟨⟨cP0, cP1, cP2, cP3, cP4, cP5⟩, dP0, dP1, dP2, dP3, dP4, dP5⟩ := KPn.out.of6
 go_wp2_with fail
 clear cl0 cl1 cl2 dl0 dl1 dl2 cR0 cR1 cR2 dR0 dR1 dR2 cP0 cP1 cP2 cP3 cP4 cP5 dP0 dP1 dP2 dP3 dP4 dP5
 change Calls _ _ _ (v1.alloc (.cells #[.int .i64 m, .int .i64 ip, .slice (some ⟨g_c, 0, none⟩) rs.length c_c] 26)) _
 generalize v1.alloc (.cells #[.int .i64 m, .int .i64 ip, .slice (some ⟨g_c, 0, none⟩) rs.length c_c] 26) = v2 at KOn Bn Kln KRn KPn Ocn ⊢
 generalize v1.heap.size = g_O at KOn l_O n_l_O n_R_O n_P_O n_c_O ⊢
 clear v1
 have Kl2 := Kln
 clear Kln
 have KR2 := KRn
 clear KRn
 have KP2 := KPn
 clear KPn
 have KO2 := KOn
 clear KOn
 have Oc2 := Ocn
 clear Ocn
 have B2 := Bn
 clear Bn
 refine (C1.out _).mono ?_
 rintro e v3 ⟨rfl, hb⟩
 have B3 := Lib.hid (B2.out.trans (hb.mono B2.out.size))
 have Kl3 := Lib.hid (Kl2.out.below hb)
 have KR3 := Lib.hid (KR2.out.below hb)
 have KP3 := Lib.hid (KP2.out.below hb)
 have KO3 := Lib.hid (KO2.out.below hb)
 have Oc3 := Lib.hid (Oc2.out.kept (below_any (row := none) hb) (.inr (by simp [Value.ownBlock])))
 clear hb B2 Kl2 KR2 KP2 KO2 Oc2
 have Kfn := Lib.hid (Blk.new v3 [.int .i64 d, .int .i64 s, .int .i64 t, .string fb] 38)
 have l_f : w.heap.size ≤ v3.heap.size := B3.out.size
 have n_l_f : g_l ≠ v3.heap.size := by have h1 := Kl3.out.lt; omega
 have n_R_f : g_R ≠ v3.heap.size := by have h1 := KR3.out.lt; omega
 have n_P_f : g_P ≠ v3.heap.size := by have h1 := KP3.out.lt; omega
 have n_O_f : g_O ≠ v3.heap.size := by have h1 := KO3.out.lt; omega
 have n_c_f : g_c ≠ v3.heap.size := by have h1 := (Oc3.out.lt g_c rfl).2; omega
 have Bn := Lib.hid (B3.out.alloc B3.out.size (.cells #[.int .i64 d, .int .i64 s, .int .i64 t, .string fb] 38))
 have Kln := Lib.hid (Kl3.out.alloc (.cells #[.int .i64 d, .int .i64 s, .int .i64 t, .string fb] 38))
 have KRn := Lib.hid (KR3.out.alloc (.cells #[.int .i64 d, .int .i64 s, .int .i64 t, .string fb] 38))
 have KPn := Lib.hid (KP3.out.alloc (.cells #[.int .i64 d, .int .i64 s, .int .i64 t, .string fb] 38))
 have KOn := Lib.hid (KO3.out.alloc (.cells #[.int .i64 d, .int .i64 s, .int .i64 t, .string fb] 38))
 have Ocn := Lib.hid (Oc3.out.alloc (.cells #[.int .i64 d, .int .i64 s, .int .i64 t, .string fb] 38))
 clear B3 Kl3 KR3 KP3 KO3 Oc3
 obtain ⟨⟨cl0, cl1, cl2⟩, dl0, dl1, dl2⟩ := Kln.out.o3
 obtain ⟨⟨cR0, cR1, cR2⟩, dR0, dR1, dR2⟩ := KRn.out.o3
 obtain ⟨⟨cP0, cP1, cP2, cP3, cP4, cP5⟩, dP0, dP1, dP2, dP3, dP4, dP5⟩ := KPn.out.of6
 obtain ⟨⟨cO0, cO1, cO2⟩, dO0, dO1, dO2⟩ := KOn.out.o3
 go_wp2_with fail
 clear cl0 cl1 cl2 dl0 dl1 dl2 cR0 cR1 cR2 dR0 dR1 dR2 cP0 cP1 cP2 cP3 cP4 cP5 dP0 dP1 dP2 dP3 dP4 dP5 cO0 cO1 cO2 dO0 dO1 dO2
 change Calls _ _ _ (v3.alloc (.cells #[.int .i64 d, .int .i64 s, .int .i64 t, .string fb] 38)) _
 generalize v3.alloc (.cells #[.int .i64 d, .int .i64 s, .int .i64 t, .string fb] 38) = v4 at Kfn Bn Kln KRn KPn KOn Ocn ⊢
 generalize v3.heap.size = g_f at Kfn l_f n_l_f n_R_f n_P_f n_O_f n_c_f ⊢
 clear v3
 have Kl4 := Kln
 clear Kln
 have KR4 := KRn
 clear KRn
 have KP4 := KPn
 clear KPn
 have KO4 := KOn
 clear KOn
 have Kf4 := Kfn
 clear Kfn
 have Oc4 := Ocn
 clear Ocn
 have B4 := Bn
 clear Bn
 refine (C2.out _ ((HR.out.below B4.out).mono B4.out.size)).mono ?_
 rintro e v5 ⟨rfl, hb⟩
 have B5 := Lib.hid (B4.out.trans (hb.mono B4.out.size))
 have Kl5 := Lib.hid (Kl4.out.below hb)
 have KR5 := Lib.hid (KR4.out.below hb)
 have KP5 := Lib.hid (KP4.out.below hb)
 have KO5 := Lib.hid (KO4.out.below hb)
 have Kf5 := Lib.hid (Kf4.out.below hb)
 have Oc5 := Lib.hid (Oc4.out.kept (below_any (row := none) hb) (.inr (by simp [Value.ownBlock])))
 clear hb B4 Kl4 KR4 KP4 KO4 Kf4 Oc4
 obtain ⟨⟨cl0, cl1, cl2⟩, dl0, dl1, dl2⟩ := Kl5.out.o3
 obtain ⟨⟨cR0, cR1, cR2⟩, dR0, dR1, dR2⟩ := KR5.out.o3
 obtain ⟨⟨cP0, cP1, cP2, cP3, cP4, cP5⟩, dP0, dP1, dP2, dP3, dP4, dP5⟩ := KP5.out.of6
 obtain ⟨⟨cO0, cO1, cO2⟩, dO0, dO1, dO2⟩ := KO5.out.o3
 obtain ⟨⟨cf0, cf1, cf2, cf3⟩, df0, df1, df2, df3⟩ := Kf5.out.four
 go_wp2_with fail
 clear cl0 cl1 cl2 dl0 dl1 dl2 cR0 cR1 cR2 dR0 dR1 dR2 cP0 cP1 cP2 cP3 cP4 cP5 dP0 dP1 dP2 dP3 dP4 dP5 cO0 cO1 cO2 dO0 dO1 dO2 cf0 cf1 cf2 cf3 df0 df1 df2 df3
 refine (C3.out _).mono ?_
 rintro e v6 ⟨rfl, hb⟩
 have B6 := Lib.hid (B5.out.trans (hb.mono B5.out.size))
 have Kl6 := Lib.hid (Kl5.out.below hb)
 have KR6 := Lib.hid (KR5.out.below hb)
 have KP6 := Lib.hid (KP5.out.below hb)
 have KO6 := Lib.hid (KO5.out.below hb)
 have Kf6 := Lib.hid (Kf5.out.below hb)
 have Oc6 := Lib.hid (Oc5.out.kept (below_any (row := none) hb) (.inr (by simp [Value.ownBlock])))
 clear hb B5 Kl5 KR5 KP5 KO5 Kf5 Oc5
 obtain ⟨⟨cl0, cl1, cl2⟩, dl0, dl1, dl2⟩ := Kl6.out.o3
 obtain ⟨⟨cR0, cR1, cR2⟩, dR0, dR1, dR2⟩ := KR6.out.o3
 obtain ⟨⟨cP0, cP1, cP2, cP3, cP4, cP5⟩, dP0, dP1, dP2, dP3, dP4, dP5⟩ := KP6.out.of6
 obtain ⟨⟨cO0, cO1, cO2⟩, dO0, dO1, dO2⟩ := KO6.out.o3
 obtain ⟨⟨cf0, cf1, cf2, cf3⟩, df0, df1, df2, df3⟩ := Kf6.out.four
 go_wp2_with fail
 have C4 := CA.out g_c c_c _ (Row.ownK Oc6.out) hcc.out
 rw [hO] at C4
 change Calls _ _ _ _ (ArpNew m ip (learnE rs o.ip o.hw) o.kind o.ans _) at C4
 clear cl0 cl1 cl2 dl0 dl1 dl2 cR0 cR1 cR2 dR0 dR1 dR2 cP0 cP1 cP2 cP3 cP4 cP5 dP0 dP1 dP2 dP3 dP4 dP5 cO0 cO1 cO2 dO0 dO1 dO2 cf0 cf1 cf2 cf3 df0 df1 df2 df3
 refine (C4).mono ?_
 rintro e v7 ⟨g_o, c_o, rfl, ho_o, hb⟩
 have n_l_o : g_l ≠ g_o := by have h1 := Kl6.out.lt; have h2 := (ho_o.lt g_o rfl).1; omega
 have n_R_o : g_R ≠ g_o := by have h1 := KR6.out.lt; have h2 := (ho_o.lt g_o rfl).1; omega
 have n_P_o : g_P ≠ g_o := by have h1 := KP6.out.lt; have h2 := (ho_o.lt g_o rfl).1; omega
 have n_O_o : g_O ≠ g_o := by have h1 := KO6.out.lt; have h2 := (ho_o.lt g_o rfl).1; omega
 have n_f_o : g_f ≠ g_o := by have h1 := Kf6.out.lt; have h2 := (ho_o.lt g_o rfl).1; omega
 have n_c_o : g_c ≠ g_o := by have h1 := (Oc6.out.lt g_c rfl).2; have h2 := (ho_o.lt g_o rfl).1; omega
 have l_o : w.heap.size ≤ g_o := Nat.le_trans B6.out.size (ho_o.lt g_o rfl).1
 have B7 := Lib.hid (B6.out.trans (hb.mono B6.out.size))
 have Kl7 := Lib.hid (Kl6.out.below hb)
 have KR7 := Lib.hid (KR6.out.below hb)
 have KP7 := Lib.hid (KP6.out.below hb)
 have KO7 := Lib.hid (KO6.out.below hb)
 have Kf7 := Lib.hid (Kf6.out.below hb)
 have Oc7 := Lib.hid (Oc6.out.kept (below_any (row := none) hb) (.inr (by simp [Value.ownBlock])))
 have Oo7 := Lib.hid (own_down ho_o (Nat.zero_le _))
 clear hb B6 Kl6 KR6 KP6 KO6 Kf6 Oc6 ho_o
 obtain ⟨⟨cl0, cl1, cl2⟩, dl0, dl1, dl2⟩ := Kl7.out.o3
 obtain ⟨⟨cR0, cR1, cR2⟩, dR0, dR1, dR2⟩ := KR7.out.o3
 obtain ⟨⟨cP0, cP1, cP2, cP3, cP4, cP5⟩, dP0, dP1, dP2, dP3, dP4, dP5⟩ := KP7.out.of6
 obtain ⟨⟨cO0, cO1, cO2⟩, dO0, dO1, dO2⟩ := KO7.out.o3
 obtain ⟨⟨cf0, cf1, cf2, cf3⟩, df0, df1, df2, df3⟩ := Kf7.out.four
 go_wp2_with fail
 have hp0 := arp_pk hO
 obtain ⟨p0, p1, p2, p3, p4, p5⟩ := hp0
 refine bodyPost_ret (v := .tuple #[.agg #[.int .i64 m, .int .i64 ip, .slice (some ⟨g_o, 0, none⟩) (learnE rs o.ip o.hw).length c_o], .int .i64 o.kind, .agg #[.int .i64 0, .int .i64 0, .int .i64 0, .int .i64 0, .int .i64 0, .string ⟨#[]⟩], .string o.ans]) (by simp [results, Tryz.results9, go_sem, cR0, cR1, cR2, cP0, cP1, cP2, cP3, cP4, cP5]) rfl ⟨g_o, c_o, ?_, own_up (own_set' (own_set' (own_set' (own_set' (own_set' (own_set' (own_set' (own_set' (own_set' Oo7.out 0 _ (n_R_o)) 1 _ (n_R_o)) 2 _ (n_R_o)) 0 _ (n_P_o)) 1 _ (n_P_o)) 2 _ (n_P_o)) 3 _ (n_P_o)) 4 _ (n_P_o)) 5 _ (n_P_o)) l_o, (((((((((B7.out.setCell l_R _).setCell l_R _).setCell l_R _).setCell l_P _).setCell l_P _).setCell l_P _).setCell l_P _).setCell l_P _).setCell l_P _)⟩
 simp only [Option.getD_some, linkRs, p0, p1, p2, p3, p4, p5]
end Go.Proofs.YtkkimgjcefojdaaGreatDoor
