/- Texts of a proof that belong together, joined. Nothing here is a claim. -/
import Derived.Test.YtkkimgjcefojdaaGreatDoorPkLk12
import Derived.Test.YtkkimgjcefojdaaGreatDoorPkLk15
namespace Go.Proofs.YtkkimgjcefojdaaGreatDoor
open Go.RowKit Go.Lib

theorem own_drew {w : World} {base size n : Nat} {e : TypeId} {v : Value} {xs : List Value} (h : w.ownsRow base e size v n xs) : w.drew.ownsRow base e size v n xs := own_below h (Below.refl _ _).drew
/-- What LinkIn answers: the link in new memory, what there is to do, the packet, the text. -/
def LinkEnd (m ip : Int) (q : Option Arr) (rs : List ER) (w : World) (e : Ending) (w' : World) : Prop :=
 ∃ a cap, e = .returned (.tuple #[.agg #[.int .i64 m, .int .i64 ip, .slice a (linkRs q rs).length cap], .int .i64 (q.getD Arr.zero).kind, .agg #[.int .i64 (q.getD Arr.zero).s, .int .i64 (q.getD Arr.zero).d, .int .i64 (q.getD Arr.zero).t, .int .i64 (q.getD Arr.zero).p, .int .i64 (q.getD Arr.zero).i, .string (q.getD Arr.zero).b], .string (q.getD Arr.zero).ans]) ∧
  w'.ownsRow w.heap.size 71 3 (.slice a (linkRs q rs).length cap) (linkRs q rs).length (ers (linkRs q rs)) ∧ Below w.heap.size w w'

set_option maxRecDepth 100000 in
set_option maxHeartbeats 8000000 in
theorem linkInI (m ip : Int) (a : Option Addr) (cap : Nat) (rs : List ER) (raw : ByteArray) (x : Addr) (w : World) (hrow : Row w w.heap.size a (ers rs)) (ha : a = none → rs = [] ∧ cap = 0) (hl : rs.length ≤ 1048577) (hs : raw.size ≤ 1048576) (hm : -9223372036854775808 ≤ m ∧ m ≤ 9223372036854775807) (hg : ErrTy w) (hx : Sent x w) :
  Calls Tryz.prog 8 #[.agg #[.int .i64 m, .int .i64 ip, .slice a rs.length cap], .string raw] w (LinkEnd m ip (arrOf m ip rs raw) rs w) := by
 have C1 := Lib.hid (fun w h g k => arrivalI m ip a cap rs raw x w h hl hs hm g k)
 have HR := Lib.hid hrow
 have HG := Lib.hid hg
 have HX := Lib.hid hx
 clear hrow hg hx hs hm
 unfold ArrEnd at C1
 generalize arrOf m ip rs raw = O at C1 ⊢
 cases O with
 | none =>
  simp only [arrV] at C1
  go_enter Tryz.func8, Tryz.ntmps8
  have B0 := Lib.hid (show Below w.heap.size w (((w.alloc (.cells #[.int .i64 m, .int .i64 ip, .slice a rs.length cap] 26)).alloc (.cells #[.int .i64 0, .int .i64 0, .slice none 0 0] 26)).alloc (.cells #[.int .i64 0, .int .i64 0, .int .i64 0, .int .i64 0, .int .i64 0, .string ⟨#[]⟩] 30)) from ((((Below.refl _ w).alloc (by simp) _).alloc (by simp) _).alloc (by simp; omega) _))
  have Kl0 := Lib.hid (show Blk (((w.alloc (.cells #[.int .i64 m, .int .i64 ip, .slice a rs.length cap] 26)).alloc (.cells #[.int .i64 0, .int .i64 0, .slice none 0 0] 26)).alloc (.cells #[.int .i64 0, .int .i64 0, .int .i64 0, .int .i64 0, .int .i64 0, .string ⟨#[]⟩] 30)) (w.heap.size) [.int .i64 m, .int .i64 ip, .slice a rs.length cap] from ((Blk.new w [.int .i64 m, .int .i64 ip, .slice a rs.length cap] 26).alloc (.cells #[.int .i64 0, .int .i64 0, .slice none 0 0] 26)).alloc (.cells #[.int .i64 0, .int .i64 0, .int .i64 0, .int .i64 0, .int .i64 0, .string ⟨#[]⟩] 30))
  have s1 : (w.alloc (.cells #[.int .i64 m, .int .i64 ip, .slice a rs.length cap] 26)).heap.size = w.heap.size + 1 := by simp
  have KR0 := Lib.hid (show Blk (((w.alloc (.cells #[.int .i64 m, .int .i64 ip, .slice a rs.length cap] 26)).alloc (.cells #[.int .i64 0, .int .i64 0, .slice none 0 0] 26)).alloc (.cells #[.int .i64 0, .int .i64 0, .int .i64 0, .int .i64 0, .int .i64 0, .string ⟨#[]⟩] 30)) (w.heap.size + 1) [.int .i64 0, .int .i64 0, .slice none 0 0] by have h0 := (Blk.new (w.alloc (.cells #[.int .i64 m, .int .i64 ip, .slice a rs.length cap] 26)) [.int .i64 0, .int .i64 0, .slice none 0 0] 26).alloc (.cells #[.int .i64 0, .int .i64 0, .int .i64 0, .int .i64 0, .int .i64 0, .string ⟨#[]⟩] 30); rwa [s1] at h0)
  have n_l_R : w.heap.size ≠ w.heap.size + 1 := by omega
  have s2 : ((w.alloc (.cells #[.int .i64 m, .int .i64 ip, .slice a rs.length cap] 26)).alloc (.cells #[.int .i64 0, .int .i64 0, .slice none 0 0] 26)).heap.size = w.heap.size + 1 + 1 := by simp
  have KP0 := Lib.hid (show Blk (((w.alloc (.cells #[.int .i64 m, .int .i64 ip, .slice a rs.length cap] 26)).alloc (.cells #[.int .i64 0, .int .i64 0, .slice none 0 0] 26)).alloc (.cells #[.int .i64 0, .int .i64 0, .int .i64 0, .int .i64 0, .int .i64 0, .string ⟨#[]⟩] 30)) (w.heap.size + 1 + 1) [.int .i64 0, .int .i64 0, .int .i64 0, .int .i64 0, .int .i64 0, .string ⟨#[]⟩] by have h0 := Blk.new ((w.alloc (.cells #[.int .i64 m, .int .i64 ip, .slice a rs.length cap] 26)).alloc (.cells #[.int .i64 0, .int .i64 0, .slice none 0 0] 26)) [.int .i64 0, .int .i64 0, .int .i64 0, .int .i64 0, .int .i64 0, .string ⟨#[]⟩] 30; rwa [s2] at h0)
  have n_l_P : w.heap.size ≠ w.heap.size + 1 + 1 := by omega
  have n_R_P : w.heap.size + 1 ≠ w.heap.size + 1 + 1 := by omega
  clear s1 s2
  go_wp2_with fail
  change Calls _ _ _ (((w.alloc (.cells #[.int .i64 m, .int .i64 ip, .slice a rs.length cap] 26)).alloc (.cells #[.int .i64 0, .int .i64 0, .slice none 0 0] 26)).alloc (.cells #[.int .i64 0, .int .i64 0, .int .i64 0, .int .i64 0, .int .i64 0, .string ⟨#[]⟩] 30)) _
  generalize ((w.alloc (.cells #[.int .i64 m, .int .i64 ip, .slice a rs.length cap] 26)).alloc (.cells #[.int .i64 0, .int .i64 0, .slice none 0 0] 26)).alloc (.cells #[.int .i64 0, .int .i64 0, .int .i64 0, .int .i64 0, .int .i64 0, .string ⟨#[]⟩] 30) = v0 at B0 Kl0 KR0 KP0 ⊢
  generalize hh_P : w.heap.size + 1 + 1 = g_P at KP0 n_l_P n_R_P ⊢
  generalize hh_R : w.heap.size + 1 = g_R at KR0 n_l_R n_R_P ⊢
  generalize hh_l : w.heap.size = g_l at Kl0 n_l_R n_l_P ⊢
  have l_l : w.heap.size ≤ g_l := by omega
  have l_R : w.heap.size ≤ g_R := by omega
  have l_P : w.heap.size ≤ g_P := by omega
  clear hh_l hh_R hh_P
  refine (C1.out _ ((HR.out.below B0.out).mono B0.out.size) (HG.out.below B0.out HG.out.lt) (HX.out.below B0.out HX.out.lt)).mono ?_
  rintro e v1 ⟨rfl, hb⟩
  have B1 := Lib.hid (B0.out.trans (hb.mono B0.out.size))
  have Kl1 := Lib.hid (Kl0.out.below hb)
  have KR1 := Lib.hid (KR0.out.below hb)
  have KP1 := Lib.hid (KP0.out.below hb)
  clear hb B0 Kl0 KR0 KP0
  have Knn := Lib.hid (Blk.new v1 [.int .i64 0, .int .i64 0, .int .i64 0, .int .i64 0, .int .i64 0, .int .i64 0, .int .i64 0, .int .i64 0, .string ⟨#[]⟩, .string ⟨#[]⟩] 58)
  have l_n : w.heap.size ≤ v1.heap.size := B1.out.size
  have n_l_n : g_l ≠ v1.heap.size := by have h1 := Kl1.out.lt; omega
  have n_R_n : g_R ≠ v1.heap.size := by have h1 := KR1.out.lt; omega
  have n_P_n : g_P ≠ v1.heap.size := by have h1 := KP1.out.lt; omega
  have Bn := Lib.hid (B1.out.alloc B1.out.size (.cells #[.int .i64 0, .int .i64 0, .int .i64 0, .int .i64 0, .int .i64 0, .int .i64 0, .int .i64 0, .int .i64 0, .string ⟨#[]⟩, .string ⟨#[]⟩] 58))
  have Kln := Lib.hid (Kl1.out.alloc (.cells #[.int .i64 0, .int .i64 0, .int .i64 0, .int .i64 0, .int .i64 0, .int .i64 0, .int .i64 0, .int .i64 0, .string ⟨#[]⟩, .string ⟨#[]⟩] 58))
  have KRn := Lib.hid (KR1.out.alloc (.cells #[.int .i64 0, .int .i64 0, .int .i64 0, .int .i64 0, .int .i64 0, .int .i64 0, .int .i64 0, .int .i64 0, .string ⟨#[]⟩, .string ⟨#[]⟩] 58))
  have KPn := Lib.hid (KP1.out.alloc (.cells #[.int .i64 0, .int .i64 0, .int .i64 0, .int .i64 0, .int .i64 0, .int .i64 0, .int .i64 0, .int .i64 0, .string ⟨#[]⟩, .string ⟨#[]⟩] 58))
  clear B1 Kl1 KR1 KP1
  obtain ⟨⟨cl0, cl1, cl2⟩, dl0, dl1, dl2⟩ := Kln.out.o3
  obtain ⟨⟨cR0, cR1, cR2⟩, dR0, dR1, dR2⟩ := KRn.out.o3
  obtain ⟨⟨cP0, cP1, cP2, cP3, cP4, cP5⟩, dP0, dP1, dP2, dP3, dP4, dP5⟩ := KPn.out.of6
  go_upto_region 2 with fail
  clear cl0 cl1 cl2 dl0 dl1 dl2 cR0 cR1 cR2 dR0 dR1 dR2 cP0 cP1 cP2 cP3 cP4 cP5 dP0 dP1 dP2 dP3 dP4 dP5
  generalize v1.alloc (.cells #[.int .i64 0, .int .i64 0, .int .i64 0, .int .i64 0, .int .i64 0, .int .i64 0, .int .i64 0, .int .i64 0, .string ⟨#[]⟩, .string ⟨#[]⟩] 58) = v2 at Knn Bn Kln KRn KPn ⊢
  generalize v1.heap.size = g_n at Knn l_n n_l_n n_R_n n_P_n ⊢
  clear v1
  have Kl2 := Kln
  clear Kln
  have KR2 := KRn
  clear KRn
  have KP2 := KPn
  clear KPn
  have Kn2 := Knn
  clear Knn
  have B2 := Bn
  clear Bn
  have hq3 := HX.out.below B2.out HX.out.lt
  unfold Sent at hq3
  obtain ⟨⟨cl0, cl1, cl2⟩, dl0, dl1, dl2⟩ := Kl2.out.o3
  obtain ⟨⟨cR0, cR1, cR2⟩, dR0, dR1, dR2⟩ := KR2.out.o3
  obtain ⟨⟨cP0, cP1, cP2, cP3, cP4, cP5⟩, dP0, dP1, dP2, dP3, dP4, dP5⟩ := KP2.out.of6
  obtain ⟨⟨cn0, cn1, cn2, cn3, cn4, cn5, cn6, cn7, cn8, cn9⟩, dn0, dn1, dn2, dn3, dn4, dn5, dn6, dn7, dn8, dn9⟩ := Kn2.out.of10
  go_wp2_with fail
  clear cl0 cl1 cl2 dl0 dl1 dl2 cR0 cR1 cR2 dR0 dR1 dR2 cP0 cP1 cP2 cP3 cP4 cP5 dP0 dP1 dP2 dP3 dP4 dP5 cn0 cn1 cn2 cn3 cn4 cn5 cn6 cn7 cn8 cn9 dn0 dn1 dn2 dn3 dn4 dn5 dn6 dn7 dn8 dn9
  clear hq3
  refine (is_same x _).mono ?_
  rintro e w' ⟨rfl, hw'⟩
  rw [hw']
  clear hw' w'
  obtain ⟨⟨cl0, cl1, cl2⟩, dl0, dl1, dl2⟩ := Kl2.out.o3
  obtain ⟨⟨cR0, cR1, cR2⟩, dR0, dR1, dR2⟩ := KR2.out.o3
  obtain ⟨⟨cP0, cP1, cP2, cP3, cP4, cP5⟩, dP0, dP1, dP2, dP3, dP4, dP5⟩ := KP2.out.of6
  obtain ⟨⟨cn0, cn1, cn2, cn3, cn4, cn5, cn6, cn7, cn8, cn9⟩, dn0, dn1, dn2, dn3, dn4, dn5, dn6, dn7, dn8, dn9⟩ := Kn2.out.of10
  go_wp2_with fail
  have lt_R := KR2.out.lt
  have lt_P := KP2.out.lt
  have hz := B2.out.size
  clear cl0 cl1 cl2 dl0 dl1 dl2 cR0 cR1 cR2 dR0 dR1 dR2 cP0 cP1 cP2 cP3 cP4 cP5 dP0 dP1 dP2 dP3 dP4 dP5 cn0 cn1 cn2 cn3 cn4 cn5 cn6 cn7 cn8 cn9 dn0 dn1 dn2 dn3 dn4 dn5 dn6 dn7 dn8 dn9
  refine (copyI m ip a cap rs _ ((HR.out.below B2.out).mono B2.out.size) ha hl).mono ?_
  rintro e v3 ⟨a', cap', rfl, ho, hb⟩
  have B3 := Lib.hid (B2.out.trans (hb.mono B2.out.size))
  have Kl3 := Lib.hid (Kl2.out.below hb)
  have KR3 := Lib.hid (KR2.out.below hb)
  have KP3 := Lib.hid (KP2.out.below hb)
  have Kn3 := Lib.hid (Kn2.out.below hb)
  clear hb B2 Kl2 KR2 KP2 Kn2
  have O1 := Lib.hid ho
  clear ho
  obtain ⟨⟨cl0, cl1, cl2⟩, dl0, dl1, dl2⟩ := Kl3.out.o3
  obtain ⟨⟨cR0, cR1, cR2⟩, dR0, dR1, dR2⟩ := KR3.out.o3
  obtain ⟨⟨cP0, cP1, cP2, cP3, cP4, cP5⟩, dP0, dP1, dP2, dP3, dP4, dP5⟩ := KP3.out.of6
  obtain ⟨⟨cn0, cn1, cn2, cn3, cn4, cn5, cn6, cn7, cn8, cn9⟩, dn0, dn1, dn2, dn3, dn4, dn5, dn6, dn7, dn8, dn9⟩ := Kn3.out.of10
  go_wp2_with fail
  refine bodyPost_ret (v := .tuple #[.agg #[.int .i64 m, .int .i64 ip, .slice a' rs.length cap'], .int .i64 0, .agg #[.int .i64 0, .int .i64 0, .int .i64 0, .int .i64 0, .int .i64 0, .string ⟨#[]⟩], .string ⟨#[]⟩]) (by simp [results, Tryz.results8, go_sem, cR0, cR1, cR2, cP0, cP1, cP2, cP3, cP4, cP5]) rfl ⟨_, _, rfl, own_down (own_set (own_set (own_set (own_set (own_set (own_set (own_set (own_set (own_set O1.out _ _ lt_R _) _ _ lt_R _) _ _ lt_R _) _ _ lt_P _) _ _ lt_P _) _ _ lt_P _) _ _ lt_P _) _ _ lt_P _) _ _ lt_P _) hz, (((((((((B3.out.setCell l_R _).setCell l_R _).setCell l_R _).setCell l_P _).setCell l_P _).setCell l_P _).setCell l_P _).setCell l_P _).setCell l_P _)⟩
 | some o =>
  simp only [arrV] at C1
  go_enter Tryz.func8, Tryz.ntmps8
  have B0 := Lib.hid (show Below w.heap.size w (((w.alloc (.cells #[.int .i64 m, .int .i64 ip, .slice a rs.length cap] 26)).alloc (.cells #[.int .i64 0, .int .i64 0, .slice none 0 0] 26)).alloc (.cells #[.int .i64 0, .int .i64 0, .int .i64 0, .int .i64 0, .int .i64 0, .string ⟨#[]⟩] 30)) from ((((Below.refl _ w).alloc (by simp) _).alloc (by simp) _).alloc (by simp; omega) _))
  have Kl0 := Lib.hid (show Blk (((w.alloc (.cells #[.int .i64 m, .int .i64 ip, .slice a rs.length cap] 26)).alloc (.cells #[.int .i64 0, .int .i64 0, .slice none 0 0] 26)).alloc (.cells #[.int .i64 0, .int .i64 0, .int .i64 0, .int .i64 0, .int .i64 0, .string ⟨#[]⟩] 30)) (w.heap.size) [.int .i64 m, .int .i64 ip, .slice a rs.length cap] from ((Blk.new w [.int .i64 m, .int .i64 ip, .slice a rs.length cap] 26).alloc (.cells #[.int .i64 0, .int .i64 0, .slice none 0 0] 26)).alloc (.cells #[.int .i64 0, .int .i64 0, .int .i64 0, .int .i64 0, .int .i64 0, .string ⟨#[]⟩] 30))
  have s1 : (w.alloc (.cells #[.int .i64 m, .int .i64 ip, .slice a rs.length cap] 26)).heap.size = w.heap.size + 1 := by simp
  have KR0 := Lib.hid (show Blk (((w.alloc (.cells #[.int .i64 m, .int .i64 ip, .slice a rs.length cap] 26)).alloc (.cells #[.int .i64 0, .int .i64 0, .slice none 0 0] 26)).alloc (.cells #[.int .i64 0, .int .i64 0, .int .i64 0, .int .i64 0, .int .i64 0, .string ⟨#[]⟩] 30)) (w.heap.size + 1) [.int .i64 0, .int .i64 0, .slice none 0 0] by have h0 := (Blk.new (w.alloc (.cells #[.int .i64 m, .int .i64 ip, .slice a rs.length cap] 26)) [.int .i64 0, .int .i64 0, .slice none 0 0] 26).alloc (.cells #[.int .i64 0, .int .i64 0, .int .i64 0, .int .i64 0, .int .i64 0, .string ⟨#[]⟩] 30); rwa [s1] at h0)
  have n_l_R : w.heap.size ≠ w.heap.size + 1 := by omega
  have s2 : ((w.alloc (.cells #[.int .i64 m, .int .i64 ip, .slice a rs.length cap] 26)).alloc (.cells #[.int .i64 0, .int .i64 0, .slice none 0 0] 26)).heap.size = w.heap.size + 1 + 1 := by simp
  have KP0 := Lib.hid (show Blk (((w.alloc (.cells #[.int .i64 m, .int .i64 ip, .slice a rs.length cap] 26)).alloc (.cells #[.int .i64 0, .int .i64 0, .slice none 0 0] 26)).alloc (.cells #[.int .i64 0, .int .i64 0, .int .i64 0, .int .i64 0, .int .i64 0, .string ⟨#[]⟩] 30)) (w.heap.size + 1 + 1) [.int .i64 0, .int .i64 0, .int .i64 0, .int .i64 0, .int .i64 0, .string ⟨#[]⟩] by have h0 := Blk.new ((w.alloc (.cells #[.int .i64 m, .int .i64 ip, .slice a rs.length cap] 26)).alloc (.cells #[.int .i64 0, .int .i64 0, .slice none 0 0] 26)) [.int .i64 0, .int .i64 0, .int .i64 0, .int .i64 0, .int .i64 0, .string ⟨#[]⟩] 30; rwa [s2] at h0)
  have n_l_P : w.heap.size ≠ w.heap.size + 1 + 1 := by omega
  have n_R_P : w.heap.size + 1 ≠ w.heap.size + 1 + 1 := by omega
  clear s1 s2
  go_wp2_with fail
  change Calls _ _ _ (((w.alloc (.cells #[.int .i64 m, .int .i64 ip, .slice a rs.length cap] 26)).alloc (.cells #[.int .i64 0, .int .i64 0, .slice none 0 0] 26)).alloc (.cells #[.int .i64 0, .int .i64 0, .int .i64 0, .int .i64 0, .int .i64 0, .string ⟨#[]⟩] 30)) _
  generalize ((w.alloc (.cells #[.int .i64 m, .int .i64 ip, .slice a rs.length cap] 26)).alloc (.cells #[.int .i64 0, .int .i64 0, .slice none 0 0] 26)).alloc (.cells #[.int .i64 0, .int .i64 0, .int .i64 0, .int .i64 0, .int .i64 0, .string ⟨#[]⟩] 30) = v0 at B0 Kl0 KR0 KP0 ⊢
  generalize hh_P : w.heap.size + 1 + 1 = g_P at KP0 n_l_P n_R_P ⊢
  generalize hh_R : w.heap.size + 1 = g_R at KR0 n_l_R n_R_P ⊢
  generalize hh_l : w.heap.size = g_l at Kl0 n_l_R n_l_P ⊢
  have l_l : w.heap.size ≤ g_l := by omega
  have l_R : w.heap.size ≤ g_R := by omega
  have l_P : w.heap.size ≤ g_P := by omega
  clear hh_l hh_R hh_P
  refine (C1.out _ ((HR.out.below B0.out).mono B0.out.size) (HG.out.below B0.out HG.out.lt) (HX.out.below B0.out HX.out.lt)).mono ?_
  rintro e v1 ⟨rfl, hb⟩
  have B1 := Lib.hid (B0.out.trans (hb.mono B0.out.size))
  have Kl1 := Lib.hid (Kl0.out.below hb)
  have KR1 := Lib.hid (KR0.out.below hb)
  have KP1 := Lib.hid (KP0.out.below hb)
  clear hb B0 Kl0 KR0 KP0
  have Knn := Lib.hid (Blk.new v1 [.int .i64 o.ip, .int .i64 o.hw, .int .i64 o.kind, .int .i64 o.s, .int .i64 o.d, .int .i64 o.t, .int .i64 o.p, .int .i64 o.i, .string o.b, .string o.ans] 58)
  have l_n : w.heap.size ≤ v1.heap.size := B1.out.size
  have n_l_n : g_l ≠ v1.heap.size := by have h1 := Kl1.out.lt; omega
  have n_R_n : g_R ≠ v1.heap.size := by have h1 := KR1.out.lt; omega
  have n_P_n : g_P ≠ v1.heap.size := by have h1 := KP1.out.lt; omega
  have Bn := Lib.hid (B1.out.alloc B1.out.size (.cells #[.int .i64 o.ip, .int .i64 o.hw, .int .i64 o.kind, .int .i64 o.s, .int .i64 o.d, .int .i64 o.t, .int .i64 o.p, .int .i64 o.i, .string o.b, .string o.ans] 58))
  have Kln := Lib.hid (Kl1.out.alloc (.cells #[.int .i64 o.ip, .int .i64 o.hw, .int .i64 o.kind, .int .i64 o.s, .int .i64 o.d, .int .i64 o.t, .int .i64 o.p, .int .i64 o.i, .string o.b, .string o.ans] 58))
  have KRn := Lib.hid (KR1.out.alloc (.cells #[.int .i64 o.ip, .int .i64 o.hw, .int .i64 o.kind, .int .i64 o.s, .int .i64 o.d, .int .i64 o.t, .int .i64 o.p, .int .i64 o.i, .string o.b, .string o.ans] 58))
  have KPn := Lib.hid (KP1.out.alloc (.cells #[.int .i64 o.ip, .int .i64 o.hw, .int .i64 o.kind, .int .i64 o.s, .int .i64 o.d, .int .i64 o.t, .int .i64 o.p, .int .i64 o.i, .string o.b, .string o.ans] 58))
  clear B1 Kl1 KR1 KP1
  obtain ⟨⟨cl0, cl1, cl2⟩, dl0, dl1, dl2⟩ := Kln.out.o3
  obtain ⟨⟨cR0, cR1, cR2⟩, dR0, dR1, dR2⟩ := KRn.out.o3
  obtain ⟨⟨cP0, cP1, cP2, cP3, cP4, cP5⟩, dP0, dP1, dP2, dP3, dP4, dP5⟩ := KPn.out.of6
  go_upto_region 2 with fail
  clear cl0 cl1 cl2 dl0 dl1 dl2 cR0 cR1 cR2 dR0 dR1 dR2 cP0 cP1 cP2 cP3 cP4 cP5 dP0 dP1 dP2 dP3 dP4 dP5
  generalize v1.alloc (.cells #[.int .i64 o.ip, .int .i64 o.hw, .int .i64 o.kind, .int .i64 o.s, .int .i64 o.d, .int .i64 o.t, .int .i64 o.p, .int .i64 o.i, .string o.b, .string o.ans] 58) = v2 at Knn Bn Kln KRn KPn ⊢
  generalize v1.heap.size = g_n at Knn l_n n_l_n n_R_n n_P_n ⊢
  clear v1
  have Kl2 := Kln
  clear Kln
  have KR2 := KRn
  clear KRn
  have KP2 := KPn
  clear KPn
  have Kn2 := Knn
  clear Knn
  have B2 := Bn
  clear Bn
  have hq3 := HX.out.below B2.out HX.out.lt
  unfold Sent at hq3
  obtain ⟨⟨cl0, cl1, cl2⟩, dl0, dl1, dl2⟩ := Kl2.out.o3
  obtain ⟨⟨cR0, cR1, cR2⟩, dR0, dR1, dR2⟩ := KR2.out.o3
  obtain ⟨⟨cP0, cP1, cP2, cP3, cP4, cP5⟩, dP0, dP1, dP2, dP3, dP4, dP5⟩ := KP2.out.of6
  obtain ⟨⟨cn0, cn1, cn2, cn3, cn4, cn5, cn6, cn7, cn8, cn9⟩, dn0, dn1, dn2, dn3, dn4, dn5, dn6, dn7, dn8, dn9⟩ := Kn2.out.of10
  go_wp2_with fail
  clear cl0 cl1 cl2 dl0 dl1 dl2 cR0 cR1 cR2 dR0 dR1 dR2 cP0 cP1 cP2 cP3 cP4 cP5 dP0 dP1 dP2 dP3 dP4 dP5 cn0 cn1 cn2 cn3 cn4 cn5 cn6 cn7 cn8 cn9 dn0 dn1 dn2 dn3 dn4 dn5 dn6 dn7 dn8 dn9
  clear hq3
  refine (is_nil x _).mono ?_
  rintro e w' ⟨rfl, hw'⟩
  rw [hw']
  clear hw' w'
  obtain ⟨⟨cl0, cl1, cl2⟩, dl0, dl1, dl2⟩ := Kl2.out.o3
  obtain ⟨⟨cR0, cR1, cR2⟩, dR0, dR1, dR2⟩ := KR2.out.o3
  obtain ⟨⟨cP0, cP1, cP2, cP3, cP4, cP5⟩, dP0, dP1, dP2, dP3, dP4, dP5⟩ := KP2.out.of6
  obtain ⟨⟨cn0, cn1, cn2, cn3, cn4, cn5, cn6, cn7, cn8, cn9⟩, dn0, dn1, dn2, dn3, dn4, dn5, dn6, dn7, dn8, dn9⟩ := Kn2.out.of10
  go_wp2_with fail
  have lt_l := Kl2.out.lt
  have lt_R := KR2.out.lt
  have lt_P := KP2.out.lt
  have hz := B2.out.size
  have C2 := Lib.hid (learnedI a cap rs o.ip o.hw _ ((HR.out.below B2.out).mono B2.out.size) ha hl)
  clear cl0 cl1 cl2 dl0 dl1 dl2 cR0 cR1 cR2 dR0 dR1 dR2 cP0 cP1 cP2 cP3 cP4 cP5 dP0 dP1 dP2 dP3 dP4 dP5 cn0 cn1 cn2 cn3 cn4 cn5 cn6 cn7 cn8 cn9 dn0 dn1 dn2 dn3 dn4 dn5 dn6 dn7 dn8 dn9
  refine (C2.out).mono ?_
  rintro e v3 ⟨a', cap', rfl, ho, hb⟩
  have B3 := Lib.hid (B2.out.trans (hb.mono B2.out.size))
  have Kl3 := Lib.hid (Kl2.out.below hb)
  have KR3 := Lib.hid (KR2.out.below hb)
  have KP3 := Lib.hid (KP2.out.below hb)
  have Kn3 := Lib.hid (Kn2.out.below hb)
  clear hb B2 Kl2 KR2 KP2 Kn2
  have O1 := Lib.hid ho
  clear ho
  obtain ⟨⟨cl0, cl1, cl2⟩, dl0, dl1, dl2⟩ := Kl3.out.o3
  obtain ⟨⟨cR0, cR1, cR2⟩, dR0, dR1, dR2⟩ := KR3.out.o3
  obtain ⟨⟨cP0, cP1, cP2, cP3, cP4, cP5⟩, dP0, dP1, dP2, dP3, dP4, dP5⟩ := KP3.out.of6
  obtain ⟨⟨cn0, cn1, cn2, cn3, cn4, cn5, cn6, cn7, cn8, cn9⟩, dn0, dn1, dn2, dn3, dn4, dn5, dn6, dn7, dn8, dn9⟩ := Kn3.out.of10
  have O2 := Lib.hid (own_set O1.out g_l 2 lt_l (.slice a' (learnE rs o.ip o.hw).length cap'))
  clear O1
  have Kl4 := Lib.hid (show Blk (v3.setCell ⟨g_l, 2, none⟩ (.slice a' (learnE rs o.ip o.hw).length cap')) g_l [.int .i64 m, .int .i64 ip, .slice a' (learnE rs o.ip o.hw).length cap'] from (Kl3.out.set 2 (.slice a' (learnE rs o.ip o.hw).length cap')))
  have KR4 := Lib.hid (show Blk (v3.setCell ⟨g_l, 2, none⟩ (.slice a' (learnE rs o.ip o.hw).length cap')) g_R [.int .i64 0, .int .i64 0, .slice none 0 0] from (KR3.out.setOther ⟨g_l, 2, none⟩ (.slice a' (learnE rs o.ip o.hw).length cap') (fun e => n_l_R e.symm)))
  have KP4 := Lib.hid (show Blk (v3.setCell ⟨g_l, 2, none⟩ (.slice a' (learnE rs o.ip o.hw).length cap')) g_P [.int .i64 0, .int .i64 0, .int .i64 0, .int .i64 0, .int .i64 0, .string ⟨#[]⟩] from (KP3.out.setOther ⟨g_l, 2, none⟩ (.slice a' (learnE rs o.ip o.hw).length cap') (fun e => n_l_P e.symm)))
  have Kn4 := Lib.hid (show Blk (v3.setCell ⟨g_l, 2, none⟩ (.slice a' (learnE rs o.ip o.hw).length cap')) g_n [.int .i64 o.ip, .int .i64 o.hw, .int .i64 o.kind, .int .i64 o.s, .int .i64 o.d, .int .i64 o.t, .int .i64 o.p, .int .i64 o.i, .string o.b, .string o.ans] from (Kn3.out.setOther ⟨g_l, 2, none⟩ (.slice a' (learnE rs o.ip o.hw).length cap') (fun e => n_l_n e.symm)))
  have B4 := Lib.hid (show Below w.heap.size w (v3.setCell ⟨g_l, 2, none⟩ (.slice a' (learnE rs o.ip o.hw).length cap')) from (B3.out.setCell l_l (.slice a' (learnE rs o.ip o.hw).length cap')))
  clear B3
  go_upto_region 5 with fail
  clear Kl3 KR3 KP3 Kn3
  clear cl0 cl1 cl2 dl0 dl1 dl2 cR0 cR1 cR2 dR0 dR1 dR2 cP0 cP1 cP2 cP3 cP4 cP5 dP0 dP1 dP2 dP3 dP4 dP5 cn0 cn1 cn2 cn3 cn4 cn5 cn6 cn7 cn8 cn9 dn0 dn1 dn2 dn3 dn4 dn5 dn6 dn7 dn8 dn9
  generalize v3.setCell ⟨g_l, 2, none⟩ (.slice a' (learnE rs o.ip o.hw).length cap') = v4 at B4 Kl4 KR4 KP4 Kn4 O2 ⊢
  refine wp_region_noPanic ?_
  refine wp_region_held_drew (S := fun w' => Blk w' g_l [.int .i64 m, .int .i64 ip, .slice a' (learnE rs o.ip o.hw).length cap'] ∧ Blk w' g_n [.int .i64 o.ip, .int .i64 o.hw, .int .i64 o.kind, .int .i64 o.s, .int .i64 o.d, .int .i64 o.t, .int .i64 o.p, .int .i64 o.i, .string o.b, .string o.ans]) (by kernel_rfl) ⟨Kl4.out, Kn4.out⟩ (fun hS => ?_)
  refine wpAnyH_take (i := 0) (v := .agg #[.int .i64 m, .int .i64 ip, .slice a' (learnE rs o.ip o.hw).length cap']) rfl (by kernel_rfl) (by kernel_rfl) (by kernel_rfl) (fun _ _ _ h => h) (Or.inl ⟨rfl, by intro w hS; obtain ⟨⟨h0, h1, h2⟩, _⟩ := hS.1.o3; go_simp⟩) hS ?_
  refine wpAnyH_take (i := 1) (v := .pointer (some ⟨g_n, 2, none⟩)) rfl (by kernel_rfl) (by kernel_rfl) (by kernel_rfl) (fun _ _ _ h => h) (Or.inl ⟨rfl, by intro w hS; go_simp⟩) hS ?_
  refine wpAnyH_take (i := 2) (v := .int .i64 o.kind) rfl (by kernel_rfl) (by kernel_rfl) (by kernel_rfl) (fun _ _ _ h => h) (Or.inl ⟨rfl, by intro w hS; obtain ⟨⟨h0, h1, h2, h3, h4, h5, h6, h7, h8, h9⟩, _⟩ := hS.2.of10; go_simp⟩) hS ?_
  refine wpAnyH_take (i := 3) (v := .pointer (some ⟨g_n, 3, none⟩)) rfl (by kernel_rfl) (by kernel_rfl) (by kernel_rfl) (fun _ _ _ h => h) (Or.inl ⟨rfl, by intro w hS; go_simp⟩) hS ?_
  refine wpAnyH_take (i := 4) (v := .agg #[.int .i64 o.s, .int .i64 o.d, .int .i64 o.t, .int .i64 o.p, .int .i64 o.i, .string o.b]) rfl (by kernel_rfl) (by kernel_rfl) (by kernel_rfl) (fun _ _ _ h => h) (Or.inl ⟨rfl, by intro w hS; obtain ⟨⟨h0, h1, h2, h3, h4, h5, h6, h7, h8, h9⟩, _⟩ := hS.2.of10; go_simp⟩) hS ?_
  refine wpAnyH_take (i := 5) (v := .pointer (some ⟨g_n, 9, none⟩)) rfl (by kernel_rfl) (by kernel_rfl) (by kernel_rfl) (fun _ _ _ h => h) (Or.inl ⟨rfl, by intro w hS; go_simp⟩) hS ?_
  refine wpAnyH_take (i := 6) (v := .string o.ans) rfl (by kernel_rfl) (by kernel_rfl) (by kernel_rfl) (fun _ _ _ h => h) (Or.inl ⟨rfl, by intro w hS; obtain ⟨⟨h0, h1, h2, h3, h4, h5, h6, h7, h8, h9⟩, _⟩ := hS.2.of10; go_simp⟩) hS ?_
  obtain ⟨⟨cR0, cR1, cR2⟩, dR0, dR1, dR2⟩ := KR4.out.o3
  refine wpAnyH_ready (rs := [7]) (by kernel_rfl) (by simp) ?_
  refine AllReadyH.cons (i := 7) rfl (fun K hK => ?zr4) AllReadyH.nil
  rw [if_pos (by rfl)]
  go_simp
  clear hS
  have Kl5 := Lib.hid (show Blk ((((v4.setCell ⟨g_R, 0, none⟩ (.int .i64 m)).setCell ⟨g_R, 1, none⟩ (.int .i64 ip)).setCell ⟨g_R, 2, none⟩ (.slice a' (learnE rs o.ip o.hw).length cap')).drew) g_l [.int .i64 m, .int .i64 ip, .slice a' (learnE rs o.ip o.hw).length cap'] from (((Kl4.out.setOther ⟨g_R, 0, none⟩ (.int .i64 m) (n_l_R)).setOther ⟨g_R, 1, none⟩ (.int .i64 ip) (n_l_R)).setOther ⟨g_R, 2, none⟩ (.slice a' (learnE rs o.ip o.hw).length cap') (n_l_R)))
  have KR5 := Lib.hid (show Blk ((((v4.setCell ⟨g_R, 0, none⟩ (.int .i64 m)).setCell ⟨g_R, 1, none⟩ (.int .i64 ip)).setCell ⟨g_R, 2, none⟩ (.slice a' (learnE rs o.ip o.hw).length cap')).drew) g_R [.int .i64 m, .int .i64 ip, .slice a' (learnE rs o.ip o.hw).length cap'] from (((KR4.out.set 0 (.int .i64 m)).set 1 (.int .i64 ip)).set 2 (.slice a' (learnE rs o.ip o.hw).length cap')))
  have KP5 := Lib.hid (show Blk ((((v4.setCell ⟨g_R, 0, none⟩ (.int .i64 m)).setCell ⟨g_R, 1, none⟩ (.int .i64 ip)).setCell ⟨g_R, 2, none⟩ (.slice a' (learnE rs o.ip o.hw).length cap')).drew) g_P [.int .i64 0, .int .i64 0, .int .i64 0, .int .i64 0, .int .i64 0, .string ⟨#[]⟩] from (((KP4.out.setOther ⟨g_R, 0, none⟩ (.int .i64 m) (fun e => n_R_P e.symm)).setOther ⟨g_R, 1, none⟩ (.int .i64 ip) (fun e => n_R_P e.symm)).setOther ⟨g_R, 2, none⟩ (.slice a' (learnE rs o.ip o.hw).length cap') (fun e => n_R_P e.symm)))
  have Kn5 := Lib.hid (show Blk ((((v4.setCell ⟨g_R, 0, none⟩ (.int .i64 m)).setCell ⟨g_R, 1, none⟩ (.int .i64 ip)).setCell ⟨g_R, 2, none⟩ (.slice a' (learnE rs o.ip o.hw).length cap')).drew) g_n [.int .i64 o.ip, .int .i64 o.hw, .int .i64 o.kind, .int .i64 o.s, .int .i64 o.d, .int .i64 o.t, .int .i64 o.p, .int .i64 o.i, .string o.b, .string o.ans] from (((Kn4.out.setOther ⟨g_R, 0, none⟩ (.int .i64 m) (fun e => n_R_n e.symm)).setOther ⟨g_R, 1, none⟩ (.int .i64 ip) (fun e => n_R_n e.symm)).setOther ⟨g_R, 2, none⟩ (.slice a' (learnE rs o.ip o.hw).length cap') (fun e => n_R_n e.symm)))
  have B5 := Lib.hid (show Below w.heap.size w ((((v4.setCell ⟨g_R, 0, none⟩ (.int .i64 m)).setCell ⟨g_R, 1, none⟩ (.int .i64 ip)).setCell ⟨g_R, 2, none⟩ (.slice a' (learnE rs o.ip o.hw).length cap')).drew) from (((B4.out.setCell l_R (.int .i64 m)).setCell l_R (.int .i64 ip)).setCell l_R (.slice a' (learnE rs o.ip o.hw).length cap')).drew)
  have RO5 := Lib.hid (own_drew (own_set (own_set (own_set O2.out g_R 0 lt_R (.int .i64 m)) g_R 1 lt_R (.int .i64 ip)) g_R 2 lt_R (.slice a' (learnE rs o.ip o.hw).length cap')))
  refine hK.out _ _ ⟨Kl5.out, Kn5.out⟩ (fun hS => ?_)
  clear hK K B4 cR0 cR1 cR2 dR0 dR1 dR2 Kl4 KR4 KP4 Kn4 O2
  generalize (((v4.setCell ⟨g_R, 0, none⟩ (.int .i64 m)).setCell ⟨g_R, 1, none⟩ (.int .i64 ip)).setCell ⟨g_R, 2, none⟩ (.slice a' (learnE rs o.ip o.hw).length cap')).drew = v5 at hS Kl5 KR5 KP5 Kn5 B5 RO5 ⊢
  refine wpAnyH_take (i := 8) (v := .int .i64 o.kind) rfl (by kernel_rfl) (by kernel_rfl) (by kernel_rfl) (fun _ _ _ h => h) (Or.inl ⟨rfl, by intro w hS; go_simp⟩) hS ?_
  obtain ⟨⟨cP0, cP1, cP2, cP3, cP4, cP5⟩, dP0, dP1, dP2, dP3, dP4, dP5⟩ := KP5.out.of6
  refine wpAnyH_ready (rs := [9]) (by kernel_rfl) (by simp) ?_
  refine AllReadyH.cons (i := 9) rfl (fun K hK => ?zr5) AllReadyH.nil
  rw [if_pos (by rfl)]
  go_simp
  clear hS
  have Kl6 := Lib.hid (show Blk ((((((v5.setCell ⟨g_P, 0, none⟩ (.int .i64 o.s)).setCell ⟨g_P, 1, none⟩ (.int .i64 o.d)).setCell ⟨g_P, 2, none⟩ (.int .i64 o.t)).setCell ⟨g_P, 3, none⟩ (.int .i64 o.p)).setCell ⟨g_P, 4, none⟩ (.int .i64 o.i)).setCell ⟨g_P, 5, none⟩ (.string o.b)) g_l [.int .i64 m, .int .i64 ip, .slice a' (learnE rs o.ip o.hw).length cap'] from ((((((Kl5.out.setOther ⟨g_P, 0, none⟩ (.int .i64 o.s) (n_l_P)).setOther ⟨g_P, 1, none⟩ (.int .i64 o.d) (n_l_P)).setOther ⟨g_P, 2, none⟩ (.int .i64 o.t) (n_l_P)).setOther ⟨g_P, 3, none⟩ (.int .i64 o.p) (n_l_P)).setOther ⟨g_P, 4, none⟩ (.int .i64 o.i) (n_l_P)).setOther ⟨g_P, 5, none⟩ (.string o.b) (n_l_P)))
  have KR6 := Lib.hid (show Blk ((((((v5.setCell ⟨g_P, 0, none⟩ (.int .i64 o.s)).setCell ⟨g_P, 1, none⟩ (.int .i64 o.d)).setCell ⟨g_P, 2, none⟩ (.int .i64 o.t)).setCell ⟨g_P, 3, none⟩ (.int .i64 o.p)).setCell ⟨g_P, 4, none⟩ (.int .i64 o.i)).setCell ⟨g_P, 5, none⟩ (.string o.b)) g_R [.int .i64 m, .int .i64 ip, .slice a' (learnE rs o.ip o.hw).length cap'] from ((((((KR5.out.setOther ⟨g_P, 0, none⟩ (.int .i64 o.s) (n_R_P)).setOther ⟨g_P, 1, none⟩ (.int .i64 o.d) (n_R_P)).setOther ⟨g_P, 2, none⟩ (.int .i64 o.t) (n_R_P)).setOther ⟨g_P, 3, none⟩ (.int .i64 o.p) (n_R_P)).setOther ⟨g_P, 4, none⟩ (.int .i64 o.i) (n_R_P)).setOther ⟨g_P, 5, none⟩ (.string o.b) (n_R_P)))
  have KP6 := Lib.hid (show Blk ((((((v5.setCell ⟨g_P, 0, none⟩ (.int .i64 o.s)).setCell ⟨g_P, 1, none⟩ (.int .i64 o.d)).setCell ⟨g_P, 2, none⟩ (.int .i64 o.t)).setCell ⟨g_P, 3, none⟩ (.int .i64 o.p)).setCell ⟨g_P, 4, none⟩ (.int .i64 o.i)).setCell ⟨g_P, 5, none⟩ (.string o.b)) g_P [.int .i64 o.s, .int .i64 o.d, .int .i64 o.t, .int .i64 o.p, .int .i64 o.i, .string o.b] from ((((((KP5.out.set 0 (.int .i64 o.s)).set 1 (.int .i64 o.d)).set 2 (.int .i64 o.t)).set 3 (.int .i64 o.p)).set 4 (.int .i64 o.i)).set 5 (.string o.b)))
  have Kn6 := Lib.hid (show Blk ((((((v5.setCell ⟨g_P, 0, none⟩ (.int .i64 o.s)).setCell ⟨g_P, 1, none⟩ (.int .i64 o.d)).setCell ⟨g_P, 2, none⟩ (.int .i64 o.t)).setCell ⟨g_P, 3, none⟩ (.int .i64 o.p)).setCell ⟨g_P, 4, none⟩ (.int .i64 o.i)).setCell ⟨g_P, 5, none⟩ (.string o.b)) g_n [.int .i64 o.ip, .int .i64 o.hw, .int .i64 o.kind, .int .i64 o.s, .int .i64 o.d, .int .i64 o.t, .int .i64 o.p, .int .i64 o.i, .string o.b, .string o.ans] from ((((((Kn5.out.setOther ⟨g_P, 0, none⟩ (.int .i64 o.s) (fun e => n_P_n e.symm)).setOther ⟨g_P, 1, none⟩ (.int .i64 o.d) (fun e => n_P_n e.symm)).setOther ⟨g_P, 2, none⟩ (.int .i64 o.t) (fun e => n_P_n e.symm)).setOther ⟨g_P, 3, none⟩ (.int .i64 o.p) (fun e => n_P_n e.symm)).setOther ⟨g_P, 4, none⟩ (.int .i64 o.i) (fun e => n_P_n e.symm)).setOther ⟨g_P, 5, none⟩ (.string o.b) (fun e => n_P_n e.symm)))
  have B6 := Lib.hid (show Below w.heap.size w ((((((v5.setCell ⟨g_P, 0, none⟩ (.int .i64 o.s)).setCell ⟨g_P, 1, none⟩ (.int .i64 o.d)).setCell ⟨g_P, 2, none⟩ (.int .i64 o.t)).setCell ⟨g_P, 3, none⟩ (.int .i64 o.p)).setCell ⟨g_P, 4, none⟩ (.int .i64 o.i)).setCell ⟨g_P, 5, none⟩ (.string o.b)) from ((((((B5.out.setCell l_P (.int .i64 o.s)).setCell l_P (.int .i64 o.d)).setCell l_P (.int .i64 o.t)).setCell l_P (.int .i64 o.p)).setCell l_P (.int .i64 o.i)).setCell l_P (.string o.b)))
  have RO6 := Lib.hid (own_set (own_set (own_set (own_set (own_set (own_set RO5.out g_P 0 lt_P (.int .i64 o.s)) g_P 1 lt_P (.int .i64 o.d)) g_P 2 lt_P (.int .i64 o.t)) g_P 3 lt_P (.int .i64 o.p)) g_P 4 lt_P (.int .i64 o.i)) g_P 5 lt_P (.string o.b))
  refine hK.out _ _ ⟨Kl6.out, Kn6.out⟩ (fun hS => ?_)
  clear hK K B5 cP0 cP1 cP2 cP3 cP4 cP5 dP0 dP1 dP2 dP3 dP4 dP5 Kl5 KR5 KP5 Kn5 RO5
  generalize (((((v5.setCell ⟨g_P, 0, none⟩ (.int .i64 o.s)).setCell ⟨g_P, 1, none⟩ (.int .i64 o.d)).setCell ⟨g_P, 2, none⟩ (.int .i64 o.t)).setCell ⟨g_P, 3, none⟩ (.int .i64 o.p)).setCell ⟨g_P, 4, none⟩ (.int .i64 o.i)).setCell ⟨g_P, 5, none⟩ (.string o.b) = v6 at hS Kl6 KR6 KP6 Kn6 B6 RO6 ⊢
  refine wpAnyH_take (i := 10) (v := .string o.ans) rfl (by kernel_rfl) (by kernel_rfl) (by kernel_rfl) (fun _ _ _ h => h) (Or.inl ⟨rfl, by intro w hS; go_simp⟩) hS ?_
  refine wpAnyH_done (by kernel_rfl) ?_ _
  refine NoPanic.normal ?_
  obtain ⟨⟨cl0, cl1, cl2⟩, dl0, dl1, dl2⟩ := Kl6.out.o3
  obtain ⟨⟨cR0, cR1, cR2⟩, dR0, dR1, dR2⟩ := KR6.out.o3
  obtain ⟨⟨cP0, cP1, cP2, cP3, cP4, cP5⟩, dP0, dP1, dP2, dP3, dP4, dP5⟩ := KP6.out.of6
  obtain ⟨⟨cn0, cn1, cn2, cn3, cn4, cn5, cn6, cn7, cn8, cn9⟩, dn0, dn1, dn2, dn3, dn4, dn5, dn6, dn7, dn8, dn9⟩ := Kn6.out.of10
  go_wp2_with fail
  refine bodyPost_ret (v := .tuple #[.agg #[.int .i64 m, .int .i64 ip, .slice a' (learnE rs o.ip o.hw).length cap'], .int .i64 o.kind, .agg #[.int .i64 o.s, .int .i64 o.d, .int .i64 o.t, .int .i64 o.p, .int .i64 o.i, .string o.b], .string o.ans]) (by simp [results, Tryz.results8, go_sem, cR0, cR1, cR2, cP0, cP1, cP2, cP3, cP4, cP5]) rfl ⟨_, _, rfl, own_down RO6.out hz, B6.out⟩
end Go.Proofs.YtkkimgjcefojdaaGreatDoor
