/- The law FnExactCookieOf holds for any Mac, tuple and numbers (up to the law's own measure of 1048576 rows and bytes; past it the law itself answers true): impl's CookieOf answers as the model's and leaves its arguments. No condition. -/
import Derived.Test.YtobfgkiccmhgdaaRows
import Derived.Test.YtobfgkiccmhgdaaKeysLaw
import Derived.Test.YtobfgkiccmhgdaaArgKeys
import Derived.Deep.RegionHeld3
import Derived.ProofKit
import Derived.OpenShut
import Derived.ShutString
import Derived.ChangeSame
import Derived.Test.YtobfgkiccmhgdaaKeysAt
import Derived.Test.YtobfgkiccmhgdaaTupleLaw
import Derived.Test.YtobfgkiccmhgdaaFlat
namespace Go.Proofs.Ytobfgkiccmhgdaa.fnExactCookieOf
open Go.ChangeShapes Go.WideShapes Go.ChangeAt Go.RowKit Go.Lib

/-- The law's word: true, and what lay before the call lies as it lay. -/
def OkB (w : World) (e : Ending) (w' : World) : Prop := e = .returned (.bool true) ∧ Below w.heap.size w w'

set_option maxRecDepth 100000 in
set_option maxHeartbeats 8000000 in
theorem go (m : M) (x y z s t i : Int) (w : World) (hm : LawM w m) :
    Calls Try.prog 7 #[.agg #[.bool m.u, .int .u64 (n64 m.k), .int .u64 (n64 m.l), .slice m.a m.rs.length m.c], .agg #[.int .i64 x, .int .i64 y, .int .i64 z], .int .i64 s, .int .i64 t, .int .i64 i] w (OkB w) := by
  have HM := Lib.hid hm
  clear hm
  go_enter Try.func7, Try.ntmps7
  have B0 := Lib.hid (show Below w.heap.size w ((w.alloc (.cells #[.bool m.u, .int .u64 (n64 m.k), .int .u64 (n64 m.l), .slice m.a m.rs.length m.c] 50)).alloc (.cells #[.int .i64 x, .int .i64 y, .int .i64 z] 62)) from (((Below.refl _ w).alloc (by simp) _).alloc (by simp) _))
  have KK0 := Lib.hid (show Blk ((w.alloc (.cells #[.bool m.u, .int .u64 (n64 m.k), .int .u64 (n64 m.l), .slice m.a m.rs.length m.c] 50)).alloc (.cells #[.int .i64 x, .int .i64 y, .int .i64 z] 62)) (w.heap.size) [.bool m.u, .int .u64 (n64 m.k), .int .u64 (n64 m.l), .slice m.a m.rs.length m.c] from (Blk.new w [.bool m.u, .int .u64 (n64 m.k), .int .u64 (n64 m.l), .slice m.a m.rs.length m.c] 50).alloc (.cells #[.int .i64 x, .int .i64 y, .int .i64 z] 62))
  have s1 : (w.alloc (.cells #[.bool m.u, .int .u64 (n64 m.k), .int .u64 (n64 m.l), .slice m.a m.rs.length m.c] 50)).heap.size = w.heap.size + 1 := by simp
  have KT0 := Lib.hid (show Blk ((w.alloc (.cells #[.bool m.u, .int .u64 (n64 m.k), .int .u64 (n64 m.l), .slice m.a m.rs.length m.c] 50)).alloc (.cells #[.int .i64 x, .int .i64 y, .int .i64 z] 62)) (w.heap.size + 1) [.int .i64 x, .int .i64 y, .int .i64 z] by have h0 := Blk.new (w.alloc (.cells #[.bool m.u, .int .u64 (n64 m.k), .int .u64 (n64 m.l), .slice m.a m.rs.length m.c] 50)) [.int .i64 x, .int .i64 y, .int .i64 z] 62; rwa [s1] at h0)
  have n_K_T : w.heap.size ≠ w.heap.size + 1 := by omega
  clear s1
  go_wp2_with fail
  change Calls _ _ _ ((w.alloc (.cells #[.bool m.u, .int .u64 (n64 m.k), .int .u64 (n64 m.l), .slice m.a m.rs.length m.c] 50)).alloc (.cells #[.int .i64 x, .int .i64 y, .int .i64 z] 62)) _
  generalize (w.alloc (.cells #[.bool m.u, .int .u64 (n64 m.k), .int .u64 (n64 m.l), .slice m.a m.rs.length m.c] 50)).alloc (.cells #[.int .i64 x, .int .i64 y, .int .i64 z] 62) = v0 at B0 KK0 KT0 ⊢
  generalize w.heap.size + 1 = g_T at KT0 n_K_T ⊢
  generalize w.heap.size = g_K at KK0 n_K_T ⊢
  refine (szMac_any m.u (n64 m.k) (n64 m.l) m.a m.c m.rs 1048576 _ ((HM.out.2.below B0.out).mono B0.out.size) HM.out.1.1 (fun r hr => (HM.out.1.2 r hr).1) (by decide) (by decide)).mono ?_
  rintro e v1 ⟨hb, r, rfl, hr1, hr2⟩
  have B1 := Lib.hid (B0.out.trans (hb.mono B0.out.size))
  have KK1 := Lib.hid (KK0.out.below hb)
  have KT1 := Lib.hid (KT0.out.below hb)
  clear hb B0 KK0 KT0
  have HR := Lib.hid hr2
  clear hr2
  obtain ⟨⟨cK0, cK1, cK2, cK3⟩, dK0, dK1, dK2, dK3⟩ := KK1.out.four
  obtain ⟨⟨cT0, cT1, cT2⟩, dT0, dT1, dT2⟩ := KT1.out.o3
  by_cases hnegr : r < 0
  · go_wp2_with fail
    go_ret
    exact ⟨rfl, B1.out⟩
  have fm := Lib.hid (show m.rs.length ≤ 1048576 by have := HR.out (by omega); omega)
  have Fm := Lib.hid (LawM.fit HM.out fm.out)
  clear HR
  go_wp2_with fail
  clear cK0 cK1 cK2 cK3 dK0 dK1 dK2 dK3 cT0 cT1 cT2 dT0 dT1 dT2
  clear hr1 hnegr
  obtain ⟨⟨cK0, cK1, cK2, cK3⟩, dK0, dK1, dK2, dK3⟩ := KK1.out.four
  obtain ⟨⟨cT0, cT1, cT2⟩, dT0, dT1, dT2⟩ := KT1.out.o3
  have P1_0 : True := trivial
  have P1_1 : True := trivial
  have P1_2 : True := trivial
  go_region_held3 (fun w' => (w'.cell? ⟨g_K, 0, none⟩ = some (.bool m.u) ∧ w'.cell? ⟨g_K, 1, none⟩ = some (.int .u64 (n64 m.k)) ∧ w'.cell? ⟨g_K, 2, none⟩ = some (.int .u64 (n64 m.l)) ∧ w'.cell? ⟨g_K, 3, none⟩ = some (.slice m.a m.rs.length m.c)) ∧ (w'.cell? ⟨g_T, 0, none⟩ = some (.int .i64 x) ∧ w'.cell? ⟨g_T, 1, none⟩ = some (.int .i64 y) ∧ w'.cell? ⟨g_T, 2, none⟩ = some (.int .i64 z)))
    (first | go_keep | (exact ⟨KK2.out.four.1, KT2.out.o3.1⟩) | (exact ⟨KK3.out.four.1, KT3.out.o3.1⟩) | (exact ⟨KK4.out.four.1, KT4.out.o3.1⟩))
    (first | (have q := P1_0; go_at_call 37; clear q P1_0; refine (toMac_any m.u (n64 m.k) (n64 m.l) m.a m.c m.rs _ ((HM.out.2.below B1.out.drew).mono B1.out.drew.size) fm.out).mono ?_; rintro e v2 ⟨g_a, rfl, ho_a, hb⟩; replace hb := (Below.refl _ v1).drew.trans hb; replace ho_a := own_down ho_a (show v1.heap.size ≤ v1.drew.heap.size from Nat.le_refl _); have n_K_a : g_K ≠ g_a := (by have h1 := KK1.out.lt; have h2 := (ho_a.lt g_a rfl).1; omega); have n_T_a : g_T ≠ g_a := (by have h1 := KT1.out.lt; have h2 := (ho_a.lt g_a rfl).1; omega); have l_a : w.heap.size ≤ g_a := Nat.le_trans B1.out.size (ho_a.lt g_a rfl).1; have B2 := Lib.hid (B1.out.trans (hb.mono B1.out.size)); have KK2 := Lib.hid (KK1.out.below hb); have KT2 := Lib.hid (KT1.out.below hb); have Oa2 := Lib.hid (own_down ho_a (Nat.zero_le _)); clear hb B1 KK1 KT1 ho_a) | (have q := P1_1; go_at_call 38; clear q P1_1; refine (toTuple_any x y z _).mono ?_; rintro e v3 ⟨rfl, hb⟩; have B3 := Lib.hid (B2.out.trans (hb.mono B2.out.size)); have KK3 := Lib.hid (KK2.out.below hb); have KT3 := Lib.hid (KT2.out.below hb); have Oa3 := Lib.hid (Oa2.out.kept (below_any (row := none) hb) (.inr (by simp [Value.ownBlock]))); clear hb B2 KK2 KT2 Oa2) | (have q := P1_2; go_at_call 36; clear q P1_2; refine (cookieOfS_at m (some ⟨g_a, 0, none⟩) m.rs.length x y z s t i _ (M.on_at Oa3.out) Fm.out).mono ?_; rintro e v4 ⟨rfl, hb⟩; have B4 := Lib.hid (B3.out.trans (hb.mono B3.out.size)); have KK4 := Lib.hid (KK3.out.below hb); have KT4 := Lib.hid (KT3.out.below hb); have Oa4 := Lib.hid (Oa3.out.kept (below_any (row := none) hb) (.inr (by simp [Value.ownBlock]))); clear hb B3 KK3 KT3 Oa3))
  try clear cK0 cK1 cK2 cK3 dK0 dK1 dK2 dK3 cT0 cT1 cT2 dT0 dT1 dT2
  obtain ⟨⟨cK0, cK1, cK2, cK3⟩, dK0, dK1, dK2, dK3⟩ := KK4.out.four
  obtain ⟨⟨cT0, cT1, cT2⟩, dT0, dT1, dT2⟩ := KT4.out.o3
  go_wp2_with fail
  clear cK0 cK1 cK2 cK3 dK0 dK1 dK2 dK3 cT0 cT1 cT2 dT0 dT1 dT2
  refine (toMac_any m.u (n64 m.k) (n64 m.l) m.a m.c m.rs _ ((HM.out.2.below B4.out).mono B4.out.size) fm.out).mono ?_
  rintro e v5 ⟨g_b, rfl, ho_b, hb⟩
  have n_K_b : g_K ≠ g_b := by have h1 := KK4.out.lt; have h2 := (ho_b.lt g_b rfl).1; omega
  have n_T_b : g_T ≠ g_b := by have h1 := KT4.out.lt; have h2 := (ho_b.lt g_b rfl).1; omega
  have n_a_b : g_a ≠ g_b := by have h1 := (Oa4.out.lt g_a rfl).2; have h2 := (ho_b.lt g_b rfl).1; omega
  have l_b : w.heap.size ≤ g_b := Nat.le_trans B4.out.size (ho_b.lt g_b rfl).1
  have B5 := Lib.hid (B4.out.trans (hb.mono B4.out.size))
  have KK5 := Lib.hid (KK4.out.below hb)
  have KT5 := Lib.hid (KT4.out.below hb)
  have Oa5 := Lib.hid (Oa4.out.kept (below_any (row := none) hb) (.inr (by simp [Value.ownBlock])))
  have Ob5 := Lib.hid (own_down ho_b (Nat.zero_le _))
  clear hb B4 KK4 KT4 Oa4 ho_b
  have KXn := Lib.hid (Blk.new v5 [.bool m.u, .int .u64 (n64 m.k), .int .u64 (n64 m.l), .slice (some ⟨g_b, 0, none⟩) m.rs.length m.rs.length] 27)
  have n_K_X : g_K ≠ v5.heap.size := by have h1 := KK5.out.lt; omega
  have n_T_X : g_T ≠ v5.heap.size := by have h1 := KT5.out.lt; omega
  have n_a_X : g_a ≠ v5.heap.size := by have h1 := (Oa5.out.lt g_a rfl).2; omega
  have n_b_X : g_b ≠ v5.heap.size := by have h1 := (Ob5.out.lt g_b rfl).2; omega
  have Bn := Lib.hid (B5.out.alloc B5.out.size (.cells #[.bool m.u, .int .u64 (n64 m.k), .int .u64 (n64 m.l), .slice (some ⟨g_b, 0, none⟩) m.rs.length m.rs.length] 27))
  have KKn := Lib.hid (KK5.out.alloc (.cells #[.bool m.u, .int .u64 (n64 m.k), .int .u64 (n64 m.l), .slice (some ⟨g_b, 0, none⟩) m.rs.length m.rs.length] 27))
  have KTn := Lib.hid (KT5.out.alloc (.cells #[.bool m.u, .int .u64 (n64 m.k), .int .u64 (n64 m.l), .slice (some ⟨g_b, 0, none⟩) m.rs.length m.rs.length] 27))
  have Oan := Lib.hid (Oa5.out.alloc (.cells #[.bool m.u, .int .u64 (n64 m.k), .int .u64 (n64 m.l), .slice (some ⟨g_b, 0, none⟩) m.rs.length m.rs.length] 27))
  have Obn := Lib.hid (Ob5.out.alloc (.cells #[.bool m.u, .int .u64 (n64 m.k), .int .u64 (n64 m.l), .slice (some ⟨g_b, 0, none⟩) m.rs.length m.rs.length] 27))
  clear B5 KK5 KT5 Oa5 Ob5
  obtain ⟨⟨cK0, cK1, cK2, cK3⟩, dK0, dK1, dK2, dK3⟩ := KKn.out.four
  obtain ⟨⟨cT0, cT1, cT2⟩, dT0, dT1, dT2⟩ := KTn.out.o3
  go_upto_region 7 with fail
  clear cK0 cK1 cK2 cK3 dK0 dK1 dK2 dK3 cT0 cT1 cT2 dT0 dT1 dT2
  generalize v5.alloc (.cells #[.bool m.u, .int .u64 (n64 m.k), .int .u64 (n64 m.l), .slice (some ⟨g_b, 0, none⟩) m.rs.length m.rs.length] 27) = v6 at KXn Bn KKn KTn Oan Obn ⊢
  generalize v5.heap.size = g_X at KXn n_K_X n_T_X n_a_X n_b_X ⊢
  clear v5
  have KK6 := KKn
  clear KKn
  have KT6 := KTn
  clear KTn
  have KX6 := KXn
  clear KXn
  have Oa6 := Oan
  clear Oan
  have Ob6 := Obn
  clear Obn
  have B6 := Bn
  clear Bn
  obtain ⟨⟨cT0, cT1, cT2⟩, dT0, dT1, dT2⟩ := KT6.out.o3
  obtain ⟨⟨cX0, cX1, cX2, cX3⟩, dX0, dX1, dX2, dX3⟩ := KX6.out.four
  have P6_0 : True := trivial
  have P6_1 : True := trivial
  go_region_held3 (fun w' => (w'.cell? ⟨g_X, 0, none⟩ = some (.bool m.u) ∧ w'.cell? ⟨g_X, 1, none⟩ = some (.int .u64 (n64 m.k)) ∧ w'.cell? ⟨g_X, 2, none⟩ = some (.int .u64 (n64 m.l)) ∧ w'.cell? ⟨g_X, 3, none⟩ = some (.slice (some ⟨g_b, 0, none⟩) m.rs.length m.rs.length)) ∧ (w'.cell? ⟨g_T, 0, none⟩ = some (.int .i64 x) ∧ w'.cell? ⟨g_T, 1, none⟩ = some (.int .i64 y) ∧ w'.cell? ⟨g_T, 2, none⟩ = some (.int .i64 z)))
    (first | go_keep | (exact ⟨KX7.out.four.1, KT7.out.o3.1⟩) | (exact ⟨KX8.out.four.1, KT8.out.o3.1⟩))
    (first | (have q := P6_0; go_at_call 38; clear q P6_0; refine (toTuple_any x y z _).mono ?_; rintro e v7 ⟨rfl, hb⟩; replace hb := (Below.refl _ v6).drew.trans hb; have B7 := Lib.hid (B6.out.trans (hb.mono B6.out.size)); have KK7 := Lib.hid (KK6.out.below hb); have KT7 := Lib.hid (KT6.out.below hb); have KX7 := Lib.hid (KX6.out.below hb); have Oa7 := Lib.hid (Oa6.out.kept (below_any (row := none) hb) (.inr (by simp [Value.ownBlock]))); have Ob7 := Lib.hid (Ob6.out.kept (below_any (row := none) hb) (.inr (by simp [Value.ownBlock]))); clear hb B6 KK6 KT6 KX6 Oa6 Ob6) | (have q := P6_1; go_at_call 19; clear q P6_1; refine (cookieOfI_at m (some ⟨g_b, 0, none⟩) m.rs.length x y z s t i _ (M.on_at Ob7.out) Fm.out).mono ?_; rintro e v8 ⟨rfl, hb⟩; have B8 := Lib.hid (B7.out.trans (hb.mono B7.out.size)); have KK8 := Lib.hid (KK7.out.below hb); have KT8 := Lib.hid (KT7.out.below hb); have KX8 := Lib.hid (KX7.out.below hb); have Oa8 := Lib.hid (Oa7.out.kept (below_any (row := none) hb) (.inr (by simp [Value.ownBlock]))); have Ob8 := Lib.hid (Ob7.out.kept (below_any (row := none) hb) (.inr (by simp [Value.ownBlock]))); clear hb B7 KK7 KT7 KX7 Oa7 Ob7))
  try clear cT0 cT1 cT2 dT0 dT1 dT2 cX0 cX1 cX2 cX3 dX0 dX1 dX2 dX3
  obtain ⟨⟨cK0, cK1, cK2, cK3⟩, dK0, dK1, dK2, dK3⟩ := KK8.out.four
  obtain ⟨⟨cT0, cT1, cT2⟩, dT0, dT1, dT2⟩ := KT8.out.o3
  obtain ⟨⟨cX0, cX1, cX2, cX3⟩, dX0, dX1, dX2, dX3⟩ := KX8.out.four
  go_wp2_with fail
  clear cK0 cK1 cK2 cK3 dK0 dK1 dK2 dK3 cT0 cT1 cT2 dT0 dT1 dT2 cX0 cX1 cX2 cX3 dX0 dX1 dX2 dX3
  obtain ⟨⟨cK0, cK1, cK2, cK3⟩, dK0, dK1, dK2, dK3⟩ := KK8.out.four
  obtain ⟨⟨cX0, cX1, cX2, cX3⟩, dX0, dX1, dX2, dX3⟩ := KX8.out.four
  have P8_0 : True := trivial
  have P8_1 : True := trivial
  go_region_held3 (fun w' => (w'.cell? ⟨g_X, 0, none⟩ = some (.bool m.u) ∧ w'.cell? ⟨g_X, 1, none⟩ = some (.int .u64 (n64 m.k)) ∧ w'.cell? ⟨g_X, 2, none⟩ = some (.int .u64 (n64 m.l)) ∧ w'.cell? ⟨g_X, 3, none⟩ = some (.slice (some ⟨g_b, 0, none⟩) m.rs.length m.rs.length)) ∧ (w'.cell? ⟨g_K, 0, none⟩ = some (.bool m.u) ∧ w'.cell? ⟨g_K, 1, none⟩ = some (.int .u64 (n64 m.k)) ∧ w'.cell? ⟨g_K, 2, none⟩ = some (.int .u64 (n64 m.l)) ∧ w'.cell? ⟨g_K, 3, none⟩ = some (.slice m.a m.rs.length m.c)))
    (first | go_keep | (exact ⟨KX9.out.four.1, KK9.out.four.1⟩) | (exact ⟨KX10.out.four.1, KK10.out.four.1⟩))
    (first | (have q := P8_0; go_at_call 37; clear q P8_0; refine (toMac_any m.u (n64 m.k) (n64 m.l) m.a m.c m.rs _ ((HM.out.2.below B8.out.drew).mono B8.out.drew.size) fm.out).mono ?_; rintro e v9 ⟨g_c, rfl, ho_c, hb⟩; replace hb := (Below.refl _ v8).drew.trans hb; replace ho_c := own_down ho_c (show v8.heap.size ≤ v8.drew.heap.size from Nat.le_refl _); have n_K_c : g_K ≠ g_c := (by have h1 := KK8.out.lt; have h2 := (ho_c.lt g_c rfl).1; omega); have n_T_c : g_T ≠ g_c := (by have h1 := KT8.out.lt; have h2 := (ho_c.lt g_c rfl).1; omega); have n_X_c : g_X ≠ g_c := (by have h1 := KX8.out.lt; have h2 := (ho_c.lt g_c rfl).1; omega); have n_a_c : g_a ≠ g_c := (by have h1 := (Oa8.out.lt g_a rfl).2; have h2 := (ho_c.lt g_c rfl).1; omega); have n_b_c : g_b ≠ g_c := (by have h1 := (Ob8.out.lt g_b rfl).2; have h2 := (ho_c.lt g_c rfl).1; omega); have l_c : w.heap.size ≤ g_c := Nat.le_trans B8.out.size (ho_c.lt g_c rfl).1; have B9 := Lib.hid (B8.out.trans (hb.mono B8.out.size)); have KK9 := Lib.hid (KK8.out.below hb); have KT9 := Lib.hid (KT8.out.below hb); have KX9 := Lib.hid (KX8.out.below hb); have Oa9 := Lib.hid (Oa8.out.kept (below_any (row := none) hb) (.inr (by simp [Value.ownBlock]))); have Ob9 := Lib.hid (Ob8.out.kept (below_any (row := none) hb) (.inr (by simp [Value.ownBlock]))); have Oc9 := Lib.hid (own_down ho_c (Nat.zero_le _)); clear hb B8 KK8 KT8 KX8 Oa8 Ob8 ho_c) | (have q := P8_1; go_at_call 31; clear q P8_1; refine (eqMac_self m.u (n64 m.k) (n64 m.l) (some ⟨g_b, 0, none⟩) (some ⟨g_c, 0, none⟩) m.rs.length m.rs.length m.rs _ (Row.ownK Ob9.out) (Row.ownK Oc9.out) fm.out).mono ?_; rintro e v10 ⟨rfl, hb⟩; have B10 := Lib.hid (B9.out.trans (hb.mono B9.out.size)); have KK10 := Lib.hid (KK9.out.below hb); have KT10 := Lib.hid (KT9.out.below hb); have KX10 := Lib.hid (KX9.out.below hb); have Oa10 := Lib.hid (Oa9.out.kept (below_any (row := none) hb) (.inr (by simp [Value.ownBlock]))); have Ob10 := Lib.hid (Ob9.out.kept (below_any (row := none) hb) (.inr (by simp [Value.ownBlock]))); have Oc10 := Lib.hid (Oc9.out.kept (below_any (row := none) hb) (.inr (by simp [Value.ownBlock]))); clear hb B9 KK9 KT9 KX9 Oa9 Ob9 Oc9))
  try clear cK0 cK1 cK2 cK3 dK0 dK1 dK2 dK3 cX0 cX1 cX2 cX3 dX0 dX1 dX2 dX3
  obtain ⟨⟨cK0, cK1, cK2, cK3⟩, dK0, dK1, dK2, dK3⟩ := KK10.out.four
  obtain ⟨⟨cT0, cT1, cT2⟩, dT0, dT1, dT2⟩ := KT10.out.o3
  obtain ⟨⟨cX0, cX1, cX2, cX3⟩, dX0, dX1, dX2, dX3⟩ := KX10.out.four
  go_wp2_with fail
  go_ret
  exact ⟨rfl, B10.out⟩

theorem walk {w : World} (m : M) (x y z s t i : Int) (h : LawM w m) (_wx : (Lit.int .i64 x).wf = true) (_wy : (Lit.int .i64 y).wf = true) (_wz : (Lit.int .i64 z).wf = true) (_ws : (Lit.int .i64 s).wf = true) (_wt : (Lit.int .i64 t).wf = true) (_wi : (Lit.int .i64 i).wf = true) :
    Calls Try.prog 7 #[.agg #[.bool m.u, .int .u64 (n64 m.k), .int .u64 (n64 m.l), .slice m.a m.rs.length m.c], .agg #[.int .i64 x, .int .i64 y, .int .i64 z], .int .i64 s, .int .i64 t, .int .i64 i] w fun e w' => e = .returned (.bool true) ∧ Below w.heap.size w w' := go m x y z s t i w h
theorem own : ownKnob Try.prog.godebug = none := by kernel_rfl
theorem laidOut : laidOutB Try.prog = true := by kernel_rfl

set_option maxRecDepth 100000 in
theorem opened1 {H : Type} {enc : TypeId × Value → H} {W : World} {base : Nat} {spare : Nat → Bool} {held : Bool} {r : Reach} {b0 : Nat} {v : Value} {d : DataW H} {p : List MemPlace}
    (hv : Value.okWide Try.prog W r b0 62 v) (h : DataW.Trod enc Try.prog W base spare held 62 v d p) : ∃ (x0 : Int) (x1 : Int) (x2 : Int), v = .agg #[.int .i64 x0, .int .i64 x1, .int .i64 x2] ∧ (Lit.int .i64 x0).wf = true ∧ (Lit.int .i64 x1).wf = true ∧ (Lit.int .i64 x2).wf = true := by
  obtain ⟨cs, n, rfl, hl, hf⟩ := open_flat Try.underlying62 (by kernel_rfl) (by kernel_rfl) hv h
  match cs, hl with
  | [c0, c1, c2], _ =>
    obtain ⟨_, t0⟩ := hf 0 _ rfl
    obtain ⟨x0, e0, _, w0⟩ := DataW.trod_int Try.underlying3 t0
    obtain rfl : c0 = .int .i64 x0 := (List.cons.inj e0).1
    obtain ⟨_, t1⟩ := hf 1 _ rfl
    obtain ⟨x1, e1, _, w1⟩ := DataW.trod_int Try.underlying3 t1
    obtain rfl : c1 = .int .i64 x1 := (List.cons.inj e1).1
    obtain ⟨_, t2⟩ := hf 2 _ rfl
    obtain ⟨x2, e2, _, w2⟩ := DataW.trod_int Try.underlying3 t2
    obtain rfl : c2 = .int .i64 x2 := (List.cons.inj e2).1
    exact ⟨_, _, _, rfl, w0, w1, w2⟩

set_option maxRecDepth 100000 in
theorem lifted (os : Os) (started : os.Started) (H : Type) (enc : TypeId × Value → H) :
    ReturnsInHanded {} Try.checked os 7 .any (Rows.fnExactCookieOfSpec.pre6 enc Try.prog Try.f7 Rows.fnExactCookieOfRow.domain false) (Rows.fnExactCookieOfSpec.post enc Try.prog Try.f7 false true false false) := by
  refine returnsInHanded_of_change (C := Try.checked) own started (by kernel_rfl) Try.func7
    (ChangeSpec.witness6 (enc := enc) (C := Try.checked) false ⟨#[], #[.agg #[.bool false, .int .u64 0, .int .u64 0, .slice none 0 0], .agg #[.int .i64 0, .int .i64 0, .int .i64 0], .int .i64 0, .int .i64 0, .int .i64 0], []⟩ 8 (by kernel_rfl) (by kernel_rfl) (by kernel_rfl) (by kernel_rfl)) ?_
  intro W base args ds gs before hval0 hW _ _
  have hval : ∀ (j : Nat) t v, Try.f7.params[j]? = some t → args[j]? = some v → Value.okWide Try.prog W .any base t v := hval0
  have hW' := hW
  obtain ⟨p, q, hA0, hV, rfl, _, _⟩ := hW
  have hA : DataW.TrodAll enc Try.prog W 0 (fun _ => true) true Try.f7.params.toList args.toList ds p := hA0
  rw [Try.params7] at hA hval
  obtain ⟨v0, vs0, d0, ds0, p0, q0, hargs, rfl, rfl, h0, r0⟩ := trodAll_cons hA
  obtain ⟨v1, vs1, d1, ds1, p1, q1, rfl, rfl, rfl, h1, r1⟩ := trodAll_cons r0
  obtain ⟨v2, vs2, d2, ds2, p2, q2, rfl, rfl, rfl, h2, r2⟩ := trodAll_cons r1
  obtain ⟨v3, vs3, d3, ds3, p3, q3, rfl, rfl, rfl, h3, r3⟩ := trodAll_cons r2
  obtain ⟨v4, vs4, d4, ds4, p4, q4, rfl, rfl, rfl, h4, r4⟩ := trodAll_cons r3
  obtain ⟨rfl, rfl, rfl⟩ := trodAll_nil r4
  obtain rfl : args = #[v0, v1, v2, v3, v4] := by cases args; simp_all
  obtain ⟨rfl, rfl⟩ := trodVars_none hV
  have k0 := h0
  have lt0 : ∀ x ∈ p0, x.block < W.heap.size := by obtain ⟨m, hm⟩ := k0; exact DataW.trod_lt m _ _ _ hm
  obtain ⟨m0, rfl, w0⟩ := argMacM (hval 0 50 v0 rfl rfl) h0
  obtain ⟨a1_0, a1_1, a1_2, rfl, w1_0, w1_1, w1_2⟩ := opened1 (hval 1 62 v1 rfl rfl) h1
  have k1 := h1
  have lt1 : ∀ x ∈ p1, x.block < W.heap.size := by obtain ⟨m, hm⟩ := k1; exact DataW.trod_lt m _ _ _ hm
  obtain ⟨a2, rfl, rfl, rfl, w2⟩ := open_int Try.underlying3 (hval 2 3 v2 rfl rfl) h2
  obtain ⟨a3, rfl, rfl, rfl, w3⟩ := open_int Try.underlying3 (hval 3 3 v3 rfl rfl) h3
  obtain ⟨a4, rfl, rfl, rfl, w4⟩ := open_int Try.underlying3 (hval 4 3 v4 rfl rfl) h4
  clear hA0 hval0
  refine (walk m0 a1_0 a1_1 a1_2 a2 a3 a4 w0 w1_0 w1_1 w1_2 w2 w3 w4).mono fun e W' ⟨he, bel⟩ => ?_
  subst he
  exact ⟨_, rfl, _, _, _, [], _, [], hW', trodAll_mk1 (shut_bool Try.underlying4 _), (trodAll_cons_mk (Below.trod laidOut (by kernel_rfl) (of_decide_eq_true (by kernel_rfl)) k0 bel lt0) (trodAll_cons_mk (Below.trod laidOut (by kernel_rfl) (of_decide_eq_true (by kernel_rfl)) k1 bel lt1) (trodAll_cons_mk (shut_int Try.underlying3 w2) (trodAll_cons_mk (shut_int Try.underlying3 w3) (trodAll_cons_mk (shut_int Try.underlying3 w4) trodAll_mk0))))), rfl, bel.frame _, fun h => by cases h⟩

theorem over : Rows.fnExactCookieOfRow.holds Try.pinned (OpenSpec.ofChange Rows.fnExactCookieOfSpec) :=
  OpenClaim.holds_of_wide 7 Try.f7 rfl rfl rfl rfl rfl rfl rfl ⟨rfl, rfl, rfl, rfl, rfl⟩ rfl rfl rfl rfl rfl (by kernel_rfl) Try.func7 (by kernel_rfl)
    (of_decide_eq_true (by kernel_rfl)) (by unfold Func.isWrapper; first | (rw [if_pos (by decide +kernel)]; kernel_rfl) | (rw [if_neg (by decide +kernel)]; exact ⟨rfl, rfl⟩))
    (fun os started H enc _ => lifted os started H enc)

theorem proved : Rows.FnExactCookieOfSaid := over
#print axioms proved
end Go.Proofs.Ytobfgkiccmhgdaa.fnExactCookieOf
