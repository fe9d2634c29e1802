/- The law FnExactCheckCookie holds for any keys, tuple and numbers (up to the law's own measure of 1048576 rows and bytes; past it the law itself answers true): impl's CheckCookie answers as the model's and leaves its arguments. No condition. -/
import Derived.Test.YtobfgkiccmhgdaaRows
import Derived.Test.YtobfgkiccmhgdaaKeysLaw
import Derived.Test.YtobfgkiccmhgdaaArgKeys
import Derived.Deep.RegionHeld3
import Derived.ProofKit
import Derived.OpenShut
import Derived.ShutString
import Derived.ChangeSame
import Derived.Test.YtobfgkiccmhgdaaKeysAt2
import Derived.Test.YtobfgkiccmhgdaaTupleLaw
import Derived.Test.YtobfgkiccmhgdaaFlat
namespace Go.Proofs.Ytobfgkiccmhgdaa.fnExactCheckCookie
open Go.ChangeShapes Go.WideShapes Go.ChangeAt Go.RowKit Go.Lib

/-- The law's word: true, and what lay before the call lies as it lay. -/
def OkB (w : World) (e : Ending) (w' : World) : Prop := e = .returned (.bool true) ∧ Below w.heap.size w w'

set_option maxRecDepth 100000 in
set_option maxHeartbeats 8000000 in
theorem go (e : Int) (p q : M) (t : Bool) (x y z s c : Int) (w : World) (hp : LawM w p) (hq : LawM w q) :
    Calls Try.prog 9 #[.agg #[.int .i64 e, .bool p.u, .int .u64 (n64 p.k), .int .u64 (n64 p.l), .slice p.a p.rs.length p.c, .bool q.u, .int .u64 (n64 q.k), .int .u64 (n64 q.l), .slice q.a q.rs.length q.c, .bool t], .agg #[.int .i64 x, .int .i64 y, .int .i64 z], .int .i64 s, .int .i64 c] w (OkB w) := by
  have HP := Lib.hid hp
  have HQ := Lib.hid hq
  clear hp hq
  have C1 := Lib.hid (fun a b k l w o1 o2 f1 f2 => checkS_at e p q t x y z s c a b k l w o1 o2 f1 f2)
  have C2 := Lib.hid (fun a b k l w o1 o2 f1 f2 => checkI_at e p q t x y z s c a b k l w o1 o2 f1 f2)
  generalize ck e p q t x y z s c = v at C1 C2
  obtain ⟨v1, v2, v3⟩ := v
  go_enter Try.func9, Try.ntmps9
  have B0 := Lib.hid (show Below w.heap.size w ((w.alloc (.cells #[.int .i64 e, .bool p.u, .int .u64 (n64 p.k), .int .u64 (n64 p.l), .slice p.a p.rs.length p.c, .bool q.u, .int .u64 (n64 q.k), .int .u64 (n64 q.l), .slice q.a q.rs.length q.c, .bool t] 52)).alloc (.cells #[.int .i64 x, .int .i64 y, .int .i64 z] 62)) from (((Below.refl _ w).alloc (by simp) _).alloc (by simp) _))
  have KK0 := Lib.hid (show Blk ((w.alloc (.cells #[.int .i64 e, .bool p.u, .int .u64 (n64 p.k), .int .u64 (n64 p.l), .slice p.a p.rs.length p.c, .bool q.u, .int .u64 (n64 q.k), .int .u64 (n64 q.l), .slice q.a q.rs.length q.c, .bool t] 52)).alloc (.cells #[.int .i64 x, .int .i64 y, .int .i64 z] 62)) (w.heap.size) [.int .i64 e, .bool p.u, .int .u64 (n64 p.k), .int .u64 (n64 p.l), .slice p.a p.rs.length p.c, .bool q.u, .int .u64 (n64 q.k), .int .u64 (n64 q.l), .slice q.a q.rs.length q.c, .bool t] from (Blk.new w [.int .i64 e, .bool p.u, .int .u64 (n64 p.k), .int .u64 (n64 p.l), .slice p.a p.rs.length p.c, .bool q.u, .int .u64 (n64 q.k), .int .u64 (n64 q.l), .slice q.a q.rs.length q.c, .bool t] 52).alloc (.cells #[.int .i64 x, .int .i64 y, .int .i64 z] 62))
  have s1 : (w.alloc (.cells #[.int .i64 e, .bool p.u, .int .u64 (n64 p.k), .int .u64 (n64 p.l), .slice p.a p.rs.length p.c, .bool q.u, .int .u64 (n64 q.k), .int .u64 (n64 q.l), .slice q.a q.rs.length q.c, .bool t] 52)).heap.size = w.heap.size + 1 := by simp
  have KT0 := Lib.hid (show Blk ((w.alloc (.cells #[.int .i64 e, .bool p.u, .int .u64 (n64 p.k), .int .u64 (n64 p.l), .slice p.a p.rs.length p.c, .bool q.u, .int .u64 (n64 q.k), .int .u64 (n64 q.l), .slice q.a q.rs.length q.c, .bool t] 52)).alloc (.cells #[.int .i64 x, .int .i64 y, .int .i64 z] 62)) (w.heap.size + 1) [.int .i64 x, .int .i64 y, .int .i64 z] by have h0 := Blk.new (w.alloc (.cells #[.int .i64 e, .bool p.u, .int .u64 (n64 p.k), .int .u64 (n64 p.l), .slice p.a p.rs.length p.c, .bool q.u, .int .u64 (n64 q.k), .int .u64 (n64 q.l), .slice q.a q.rs.length q.c, .bool t] 52)) [.int .i64 x, .int .i64 y, .int .i64 z] 62; rwa [s1] at h0)
  have n_K_T : w.heap.size ≠ w.heap.size + 1 := by omega
  clear s1
  go_wp2_with fail
  change Calls _ _ _ ((w.alloc (.cells #[.int .i64 e, .bool p.u, .int .u64 (n64 p.k), .int .u64 (n64 p.l), .slice p.a p.rs.length p.c, .bool q.u, .int .u64 (n64 q.k), .int .u64 (n64 q.l), .slice q.a q.rs.length q.c, .bool t] 52)).alloc (.cells #[.int .i64 x, .int .i64 y, .int .i64 z] 62)) _
  generalize (w.alloc (.cells #[.int .i64 e, .bool p.u, .int .u64 (n64 p.k), .int .u64 (n64 p.l), .slice p.a p.rs.length p.c, .bool q.u, .int .u64 (n64 q.k), .int .u64 (n64 q.l), .slice q.a q.rs.length q.c, .bool t] 52)).alloc (.cells #[.int .i64 x, .int .i64 y, .int .i64 z] 62) = v0 at B0 KK0 KT0 ⊢
  generalize w.heap.size + 1 = g_T at KT0 n_K_T ⊢
  generalize w.heap.size = g_K at KK0 n_K_T ⊢
  refine (szKeys_any e p q t 1048576 _ ⟨HP.out.1, ((HP.out.2.below B0.out).mono B0.out.size)⟩ ⟨HQ.out.1, ((HQ.out.2.below B0.out).mono B0.out.size)⟩ (by decide) (by decide)).mono ?_
  rintro e v1 ⟨hb, r, rfl, hr1, hr2⟩
  have B1 := Lib.hid (B0.out.trans (hb.mono B0.out.size))
  have KK1 := Lib.hid (KK0.out.below hb)
  have KT1 := Lib.hid (KT0.out.below hb)
  clear hb B0 KK0 KT0
  have HR := Lib.hid hr2
  clear hr2
  obtain ⟨⟨cK0, cK1, cK2, cK3, cK4, cK5, cK6, cK7, cK8, cK9⟩, dK0, dK1, dK2, dK3, dK4, dK5, dK6, dK7, dK8, dK9⟩ := KK1.out.of10
  obtain ⟨⟨cT0, cT1, cT2⟩, dT0, dT1, dT2⟩ := KT1.out.o3
  by_cases hnegr : r < 0
  · go_wp2_with fail
    go_ret
    exact ⟨rfl, B1.out⟩
  have fp := Lib.hid (show p.rs.length ≤ 1048576 by have := HR.out (by omega); omega)
  have Fp := Lib.hid (LawM.fit HP.out fp.out)
  have fq := Lib.hid (show q.rs.length ≤ 1048576 by have := HR.out (by omega); omega)
  have Fq := Lib.hid (LawM.fit HQ.out fq.out)
  clear HR
  go_wp2_with fail
  clear cK0 cK1 cK2 cK3 cK4 cK5 cK6 cK7 cK8 cK9 dK0 dK1 dK2 dK3 dK4 dK5 dK6 dK7 dK8 dK9 cT0 cT1 cT2 dT0 dT1 dT2
  clear hr1 hnegr
  obtain ⟨⟨cK0, cK1, cK2, cK3, cK4, cK5, cK6, cK7, cK8, cK9⟩, dK0, dK1, dK2, dK3, dK4, dK5, dK6, dK7, dK8, dK9⟩ := KK1.out.of10
  obtain ⟨⟨cT0, cT1, cT2⟩, dT0, dT1, dT2⟩ := KT1.out.o3
  have P1_0 : True := trivial
  have P1_1 : True := trivial
  have P1_2 : True := trivial
  go_region_held3 (fun w' => (w'.cell? ⟨g_K, 0, none⟩ = some (.int .i64 e) ∧ w'.cell? ⟨g_K, 1, none⟩ = some (.bool p.u) ∧ w'.cell? ⟨g_K, 2, none⟩ = some (.int .u64 (n64 p.k)) ∧ w'.cell? ⟨g_K, 3, none⟩ = some (.int .u64 (n64 p.l)) ∧ w'.cell? ⟨g_K, 4, none⟩ = some (.slice p.a p.rs.length p.c) ∧ w'.cell? ⟨g_K, 5, none⟩ = some (.bool q.u) ∧ w'.cell? ⟨g_K, 6, none⟩ = some (.int .u64 (n64 q.k)) ∧ w'.cell? ⟨g_K, 7, none⟩ = some (.int .u64 (n64 q.l)) ∧ w'.cell? ⟨g_K, 8, none⟩ = some (.slice q.a q.rs.length q.c) ∧ w'.cell? ⟨g_K, 9, none⟩ = some (.bool t)) ∧ (w'.cell? ⟨g_T, 0, none⟩ = some (.int .i64 x) ∧ w'.cell? ⟨g_T, 1, none⟩ = some (.int .i64 y) ∧ w'.cell? ⟨g_T, 2, none⟩ = some (.int .i64 z)))
    (first | go_keep | (exact ⟨KK2.out.of10.1, KT2.out.o3.1⟩) | (exact ⟨KK3.out.of10.1, KT3.out.o3.1⟩) | (exact ⟨KK4.out.of10.1, KT4.out.o3.1⟩))
    (first | (have q := P1_0; go_at_call 27; clear q P1_0; refine (toKeys_any e p q t _ ((HP.out.2.below B1.out.drew).mono B1.out.drew.size) ((HQ.out.2.below B1.out.drew).mono B1.out.drew.size) fp.out fq.out).mono ?_; rintro e v2 ⟨g_a1, g_a2, n_a1_a2, rfl, ho_a1, ho_a2, hb⟩; replace hb := (Below.refl _ v1).drew.trans hb; replace ho_a2 := own_down ho_a2 (show v1.heap.size ≤ v1.drew.heap.size from Nat.le_refl _); replace ho_a1 := own_down ho_a1 (show v1.heap.size ≤ v1.drew.heap.size from Nat.le_refl _); have n_K_a1 : g_K ≠ g_a1 := (by have h1 := KK1.out.lt; have h2 := (ho_a1.lt g_a1 rfl).1; omega); have n_T_a1 : g_T ≠ g_a1 := (by have h1 := KT1.out.lt; have h2 := (ho_a1.lt g_a1 rfl).1; omega); have l_a1 : w.heap.size ≤ g_a1 := Nat.le_trans B1.out.size (ho_a1.lt g_a1 rfl).1; have n_K_a2 : g_K ≠ g_a2 := (by have h1 := KK1.out.lt; have h2 := (ho_a2.lt g_a2 rfl).1; omega); have n_T_a2 : g_T ≠ g_a2 := (by have h1 := KT1.out.lt; have h2 := (ho_a2.lt g_a2 rfl).1; omega); have l_a2 : w.heap.size ≤ g_a2 := Nat.le_trans B1.out.size (ho_a2.lt g_a2 rfl).1; have B2 := Lib.hid (B1.out.trans (hb.mono B1.out.size)); have KK2 := Lib.hid (KK1.out.below hb); have KT2 := Lib.hid (KT1.out.below hb); have Oa12 := Lib.hid (own_down ho_a1 (Nat.zero_le _)); have Oa22 := Lib.hid (own_down ho_a2 (Nat.zero_le _)); clear hb B1 KK1 KT1 ho_a1 ho_a2) | (have q := P1_1; go_at_call 38; clear q P1_1; refine (toTuple_any x y z _).mono ?_; rintro e v3 ⟨rfl, hb⟩; have B3 := Lib.hid (B2.out.trans (hb.mono B2.out.size)); have KK3 := Lib.hid (KK2.out.below hb); have KT3 := Lib.hid (KT2.out.below hb); have Oa13 := Lib.hid (Oa12.out.kept (below_any (row := none) hb) (.inr (by simp [Value.ownBlock]))); have Oa23 := Lib.hid (Oa22.out.kept (below_any (row := none) hb) (.inr (by simp [Value.ownBlock]))); clear hb B2 KK2 KT2 Oa12 Oa22) | (have q := P1_2; go_at_call 40; clear q P1_2; refine (C1.out (some ⟨g_a1, 0, none⟩) (some ⟨g_a2, 0, none⟩) p.rs.length q.rs.length _ (M.on_at Oa13.out) (M.on_at Oa23.out) Fp.out Fq.out).mono ?_; rintro e v4 ⟨rfl, hb⟩; have B4 := Lib.hid (B3.out.trans (hb.mono B3.out.size)); have KK4 := Lib.hid (KK3.out.below hb); have KT4 := Lib.hid (KT3.out.below hb); have Oa14 := Lib.hid (Oa13.out.kept (below_any (row := none) hb) (.inr (by simp [Value.ownBlock]))); have Oa24 := Lib.hid (Oa23.out.kept (below_any (row := none) hb) (.inr (by simp [Value.ownBlock]))); clear hb B3 KK3 KT3 Oa13 Oa23))
  try clear cK0 cK1 cK2 cK3 cK4 cK5 cK6 cK7 cK8 cK9 dK0 dK1 dK2 dK3 dK4 dK5 dK6 dK7 dK8 dK9 cT0 cT1 cT2 dT0 dT1 dT2
  obtain ⟨⟨cK0, cK1, cK2, cK3, cK4, cK5, cK6, cK7, cK8, cK9⟩, dK0, dK1, dK2, dK3, dK4, dK5, dK6, dK7, dK8, dK9⟩ := KK4.out.of10
  obtain ⟨⟨cT0, cT1, cT2⟩, dT0, dT1, dT2⟩ := KT4.out.o3
  go_wp2_with fail
  clear cK0 cK1 cK2 cK3 cK4 cK5 cK6 cK7 cK8 cK9 dK0 dK1 dK2 dK3 dK4 dK5 dK6 dK7 dK8 dK9 cT0 cT1 cT2 dT0 dT1 dT2
  refine (toKeys_any e p q t _ ((HP.out.2.below B4.out).mono B4.out.size) ((HQ.out.2.below B4.out).mono B4.out.size) fp.out fq.out).mono ?_
  rintro e v5 ⟨g_b1, g_b2, n_b1_b2, rfl, ho_b1, ho_b2, hb⟩
  have n_K_b1 : g_K ≠ g_b1 := by have h1 := KK4.out.lt; have h2 := (ho_b1.lt g_b1 rfl).1; omega
  have n_T_b1 : g_T ≠ g_b1 := by have h1 := KT4.out.lt; have h2 := (ho_b1.lt g_b1 rfl).1; omega
  have n_a1_b1 : g_a1 ≠ g_b1 := by have h1 := (Oa14.out.lt g_a1 rfl).2; have h2 := (ho_b1.lt g_b1 rfl).1; omega
  have n_a2_b1 : g_a2 ≠ g_b1 := by have h1 := (Oa24.out.lt g_a2 rfl).2; have h2 := (ho_b1.lt g_b1 rfl).1; omega
  have l_b1 : w.heap.size ≤ g_b1 := Nat.le_trans B4.out.size (ho_b1.lt g_b1 rfl).1
  have n_K_b2 : g_K ≠ g_b2 := by have h1 := KK4.out.lt; have h2 := (ho_b2.lt g_b2 rfl).1; omega
  have n_T_b2 : g_T ≠ g_b2 := by have h1 := KT4.out.lt; have h2 := (ho_b2.lt g_b2 rfl).1; omega
  have n_a1_b2 : g_a1 ≠ g_b2 := by have h1 := (Oa14.out.lt g_a1 rfl).2; have h2 := (ho_b2.lt g_b2 rfl).1; omega
  have n_a2_b2 : g_a2 ≠ g_b2 := by have h1 := (Oa24.out.lt g_a2 rfl).2; have h2 := (ho_b2.lt g_b2 rfl).1; omega
  have l_b2 : w.heap.size ≤ g_b2 := Nat.le_trans B4.out.size (ho_b2.lt g_b2 rfl).1
  have B5 := Lib.hid (B4.out.trans (hb.mono B4.out.size))
  have KK5 := Lib.hid (KK4.out.below hb)
  have KT5 := Lib.hid (KT4.out.below hb)
  have Oa15 := Lib.hid (Oa14.out.kept (below_any (row := none) hb) (.inr (by simp [Value.ownBlock])))
  have Oa25 := Lib.hid (Oa24.out.kept (below_any (row := none) hb) (.inr (by simp [Value.ownBlock])))
  have Ob15 := Lib.hid (own_down ho_b1 (Nat.zero_le _))
  have Ob25 := Lib.hid (own_down ho_b2 (Nat.zero_le _))
  clear hb B4 KK4 KT4 Oa14 Oa24 ho_b1 ho_b2
  have KXn := Lib.hid (Blk.new v5 [.int .i64 e, .bool p.u, .int .u64 (n64 p.k), .int .u64 (n64 p.l), .slice (some ⟨g_b1, 0, none⟩) p.rs.length p.rs.length, .bool q.u, .int .u64 (n64 q.k), .int .u64 (n64 q.l), .slice (some ⟨g_b2, 0, none⟩) q.rs.length q.rs.length, .bool t] 29)
  have n_K_X : g_K ≠ v5.heap.size := by have h1 := KK5.out.lt; omega
  have n_T_X : g_T ≠ v5.heap.size := by have h1 := KT5.out.lt; omega
  have n_a1_X : g_a1 ≠ v5.heap.size := by have h1 := (Oa15.out.lt g_a1 rfl).2; omega
  have n_a2_X : g_a2 ≠ v5.heap.size := by have h1 := (Oa25.out.lt g_a2 rfl).2; omega
  have n_b1_X : g_b1 ≠ v5.heap.size := by have h1 := (Ob15.out.lt g_b1 rfl).2; omega
  have n_b2_X : g_b2 ≠ v5.heap.size := by have h1 := (Ob25.out.lt g_b2 rfl).2; omega
  have Bn := Lib.hid (B5.out.alloc B5.out.size (.cells #[.int .i64 e, .bool p.u, .int .u64 (n64 p.k), .int .u64 (n64 p.l), .slice (some ⟨g_b1, 0, none⟩) p.rs.length p.rs.length, .bool q.u, .int .u64 (n64 q.k), .int .u64 (n64 q.l), .slice (some ⟨g_b2, 0, none⟩) q.rs.length q.rs.length, .bool t] 29))
  have KKn := Lib.hid (KK5.out.alloc (.cells #[.int .i64 e, .bool p.u, .int .u64 (n64 p.k), .int .u64 (n64 p.l), .slice (some ⟨g_b1, 0, none⟩) p.rs.length p.rs.length, .bool q.u, .int .u64 (n64 q.k), .int .u64 (n64 q.l), .slice (some ⟨g_b2, 0, none⟩) q.rs.length q.rs.length, .bool t] 29))
  have KTn := Lib.hid (KT5.out.alloc (.cells #[.int .i64 e, .bool p.u, .int .u64 (n64 p.k), .int .u64 (n64 p.l), .slice (some ⟨g_b1, 0, none⟩) p.rs.length p.rs.length, .bool q.u, .int .u64 (n64 q.k), .int .u64 (n64 q.l), .slice (some ⟨g_b2, 0, none⟩) q.rs.length q.rs.length, .bool t] 29))
  have Oa1n := Lib.hid (Oa15.out.alloc (.cells #[.int .i64 e, .bool p.u, .int .u64 (n64 p.k), .int .u64 (n64 p.l), .slice (some ⟨g_b1, 0, none⟩) p.rs.length p.rs.length, .bool q.u, .int .u64 (n64 q.k), .int .u64 (n64 q.l), .slice (some ⟨g_b2, 0, none⟩) q.rs.length q.rs.length, .bool t] 29))
  have Oa2n := Lib.hid (Oa25.out.alloc (.cells #[.int .i64 e, .bool p.u, .int .u64 (n64 p.k), .int .u64 (n64 p.l), .slice (some ⟨g_b1, 0, none⟩) p.rs.length p.rs.length, .bool q.u, .int .u64 (n64 q.k), .int .u64 (n64 q.l), .slice (some ⟨g_b2, 0, none⟩) q.rs.length q.rs.length, .bool t] 29))
  have Ob1n := Lib.hid (Ob15.out.alloc (.cells #[.int .i64 e, .bool p.u, .int .u64 (n64 p.k), .int .u64 (n64 p.l), .slice (some ⟨g_b1, 0, none⟩) p.rs.length p.rs.length, .bool q.u, .int .u64 (n64 q.k), .int .u64 (n64 q.l), .slice (some ⟨g_b2, 0, none⟩) q.rs.length q.rs.length, .bool t] 29))
  have Ob2n := Lib.hid (Ob25.out.alloc (.cells #[.int .i64 e, .bool p.u, .int .u64 (n64 p.k), .int .u64 (n64 p.l), .slice (some ⟨g_b1, 0, none⟩) p.rs.length p.rs.length, .bool q.u, .int .u64 (n64 q.k), .int .u64 (n64 q.l), .slice (some ⟨g_b2, 0, none⟩) q.rs.length q.rs.length, .bool t] 29))
  clear B5 KK5 KT5 Oa15 Oa25 Ob15 Ob25
  obtain ⟨⟨cK0, cK1, cK2, cK3, cK4, cK5, cK6, cK7, cK8, cK9⟩, dK0, dK1, dK2, dK3, dK4, dK5, dK6, dK7, dK8, dK9⟩ := KKn.out.of10
  obtain ⟨⟨cT0, cT1, cT2⟩, dT0, dT1, dT2⟩ := KTn.out.o3
  go_upto_region 7 with fail
  clear cK0 cK1 cK2 cK3 cK4 cK5 cK6 cK7 cK8 cK9 dK0 dK1 dK2 dK3 dK4 dK5 dK6 dK7 dK8 dK9 cT0 cT1 cT2 dT0 dT1 dT2
  generalize v5.alloc (.cells #[.int .i64 e, .bool p.u, .int .u64 (n64 p.k), .int .u64 (n64 p.l), .slice (some ⟨g_b1, 0, none⟩) p.rs.length p.rs.length, .bool q.u, .int .u64 (n64 q.k), .int .u64 (n64 q.l), .slice (some ⟨g_b2, 0, none⟩) q.rs.length q.rs.length, .bool t] 29) = v6 at KXn Bn KKn KTn Oa1n Oa2n Ob1n Ob2n ⊢
  generalize v5.heap.size = g_X at KXn n_K_X n_T_X n_a1_X n_a2_X n_b1_X n_b2_X ⊢
  clear v5
  have KK6 := KKn
  clear KKn
  have KT6 := KTn
  clear KTn
  have KX6 := KXn
  clear KXn
  have Oa16 := Oa1n
  clear Oa1n
  have Oa26 := Oa2n
  clear Oa2n
  have Ob16 := Ob1n
  clear Ob1n
  have Ob26 := Ob2n
  clear Ob2n
  have B6 := Bn
  clear Bn
  obtain ⟨⟨cT0, cT1, cT2⟩, dT0, dT1, dT2⟩ := KT6.out.o3
  obtain ⟨⟨cX0, cX1, cX2, cX3, cX4, cX5, cX6, cX7, cX8, cX9⟩, dX0, dX1, dX2, dX3, dX4, dX5, dX6, dX7, dX8, dX9⟩ := KX6.out.of10
  have P6_0 : True := trivial
  have P6_1 : True := trivial
  go_region_held3 (fun w' => (w'.cell? ⟨g_X, 0, none⟩ = some (.int .i64 e) ∧ w'.cell? ⟨g_X, 1, none⟩ = some (.bool p.u) ∧ w'.cell? ⟨g_X, 2, none⟩ = some (.int .u64 (n64 p.k)) ∧ w'.cell? ⟨g_X, 3, none⟩ = some (.int .u64 (n64 p.l)) ∧ w'.cell? ⟨g_X, 4, none⟩ = some (.slice (some ⟨g_b1, 0, none⟩) p.rs.length p.rs.length) ∧ w'.cell? ⟨g_X, 5, none⟩ = some (.bool q.u) ∧ w'.cell? ⟨g_X, 6, none⟩ = some (.int .u64 (n64 q.k)) ∧ w'.cell? ⟨g_X, 7, none⟩ = some (.int .u64 (n64 q.l)) ∧ w'.cell? ⟨g_X, 8, none⟩ = some (.slice (some ⟨g_b2, 0, none⟩) q.rs.length q.rs.length) ∧ w'.cell? ⟨g_X, 9, none⟩ = some (.bool t)) ∧ (w'.cell? ⟨g_T, 0, none⟩ = some (.int .i64 x) ∧ w'.cell? ⟨g_T, 1, none⟩ = some (.int .i64 y) ∧ w'.cell? ⟨g_T, 2, none⟩ = some (.int .i64 z)))
    (first | go_keep | (exact ⟨KX7.out.of10.1, KT7.out.o3.1⟩) | (exact ⟨KX8.out.of10.1, KT8.out.o3.1⟩))
    (first | (have q := P6_0; go_at_call 38; clear q P6_0; refine (toTuple_any x y z _).mono ?_; rintro e v7 ⟨rfl, hb⟩; replace hb := (Below.refl _ v6).drew.trans hb; have B7 := Lib.hid (B6.out.trans (hb.mono B6.out.size)); have KK7 := Lib.hid (KK6.out.below hb); have KT7 := Lib.hid (KT6.out.below hb); have KX7 := Lib.hid (KX6.out.below hb); have Oa17 := Lib.hid (Oa16.out.kept (below_any (row := none) hb) (.inr (by simp [Value.ownBlock]))); have Oa27 := Lib.hid (Oa26.out.kept (below_any (row := none) hb) (.inr (by simp [Value.ownBlock]))); have Ob17 := Lib.hid (Ob16.out.kept (below_any (row := none) hb) (.inr (by simp [Value.ownBlock]))); have Ob27 := Lib.hid (Ob26.out.kept (below_any (row := none) hb) (.inr (by simp [Value.ownBlock]))); clear hb B6 KK6 KT6 KX6 Oa16 Oa26 Ob16 Ob26) | (have q := P6_1; go_at_call 20; clear q P6_1; refine (C2.out (some ⟨g_b1, 0, none⟩) (some ⟨g_b2, 0, none⟩) p.rs.length q.rs.length _ (M.on_at Ob17.out) (M.on_at Ob27.out) Fp.out Fq.out).mono ?_; rintro e v8 ⟨rfl, hb⟩; have B8 := Lib.hid (B7.out.trans (hb.mono B7.out.size)); have KK8 := Lib.hid (KK7.out.below hb); have KT8 := Lib.hid (KT7.out.below hb); have KX8 := Lib.hid (KX7.out.below hb); have Oa18 := Lib.hid (Oa17.out.kept (below_any (row := none) hb) (.inr (by simp [Value.ownBlock]))); have Oa28 := Lib.hid (Oa27.out.kept (below_any (row := none) hb) (.inr (by simp [Value.ownBlock]))); have Ob18 := Lib.hid (Ob17.out.kept (below_any (row := none) hb) (.inr (by simp [Value.ownBlock]))); have Ob28 := Lib.hid (Ob27.out.kept (below_any (row := none) hb) (.inr (by simp [Value.ownBlock]))); clear hb B7 KK7 KT7 KX7 Oa17 Oa27 Ob17 Ob27))
  try clear cT0 cT1 cT2 dT0 dT1 dT2 cX0 cX1 cX2 cX3 cX4 cX5 cX6 cX7 cX8 cX9 dX0 dX1 dX2 dX3 dX4 dX5 dX6 dX7 dX8 dX9
  obtain ⟨⟨cK0, cK1, cK2, cK3, cK4, cK5, cK6, cK7, cK8, cK9⟩, dK0, dK1, dK2, dK3, dK4, dK5, dK6, dK7, dK8, dK9⟩ := KK8.out.of10
  obtain ⟨⟨cT0, cT1, cT2⟩, dT0, dT1, dT2⟩ := KT8.out.o3
  obtain ⟨⟨cX0, cX1, cX2, cX3, cX4, cX5, cX6, cX7, cX8, cX9⟩, dX0, dX1, dX2, dX3, dX4, dX5, dX6, dX7, dX8, dX9⟩ := KX8.out.of10
  go_wp2_with fail
  clear cK0 cK1 cK2 cK3 cK4 cK5 cK6 cK7 cK8 cK9 dK0 dK1 dK2 dK3 dK4 dK5 dK6 dK7 dK8 dK9 cT0 cT1 cT2 dT0 dT1 dT2 cX0 cX1 cX2 cX3 cX4 cX5 cX6 cX7 cX8 cX9 dX0 dX1 dX2 dX3 dX4 dX5 dX6 dX7 dX8 dX9
  obtain ⟨⟨cK0, cK1, cK2, cK3, cK4, cK5, cK6, cK7, cK8, cK9⟩, dK0, dK1, dK2, dK3, dK4, dK5, dK6, dK7, dK8, dK9⟩ := KK8.out.of10
  obtain ⟨⟨cX0, cX1, cX2, cX3, cX4, cX5, cX6, cX7, cX8, cX9⟩, dX0, dX1, dX2, dX3, dX4, dX5, dX6, dX7, dX8, dX9⟩ := KX8.out.of10
  have P8_0 : True := trivial
  have P8_1 : True := trivial
  go_region_held3 (fun w' => (w'.cell? ⟨g_X, 0, none⟩ = some (.int .i64 e) ∧ w'.cell? ⟨g_X, 1, none⟩ = some (.bool p.u) ∧ w'.cell? ⟨g_X, 2, none⟩ = some (.int .u64 (n64 p.k)) ∧ w'.cell? ⟨g_X, 3, none⟩ = some (.int .u64 (n64 p.l)) ∧ w'.cell? ⟨g_X, 4, none⟩ = some (.slice (some ⟨g_b1, 0, none⟩) p.rs.length p.rs.length) ∧ w'.cell? ⟨g_X, 5, none⟩ = some (.bool q.u) ∧ w'.cell? ⟨g_X, 6, none⟩ = some (.int .u64 (n64 q.k)) ∧ w'.cell? ⟨g_X, 7, none⟩ = some (.int .u64 (n64 q.l)) ∧ w'.cell? ⟨g_X, 8, none⟩ = some (.slice (some ⟨g_b2, 0, none⟩) q.rs.length q.rs.length) ∧ w'.cell? ⟨g_X, 9, none⟩ = some (.bool t)) ∧ (w'.cell? ⟨g_K, 0, none⟩ = some (.int .i64 e) ∧ w'.cell? ⟨g_K, 1, none⟩ = some (.bool p.u) ∧ w'.cell? ⟨g_K, 2, none⟩ = some (.int .u64 (n64 p.k)) ∧ w'.cell? ⟨g_K, 3, none⟩ = some (.int .u64 (n64 p.l)) ∧ w'.cell? ⟨g_K, 4, none⟩ = some (.slice p.a p.rs.length p.c) ∧ w'.cell? ⟨g_K, 5, none⟩ = some (.bool q.u) ∧ w'.cell? ⟨g_K, 6, none⟩ = some (.int .u64 (n64 q.k)) ∧ w'.cell? ⟨g_K, 7, none⟩ = some (.int .u64 (n64 q.l)) ∧ w'.cell? ⟨g_K, 8, none⟩ = some (.slice q.a q.rs.length q.c) ∧ w'.cell? ⟨g_K, 9, none⟩ = some (.bool t)))
    (first | go_keep | (exact ⟨KX9.out.of10.1, KK9.out.of10.1⟩) | (exact ⟨KX10.out.of10.1, KK10.out.of10.1⟩))
    (first | (have q := P8_0; go_at_call 27; clear q P8_0; refine (toKeys_any e p q t _ ((HP.out.2.below B8.out.drew).mono B8.out.drew.size) ((HQ.out.2.below B8.out.drew).mono B8.out.drew.size) fp.out fq.out).mono ?_; rintro e v9 ⟨g_c1, g_c2, n_c1_c2, rfl, ho_c1, ho_c2, hb⟩; replace hb := (Below.refl _ v8).drew.trans hb; replace ho_c2 := own_down ho_c2 (show v8.heap.size ≤ v8.drew.heap.size from Nat.le_refl _); replace ho_c1 := own_down ho_c1 (show v8.heap.size ≤ v8.drew.heap.size from Nat.le_refl _); have n_K_c1 : g_K ≠ g_c1 := (by have h1 := KK8.out.lt; have h2 := (ho_c1.lt g_c1 rfl).1; omega); have n_T_c1 : g_T ≠ g_c1 := (by have h1 := KT8.out.lt; have h2 := (ho_c1.lt g_c1 rfl).1; omega); have n_X_c1 : g_X ≠ g_c1 := (by have h1 := KX8.out.lt; have h2 := (ho_c1.lt g_c1 rfl).1; omega); have n_a1_c1 : g_a1 ≠ g_c1 := (by have h1 := (Oa18.out.lt g_a1 rfl).2; have h2 := (ho_c1.lt g_c1 rfl).1; omega); have n_a2_c1 : g_a2 ≠ g_c1 := (by have h1 := (Oa28.out.lt g_a2 rfl).2; have h2 := (ho_c1.lt g_c1 rfl).1; omega); have n_b1_c1 : g_b1 ≠ g_c1 := (by have h1 := (Ob18.out.lt g_b1 rfl).2; have h2 := (ho_c1.lt g_c1 rfl).1; omega); have n_b2_c1 : g_b2 ≠ g_c1 := (by have h1 := (Ob28.out.lt g_b2 rfl).2; have h2 := (ho_c1.lt g_c1 rfl).1; omega); have l_c1 : w.heap.size ≤ g_c1 := Nat.le_trans B8.out.size (ho_c1.lt g_c1 rfl).1; have n_K_c2 : g_K ≠ g_c2 := (by have h1 := KK8.out.lt; have h2 := (ho_c2.lt g_c2 rfl).1; omega); have n_T_c2 : g_T ≠ g_c2 := (by have h1 := KT8.out.lt; have h2 := (ho_c2.lt g_c2 rfl).1; omega); have n_X_c2 : g_X ≠ g_c2 := (by have h1 := KX8.out.lt; have h2 := (ho_c2.lt g_c2 rfl).1; omega); have n_a1_c2 : g_a1 ≠ g_c2 := (by have h1 := (Oa18.out.lt g_a1 rfl).2; have h2 := (ho_c2.lt g_c2 rfl).1; omega); have n_a2_c2 : g_a2 ≠ g_c2 := (by have h1 := (Oa28.out.lt g_a2 rfl).2; have h2 := (ho_c2.lt g_c2 rfl).1; omega); have n_b1_c2 : g_b1 ≠ g_c2 := (by have h1 := (Ob18.out.lt g_b1 rfl).2; have h2 := (ho_c2.lt g_c2 rfl).1; omega); have n_b2_c2 : g_b2 ≠ g_c2 := (by have h1 := (Ob28.out.lt g_b2 rfl).2; have h2 := (ho_c2.lt g_c2 rfl).1; omega); have l_c2 : w.heap.size ≤ g_c2 := Nat.le_trans B8.out.size (ho_c2.lt g_c2 rfl).1; have B9 := Lib.hid (B8.out.trans (hb.mono B8.out.size)); have KK9 := Lib.hid (KK8.out.below hb); have KT9 := Lib.hid (KT8.out.below hb); have KX9 := Lib.hid (KX8.out.below hb); have Oa19 := Lib.hid (Oa18.out.kept (below_any (row := none) hb) (.inr (by simp [Value.ownBlock]))); have Oa29 := Lib.hid (Oa28.out.kept (below_any (row := none) hb) (.inr (by simp [Value.ownBlock]))); have Ob19 := Lib.hid (Ob18.out.kept (below_any (row := none) hb) (.inr (by simp [Value.ownBlock]))); have Ob29 := Lib.hid (Ob28.out.kept (below_any (row := none) hb) (.inr (by simp [Value.ownBlock]))); have Oc19 := Lib.hid (own_down ho_c1 (Nat.zero_le _)); have Oc29 := Lib.hid (own_down ho_c2 (Nat.zero_le _)); clear hb B8 KK8 KT8 KX8 Oa18 Oa28 Ob18 Ob28 ho_c1 ho_c2) | (have q := P8_1; go_at_call 28; clear q P8_1; refine (eqKeys_self e p q t (some ⟨g_b1, 0, none⟩) (some ⟨g_b2, 0, none⟩) (some ⟨g_c1, 0, none⟩) (some ⟨g_c2, 0, none⟩) p.rs.length q.rs.length p.rs.length q.rs.length _ (Row.ownK Ob19.out) (Row.ownK Ob29.out) (Row.ownK Oc19.out) (Row.ownK Oc29.out) fp.out fq.out).mono ?_; rintro e v10 ⟨rfl, hb⟩; have B10 := Lib.hid (B9.out.trans (hb.mono B9.out.size)); have KK10 := Lib.hid (KK9.out.below hb); have KT10 := Lib.hid (KT9.out.below hb); have KX10 := Lib.hid (KX9.out.below hb); have Oa110 := Lib.hid (Oa19.out.kept (below_any (row := none) hb) (.inr (by simp [Value.ownBlock]))); have Oa210 := Lib.hid (Oa29.out.kept (below_any (row := none) hb) (.inr (by simp [Value.ownBlock]))); have Ob110 := Lib.hid (Ob19.out.kept (below_any (row := none) hb) (.inr (by simp [Value.ownBlock]))); have Ob210 := Lib.hid (Ob29.out.kept (below_any (row := none) hb) (.inr (by simp [Value.ownBlock]))); have Oc110 := Lib.hid (Oc19.out.kept (below_any (row := none) hb) (.inr (by simp [Value.ownBlock]))); have Oc210 := Lib.hid (Oc29.out.kept (below_any (row := none) hb) (.inr (by simp [Value.ownBlock]))); clear hb B9 KK9 KT9 KX9 Oa19 Oa29 Ob19 Ob29 Oc19 Oc29))
  try clear cK0 cK1 cK2 cK3 cK4 cK5 cK6 cK7 cK8 cK9 dK0 dK1 dK2 dK3 dK4 dK5 dK6 dK7 dK8 dK9 cX0 cX1 cX2 cX3 cX4 cX5 cX6 cX7 cX8 cX9 dX0 dX1 dX2 dX3 dX4 dX5 dX6 dX7 dX8 dX9
  obtain ⟨⟨cK0, cK1, cK2, cK3, cK4, cK5, cK6, cK7, cK8, cK9⟩, dK0, dK1, dK2, dK3, dK4, dK5, dK6, dK7, dK8, dK9⟩ := KK10.out.of10
  obtain ⟨⟨cT0, cT1, cT2⟩, dT0, dT1, dT2⟩ := KT10.out.o3
  obtain ⟨⟨cX0, cX1, cX2, cX3, cX4, cX5, cX6, cX7, cX8, cX9⟩, dX0, dX1, dX2, dX3, dX4, dX5, dX6, dX7, dX8, dX9⟩ := KX10.out.of10
  go_wp2_with fail
  go_ret
  exact ⟨rfl, B10.out⟩

theorem walk {w : World} (e : Int) (p q : M) (t : Bool) (x y z s c : Int) (h : (Lit.int .i64 e).wf = true ∧ LawM w p ∧ LawM w q) (_wx : (Lit.int .i64 x).wf = true) (_wy : (Lit.int .i64 y).wf = true) (_wz : (Lit.int .i64 z).wf = true) (_ws : (Lit.int .i64 s).wf = true) (_wc : (Lit.int .i64 c).wf = true) :
    Calls Try.prog 9 #[.agg #[.int .i64 e, .bool p.u, .int .u64 (n64 p.k), .int .u64 (n64 p.l), .slice p.a p.rs.length p.c, .bool q.u, .int .u64 (n64 q.k), .int .u64 (n64 q.l), .slice q.a q.rs.length q.c, .bool t], .agg #[.int .i64 x, .int .i64 y, .int .i64 z], .int .i64 s, .int .i64 c] w fun e w' => e = .returned (.bool true) ∧ Below w.heap.size w w' := go e p q t x y z s c w h.2.1 h.2.2
theorem own : ownKnob Try.prog.godebug = none := by kernel_rfl
theorem laidOut : laidOutB Try.prog = true := by kernel_rfl

set_option maxRecDepth 100000 in
theorem opened1 {H : Type} {enc : TypeId × Value → H} {W : World} {base : Nat} {spare : Nat → Bool} {held : Bool} {r : Reach} {b0 : Nat} {v : Value} {d : DataW H} {p : List MemPlace}
    (hv : Value.okWide Try.prog W r b0 62 v) (h : DataW.Trod enc Try.prog W base spare held 62 v d p) : ∃ (x0 : Int) (x1 : Int) (x2 : Int), v = .agg #[.int .i64 x0, .int .i64 x1, .int .i64 x2] ∧ (Lit.int .i64 x0).wf = true ∧ (Lit.int .i64 x1).wf = true ∧ (Lit.int .i64 x2).wf = true := by
  obtain ⟨cs, n, rfl, hl, hf⟩ := open_flat Try.underlying62 (by kernel_rfl) (by kernel_rfl) hv h
  match cs, hl with
  | [c0, c1, c2], _ =>
    obtain ⟨_, t0⟩ := hf 0 _ rfl
    obtain ⟨x0, e0, _, w0⟩ := DataW.trod_int Try.underlying3 t0
    obtain rfl : c0 = .int .i64 x0 := (List.cons.inj e0).1
    obtain ⟨_, t1⟩ := hf 1 _ rfl
    obtain ⟨x1, e1, _, w1⟩ := DataW.trod_int Try.underlying3 t1
    obtain rfl : c1 = .int .i64 x1 := (List.cons.inj e1).1
    obtain ⟨_, t2⟩ := hf 2 _ rfl
    obtain ⟨x2, e2, _, w2⟩ := DataW.trod_int Try.underlying3 t2
    obtain rfl : c2 = .int .i64 x2 := (List.cons.inj e2).1
    exact ⟨_, _, _, rfl, w0, w1, w2⟩

set_option maxRecDepth 100000 in
theorem lifted (os : Os) (started : os.Started) (H : Type) (enc : TypeId × Value → H) :
    ReturnsInHanded {} Try.checked os 9 .any (Rows.fnExactCheckCookieSpec.pre6 enc Try.prog Try.f9 Rows.fnExactCheckCookieRow.domain false) (Rows.fnExactCheckCookieSpec.post enc Try.prog Try.f9 false true false false) := by
  refine returnsInHanded_of_change (C := Try.checked) own started (by kernel_rfl) Try.func9
    (ChangeSpec.witness6 (enc := enc) (C := Try.checked) false ⟨#[], #[.agg #[.int .i64 0, .bool false, .int .u64 0, .int .u64 0, .slice none 0 0, .bool false, .int .u64 0, .int .u64 0, .slice none 0 0, .bool false], .agg #[.int .i64 0, .int .i64 0, .int .i64 0], .int .i64 0, .int .i64 0], []⟩ 8 (by kernel_rfl) (by kernel_rfl) (by kernel_rfl) (by kernel_rfl)) ?_
  intro W base args ds gs before hval0 hW _ _
  have hval : ∀ (j : Nat) t v, Try.f9.params[j]? = some t → args[j]? = some v → Value.okWide Try.prog W .any base t v := hval0
  have hW' := hW
  obtain ⟨p, q, hA0, hV, rfl, _, _⟩ := hW
  have hA : DataW.TrodAll enc Try.prog W 0 (fun _ => true) true Try.f9.params.toList args.toList ds p := hA0
  rw [Try.params9] at hA hval
  obtain ⟨v0, vs0, d0, ds0, p0, q0, hargs, rfl, rfl, h0, r0⟩ := trodAll_cons hA
  obtain ⟨v1, vs1, d1, ds1, p1, q1, rfl, rfl, rfl, h1, r1⟩ := trodAll_cons r0
  obtain ⟨v2, vs2, d2, ds2, p2, q2, rfl, rfl, rfl, h2, r2⟩ := trodAll_cons r1
  obtain ⟨v3, vs3, d3, ds3, p3, q3, rfl, rfl, rfl, h3, r3⟩ := trodAll_cons r2
  obtain ⟨rfl, rfl, rfl⟩ := trodAll_nil r3
  obtain rfl : args = #[v0, v1, v2, v3] := by cases args; simp_all
  obtain ⟨rfl, rfl⟩ := trodVars_none hV
  have k0 := h0
  have lt0 : ∀ x ∈ p0, x.block < W.heap.size := by obtain ⟨m, hm⟩ := k0; exact DataW.trod_lt m _ _ _ hm
  obtain ⟨e0, p0, q0, t0, rfl, w0⟩ := argKeys (hval 0 52 v0 rfl rfl) h0
  obtain ⟨a1_0, a1_1, a1_2, rfl, w1_0, w1_1, w1_2⟩ := opened1 (hval 1 62 v1 rfl rfl) h1
  have k1 := h1
  have lt1 : ∀ x ∈ p1, x.block < W.heap.size := by obtain ⟨m, hm⟩ := k1; exact DataW.trod_lt m _ _ _ hm
  obtain ⟨a2, rfl, rfl, rfl, w2⟩ := open_int Try.underlying3 (hval 2 3 v2 rfl rfl) h2
  obtain ⟨a3, rfl, rfl, rfl, w3⟩ := open_int Try.underlying3 (hval 3 3 v3 rfl rfl) h3
  clear hA0 hval0
  refine (walk e0 p0 q0 t0 a1_0 a1_1 a1_2 a2 a3 w0 w1_0 w1_1 w1_2 w2 w3).mono fun e W' ⟨he, bel⟩ => ?_
  subst he
  exact ⟨_, rfl, _, _, _, [], _, [], hW', trodAll_mk1 (shut_bool Try.underlying4 _), (trodAll_cons_mk (Below.trod laidOut (by kernel_rfl) (of_decide_eq_true (by kernel_rfl)) k0 bel lt0) (trodAll_cons_mk (Below.trod laidOut (by kernel_rfl) (of_decide_eq_true (by kernel_rfl)) k1 bel lt1) (trodAll_cons_mk (shut_int Try.underlying3 w2) (trodAll_cons_mk (shut_int Try.underlying3 w3) trodAll_mk0)))), rfl, bel.frame _, fun h => by cases h⟩

theorem over : Rows.fnExactCheckCookieRow.holds Try.pinned (OpenSpec.ofChange Rows.fnExactCheckCookieSpec) :=
  OpenClaim.holds_of_wide 9 Try.f9 rfl rfl rfl rfl rfl rfl rfl ⟨rfl, rfl, rfl, rfl, rfl⟩ rfl rfl rfl rfl rfl (by kernel_rfl) Try.func9 (by kernel_rfl)
    (of_decide_eq_true (by kernel_rfl)) (by unfold Func.isWrapper; first | (rw [if_pos (by decide +kernel)]; kernel_rfl) | (rw [if_neg (by decide +kernel)]; exact ⟨rfl, rfl⟩))
    (fun os started H enc _ => lifted os started H enc)

theorem proved : Rows.FnExactCheckCookieSaid := over
#print axioms proved
end Go.Proofs.Ytobfgkiccmhgdaa.fnExactCheckCookie
