/- The law FnExactKeysOk holds for any keys (up to the law's own measure of 1048576 rows and bytes; past it the law itself answers true): impl's KeysOk answers as the model's and leaves its argument. No condition. -/
import Derived.Test.YtobfgkiccmhgdaaRows
import Derived.Test.YtobfgkiccmhgdaaKeysLaw
import Derived.Test.YtobfgkiccmhgdaaArgKeys
import Derived.Deep.RegionHeld3
import Derived.ProofKit
import Derived.OpenShut
import Derived.ShutString
import Derived.ChangeSame
namespace Go.Proofs.Ytobfgkiccmhgdaa.fnExactKeysOk
open Go.ChangeShapes Go.WideShapes Go.ChangeAt Go.RowKit Go.Lib

/-- The law's word: true, and what lay before the call lies as it lay. -/
def OkB (w : World) (e : Ending) (w' : World) : Prop := e = .returned (.bool true) ∧ Below w.heap.size w w'

set_option maxRecDepth 100000 in
set_option maxHeartbeats 8000000 in
theorem go (e : Int) (p q : M) (t : Bool) (w : World) (hp : LawM w p) (hq : LawM w q) :
    Calls Try.prog 5 #[.agg #[.int .i64 e, .bool p.u, .int .u64 (n64 p.k), .int .u64 (n64 p.l), .slice p.a p.rs.length p.c, .bool q.u, .int .u64 (n64 q.k), .int .u64 (n64 q.l), .slice q.a q.rs.length q.c, .bool t]] w (OkB w) := by
  have HP := Lib.hid hp
  have HQ := Lib.hid hq
  clear hp hq
  go_enter Try.func5, Try.ntmps5
  have B0 := Lib.hid (show Below w.heap.size w (w.alloc (.cells #[.int .i64 e, .bool p.u, .int .u64 (n64 p.k), .int .u64 (n64 p.l), .slice p.a p.rs.length p.c, .bool q.u, .int .u64 (n64 q.k), .int .u64 (n64 q.l), .slice q.a q.rs.length q.c, .bool t] 52)) from ((Below.refl _ w).alloc (by simp) _))
  have KK0 := Lib.hid (show Blk (w.alloc (.cells #[.int .i64 e, .bool p.u, .int .u64 (n64 p.k), .int .u64 (n64 p.l), .slice p.a p.rs.length p.c, .bool q.u, .int .u64 (n64 q.k), .int .u64 (n64 q.l), .slice q.a q.rs.length q.c, .bool t] 52)) (w.heap.size) [.int .i64 e, .bool p.u, .int .u64 (n64 p.k), .int .u64 (n64 p.l), .slice p.a p.rs.length p.c, .bool q.u, .int .u64 (n64 q.k), .int .u64 (n64 q.l), .slice q.a q.rs.length q.c, .bool t] from Blk.new w [.int .i64 e, .bool p.u, .int .u64 (n64 p.k), .int .u64 (n64 p.l), .slice p.a p.rs.length p.c, .bool q.u, .int .u64 (n64 q.k), .int .u64 (n64 q.l), .slice q.a q.rs.length q.c, .bool t] 52)
  go_wp2_with fail
  change Calls _ _ _ (w.alloc (.cells #[.int .i64 e, .bool p.u, .int .u64 (n64 p.k), .int .u64 (n64 p.l), .slice p.a p.rs.length p.c, .bool q.u, .int .u64 (n64 q.k), .int .u64 (n64 q.l), .slice q.a q.rs.length q.c, .bool t] 52)) _
  generalize w.alloc (.cells #[.int .i64 e, .bool p.u, .int .u64 (n64 p.k), .int .u64 (n64 p.l), .slice p.a p.rs.length p.c, .bool q.u, .int .u64 (n64 q.k), .int .u64 (n64 q.l), .slice q.a q.rs.length q.c, .bool t] 52) = v0 at B0 KK0 ⊢
  generalize w.heap.size = g_K at KK0 ⊢
  refine (szKeys_any e p q t 1048576 _ ⟨HP.out.1, ((HP.out.2.below B0.out).mono B0.out.size)⟩ ⟨HQ.out.1, ((HQ.out.2.below B0.out).mono B0.out.size)⟩ (by decide) (by decide)).mono ?_
  rintro e v1 ⟨hb, r, rfl, hr1, hr2⟩
  have B1 := Lib.hid (B0.out.trans (hb.mono B0.out.size))
  have KK1 := Lib.hid (KK0.out.below hb)
  clear hb B0 KK0
  have HR := Lib.hid hr2
  clear hr2
  obtain ⟨⟨cK0, cK1, cK2, cK3, cK4, cK5, cK6, cK7, cK8, cK9⟩, dK0, dK1, dK2, dK3, dK4, dK5, dK6, dK7, dK8, dK9⟩ := KK1.out.of10
  by_cases hnegr : r < 0
  · go_wp2_with fail
    go_ret
    exact ⟨rfl, B1.out⟩
  have fp := Lib.hid (show p.rs.length ≤ 1048576 by have := HR.out (by omega); omega)
  have Fp := Lib.hid (LawM.fit HP.out fp.out)
  have fq := Lib.hid (show q.rs.length ≤ 1048576 by have := HR.out (by omega); omega)
  have Fq := Lib.hid (LawM.fit HQ.out fq.out)
  clear HR
  go_wp2_with fail
  clear cK0 cK1 cK2 cK3 cK4 cK5 cK6 cK7 cK8 cK9 dK0 dK1 dK2 dK3 dK4 dK5 dK6 dK7 dK8 dK9
  refine (toKeys_any e p q t _ ((HP.out.2.below B1.out).mono B1.out.size) ((HQ.out.2.below B1.out).mono B1.out.size) fp.out fq.out).mono ?_
  rintro e v2 ⟨g_s1, g_s2, n_s1_s2, rfl, ho_s1, ho_s2, hb⟩
  have n_K_s1 : g_K ≠ g_s1 := by have h1 := KK1.out.lt; have h2 := (ho_s1.lt g_s1 rfl).1; omega
  have l_s1 : w.heap.size ≤ g_s1 := Nat.le_trans B1.out.size (ho_s1.lt g_s1 rfl).1
  have n_K_s2 : g_K ≠ g_s2 := by have h1 := KK1.out.lt; have h2 := (ho_s2.lt g_s2 rfl).1; omega
  have l_s2 : w.heap.size ≤ g_s2 := Nat.le_trans B1.out.size (ho_s2.lt g_s2 rfl).1
  have B2 := Lib.hid (B1.out.trans (hb.mono B1.out.size))
  have KK2 := Lib.hid (KK1.out.below hb)
  have Os12 := Lib.hid (own_down ho_s1 (Nat.zero_le _))
  have Os22 := Lib.hid (own_down ho_s2 (Nat.zero_le _))
  clear hb B1 KK1 ho_s1 ho_s2
  obtain ⟨⟨cK0, cK1, cK2, cK3, cK4, cK5, cK6, cK7, cK8, cK9⟩, dK0, dK1, dK2, dK3, dK4, dK5, dK6, dK7, dK8, dK9⟩ := KK2.out.of10
  go_wp2_with fail
  clear cK0 cK1 cK2 cK3 cK4 cK5 cK6 cK7 cK8 cK9 dK0 dK1 dK2 dK3 dK4 dK5 dK6 dK7 dK8 dK9
  refine (keysOkS_at e p q t (some ⟨g_s1, 0, none⟩) (some ⟨g_s2, 0, none⟩) p.rs.length q.rs.length _ (M.on_at Os12.out) (M.on_at Os22.out) Fp.out Fq.out).mono ?_
  rintro e v3 ⟨rfl, hb⟩
  have B3 := Lib.hid (B2.out.trans (hb.mono B2.out.size))
  have KK3 := Lib.hid (KK2.out.below hb)
  have Os13 := Lib.hid (Os12.out.kept (below_any (row := none) hb) (.inr (by simp [Value.ownBlock])))
  have Os23 := Lib.hid (Os22.out.kept (below_any (row := none) hb) (.inr (by simp [Value.ownBlock])))
  clear hb B2 KK2 Os12 Os22
  obtain ⟨⟨cK0, cK1, cK2, cK3, cK4, cK5, cK6, cK7, cK8, cK9⟩, dK0, dK1, dK2, dK3, dK4, dK5, dK6, dK7, dK8, dK9⟩ := KK3.out.of10
  go_wp2_with fail
  clear cK0 cK1 cK2 cK3 cK4 cK5 cK6 cK7 cK8 cK9 dK0 dK1 dK2 dK3 dK4 dK5 dK6 dK7 dK8 dK9
  refine (toKeys_any e p q t _ ((HP.out.2.below B3.out).mono B3.out.size) ((HQ.out.2.below B3.out).mono B3.out.size) fp.out fq.out).mono ?_
  rintro e v4 ⟨g_x1, g_x2, n_x1_x2, rfl, ho_x1, ho_x2, hb⟩
  have n_K_x1 : g_K ≠ g_x1 := by have h1 := KK3.out.lt; have h2 := (ho_x1.lt g_x1 rfl).1; omega
  have n_s1_x1 : g_s1 ≠ g_x1 := by have h1 := (Os13.out.lt g_s1 rfl).2; have h2 := (ho_x1.lt g_x1 rfl).1; omega
  have n_s2_x1 : g_s2 ≠ g_x1 := by have h1 := (Os23.out.lt g_s2 rfl).2; have h2 := (ho_x1.lt g_x1 rfl).1; omega
  have l_x1 : w.heap.size ≤ g_x1 := Nat.le_trans B3.out.size (ho_x1.lt g_x1 rfl).1
  have n_K_x2 : g_K ≠ g_x2 := by have h1 := KK3.out.lt; have h2 := (ho_x2.lt g_x2 rfl).1; omega
  have n_s1_x2 : g_s1 ≠ g_x2 := by have h1 := (Os13.out.lt g_s1 rfl).2; have h2 := (ho_x2.lt g_x2 rfl).1; omega
  have n_s2_x2 : g_s2 ≠ g_x2 := by have h1 := (Os23.out.lt g_s2 rfl).2; have h2 := (ho_x2.lt g_x2 rfl).1; omega
  have l_x2 : w.heap.size ≤ g_x2 := Nat.le_trans B3.out.size (ho_x2.lt g_x2 rfl).1
  have B4 := Lib.hid (B3.out.trans (hb.mono B3.out.size))
  have KK4 := Lib.hid (KK3.out.below hb)
  have Os14 := Lib.hid (Os13.out.kept (below_any (row := none) hb) (.inr (by simp [Value.ownBlock])))
  have Os24 := Lib.hid (Os23.out.kept (below_any (row := none) hb) (.inr (by simp [Value.ownBlock])))
  have Ox14 := Lib.hid (own_down ho_x1 (Nat.zero_le _))
  have Ox24 := Lib.hid (own_down ho_x2 (Nat.zero_le _))
  clear hb B3 KK3 Os13 Os23 ho_x1 ho_x2
  have KXn := Lib.hid (Blk.new v4 [.int .i64 e, .bool p.u, .int .u64 (n64 p.k), .int .u64 (n64 p.l), .slice (some ⟨g_x1, 0, none⟩) p.rs.length p.rs.length, .bool q.u, .int .u64 (n64 q.k), .int .u64 (n64 q.l), .slice (some ⟨g_x2, 0, none⟩) q.rs.length q.rs.length, .bool t] 29)
  have n_K_X : g_K ≠ v4.heap.size := by have h1 := KK4.out.lt; omega
  have n_s1_X : g_s1 ≠ v4.heap.size := by have h1 := (Os14.out.lt g_s1 rfl).2; omega
  have n_s2_X : g_s2 ≠ v4.heap.size := by have h1 := (Os24.out.lt g_s2 rfl).2; omega
  have n_x1_X : g_x1 ≠ v4.heap.size := by have h1 := (Ox14.out.lt g_x1 rfl).2; omega
  have n_x2_X : g_x2 ≠ v4.heap.size := by have h1 := (Ox24.out.lt g_x2 rfl).2; omega
  have Bn := Lib.hid (B4.out.alloc B4.out.size (.cells #[.int .i64 e, .bool p.u, .int .u64 (n64 p.k), .int .u64 (n64 p.l), .slice (some ⟨g_x1, 0, none⟩) p.rs.length p.rs.length, .bool q.u, .int .u64 (n64 q.k), .int .u64 (n64 q.l), .slice (some ⟨g_x2, 0, none⟩) q.rs.length q.rs.length, .bool t] 29))
  have KKn := Lib.hid (KK4.out.alloc (.cells #[.int .i64 e, .bool p.u, .int .u64 (n64 p.k), .int .u64 (n64 p.l), .slice (some ⟨g_x1, 0, none⟩) p.rs.length p.rs.length, .bool q.u, .int .u64 (n64 q.k), .int .u64 (n64 q.l), .slice (some ⟨g_x2, 0, none⟩) q.rs.length q.rs.length, .bool t] 29))
  have Os1n := Lib.hid (Os14.out.alloc (.cells #[.int .i64 e, .bool p.u, .int .u64 (n64 p.k), .int .u64 (n64 p.l), .slice (some ⟨g_x1, 0, none⟩) p.rs.length p.rs.length, .bool q.u, .int .u64 (n64 q.k), .int .u64 (n64 q.l), .slice (some ⟨g_x2, 0, none⟩) q.rs.length q.rs.length, .bool t] 29))
  have Os2n := Lib.hid (Os24.out.alloc (.cells #[.int .i64 e, .bool p.u, .int .u64 (n64 p.k), .int .u64 (n64 p.l), .slice (some ⟨g_x1, 0, none⟩) p.rs.length p.rs.length, .bool q.u, .int .u64 (n64 q.k), .int .u64 (n64 q.l), .slice (some ⟨g_x2, 0, none⟩) q.rs.length q.rs.length, .bool t] 29))
  have Ox1n := Lib.hid (Ox14.out.alloc (.cells #[.int .i64 e, .bool p.u, .int .u64 (n64 p.k), .int .u64 (n64 p.l), .slice (some ⟨g_x1, 0, none⟩) p.rs.length p.rs.length, .bool q.u, .int .u64 (n64 q.k), .int .u64 (n64 q.l), .slice (some ⟨g_x2, 0, none⟩) q.rs.length q.rs.length, .bool t] 29))
  have Ox2n := Lib.hid (Ox24.out.alloc (.cells #[.int .i64 e, .bool p.u, .int .u64 (n64 p.k), .int .u64 (n64 p.l), .slice (some ⟨g_x1, 0, none⟩) p.rs.length p.rs.length, .bool q.u, .int .u64 (n64 q.k), .int .u64 (n64 q.l), .slice (some ⟨g_x2, 0, none⟩) q.rs.length q.rs.length, .bool t] 29))
  clear B4 KK4 Os14 Os24 Ox14 Ox24
  obtain ⟨⟨cK0, cK1, cK2, cK3, cK4, cK5, cK6, cK7, cK8, cK9⟩, dK0, dK1, dK2, dK3, dK4, dK5, dK6, dK7, dK8, dK9⟩ := KKn.out.of10
  go_wp2_with fail
  clear cK0 cK1 cK2 cK3 cK4 cK5 cK6 cK7 cK8 cK9 dK0 dK1 dK2 dK3 dK4 dK5 dK6 dK7 dK8 dK9
  change Calls _ _ _ (v4.alloc (.cells #[.int .i64 e, .bool p.u, .int .u64 (n64 p.k), .int .u64 (n64 p.l), .slice (some ⟨g_x1, 0, none⟩) p.rs.length p.rs.length, .bool q.u, .int .u64 (n64 q.k), .int .u64 (n64 q.l), .slice (some ⟨g_x2, 0, none⟩) q.rs.length q.rs.length, .bool t] 29)) _
  generalize v4.alloc (.cells #[.int .i64 e, .bool p.u, .int .u64 (n64 p.k), .int .u64 (n64 p.l), .slice (some ⟨g_x1, 0, none⟩) p.rs.length p.rs.length, .bool q.u, .int .u64 (n64 q.k), .int .u64 (n64 q.l), .slice (some ⟨g_x2, 0, none⟩) q.rs.length q.rs.length, .bool t] 29) = v5 at KXn Bn KKn Os1n Os2n Ox1n Ox2n ⊢
  generalize v4.heap.size = g_X at KXn n_K_X n_s1_X n_s2_X n_x1_X n_x2_X ⊢
  clear v4
  have KK5 := KKn
  clear KKn
  have KX5 := KXn
  clear KXn
  have Os15 := Os1n
  clear Os1n
  have Os25 := Os2n
  clear Os2n
  have Ox15 := Ox1n
  clear Ox1n
  have Ox25 := Ox2n
  clear Ox2n
  have B5 := Bn
  clear Bn
  refine (keysOkI_at e p q t (some ⟨g_x1, 0, none⟩) (some ⟨g_x2, 0, none⟩) p.rs.length q.rs.length _ (M.on_at Ox15.out) (M.on_at Ox25.out) Fp.out Fq.out).mono ?_
  rintro e v6 ⟨rfl, hb⟩
  have B6 := Lib.hid (B5.out.trans (hb.mono B5.out.size))
  have KK6 := Lib.hid (KK5.out.below hb)
  have KX6 := Lib.hid (KX5.out.below hb)
  have Os16 := Lib.hid (Os15.out.kept (below_any (row := none) hb) (.inr (by simp [Value.ownBlock])))
  have Os26 := Lib.hid (Os25.out.kept (below_any (row := none) hb) (.inr (by simp [Value.ownBlock])))
  have Ox16 := Lib.hid (Ox15.out.kept (below_any (row := none) hb) (.inr (by simp [Value.ownBlock])))
  have Ox26 := Lib.hid (Ox25.out.kept (below_any (row := none) hb) (.inr (by simp [Value.ownBlock])))
  clear hb B5 KK5 KX5 Os15 Os25 Ox15 Ox25
  obtain ⟨⟨cK0, cK1, cK2, cK3, cK4, cK5, cK6, cK7, cK8, cK9⟩, dK0, dK1, dK2, dK3, dK4, dK5, dK6, dK7, dK8, dK9⟩ := KK6.out.of10
  obtain ⟨⟨cX0, cX1, cX2, cX3, cX4, cX5, cX6, cX7, cX8, cX9⟩, dX0, dX1, dX2, dX3, dX4, dX5, dX6, dX7, dX8, dX9⟩ := KX6.out.of10
  go_wp2_with fail
  clear cK0 cK1 cK2 cK3 cK4 cK5 cK6 cK7 cK8 cK9 dK0 dK1 dK2 dK3 dK4 dK5 dK6 dK7 dK8 dK9 cX0 cX1 cX2 cX3 cX4 cX5 cX6 cX7 cX8 cX9 dX0 dX1 dX2 dX3 dX4 dX5 dX6 dX7 dX8 dX9
  obtain ⟨⟨cK0, cK1, cK2, cK3, cK4, cK5, cK6, cK7, cK8, cK9⟩, dK0, dK1, dK2, dK3, dK4, dK5, dK6, dK7, dK8, dK9⟩ := KK6.out.of10
  obtain ⟨⟨cX0, cX1, cX2, cX3, cX4, cX5, cX6, cX7, cX8, cX9⟩, dX0, dX1, dX2, dX3, dX4, dX5, dX6, dX7, dX8, dX9⟩ := KX6.out.of10
  have P6_0 : True := trivial
  have P6_1 : True := trivial
  go_region_held3 (fun w' => (w'.cell? ⟨g_X, 0, none⟩ = some (.int .i64 e) ∧ w'.cell? ⟨g_X, 1, none⟩ = some (.bool p.u) ∧ w'.cell? ⟨g_X, 2, none⟩ = some (.int .u64 (n64 p.k)) ∧ w'.cell? ⟨g_X, 3, none⟩ = some (.int .u64 (n64 p.l)) ∧ w'.cell? ⟨g_X, 4, none⟩ = some (.slice (some ⟨g_x1, 0, none⟩) p.rs.length p.rs.length) ∧ w'.cell? ⟨g_X, 5, none⟩ = some (.bool q.u) ∧ w'.cell? ⟨g_X, 6, none⟩ = some (.int .u64 (n64 q.k)) ∧ w'.cell? ⟨g_X, 7, none⟩ = some (.int .u64 (n64 q.l)) ∧ w'.cell? ⟨g_X, 8, none⟩ = some (.slice (some ⟨g_x2, 0, none⟩) q.rs.length q.rs.length) ∧ w'.cell? ⟨g_X, 9, none⟩ = some (.bool t)) ∧ (w'.cell? ⟨g_K, 0, none⟩ = some (.int .i64 e) ∧ w'.cell? ⟨g_K, 1, none⟩ = some (.bool p.u) ∧ w'.cell? ⟨g_K, 2, none⟩ = some (.int .u64 (n64 p.k)) ∧ w'.cell? ⟨g_K, 3, none⟩ = some (.int .u64 (n64 p.l)) ∧ w'.cell? ⟨g_K, 4, none⟩ = some (.slice p.a p.rs.length p.c) ∧ w'.cell? ⟨g_K, 5, none⟩ = some (.bool q.u) ∧ w'.cell? ⟨g_K, 6, none⟩ = some (.int .u64 (n64 q.k)) ∧ w'.cell? ⟨g_K, 7, none⟩ = some (.int .u64 (n64 q.l)) ∧ w'.cell? ⟨g_K, 8, none⟩ = some (.slice q.a q.rs.length q.c) ∧ w'.cell? ⟨g_K, 9, none⟩ = some (.bool t)))
    (first | go_keep | (exact ⟨KX7.out.of10.1, KK7.out.of10.1⟩) | (exact ⟨KX8.out.of10.1, KK8.out.of10.1⟩))
    (first | (have q := P6_0; go_at_call 27; clear q P6_0; refine (toKeys_any e p q t _ ((HP.out.2.below B6.out.drew).mono B6.out.drew.size) ((HQ.out.2.below B6.out.drew).mono B6.out.drew.size) fp.out fq.out).mono ?_; rintro e v7 ⟨g_z1, g_z2, n_z1_z2, rfl, ho_z1, ho_z2, hb⟩; replace hb := (Below.refl _ v6).drew.trans hb; replace ho_z2 := own_down ho_z2 (show v6.heap.size ≤ v6.drew.heap.size from Nat.le_refl _); replace ho_z1 := own_down ho_z1 (show v6.heap.size ≤ v6.drew.heap.size from Nat.le_refl _); have n_K_z1 : g_K ≠ g_z1 := (by have h1 := KK6.out.lt; have h2 := (ho_z1.lt g_z1 rfl).1; omega); have n_X_z1 : g_X ≠ g_z1 := (by have h1 := KX6.out.lt; have h2 := (ho_z1.lt g_z1 rfl).1; omega); have n_s1_z1 : g_s1 ≠ g_z1 := (by have h1 := (Os16.out.lt g_s1 rfl).2; have h2 := (ho_z1.lt g_z1 rfl).1; omega); have n_s2_z1 : g_s2 ≠ g_z1 := (by have h1 := (Os26.out.lt g_s2 rfl).2; have h2 := (ho_z1.lt g_z1 rfl).1; omega); have n_x1_z1 : g_x1 ≠ g_z1 := (by have h1 := (Ox16.out.lt g_x1 rfl).2; have h2 := (ho_z1.lt g_z1 rfl).1; omega); have n_x2_z1 : g_x2 ≠ g_z1 := (by have h1 := (Ox26.out.lt g_x2 rfl).2; have h2 := (ho_z1.lt g_z1 rfl).1; omega); have l_z1 : w.heap.size ≤ g_z1 := Nat.le_trans B6.out.size (ho_z1.lt g_z1 rfl).1; have n_K_z2 : g_K ≠ g_z2 := (by have h1 := KK6.out.lt; have h2 := (ho_z2.lt g_z2 rfl).1; omega); have n_X_z2 : g_X ≠ g_z2 := (by have h1 := KX6.out.lt; have h2 := (ho_z2.lt g_z2 rfl).1; omega); have n_s1_z2 : g_s1 ≠ g_z2 := (by have h1 := (Os16.out.lt g_s1 rfl).2; have h2 := (ho_z2.lt g_z2 rfl).1; omega); have n_s2_z2 : g_s2 ≠ g_z2 := (by have h1 := (Os26.out.lt g_s2 rfl).2; have h2 := (ho_z2.lt g_z2 rfl).1; omega); have n_x1_z2 : g_x1 ≠ g_z2 := (by have h1 := (Ox16.out.lt g_x1 rfl).2; have h2 := (ho_z2.lt g_z2 rfl).1; omega); have n_x2_z2 : g_x2 ≠ g_z2 := (by have h1 := (Ox26.out.lt g_x2 rfl).2; have h2 := (ho_z2.lt g_z2 rfl).1; omega); have l_z2 : w.heap.size ≤ g_z2 := Nat.le_trans B6.out.size (ho_z2.lt g_z2 rfl).1; have B7 := Lib.hid (B6.out.trans (hb.mono B6.out.size)); have KK7 := Lib.hid (KK6.out.below hb); have KX7 := Lib.hid (KX6.out.below hb); have Os17 := Lib.hid (Os16.out.kept (below_any (row := none) hb) (.inr (by simp [Value.ownBlock]))); have Os27 := Lib.hid (Os26.out.kept (below_any (row := none) hb) (.inr (by simp [Value.ownBlock]))); have Ox17 := Lib.hid (Ox16.out.kept (below_any (row := none) hb) (.inr (by simp [Value.ownBlock]))); have Ox27 := Lib.hid (Ox26.out.kept (below_any (row := none) hb) (.inr (by simp [Value.ownBlock]))); have Oz17 := Lib.hid (own_down ho_z1 (Nat.zero_le _)); have Oz27 := Lib.hid (own_down ho_z2 (Nat.zero_le _)); clear hb B6 KK6 KX6 Os16 Os26 Ox16 Ox26 ho_z1 ho_z2) | (have q := P6_1; go_at_call 28; clear q P6_1; refine (eqKeys_self e p q t (some ⟨g_x1, 0, none⟩) (some ⟨g_x2, 0, none⟩) (some ⟨g_z1, 0, none⟩) (some ⟨g_z2, 0, none⟩) p.rs.length q.rs.length p.rs.length q.rs.length _ (Row.ownK Ox17.out) (Row.ownK Ox27.out) (Row.ownK Oz17.out) (Row.ownK Oz27.out) fp.out fq.out).mono ?_; rintro e v8 ⟨rfl, hb⟩; have B8 := Lib.hid (B7.out.trans (hb.mono B7.out.size)); have KK8 := Lib.hid (KK7.out.below hb); have KX8 := Lib.hid (KX7.out.below hb); have Os18 := Lib.hid (Os17.out.kept (below_any (row := none) hb) (.inr (by simp [Value.ownBlock]))); have Os28 := Lib.hid (Os27.out.kept (below_any (row := none) hb) (.inr (by simp [Value.ownBlock]))); have Ox18 := Lib.hid (Ox17.out.kept (below_any (row := none) hb) (.inr (by simp [Value.ownBlock]))); have Ox28 := Lib.hid (Ox27.out.kept (below_any (row := none) hb) (.inr (by simp [Value.ownBlock]))); have Oz18 := Lib.hid (Oz17.out.kept (below_any (row := none) hb) (.inr (by simp [Value.ownBlock]))); have Oz28 := Lib.hid (Oz27.out.kept (below_any (row := none) hb) (.inr (by simp [Value.ownBlock]))); clear hb B7 KK7 KX7 Os17 Os27 Ox17 Ox27 Oz17 Oz27))
  try clear cK0 cK1 cK2 cK3 cK4 cK5 cK6 cK7 cK8 cK9 dK0 dK1 dK2 dK3 dK4 dK5 dK6 dK7 dK8 dK9 cX0 cX1 cX2 cX3 cX4 cX5 cX6 cX7 cX8 cX9 dX0 dX1 dX2 dX3 dX4 dX5 dX6 dX7 dX8 dX9
  obtain ⟨⟨cK0, cK1, cK2, cK3, cK4, cK5, cK6, cK7, cK8, cK9⟩, dK0, dK1, dK2, dK3, dK4, dK5, dK6, dK7, dK8, dK9⟩ := KK8.out.of10
  obtain ⟨⟨cX0, cX1, cX2, cX3, cX4, cX5, cX6, cX7, cX8, cX9⟩, dX0, dX1, dX2, dX3, dX4, dX5, dX6, dX7, dX8, dX9⟩ := KX8.out.of10
  go_wp2_with fail
  go_ret
  exact ⟨rfl, B8.out⟩

theorem walk {w : World} (e : Int) (p q : M) (t : Bool) (h : (Lit.int .i64 e).wf = true ∧ LawM w p ∧ LawM w q) :
    Calls Try.prog 5 #[.agg #[.int .i64 e, .bool p.u, .int .u64 (n64 p.k), .int .u64 (n64 p.l), .slice p.a p.rs.length p.c, .bool q.u, .int .u64 (n64 q.k), .int .u64 (n64 q.l), .slice q.a q.rs.length q.c, .bool t]] w fun e w' => e = .returned (.bool true) ∧ Below w.heap.size w w' := go e p q t w h.2.1 h.2.2
theorem own : ownKnob Try.prog.godebug = none := by kernel_rfl
theorem laidOut : laidOutB Try.prog = true := by kernel_rfl

set_option maxRecDepth 100000 in
theorem lifted (os : Os) (started : os.Started) (H : Type) (enc : TypeId × Value → H) :
    ReturnsInHanded {} Try.checked os 5 .any (Rows.fnExactKeysOkSpec.pre6 enc Try.prog Try.f5 Rows.fnExactKeysOkRow.domain false) (Rows.fnExactKeysOkSpec.post enc Try.prog Try.f5 false true false false) := by
  refine returnsInHanded_of_change (C := Try.checked) own started (by kernel_rfl) Try.func5
    (ChangeSpec.witness6 (enc := enc) (C := Try.checked) false ⟨#[], #[.agg #[.int .i64 0, .bool false, .int .u64 0, .int .u64 0, .slice none 0 0, .bool false, .int .u64 0, .int .u64 0, .slice none 0 0, .bool false]], []⟩ 8 (by kernel_rfl) (by kernel_rfl) (by kernel_rfl) (by kernel_rfl)) ?_
  intro W base args ds gs before hval0 hW _ _
  have hval : ∀ (j : Nat) t v, Try.f5.params[j]? = some t → args[j]? = some v → Value.okWide Try.prog W .any base t v := hval0
  have hW' := hW
  obtain ⟨p, q, hA0, hV, rfl, _, _⟩ := hW
  have hA : DataW.TrodAll enc Try.prog W 0 (fun _ => true) true Try.f5.params.toList args.toList ds p := hA0
  rw [Try.params5] at hA hval
  obtain ⟨v0, vs0, d0, ds0, p0, q0, hargs, rfl, rfl, h0, r0⟩ := trodAll_cons hA
  obtain ⟨rfl, rfl, rfl⟩ := trodAll_nil r0
  obtain rfl : args = #[v0] := by cases args; simp_all
  obtain ⟨rfl, rfl⟩ := trodVars_none hV
  have k0 := h0
  have lt0 : ∀ x ∈ p0, x.block < W.heap.size := by obtain ⟨m, hm⟩ := k0; exact DataW.trod_lt m _ _ _ hm
  obtain ⟨e0, p0, q0, t0, rfl, w0⟩ := argKeys (hval 0 52 v0 rfl rfl) h0
  clear hA0 hval0
  refine (walk e0 p0 q0 t0 w0).mono fun e W' ⟨he, bel⟩ => ?_
  subst he
  exact ⟨_, rfl, _, _, _, [], _, [], hW', trodAll_mk1 (shut_bool Try.underlying4 _), (trodAll_cons_mk (Below.trod laidOut (by kernel_rfl) (of_decide_eq_true (by kernel_rfl)) k0 bel lt0) trodAll_mk0), rfl, bel.frame _, fun h => by cases h⟩

theorem over : Rows.fnExactKeysOkRow.holds Try.pinned (OpenSpec.ofChange Rows.fnExactKeysOkSpec) :=
  OpenClaim.holds_of_wide 5 Try.f5 rfl rfl rfl rfl rfl rfl rfl ⟨rfl, rfl, rfl, rfl, rfl⟩ rfl rfl rfl rfl rfl (by kernel_rfl) Try.func5 (by kernel_rfl)
    (of_decide_eq_true (by kernel_rfl)) (by unfold Func.isWrapper; first | (rw [if_pos (by decide +kernel)]; kernel_rfl) | (rw [if_neg (by decide +kernel)]; exact ⟨rfl, rfl⟩))
    (fun os started H enc _ => lifted os started H enc)

theorem proved : Rows.FnExactKeysOkSaid := over
#print axioms proved
end Go.Proofs.Ytobfgkiccmhgdaa.fnExactKeysOk
