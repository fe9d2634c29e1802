/- The law FnExactSameKeys holds for any two keys (up to the law's own measure of 1048576 rows and bytes; past it the law itself answers true): impl's SameKeys answers as the model's and leaves its arguments. No condition. -/
import Derived.Test.YtobfgkiccmhgdaaRows
import Derived.Test.YtobfgkiccmhgdaaKeysLaw
import Derived.Test.YtobfgkiccmhgdaaArgKeys
import Derived.Deep.RegionHeld3
import Derived.ProofKit
import Derived.OpenShut
import Derived.ShutString
import Derived.ChangeSame
import Derived.Test.YtobfgkiccmhgdaaKeysAt
namespace Go.Proofs.Ytobfgkiccmhgdaa.fnExactSameKeys
open Go.ChangeShapes Go.WideShapes Go.ChangeAt Go.RowKit Go.Lib

/-- The law's word: true, and what lay before the call lies as it lay. -/
def OkB (w : World) (e : Ending) (w' : World) : Prop := e = .returned (.bool true) ∧ Below w.heap.size w w'

set_option maxRecDepth 100000 in
set_option maxHeartbeats 8000000 in
theorem go (e1 : Int) (p1 q1 : M) (t1 : Bool) (e2 : Int) (p2 q2 : M) (t2 : Bool) (w : World) (hp1 : LawM w p1) (hq1 : LawM w q1) (hp2 : LawM w p2) (hq2 : LawM w q2) :
    Calls Try.prog 11 #[.agg #[.int .i64 e1, .bool p1.u, .int .u64 (n64 p1.k), .int .u64 (n64 p1.l), .slice p1.a p1.rs.length p1.c, .bool q1.u, .int .u64 (n64 q1.k), .int .u64 (n64 q1.l), .slice q1.a q1.rs.length q1.c, .bool t1], .agg #[.int .i64 e2, .bool p2.u, .int .u64 (n64 p2.k), .int .u64 (n64 p2.l), .slice p2.a p2.rs.length p2.c, .bool q2.u, .int .u64 (n64 q2.k), .int .u64 (n64 q2.l), .slice q2.a q2.rs.length q2.c, .bool t2]] w (OkB w) := by
  have HP1 := Lib.hid hp1
  have HQ1 := Lib.hid hq1
  have HP2 := Lib.hid hp2
  have HQ2 := Lib.hid hq2
  clear hp1 hq1 hp2 hq2
  go_enter Try.func11, Try.ntmps11
  have B0 := Lib.hid (show Below w.heap.size w ((w.alloc (.cells #[.int .i64 e1, .bool p1.u, .int .u64 (n64 p1.k), .int .u64 (n64 p1.l), .slice p1.a p1.rs.length p1.c, .bool q1.u, .int .u64 (n64 q1.k), .int .u64 (n64 q1.l), .slice q1.a q1.rs.length q1.c, .bool t1] 52)).alloc (.cells #[.int .i64 e2, .bool p2.u, .int .u64 (n64 p2.k), .int .u64 (n64 p2.l), .slice p2.a p2.rs.length p2.c, .bool q2.u, .int .u64 (n64 q2.k), .int .u64 (n64 q2.l), .slice q2.a q2.rs.length q2.c, .bool t2] 52)) from (((Below.refl _ w).alloc (by simp) _).alloc (by simp) _))
  have KA0 := Lib.hid (show Blk ((w.alloc (.cells #[.int .i64 e1, .bool p1.u, .int .u64 (n64 p1.k), .int .u64 (n64 p1.l), .slice p1.a p1.rs.length p1.c, .bool q1.u, .int .u64 (n64 q1.k), .int .u64 (n64 q1.l), .slice q1.a q1.rs.length q1.c, .bool t1] 52)).alloc (.cells #[.int .i64 e2, .bool p2.u, .int .u64 (n64 p2.k), .int .u64 (n64 p2.l), .slice p2.a p2.rs.length p2.c, .bool q2.u, .int .u64 (n64 q2.k), .int .u64 (n64 q2.l), .slice q2.a q2.rs.length q2.c, .bool t2] 52)) (w.heap.size) [.int .i64 e1, .bool p1.u, .int .u64 (n64 p1.k), .int .u64 (n64 p1.l), .slice p1.a p1.rs.length p1.c, .bool q1.u, .int .u64 (n64 q1.k), .int .u64 (n64 q1.l), .slice q1.a q1.rs.length q1.c, .bool t1] from (Blk.new w [.int .i64 e1, .bool p1.u, .int .u64 (n64 p1.k), .int .u64 (n64 p1.l), .slice p1.a p1.rs.length p1.c, .bool q1.u, .int .u64 (n64 q1.k), .int .u64 (n64 q1.l), .slice q1.a q1.rs.length q1.c, .bool t1] 52).alloc (.cells #[.int .i64 e2, .bool p2.u, .int .u64 (n64 p2.k), .int .u64 (n64 p2.l), .slice p2.a p2.rs.length p2.c, .bool q2.u, .int .u64 (n64 q2.k), .int .u64 (n64 q2.l), .slice q2.a q2.rs.length q2.c, .bool t2] 52))
  have s1 : (w.alloc (.cells #[.int .i64 e1, .bool p1.u, .int .u64 (n64 p1.k), .int .u64 (n64 p1.l), .slice p1.a p1.rs.length p1.c, .bool q1.u, .int .u64 (n64 q1.k), .int .u64 (n64 q1.l), .slice q1.a q1.rs.length q1.c, .bool t1] 52)).heap.size = w.heap.size + 1 := by simp
  have KB0 := Lib.hid (show Blk ((w.alloc (.cells #[.int .i64 e1, .bool p1.u, .int .u64 (n64 p1.k), .int .u64 (n64 p1.l), .slice p1.a p1.rs.length p1.c, .bool q1.u, .int .u64 (n64 q1.k), .int .u64 (n64 q1.l), .slice q1.a q1.rs.length q1.c, .bool t1] 52)).alloc (.cells #[.int .i64 e2, .bool p2.u, .int .u64 (n64 p2.k), .int .u64 (n64 p2.l), .slice p2.a p2.rs.length p2.c, .bool q2.u, .int .u64 (n64 q2.k), .int .u64 (n64 q2.l), .slice q2.a q2.rs.length q2.c, .bool t2] 52)) (w.heap.size + 1) [.int .i64 e2, .bool p2.u, .int .u64 (n64 p2.k), .int .u64 (n64 p2.l), .slice p2.a p2.rs.length p2.c, .bool q2.u, .int .u64 (n64 q2.k), .int .u64 (n64 q2.l), .slice q2.a q2.rs.length q2.c, .bool t2] by have h0 := Blk.new (w.alloc (.cells #[.int .i64 e1, .bool p1.u, .int .u64 (n64 p1.k), .int .u64 (n64 p1.l), .slice p1.a p1.rs.length p1.c, .bool q1.u, .int .u64 (n64 q1.k), .int .u64 (n64 q1.l), .slice q1.a q1.rs.length q1.c, .bool t1] 52)) [.int .i64 e2, .bool p2.u, .int .u64 (n64 p2.k), .int .u64 (n64 p2.l), .slice p2.a p2.rs.length p2.c, .bool q2.u, .int .u64 (n64 q2.k), .int .u64 (n64 q2.l), .slice q2.a q2.rs.length q2.c, .bool t2] 52; rwa [s1] at h0)
  have n_A_B : w.heap.size ≠ w.heap.size + 1 := by omega
  clear s1
  go_wp2_with fail
  change Calls _ _ _ ((w.alloc (.cells #[.int .i64 e1, .bool p1.u, .int .u64 (n64 p1.k), .int .u64 (n64 p1.l), .slice p1.a p1.rs.length p1.c, .bool q1.u, .int .u64 (n64 q1.k), .int .u64 (n64 q1.l), .slice q1.a q1.rs.length q1.c, .bool t1] 52)).alloc (.cells #[.int .i64 e2, .bool p2.u, .int .u64 (n64 p2.k), .int .u64 (n64 p2.l), .slice p2.a p2.rs.length p2.c, .bool q2.u, .int .u64 (n64 q2.k), .int .u64 (n64 q2.l), .slice q2.a q2.rs.length q2.c, .bool t2] 52)) _
  generalize (w.alloc (.cells #[.int .i64 e1, .bool p1.u, .int .u64 (n64 p1.k), .int .u64 (n64 p1.l), .slice p1.a p1.rs.length p1.c, .bool q1.u, .int .u64 (n64 q1.k), .int .u64 (n64 q1.l), .slice q1.a q1.rs.length q1.c, .bool t1] 52)).alloc (.cells #[.int .i64 e2, .bool p2.u, .int .u64 (n64 p2.k), .int .u64 (n64 p2.l), .slice p2.a p2.rs.length p2.c, .bool q2.u, .int .u64 (n64 q2.k), .int .u64 (n64 q2.l), .slice q2.a q2.rs.length q2.c, .bool t2] 52) = v0 at B0 KA0 KB0 ⊢
  generalize w.heap.size + 1 = g_B at KB0 n_A_B ⊢
  generalize w.heap.size = g_A at KA0 n_A_B ⊢
  refine (szKeys_any e1 p1 q1 t1 1048576 _ ⟨HP1.out.1, ((HP1.out.2.below B0.out).mono B0.out.size)⟩ ⟨HQ1.out.1, ((HQ1.out.2.below B0.out).mono B0.out.size)⟩ (by decide) (by decide)).mono ?_
  rintro e v1 ⟨hb, r, rfl, hr1, hr2⟩
  have B1 := Lib.hid (B0.out.trans (hb.mono B0.out.size))
  have KA1 := Lib.hid (KA0.out.below hb)
  have KB1 := Lib.hid (KB0.out.below hb)
  clear hb B0 KA0 KB0
  have HR := Lib.hid hr2
  clear hr2
  obtain ⟨⟨cA0, cA1, cA2, cA3, cA4, cA5, cA6, cA7, cA8, cA9⟩, dA0, dA1, dA2, dA3, dA4, dA5, dA6, dA7, dA8, dA9⟩ := KA1.out.of10
  obtain ⟨⟨cB0, cB1, cB2, cB3, cB4, cB5, cB6, cB7, cB8, cB9⟩, dB0, dB1, dB2, dB3, dB4, dB5, dB6, dB7, dB8, dB9⟩ := KB1.out.of10
  by_cases hnegr : r < 0
  · go_wp2_with fail
    go_ret
    exact ⟨rfl, B1.out⟩
  have fp1 := Lib.hid (show p1.rs.length ≤ 1048576 by have := HR.out (by omega); omega)
  have Fp1 := Lib.hid (LawM.fit HP1.out fp1.out)
  have fq1 := Lib.hid (show q1.rs.length ≤ 1048576 by have := HR.out (by omega); omega)
  have Fq1 := Lib.hid (LawM.fit HQ1.out fq1.out)
  clear HR
  go_wp2_with fail
  clear cA0 cA1 cA2 cA3 cA4 cA5 cA6 cA7 cA8 cA9 dA0 dA1 dA2 dA3 dA4 dA5 dA6 dA7 dA8 dA9 cB0 cB1 cB2 cB3 cB4 cB5 cB6 cB7 cB8 cB9 dB0 dB1 dB2 dB3 dB4 dB5 dB6 dB7 dB8 dB9
  refine (szKeys_any e2 p2 q2 t2 r _ ⟨HP2.out.1, ((HP2.out.2.below B1.out).mono B1.out.size)⟩ ⟨HQ2.out.1, ((HQ2.out.2.below B1.out).mono B1.out.size)⟩ (by omega) (by omega)).mono ?_
  rintro e v2 ⟨hb, s, rfl, hs1, hs2⟩
  have B2 := Lib.hid (B1.out.trans (hb.mono B1.out.size))
  have KA2 := Lib.hid (KA1.out.below hb)
  have KB2 := Lib.hid (KB1.out.below hb)
  clear hb B1 KA1 KB1
  have HR := Lib.hid hs2
  clear hs2
  obtain ⟨⟨cA0, cA1, cA2, cA3, cA4, cA5, cA6, cA7, cA8, cA9⟩, dA0, dA1, dA2, dA3, dA4, dA5, dA6, dA7, dA8, dA9⟩ := KA2.out.of10
  obtain ⟨⟨cB0, cB1, cB2, cB3, cB4, cB5, cB6, cB7, cB8, cB9⟩, dB0, dB1, dB2, dB3, dB4, dB5, dB6, dB7, dB8, dB9⟩ := KB2.out.of10
  by_cases hnegs : s < 0
  · go_wp2_with fail
    go_ret
    exact ⟨rfl, B2.out⟩
  have fp2 := Lib.hid (show p2.rs.length ≤ 1048576 by have := HR.out (by omega); omega)
  have Fp2 := Lib.hid (LawM.fit HP2.out fp2.out)
  have fq2 := Lib.hid (show q2.rs.length ≤ 1048576 by have := HR.out (by omega); omega)
  have Fq2 := Lib.hid (LawM.fit HQ2.out fq2.out)
  clear HR
  go_wp2_with fail
  clear cA0 cA1 cA2 cA3 cA4 cA5 cA6 cA7 cA8 cA9 dA0 dA1 dA2 dA3 dA4 dA5 dA6 dA7 dA8 dA9 cB0 cB1 cB2 cB3 cB4 cB5 cB6 cB7 cB8 cB9 dB0 dB1 dB2 dB3 dB4 dB5 dB6 dB7 dB8 dB9
  clear hr1 hs1 hnegr hnegs
  obtain ⟨⟨cA0, cA1, cA2, cA3, cA4, cA5, cA6, cA7, cA8, cA9⟩, dA0, dA1, dA2, dA3, dA4, dA5, dA6, dA7, dA8, dA9⟩ := KA2.out.of10
  obtain ⟨⟨cB0, cB1, cB2, cB3, cB4, cB5, cB6, cB7, cB8, cB9⟩, dB0, dB1, dB2, dB3, dB4, dB5, dB6, dB7, dB8, dB9⟩ := KB2.out.of10
  have P2_0 : True := trivial
  have P2_1 : True := trivial
  have P2_2 : True := trivial
  go_region_held3 (fun w' => (w'.cell? ⟨g_A, 0, none⟩ = some (.int .i64 e1) ∧ w'.cell? ⟨g_A, 1, none⟩ = some (.bool p1.u) ∧ w'.cell? ⟨g_A, 2, none⟩ = some (.int .u64 (n64 p1.k)) ∧ w'.cell? ⟨g_A, 3, none⟩ = some (.int .u64 (n64 p1.l)) ∧ w'.cell? ⟨g_A, 4, none⟩ = some (.slice p1.a p1.rs.length p1.c) ∧ w'.cell? ⟨g_A, 5, none⟩ = some (.bool q1.u) ∧ w'.cell? ⟨g_A, 6, none⟩ = some (.int .u64 (n64 q1.k)) ∧ w'.cell? ⟨g_A, 7, none⟩ = some (.int .u64 (n64 q1.l)) ∧ w'.cell? ⟨g_A, 8, none⟩ = some (.slice q1.a q1.rs.length q1.c) ∧ w'.cell? ⟨g_A, 9, none⟩ = some (.bool t1)) ∧ (w'.cell? ⟨g_B, 0, none⟩ = some (.int .i64 e2) ∧ w'.cell? ⟨g_B, 1, none⟩ = some (.bool p2.u) ∧ w'.cell? ⟨g_B, 2, none⟩ = some (.int .u64 (n64 p2.k)) ∧ w'.cell? ⟨g_B, 3, none⟩ = some (.int .u64 (n64 p2.l)) ∧ w'.cell? ⟨g_B, 4, none⟩ = some (.slice p2.a p2.rs.length p2.c) ∧ w'.cell? ⟨g_B, 5, none⟩ = some (.bool q2.u) ∧ w'.cell? ⟨g_B, 6, none⟩ = some (.int .u64 (n64 q2.k)) ∧ w'.cell? ⟨g_B, 7, none⟩ = some (.int .u64 (n64 q2.l)) ∧ w'.cell? ⟨g_B, 8, none⟩ = some (.slice q2.a q2.rs.length q2.c) ∧ w'.cell? ⟨g_B, 9, none⟩ = some (.bool t2)))
    (first | go_keep | (exact ⟨KA3.out.of10.1, KB3.out.of10.1⟩) | (exact ⟨KA4.out.of10.1, KB4.out.of10.1⟩) | (exact ⟨KA5.out.of10.1, KB5.out.of10.1⟩))
    (first | (have q := P2_0; go_at_call 27; clear q P2_0; refine (toKeys_any e1 p1 q1 t1 _ ((HP1.out.2.below B2.out.drew).mono B2.out.drew.size) ((HQ1.out.2.below B2.out.drew).mono B2.out.drew.size) fp1.out fq1.out).mono ?_; rintro e v3 ⟨g_s1, g_s2, n_s1_s2, rfl, ho_s1, ho_s2, hb⟩; replace hb := (Below.refl _ v2).drew.trans hb; replace ho_s2 := own_down ho_s2 (show v2.heap.size ≤ v2.drew.heap.size from Nat.le_refl _); replace ho_s1 := own_down ho_s1 (show v2.heap.size ≤ v2.drew.heap.size from Nat.le_refl _); have n_A_s1 : g_A ≠ g_s1 := (by have h1 := KA2.out.lt; have h2 := (ho_s1.lt g_s1 rfl).1; omega); have n_B_s1 : g_B ≠ g_s1 := (by have h1 := KB2.out.lt; have h2 := (ho_s1.lt g_s1 rfl).1; omega); have l_s1 : w.heap.size ≤ g_s1 := Nat.le_trans B2.out.size (ho_s1.lt g_s1 rfl).1; have n_A_s2 : g_A ≠ g_s2 := (by have h1 := KA2.out.lt; have h2 := (ho_s2.lt g_s2 rfl).1; omega); have n_B_s2 : g_B ≠ g_s2 := (by have h1 := KB2.out.lt; have h2 := (ho_s2.lt g_s2 rfl).1; omega); have l_s2 : w.heap.size ≤ g_s2 := Nat.le_trans B2.out.size (ho_s2.lt g_s2 rfl).1; have B3 := Lib.hid (B2.out.trans (hb.mono B2.out.size)); have KA3 := Lib.hid (KA2.out.below hb); have KB3 := Lib.hid (KB2.out.below hb); have Os13 := Lib.hid (own_down ho_s1 (Nat.zero_le _)); have Os23 := Lib.hid (own_down ho_s2 (Nat.zero_le _)); clear hb B2 KA2 KB2 ho_s1 ho_s2) | (have q := P2_1; go_at_call 27; clear q P2_1; refine (toKeys_any e2 p2 q2 t2 _ ((HP2.out.2.below B3.out).mono B3.out.size) ((HQ2.out.2.below B3.out).mono B3.out.size) fp2.out fq2.out).mono ?_; rintro e v4 ⟨g_u1, g_u2, n_u1_u2, rfl, ho_u1, ho_u2, hb⟩; have n_A_u1 : g_A ≠ g_u1 := (by have h1 := KA3.out.lt; have h2 := (ho_u1.lt g_u1 rfl).1; omega); have n_B_u1 : g_B ≠ g_u1 := (by have h1 := KB3.out.lt; have h2 := (ho_u1.lt g_u1 rfl).1; omega); have n_s1_u1 : g_s1 ≠ g_u1 := (by have h1 := (Os13.out.lt g_s1 rfl).2; have h2 := (ho_u1.lt g_u1 rfl).1; omega); have n_s2_u1 : g_s2 ≠ g_u1 := (by have h1 := (Os23.out.lt g_s2 rfl).2; have h2 := (ho_u1.lt g_u1 rfl).1; omega); have l_u1 : w.heap.size ≤ g_u1 := Nat.le_trans B3.out.size (ho_u1.lt g_u1 rfl).1; have n_A_u2 : g_A ≠ g_u2 := (by have h1 := KA3.out.lt; have h2 := (ho_u2.lt g_u2 rfl).1; omega); have n_B_u2 : g_B ≠ g_u2 := (by have h1 := KB3.out.lt; have h2 := (ho_u2.lt g_u2 rfl).1; omega); have n_s1_u2 : g_s1 ≠ g_u2 := (by have h1 := (Os13.out.lt g_s1 rfl).2; have h2 := (ho_u2.lt g_u2 rfl).1; omega); have n_s2_u2 : g_s2 ≠ g_u2 := (by have h1 := (Os23.out.lt g_s2 rfl).2; have h2 := (ho_u2.lt g_u2 rfl).1; omega); have l_u2 : w.heap.size ≤ g_u2 := Nat.le_trans B3.out.size (ho_u2.lt g_u2 rfl).1; have B4 := Lib.hid (B3.out.trans (hb.mono B3.out.size)); have KA4 := Lib.hid (KA3.out.below hb); have KB4 := Lib.hid (KB3.out.below hb); have Os14 := Lib.hid (Os13.out.kept (below_any (row := none) hb) (.inr (by simp [Value.ownBlock]))); have Os24 := Lib.hid (Os23.out.kept (below_any (row := none) hb) (.inr (by simp [Value.ownBlock]))); have Ou14 := Lib.hid (own_down ho_u1 (Nat.zero_le _)); have Ou24 := Lib.hid (own_down ho_u2 (Nat.zero_le _)); clear hb B3 KA3 KB3 Os13 Os23 ho_u1 ho_u2) | (have q := P2_2; go_at_call 23; clear q P2_2; refine (sameKeysS_at e1 p1 q1 t1 e2 p2 q2 t2 (some ⟨g_s1, 0, none⟩) (some ⟨g_s2, 0, none⟩) (some ⟨g_u1, 0, none⟩) (some ⟨g_u2, 0, none⟩) p1.rs.length q1.rs.length p2.rs.length q2.rs.length _ (M.on_at Os14.out) (M.on_at Os24.out) (M.on_at Ou14.out) (M.on_at Ou24.out) Fp1.out Fq1.out).mono ?_; rintro e v5 ⟨rfl, hb⟩; have B5 := Lib.hid (B4.out.trans (hb.mono B4.out.size)); have KA5 := Lib.hid (KA4.out.below hb); have KB5 := Lib.hid (KB4.out.below hb); have Os15 := Lib.hid (Os14.out.kept (below_any (row := none) hb) (.inr (by simp [Value.ownBlock]))); have Os25 := Lib.hid (Os24.out.kept (below_any (row := none) hb) (.inr (by simp [Value.ownBlock]))); have Ou15 := Lib.hid (Ou14.out.kept (below_any (row := none) hb) (.inr (by simp [Value.ownBlock]))); have Ou25 := Lib.hid (Ou24.out.kept (below_any (row := none) hb) (.inr (by simp [Value.ownBlock]))); clear hb B4 KA4 KB4 Os14 Os24 Ou14 Ou24))
  try clear cA0 cA1 cA2 cA3 cA4 cA5 cA6 cA7 cA8 cA9 dA0 dA1 dA2 dA3 dA4 dA5 dA6 dA7 dA8 dA9 cB0 cB1 cB2 cB3 cB4 cB5 cB6 cB7 cB8 cB9 dB0 dB1 dB2 dB3 dB4 dB5 dB6 dB7 dB8 dB9
  obtain ⟨⟨cA0, cA1, cA2, cA3, cA4, cA5, cA6, cA7, cA8, cA9⟩, dA0, dA1, dA2, dA3, dA4, dA5, dA6, dA7, dA8, dA9⟩ := KA5.out.of10
  obtain ⟨⟨cB0, cB1, cB2, cB3, cB4, cB5, cB6, cB7, cB8, cB9⟩, dB0, dB1, dB2, dB3, dB4, dB5, dB6, dB7, dB8, dB9⟩ := KB5.out.of10
  go_wp2_with fail
  clear cA0 cA1 cA2 cA3 cA4 cA5 cA6 cA7 cA8 cA9 dA0 dA1 dA2 dA3 dA4 dA5 dA6 dA7 dA8 dA9 cB0 cB1 cB2 cB3 cB4 cB5 cB6 cB7 cB8 cB9 dB0 dB1 dB2 dB3 dB4 dB5 dB6 dB7 dB8 dB9
  refine (toKeys_any e1 p1 q1 t1 _ ((HP1.out.2.below B5.out).mono B5.out.size) ((HQ1.out.2.below B5.out).mono B5.out.size) fp1.out fq1.out).mono ?_
  rintro e v6 ⟨g_x1, g_x2, n_x1_x2, rfl, ho_x1, ho_x2, hb⟩
  have n_A_x1 : g_A ≠ g_x1 := by have h1 := KA5.out.lt; have h2 := (ho_x1.lt g_x1 rfl).1; omega
  have n_B_x1 : g_B ≠ g_x1 := by have h1 := KB5.out.lt; have h2 := (ho_x1.lt g_x1 rfl).1; omega
  have n_s1_x1 : g_s1 ≠ g_x1 := by have h1 := (Os15.out.lt g_s1 rfl).2; have h2 := (ho_x1.lt g_x1 rfl).1; omega
  have n_s2_x1 : g_s2 ≠ g_x1 := by have h1 := (Os25.out.lt g_s2 rfl).2; have h2 := (ho_x1.lt g_x1 rfl).1; omega
  have n_u1_x1 : g_u1 ≠ g_x1 := by have h1 := (Ou15.out.lt g_u1 rfl).2; have h2 := (ho_x1.lt g_x1 rfl).1; omega
  have n_u2_x1 : g_u2 ≠ g_x1 := by have h1 := (Ou25.out.lt g_u2 rfl).2; have h2 := (ho_x1.lt g_x1 rfl).1; omega
  have l_x1 : w.heap.size ≤ g_x1 := Nat.le_trans B5.out.size (ho_x1.lt g_x1 rfl).1
  have n_A_x2 : g_A ≠ g_x2 := by have h1 := KA5.out.lt; have h2 := (ho_x2.lt g_x2 rfl).1; omega
  have n_B_x2 : g_B ≠ g_x2 := by have h1 := KB5.out.lt; have h2 := (ho_x2.lt g_x2 rfl).1; omega
  have n_s1_x2 : g_s1 ≠ g_x2 := by have h1 := (Os15.out.lt g_s1 rfl).2; have h2 := (ho_x2.lt g_x2 rfl).1; omega
  have n_s2_x2 : g_s2 ≠ g_x2 := by have h1 := (Os25.out.lt g_s2 rfl).2; have h2 := (ho_x2.lt g_x2 rfl).1; omega
  have n_u1_x2 : g_u1 ≠ g_x2 := by have h1 := (Ou15.out.lt g_u1 rfl).2; have h2 := (ho_x2.lt g_x2 rfl).1; omega
  have n_u2_x2 : g_u2 ≠ g_x2 := by have h1 := (Ou25.out.lt g_u2 rfl).2; have h2 := (ho_x2.lt g_x2 rfl).1; omega
  have l_x2 : w.heap.size ≤ g_x2 := Nat.le_trans B5.out.size (ho_x2.lt g_x2 rfl).1
  have B6 := Lib.hid (B5.out.trans (hb.mono B5.out.size))
  have KA6 := Lib.hid (KA5.out.below hb)
  have KB6 := Lib.hid (KB5.out.below hb)
  have Os16 := Lib.hid (Os15.out.kept (below_any (row := none) hb) (.inr (by simp [Value.ownBlock])))
  have Os26 := Lib.hid (Os25.out.kept (below_any (row := none) hb) (.inr (by simp [Value.ownBlock])))
  have Ou16 := Lib.hid (Ou15.out.kept (below_any (row := none) hb) (.inr (by simp [Value.ownBlock])))
  have Ou26 := Lib.hid (Ou25.out.kept (below_any (row := none) hb) (.inr (by simp [Value.ownBlock])))
  have Ox16 := Lib.hid (own_down ho_x1 (Nat.zero_le _))
  have Ox26 := Lib.hid (own_down ho_x2 (Nat.zero_le _))
  clear hb B5 KA5 KB5 Os15 Os25 Ou15 Ou25 ho_x1 ho_x2
  have KXn := Lib.hid (Blk.new v6 [.int .i64 e1, .bool p1.u, .int .u64 (n64 p1.k), .int .u64 (n64 p1.l), .slice (some ⟨g_x1, 0, none⟩) p1.rs.length p1.rs.length, .bool q1.u, .int .u64 (n64 q1.k), .int .u64 (n64 q1.l), .slice (some ⟨g_x2, 0, none⟩) q1.rs.length q1.rs.length, .bool t1] 29)
  have n_A_X : g_A ≠ v6.heap.size := by have h1 := KA6.out.lt; omega
  have n_B_X : g_B ≠ v6.heap.size := by have h1 := KB6.out.lt; omega
  have n_s1_X : g_s1 ≠ v6.heap.size := by have h1 := (Os16.out.lt g_s1 rfl).2; omega
  have n_s2_X : g_s2 ≠ v6.heap.size := by have h1 := (Os26.out.lt g_s2 rfl).2; omega
  have n_u1_X : g_u1 ≠ v6.heap.size := by have h1 := (Ou16.out.lt g_u1 rfl).2; omega
  have n_u2_X : g_u2 ≠ v6.heap.size := by have h1 := (Ou26.out.lt g_u2 rfl).2; omega
  have n_x1_X : g_x1 ≠ v6.heap.size := by have h1 := (Ox16.out.lt g_x1 rfl).2; omega
  have n_x2_X : g_x2 ≠ v6.heap.size := by have h1 := (Ox26.out.lt g_x2 rfl).2; omega
  have Bn := Lib.hid (B6.out.alloc B6.out.size (.cells #[.int .i64 e1, .bool p1.u, .int .u64 (n64 p1.k), .int .u64 (n64 p1.l), .slice (some ⟨g_x1, 0, none⟩) p1.rs.length p1.rs.length, .bool q1.u, .int .u64 (n64 q1.k), .int .u64 (n64 q1.l), .slice (some ⟨g_x2, 0, none⟩) q1.rs.length q1.rs.length, .bool t1] 29))
  have KAn := Lib.hid (KA6.out.alloc (.cells #[.int .i64 e1, .bool p1.u, .int .u64 (n64 p1.k), .int .u64 (n64 p1.l), .slice (some ⟨g_x1, 0, none⟩) p1.rs.length p1.rs.length, .bool q1.u, .int .u64 (n64 q1.k), .int .u64 (n64 q1.l), .slice (some ⟨g_x2, 0, none⟩) q1.rs.length q1.rs.length, .bool t1] 29))
  have KBn := Lib.hid (KB6.out.alloc (.cells #[.int .i64 e1, .bool p1.u, .int .u64 (n64 p1.k), .int .u64 (n64 p1.l), .slice (some ⟨g_x1, 0, none⟩) p1.rs.length p1.rs.length, .bool q1.u, .int .u64 (n64 q1.k), .int .u64 (n64 q1.l), .slice (some ⟨g_x2, 0, none⟩) q1.rs.length q1.rs.length, .bool t1] 29))
  have Os1n := Lib.hid (Os16.out.alloc (.cells #[.int .i64 e1, .bool p1.u, .int .u64 (n64 p1.k), .int .u64 (n64 p1.l), .slice (some ⟨g_x1, 0, none⟩) p1.rs.length p1.rs.length, .bool q1.u, .int .u64 (n64 q1.k), .int .u64 (n64 q1.l), .slice (some ⟨g_x2, 0, none⟩) q1.rs.length q1.rs.length, .bool t1] 29))
  have Os2n := Lib.hid (Os26.out.alloc (.cells #[.int .i64 e1, .bool p1.u, .int .u64 (n64 p1.k), .int .u64 (n64 p1.l), .slice (some ⟨g_x1, 0, none⟩) p1.rs.length p1.rs.length, .bool q1.u, .int .u64 (n64 q1.k), .int .u64 (n64 q1.l), .slice (some ⟨g_x2, 0, none⟩) q1.rs.length q1.rs.length, .bool t1] 29))
  have Ou1n := Lib.hid (Ou16.out.alloc (.cells #[.int .i64 e1, .bool p1.u, .int .u64 (n64 p1.k), .int .u64 (n64 p1.l), .slice (some ⟨g_x1, 0, none⟩) p1.rs.length p1.rs.length, .bool q1.u, .int .u64 (n64 q1.k), .int .u64 (n64 q1.l), .slice (some ⟨g_x2, 0, none⟩) q1.rs.length q1.rs.length, .bool t1] 29))
  have Ou2n := Lib.hid (Ou26.out.alloc (.cells #[.int .i64 e1, .bool p1.u, .int .u64 (n64 p1.k), .int .u64 (n64 p1.l), .slice (some ⟨g_x1, 0, none⟩) p1.rs.length p1.rs.length, .bool q1.u, .int .u64 (n64 q1.k), .int .u64 (n64 q1.l), .slice (some ⟨g_x2, 0, none⟩) q1.rs.length q1.rs.length, .bool t1] 29))
  have Ox1n := Lib.hid (Ox16.out.alloc (.cells #[.int .i64 e1, .bool p1.u, .int .u64 (n64 p1.k), .int .u64 (n64 p1.l), .slice (some ⟨g_x1, 0, none⟩) p1.rs.length p1.rs.length, .bool q1.u, .int .u64 (n64 q1.k), .int .u64 (n64 q1.l), .slice (some ⟨g_x2, 0, none⟩) q1.rs.length q1.rs.length, .bool t1] 29))
  have Ox2n := Lib.hid (Ox26.out.alloc (.cells #[.int .i64 e1, .bool p1.u, .int .u64 (n64 p1.k), .int .u64 (n64 p1.l), .slice (some ⟨g_x1, 0, none⟩) p1.rs.length p1.rs.length, .bool q1.u, .int .u64 (n64 q1.k), .int .u64 (n64 q1.l), .slice (some ⟨g_x2, 0, none⟩) q1.rs.length q1.rs.length, .bool t1] 29))
  clear B6 KA6 KB6 Os16 Os26 Ou16 Ou26 Ox16 Ox26
  obtain ⟨⟨cA0, cA1, cA2, cA3, cA4, cA5, cA6, cA7, cA8, cA9⟩, dA0, dA1, dA2, dA3, dA4, dA5, dA6, dA7, dA8, dA9⟩ := KAn.out.of10
  obtain ⟨⟨cB0, cB1, cB2, cB3, cB4, cB5, cB6, cB7, cB8, cB9⟩, dB0, dB1, dB2, dB3, dB4, dB5, dB6, dB7, dB8, dB9⟩ := KBn.out.of10
  go_wp2_with fail
  clear cA0 cA1 cA2 cA3 cA4 cA5 cA6 cA7 cA8 cA9 dA0 dA1 dA2 dA3 dA4 dA5 dA6 dA7 dA8 dA9 cB0 cB1 cB2 cB3 cB4 cB5 cB6 cB7 cB8 cB9 dB0 dB1 dB2 dB3 dB4 dB5 dB6 dB7 dB8 dB9
  change Calls _ _ _ (v6.alloc (.cells #[.int .i64 e1, .bool p1.u, .int .u64 (n64 p1.k), .int .u64 (n64 p1.l), .slice (some ⟨g_x1, 0, none⟩) p1.rs.length p1.rs.length, .bool q1.u, .int .u64 (n64 q1.k), .int .u64 (n64 q1.l), .slice (some ⟨g_x2, 0, none⟩) q1.rs.length q1.rs.length, .bool t1] 29)) _
  generalize v6.alloc (.cells #[.int .i64 e1, .bool p1.u, .int .u64 (n64 p1.k), .int .u64 (n64 p1.l), .slice (some ⟨g_x1, 0, none⟩) p1.rs.length p1.rs.length, .bool q1.u, .int .u64 (n64 q1.k), .int .u64 (n64 q1.l), .slice (some ⟨g_x2, 0, none⟩) q1.rs.length q1.rs.length, .bool t1] 29) = v7 at KXn Bn KAn KBn Os1n Os2n Ou1n Ou2n Ox1n Ox2n ⊢
  generalize v6.heap.size = g_X at KXn n_A_X n_B_X n_s1_X n_s2_X n_u1_X n_u2_X n_x1_X n_x2_X ⊢
  clear v6
  have KA7 := KAn
  clear KAn
  have KB7 := KBn
  clear KBn
  have KX7 := KXn
  clear KXn
  have Os17 := Os1n
  clear Os1n
  have Os27 := Os2n
  clear Os2n
  have Ou17 := Ou1n
  clear Ou1n
  have Ou27 := Ou2n
  clear Ou2n
  have Ox17 := Ox1n
  clear Ox1n
  have Ox27 := Ox2n
  clear Ox2n
  have B7 := Bn
  clear Bn
  refine (toKeys_any e2 p2 q2 t2 _ ((HP2.out.2.below B7.out).mono B7.out.size) ((HQ2.out.2.below B7.out).mono B7.out.size) fp2.out fq2.out).mono ?_
  rintro e v8 ⟨g_y1, g_y2, n_y1_y2, rfl, ho_y1, ho_y2, hb⟩
  have n_A_y1 : g_A ≠ g_y1 := by have h1 := KA7.out.lt; have h2 := (ho_y1.lt g_y1 rfl).1; omega
  have n_B_y1 : g_B ≠ g_y1 := by have h1 := KB7.out.lt; have h2 := (ho_y1.lt g_y1 rfl).1; omega
  have n_X_y1 : g_X ≠ g_y1 := by have h1 := KX7.out.lt; have h2 := (ho_y1.lt g_y1 rfl).1; omega
  have n_s1_y1 : g_s1 ≠ g_y1 := by have h1 := (Os17.out.lt g_s1 rfl).2; have h2 := (ho_y1.lt g_y1 rfl).1; omega
  have n_s2_y1 : g_s2 ≠ g_y1 := by have h1 := (Os27.out.lt g_s2 rfl).2; have h2 := (ho_y1.lt g_y1 rfl).1; omega
  have n_u1_y1 : g_u1 ≠ g_y1 := by have h1 := (Ou17.out.lt g_u1 rfl).2; have h2 := (ho_y1.lt g_y1 rfl).1; omega
  have n_u2_y1 : g_u2 ≠ g_y1 := by have h1 := (Ou27.out.lt g_u2 rfl).2; have h2 := (ho_y1.lt g_y1 rfl).1; omega
  have n_x1_y1 : g_x1 ≠ g_y1 := by have h1 := (Ox17.out.lt g_x1 rfl).2; have h2 := (ho_y1.lt g_y1 rfl).1; omega
  have n_x2_y1 : g_x2 ≠ g_y1 := by have h1 := (Ox27.out.lt g_x2 rfl).2; have h2 := (ho_y1.lt g_y1 rfl).1; omega
  have l_y1 : w.heap.size ≤ g_y1 := Nat.le_trans B7.out.size (ho_y1.lt g_y1 rfl).1
  have n_A_y2 : g_A ≠ g_y2 := by have h1 := KA7.out.lt; have h2 := (ho_y2.lt g_y2 rfl).1; omega
  have n_B_y2 : g_B ≠ g_y2 := by have h1 := KB7.out.lt; have h2 := (ho_y2.lt g_y2 rfl).1; omega
  have n_X_y2 : g_X ≠ g_y2 := by have h1 := KX7.out.lt; have h2 := (ho_y2.lt g_y2 rfl).1; omega
  have n_s1_y2 : g_s1 ≠ g_y2 := by have h1 := (Os17.out.lt g_s1 rfl).2; have h2 := (ho_y2.lt g_y2 rfl).1; omega
  have n_s2_y2 : g_s2 ≠ g_y2 := by have h1 := (Os27.out.lt g_s2 rfl).2; have h2 := (ho_y2.lt g_y2 rfl).1; omega
  have n_u1_y2 : g_u1 ≠ g_y2 := by have h1 := (Ou17.out.lt g_u1 rfl).2; have h2 := (ho_y2.lt g_y2 rfl).1; omega
  have n_u2_y2 : g_u2 ≠ g_y2 := by have h1 := (Ou27.out.lt g_u2 rfl).2; have h2 := (ho_y2.lt g_y2 rfl).1; omega
  have n_x1_y2 : g_x1 ≠ g_y2 := by have h1 := (Ox17.out.lt g_x1 rfl).2; have h2 := (ho_y2.lt g_y2 rfl).1; omega
  have n_x2_y2 : g_x2 ≠ g_y2 := by have h1 := (Ox27.out.lt g_x2 rfl).2; have h2 := (ho_y2.lt g_y2 rfl).1; omega
  have l_y2 : w.heap.size ≤ g_y2 := Nat.le_trans B7.out.size (ho_y2.lt g_y2 rfl).1
  have B8 := Lib.hid (B7.out.trans (hb.mono B7.out.size))
  have KA8 := Lib.hid (KA7.out.below hb)
  have KB8 := Lib.hid (KB7.out.below hb)
  have KX8 := Lib.hid (KX7.out.below hb)
  have Os18 := Lib.hid (Os17.out.kept (below_any (row := none) hb) (.inr (by simp [Value.ownBlock])))
  have Os28 := Lib.hid (Os27.out.kept (below_any (row := none) hb) (.inr (by simp [Value.ownBlock])))
  have Ou18 := Lib.hid (Ou17.out.kept (below_any (row := none) hb) (.inr (by simp [Value.ownBlock])))
  have Ou28 := Lib.hid (Ou27.out.kept (below_any (row := none) hb) (.inr (by simp [Value.ownBlock])))
  have Ox18 := Lib.hid (Ox17.out.kept (below_any (row := none) hb) (.inr (by simp [Value.ownBlock])))
  have Ox28 := Lib.hid (Ox27.out.kept (below_any (row := none) hb) (.inr (by simp [Value.ownBlock])))
  have Oy18 := Lib.hid (own_down ho_y1 (Nat.zero_le _))
  have Oy28 := Lib.hid (own_down ho_y2 (Nat.zero_le _))
  clear hb B7 KA7 KB7 KX7 Os17 Os27 Ou17 Ou27 Ox17 Ox27 ho_y1 ho_y2
  have KYn := Lib.hid (Blk.new v8 [.int .i64 e2, .bool p2.u, .int .u64 (n64 p2.k), .int .u64 (n64 p2.l), .slice (some ⟨g_y1, 0, none⟩) p2.rs.length p2.rs.length, .bool q2.u, .int .u64 (n64 q2.k), .int .u64 (n64 q2.l), .slice (some ⟨g_y2, 0, none⟩) q2.rs.length q2.rs.length, .bool t2] 29)
  have n_A_Y : g_A ≠ v8.heap.size := by have h1 := KA8.out.lt; omega
  have n_B_Y : g_B ≠ v8.heap.size := by have h1 := KB8.out.lt; omega
  have n_X_Y : g_X ≠ v8.heap.size := by have h1 := KX8.out.lt; omega
  have n_s1_Y : g_s1 ≠ v8.heap.size := by have h1 := (Os18.out.lt g_s1 rfl).2; omega
  have n_s2_Y : g_s2 ≠ v8.heap.size := by have h1 := (Os28.out.lt g_s2 rfl).2; omega
  have n_u1_Y : g_u1 ≠ v8.heap.size := by have h1 := (Ou18.out.lt g_u1 rfl).2; omega
  have n_u2_Y : g_u2 ≠ v8.heap.size := by have h1 := (Ou28.out.lt g_u2 rfl).2; omega
  have n_x1_Y : g_x1 ≠ v8.heap.size := by have h1 := (Ox18.out.lt g_x1 rfl).2; omega
  have n_x2_Y : g_x2 ≠ v8.heap.size := by have h1 := (Ox28.out.lt g_x2 rfl).2; omega
  have n_y1_Y : g_y1 ≠ v8.heap.size := by have h1 := (Oy18.out.lt g_y1 rfl).2; omega
  have n_y2_Y : g_y2 ≠ v8.heap.size := by have h1 := (Oy28.out.lt g_y2 rfl).2; omega
  have Bn := Lib.hid (B8.out.alloc B8.out.size (.cells #[.int .i64 e2, .bool p2.u, .int .u64 (n64 p2.k), .int .u64 (n64 p2.l), .slice (some ⟨g_y1, 0, none⟩) p2.rs.length p2.rs.length, .bool q2.u, .int .u64 (n64 q2.k), .int .u64 (n64 q2.l), .slice (some ⟨g_y2, 0, none⟩) q2.rs.length q2.rs.length, .bool t2] 29))
  have KAn := Lib.hid (KA8.out.alloc (.cells #[.int .i64 e2, .bool p2.u, .int .u64 (n64 p2.k), .int .u64 (n64 p2.l), .slice (some ⟨g_y1, 0, none⟩) p2.rs.length p2.rs.length, .bool q2.u, .int .u64 (n64 q2.k), .int .u64 (n64 q2.l), .slice (some ⟨g_y2, 0, none⟩) q2.rs.length q2.rs.length, .bool t2] 29))
  have KBn := Lib.hid (KB8.out.alloc (.cells #[.int .i64 e2, .bool p2.u, .int .u64 (n64 p2.k), .int .u64 (n64 p2.l), .slice (some ⟨g_y1, 0, none⟩) p2.rs.length p2.rs.length, .bool q2.u, .int .u64 (n64 q2.k), .int .u64 (n64 q2.l), .slice (some ⟨g_y2, 0, none⟩) q2.rs.length q2.rs.length, .bool t2] 29))
  have KXn := Lib.hid (KX8.out.alloc (.cells #[.int .i64 e2, .bool p2.u, .int .u64 (n64 p2.k), .int .u64 (n64 p2.l), .slice (some ⟨g_y1, 0, none⟩) p2.rs.length p2.rs.length, .bool q2.u, .int .u64 (n64 q2.k), .int .u64 (n64 q2.l), .slice (some ⟨g_y2, 0, none⟩) q2.rs.length q2.rs.length, .bool t2] 29))
  have Os1n := Lib.hid (Os18.out.alloc (.cells #[.int .i64 e2, .bool p2.u, .int .u64 (n64 p2.k), .int .u64 (n64 p2.l), .slice (some ⟨g_y1, 0, none⟩) p2.rs.length p2.rs.length, .bool q2.u, .int .u64 (n64 q2.k), .int .u64 (n64 q2.l), .slice (some ⟨g_y2, 0, none⟩) q2.rs.length q2.rs.length, .bool t2] 29))
  have Os2n := Lib.hid (Os28.out.alloc (.cells #[.int .i64 e2, .bool p2.u, .int .u64 (n64 p2.k), .int .u64 (n64 p2.l), .slice (some ⟨g_y1, 0, none⟩) p2.rs.length p2.rs.length, .bool q2.u, .int .u64 (n64 q2.k), .int .u64 (n64 q2.l), .slice (some ⟨g_y2, 0, none⟩) q2.rs.length q2.rs.length, .bool t2] 29))
  have Ou1n := Lib.hid (Ou18.out.alloc (.cells #[.int .i64 e2, .bool p2.u, .int .u64 (n64 p2.k), .int .u64 (n64 p2.l), .slice (some ⟨g_y1, 0, none⟩) p2.rs.length p2.rs.length, .bool q2.u, .int .u64 (n64 q2.k), .int .u64 (n64 q2.l), .slice (some ⟨g_y2, 0, none⟩) q2.rs.length q2.rs.length, .bool t2] 29))
  have Ou2n := Lib.hid (Ou28.out.alloc (.cells #[.int .i64 e2, .bool p2.u, .int .u64 (n64 p2.k), .int .u64 (n64 p2.l), .slice (some ⟨g_y1, 0, none⟩) p2.rs.length p2.rs.length, .bool q2.u, .int .u64 (n64 q2.k), .int .u64 (n64 q2.l), .slice (some ⟨g_y2, 0, none⟩) q2.rs.length q2.rs.length, .bool t2] 29))
  have Ox1n := Lib.hid (Ox18.out.alloc (.cells #[.int .i64 e2, .bool p2.u, .int .u64 (n64 p2.k), .int .u64 (n64 p2.l), .slice (some ⟨g_y1, 0, none⟩) p2.rs.length p2.rs.length, .bool q2.u, .int .u64 (n64 q2.k), .int .u64 (n64 q2.l), .slice (some ⟨g_y2, 0, none⟩) q2.rs.length q2.rs.length, .bool t2] 29))
  have Ox2n := Lib.hid (Ox28.out.alloc (.cells #[.int .i64 e2, .bool p2.u, .int .u64 (n64 p2.k), .int .u64 (n64 p2.l), .slice (some ⟨g_y1, 0, none⟩) p2.rs.length p2.rs.length, .bool q2.u, .int .u64 (n64 q2.k), .int .u64 (n64 q2.l), .slice (some ⟨g_y2, 0, none⟩) q2.rs.length q2.rs.length, .bool t2] 29))
  have Oy1n := Lib.hid (Oy18.out.alloc (.cells #[.int .i64 e2, .bool p2.u, .int .u64 (n64 p2.k), .int .u64 (n64 p2.l), .slice (some ⟨g_y1, 0, none⟩) p2.rs.length p2.rs.length, .bool q2.u, .int .u64 (n64 q2.k), .int .u64 (n64 q2.l), .slice (some ⟨g_y2, 0, none⟩) q2.rs.length q2.rs.length, .bool t2] 29))
  have Oy2n := Lib.hid (Oy28.out.alloc (.cells #[.int .i64 e2, .bool p2.u, .int .u64 (n64 p2.k), .int .u64 (n64 p2.l), .slice (some ⟨g_y1, 0, none⟩) p2.rs.length p2.rs.length, .bool q2.u, .int .u64 (n64 q2.k), .int .u64 (n64 q2.l), .slice (some ⟨g_y2, 0, none⟩) q2.rs.length q2.rs.length, .bool t2] 29))
  clear B8 KA8 KB8 KX8 Os18 Os28 Ou18 Ou28 Ox18 Ox28 Oy18 Oy28
  obtain ⟨⟨cA0, cA1, cA2, cA3, cA4, cA5, cA6, cA7, cA8, cA9⟩, dA0, dA1, dA2, dA3, dA4, dA5, dA6, dA7, dA8, dA9⟩ := KAn.out.of10
  obtain ⟨⟨cB0, cB1, cB2, cB3, cB4, cB5, cB6, cB7, cB8, cB9⟩, dB0, dB1, dB2, dB3, dB4, dB5, dB6, dB7, dB8, dB9⟩ := KBn.out.of10
  obtain ⟨⟨cX0, cX1, cX2, cX3, cX4, cX5, cX6, cX7, cX8, cX9⟩, dX0, dX1, dX2, dX3, dX4, dX5, dX6, dX7, dX8, dX9⟩ := KXn.out.of10
  go_wp2_with fail
  clear cA0 cA1 cA2 cA3 cA4 cA5 cA6 cA7 cA8 cA9 dA0 dA1 dA2 dA3 dA4 dA5 dA6 dA7 dA8 dA9 cB0 cB1 cB2 cB3 cB4 cB5 cB6 cB7 cB8 cB9 dB0 dB1 dB2 dB3 dB4 dB5 dB6 dB7 dB8 dB9 cX0 cX1 cX2 cX3 cX4 cX5 cX6 cX7 cX8 cX9 dX0 dX1 dX2 dX3 dX4 dX5 dX6 dX7 dX8 dX9
  change Calls _ _ _ (v8.alloc (.cells #[.int .i64 e2, .bool p2.u, .int .u64 (n64 p2.k), .int .u64 (n64 p2.l), .slice (some ⟨g_y1, 0, none⟩) p2.rs.length p2.rs.length, .bool q2.u, .int .u64 (n64 q2.k), .int .u64 (n64 q2.l), .slice (some ⟨g_y2, 0, none⟩) q2.rs.length q2.rs.length, .bool t2] 29)) _
  generalize v8.alloc (.cells #[.int .i64 e2, .bool p2.u, .int .u64 (n64 p2.k), .int .u64 (n64 p2.l), .slice (some ⟨g_y1, 0, none⟩) p2.rs.length p2.rs.length, .bool q2.u, .int .u64 (n64 q2.k), .int .u64 (n64 q2.l), .slice (some ⟨g_y2, 0, none⟩) q2.rs.length q2.rs.length, .bool t2] 29) = v9 at KYn Bn KAn KBn KXn Os1n Os2n Ou1n Ou2n Ox1n Ox2n Oy1n Oy2n ⊢
  generalize v8.heap.size = g_Y at KYn n_A_Y n_B_Y n_X_Y n_s1_Y n_s2_Y n_u1_Y n_u2_Y n_x1_Y n_x2_Y n_y1_Y n_y2_Y ⊢
  clear v8
  have KA9 := KAn
  clear KAn
  have KB9 := KBn
  clear KBn
  have KX9 := KXn
  clear KXn
  have KY9 := KYn
  clear KYn
  have Os19 := Os1n
  clear Os1n
  have Os29 := Os2n
  clear Os2n
  have Ou19 := Ou1n
  clear Ou1n
  have Ou29 := Ou2n
  clear Ou2n
  have Ox19 := Ox1n
  clear Ox1n
  have Ox29 := Ox2n
  clear Ox2n
  have Oy19 := Oy1n
  clear Oy1n
  have Oy29 := Oy2n
  clear Oy2n
  have B9 := Bn
  clear Bn
  refine (sameKeysI_at e1 p1 q1 t1 e2 p2 q2 t2 (some ⟨g_x1, 0, none⟩) (some ⟨g_x2, 0, none⟩) (some ⟨g_y1, 0, none⟩) (some ⟨g_y2, 0, none⟩) p1.rs.length q1.rs.length p2.rs.length q2.rs.length _ (M.on_at Ox19.out) (M.on_at Ox29.out) (M.on_at Oy19.out) (M.on_at Oy29.out) Fp1.out Fq1.out).mono ?_
  rintro e v10 ⟨rfl, hb⟩
  have B10 := Lib.hid (B9.out.trans (hb.mono B9.out.size))
  have KA10 := Lib.hid (KA9.out.below hb)
  have KB10 := Lib.hid (KB9.out.below hb)
  have KX10 := Lib.hid (KX9.out.below hb)
  have KY10 := Lib.hid (KY9.out.below hb)
  have Os110 := Lib.hid (Os19.out.kept (below_any (row := none) hb) (.inr (by simp [Value.ownBlock])))
  have Os210 := Lib.hid (Os29.out.kept (below_any (row := none) hb) (.inr (by simp [Value.ownBlock])))
  have Ou110 := Lib.hid (Ou19.out.kept (below_any (row := none) hb) (.inr (by simp [Value.ownBlock])))
  have Ou210 := Lib.hid (Ou29.out.kept (below_any (row := none) hb) (.inr (by simp [Value.ownBlock])))
  have Ox110 := Lib.hid (Ox19.out.kept (below_any (row := none) hb) (.inr (by simp [Value.ownBlock])))
  have Ox210 := Lib.hid (Ox29.out.kept (below_any (row := none) hb) (.inr (by simp [Value.ownBlock])))
  have Oy110 := Lib.hid (Oy19.out.kept (below_any (row := none) hb) (.inr (by simp [Value.ownBlock])))
  have Oy210 := Lib.hid (Oy29.out.kept (below_any (row := none) hb) (.inr (by simp [Value.ownBlock])))
  clear hb B9 KA9 KB9 KX9 KY9 Os19 Os29 Ou19 Ou29 Ox19 Ox29 Oy19 Oy29
  obtain ⟨⟨cA0, cA1, cA2, cA3, cA4, cA5, cA6, cA7, cA8, cA9⟩, dA0, dA1, dA2, dA3, dA4, dA5, dA6, dA7, dA8, dA9⟩ := KA10.out.of10
  obtain ⟨⟨cB0, cB1, cB2, cB3, cB4, cB5, cB6, cB7, cB8, cB9⟩, dB0, dB1, dB2, dB3, dB4, dB5, dB6, dB7, dB8, dB9⟩ := KB10.out.of10
  obtain ⟨⟨cX0, cX1, cX2, cX3, cX4, cX5, cX6, cX7, cX8, cX9⟩, dX0, dX1, dX2, dX3, dX4, dX5, dX6, dX7, dX8, dX9⟩ := KX10.out.of10
  obtain ⟨⟨cY0, cY1, cY2, cY3, cY4, cY5, cY6, cY7, cY8, cY9⟩, dY0, dY1, dY2, dY3, dY4, dY5, dY6, dY7, dY8, dY9⟩ := KY10.out.of10
  go_wp2_with fail
  clear cA0 cA1 cA2 cA3 cA4 cA5 cA6 cA7 cA8 cA9 dA0 dA1 dA2 dA3 dA4 dA5 dA6 dA7 dA8 dA9 cB0 cB1 cB2 cB3 cB4 cB5 cB6 cB7 cB8 cB9 dB0 dB1 dB2 dB3 dB4 dB5 dB6 dB7 dB8 dB9 cX0 cX1 cX2 cX3 cX4 cX5 cX6 cX7 cX8 cX9 dX0 dX1 dX2 dX3 dX4 dX5 dX6 dX7 dX8 dX9 cY0 cY1 cY2 cY3 cY4 cY5 cY6 cY7 cY8 cY9 dY0 dY1 dY2 dY3 dY4 dY5 dY6 dY7 dY8 dY9
  obtain ⟨⟨cA0, cA1, cA2, cA3, cA4, cA5, cA6, cA7, cA8, cA9⟩, dA0, dA1, dA2, dA3, dA4, dA5, dA6, dA7, dA8, dA9⟩ := KA10.out.of10
  obtain ⟨⟨cX0, cX1, cX2, cX3, cX4, cX5, cX6, cX7, cX8, cX9⟩, dX0, dX1, dX2, dX3, dX4, dX5, dX6, dX7, dX8, dX9⟩ := KX10.out.of10
  have P10_0 : True := trivial
  have P10_1 : True := trivial
  go_region_held3 (fun w' => (w'.cell? ⟨g_X, 0, none⟩ = some (.int .i64 e1) ∧ w'.cell? ⟨g_X, 1, none⟩ = some (.bool p1.u) ∧ w'.cell? ⟨g_X, 2, none⟩ = some (.int .u64 (n64 p1.k)) ∧ w'.cell? ⟨g_X, 3, none⟩ = some (.int .u64 (n64 p1.l)) ∧ w'.cell? ⟨g_X, 4, none⟩ = some (.slice (some ⟨g_x1, 0, none⟩) p1.rs.length p1.rs.length) ∧ w'.cell? ⟨g_X, 5, none⟩ = some (.bool q1.u) ∧ w'.cell? ⟨g_X, 6, none⟩ = some (.int .u64 (n64 q1.k)) ∧ w'.cell? ⟨g_X, 7, none⟩ = some (.int .u64 (n64 q1.l)) ∧ w'.cell? ⟨g_X, 8, none⟩ = some (.slice (some ⟨g_x2, 0, none⟩) q1.rs.length q1.rs.length) ∧ w'.cell? ⟨g_X, 9, none⟩ = some (.bool t1)) ∧ (w'.cell? ⟨g_A, 0, none⟩ = some (.int .i64 e1) ∧ w'.cell? ⟨g_A, 1, none⟩ = some (.bool p1.u) ∧ w'.cell? ⟨g_A, 2, none⟩ = some (.int .u64 (n64 p1.k)) ∧ w'.cell? ⟨g_A, 3, none⟩ = some (.int .u64 (n64 p1.l)) ∧ w'.cell? ⟨g_A, 4, none⟩ = some (.slice p1.a p1.rs.length p1.c) ∧ w'.cell? ⟨g_A, 5, none⟩ = some (.bool q1.u) ∧ w'.cell? ⟨g_A, 6, none⟩ = some (.int .u64 (n64 q1.k)) ∧ w'.cell? ⟨g_A, 7, none⟩ = some (.int .u64 (n64 q1.l)) ∧ w'.cell? ⟨g_A, 8, none⟩ = some (.slice q1.a q1.rs.length q1.c) ∧ w'.cell? ⟨g_A, 9, none⟩ = some (.bool t1)))
    (first | go_keep | (exact ⟨KX11.out.of10.1, KA11.out.of10.1⟩) | (exact ⟨KX12.out.of10.1, KA12.out.of10.1⟩))
    (first | (have q := P10_0; go_at_call 27; clear q P10_0; refine (toKeys_any e1 p1 q1 t1 _ ((HP1.out.2.below B10.out.drew).mono B10.out.drew.size) ((HQ1.out.2.below B10.out.drew).mono B10.out.drew.size) fp1.out fq1.out).mono ?_; rintro e v11 ⟨g_z1, g_z2, n_z1_z2, rfl, ho_z1, ho_z2, hb⟩; replace hb := (Below.refl _ v10).drew.trans hb; replace ho_z2 := own_down ho_z2 (show v10.heap.size ≤ v10.drew.heap.size from Nat.le_refl _); replace ho_z1 := own_down ho_z1 (show v10.heap.size ≤ v10.drew.heap.size from Nat.le_refl _); have n_A_z1 : g_A ≠ g_z1 := (by have h1 := KA10.out.lt; have h2 := (ho_z1.lt g_z1 rfl).1; omega); have n_B_z1 : g_B ≠ g_z1 := (by have h1 := KB10.out.lt; have h2 := (ho_z1.lt g_z1 rfl).1; omega); have n_X_z1 : g_X ≠ g_z1 := (by have h1 := KX10.out.lt; have h2 := (ho_z1.lt g_z1 rfl).1; omega); have n_Y_z1 : g_Y ≠ g_z1 := (by have h1 := KY10.out.lt; have h2 := (ho_z1.lt g_z1 rfl).1; omega); have n_s1_z1 : g_s1 ≠ g_z1 := (by have h1 := (Os110.out.lt g_s1 rfl).2; have h2 := (ho_z1.lt g_z1 rfl).1; omega); have n_s2_z1 : g_s2 ≠ g_z1 := (by have h1 := (Os210.out.lt g_s2 rfl).2; have h2 := (ho_z1.lt g_z1 rfl).1; omega); have n_u1_z1 : g_u1 ≠ g_z1 := (by have h1 := (Ou110.out.lt g_u1 rfl).2; have h2 := (ho_z1.lt g_z1 rfl).1; omega); have n_u2_z1 : g_u2 ≠ g_z1 := (by have h1 := (Ou210.out.lt g_u2 rfl).2; have h2 := (ho_z1.lt g_z1 rfl).1; omega); have n_x1_z1 : g_x1 ≠ g_z1 := (by have h1 := (Ox110.out.lt g_x1 rfl).2; have h2 := (ho_z1.lt g_z1 rfl).1; omega); have n_x2_z1 : g_x2 ≠ g_z1 := (by have h1 := (Ox210.out.lt g_x2 rfl).2; have h2 := (ho_z1.lt g_z1 rfl).1; omega); have n_y1_z1 : g_y1 ≠ g_z1 := (by have h1 := (Oy110.out.lt g_y1 rfl).2; have h2 := (ho_z1.lt g_z1 rfl).1; omega); have n_y2_z1 : g_y2 ≠ g_z1 := (by have h1 := (Oy210.out.lt g_y2 rfl).2; have h2 := (ho_z1.lt g_z1 rfl).1; omega); have l_z1 : w.heap.size ≤ g_z1 := Nat.le_trans B10.out.size (ho_z1.lt g_z1 rfl).1; have n_A_z2 : g_A ≠ g_z2 := (by have h1 := KA10.out.lt; have h2 := (ho_z2.lt g_z2 rfl).1; omega); have n_B_z2 : g_B ≠ g_z2 := (by have h1 := KB10.out.lt; have h2 := (ho_z2.lt g_z2 rfl).1; omega); have n_X_z2 : g_X ≠ g_z2 := (by have h1 := KX10.out.lt; have h2 := (ho_z2.lt g_z2 rfl).1; omega); have n_Y_z2 : g_Y ≠ g_z2 := (by have h1 := KY10.out.lt; have h2 := (ho_z2.lt g_z2 rfl).1; omega); have n_s1_z2 : g_s1 ≠ g_z2 := (by have h1 := (Os110.out.lt g_s1 rfl).2; have h2 := (ho_z2.lt g_z2 rfl).1; omega); have n_s2_z2 : g_s2 ≠ g_z2 := (by have h1 := (Os210.out.lt g_s2 rfl).2; have h2 := (ho_z2.lt g_z2 rfl).1; omega); have n_u1_z2 : g_u1 ≠ g_z2 := (by have h1 := (Ou110.out.lt g_u1 rfl).2; have h2 := (ho_z2.lt g_z2 rfl).1; omega); have n_u2_z2 : g_u2 ≠ g_z2 := (by have h1 := (Ou210.out.lt g_u2 rfl).2; have h2 := (ho_z2.lt g_z2 rfl).1; omega); have n_x1_z2 : g_x1 ≠ g_z2 := (by have h1 := (Ox110.out.lt g_x1 rfl).2; have h2 := (ho_z2.lt g_z2 rfl).1; omega); have n_x2_z2 : g_x2 ≠ g_z2 := (by have h1 := (Ox210.out.lt g_x2 rfl).2; have h2 := (ho_z2.lt g_z2 rfl).1; omega); have n_y1_z2 : g_y1 ≠ g_z2 := (by have h1 := (Oy110.out.lt g_y1 rfl).2; have h2 := (ho_z2.lt g_z2 rfl).1; omega); have n_y2_z2 : g_y2 ≠ g_z2 := (by have h1 := (Oy210.out.lt g_y2 rfl).2; have h2 := (ho_z2.lt g_z2 rfl).1; omega); have l_z2 : w.heap.size ≤ g_z2 := Nat.le_trans B10.out.size (ho_z2.lt g_z2 rfl).1; have B11 := Lib.hid (B10.out.trans (hb.mono B10.out.size)); have KA11 := Lib.hid (KA10.out.below hb); have KB11 := Lib.hid (KB10.out.below hb); have KX11 := Lib.hid (KX10.out.below hb); have KY11 := Lib.hid (KY10.out.below hb); have Os111 := Lib.hid (Os110.out.kept (below_any (row := none) hb) (.inr (by simp [Value.ownBlock]))); have Os211 := Lib.hid (Os210.out.kept (below_any (row := none) hb) (.inr (by simp [Value.ownBlock]))); have Ou111 := Lib.hid (Ou110.out.kept (below_any (row := none) hb) (.inr (by simp [Value.ownBlock]))); have Ou211 := Lib.hid (Ou210.out.kept (below_any (row := none) hb) (.inr (by simp [Value.ownBlock]))); have Ox111 := Lib.hid (Ox110.out.kept (below_any (row := none) hb) (.inr (by simp [Value.ownBlock]))); have Ox211 := Lib.hid (Ox210.out.kept (below_any (row := none) hb) (.inr (by simp [Value.ownBlock]))); have Oy111 := Lib.hid (Oy110.out.kept (below_any (row := none) hb) (.inr (by simp [Value.ownBlock]))); have Oy211 := Lib.hid (Oy210.out.kept (below_any (row := none) hb) (.inr (by simp [Value.ownBlock]))); have Oz111 := Lib.hid (own_down ho_z1 (Nat.zero_le _)); have Oz211 := Lib.hid (own_down ho_z2 (Nat.zero_le _)); clear hb B10 KA10 KB10 KX10 KY10 Os110 Os210 Ou110 Ou210 Ox110 Ox210 Oy110 Oy210 ho_z1 ho_z2) | (have q := P10_1; go_at_call 28; clear q P10_1; refine (eqKeys_self e1 p1 q1 t1 (some ⟨g_x1, 0, none⟩) (some ⟨g_x2, 0, none⟩) (some ⟨g_z1, 0, none⟩) (some ⟨g_z2, 0, none⟩) p1.rs.length q1.rs.length p1.rs.length q1.rs.length _ (Row.ownK Ox111.out) (Row.ownK Ox211.out) (Row.ownK Oz111.out) (Row.ownK Oz211.out) fp1.out fq1.out).mono ?_; rintro e v12 ⟨rfl, hb⟩; have B12 := Lib.hid (B11.out.trans (hb.mono B11.out.size)); have KA12 := Lib.hid (KA11.out.below hb); have KB12 := Lib.hid (KB11.out.below hb); have KX12 := Lib.hid (KX11.out.below hb); have KY12 := Lib.hid (KY11.out.below hb); have Os112 := Lib.hid (Os111.out.kept (below_any (row := none) hb) (.inr (by simp [Value.ownBlock]))); have Os212 := Lib.hid (Os211.out.kept (below_any (row := none) hb) (.inr (by simp [Value.ownBlock]))); have Ou112 := Lib.hid (Ou111.out.kept (below_any (row := none) hb) (.inr (by simp [Value.ownBlock]))); have Ou212 := Lib.hid (Ou211.out.kept (below_any (row := none) hb) (.inr (by simp [Value.ownBlock]))); have Ox112 := Lib.hid (Ox111.out.kept (below_any (row := none) hb) (.inr (by simp [Value.ownBlock]))); have Ox212 := Lib.hid (Ox211.out.kept (below_any (row := none) hb) (.inr (by simp [Value.ownBlock]))); have Oy112 := Lib.hid (Oy111.out.kept (below_any (row := none) hb) (.inr (by simp [Value.ownBlock]))); have Oy212 := Lib.hid (Oy211.out.kept (below_any (row := none) hb) (.inr (by simp [Value.ownBlock]))); have Oz112 := Lib.hid (Oz111.out.kept (below_any (row := none) hb) (.inr (by simp [Value.ownBlock]))); have Oz212 := Lib.hid (Oz211.out.kept (below_any (row := none) hb) (.inr (by simp [Value.ownBlock]))); clear hb B11 KA11 KB11 KX11 KY11 Os111 Os211 Ou111 Ou211 Ox111 Ox211 Oy111 Oy211 Oz111 Oz211))
  try clear cA0 cA1 cA2 cA3 cA4 cA5 cA6 cA7 cA8 cA9 dA0 dA1 dA2 dA3 dA4 dA5 dA6 dA7 dA8 dA9 cX0 cX1 cX2 cX3 cX4 cX5 cX6 cX7 cX8 cX9 dX0 dX1 dX2 dX3 dX4 dX5 dX6 dX7 dX8 dX9
  obtain ⟨⟨cA0, cA1, cA2, cA3, cA4, cA5, cA6, cA7, cA8, cA9⟩, dA0, dA1, dA2, dA3, dA4, dA5, dA6, dA7, dA8, dA9⟩ := KA12.out.of10
  obtain ⟨⟨cB0, cB1, cB2, cB3, cB4, cB5, cB6, cB7, cB8, cB9⟩, dB0, dB1, dB2, dB3, dB4, dB5, dB6, dB7, dB8, dB9⟩ := KB12.out.of10
  obtain ⟨⟨cX0, cX1, cX2, cX3, cX4, cX5, cX6, cX7, cX8, cX9⟩, dX0, dX1, dX2, dX3, dX4, dX5, dX6, dX7, dX8, dX9⟩ := KX12.out.of10
  obtain ⟨⟨cY0, cY1, cY2, cY3, cY4, cY5, cY6, cY7, cY8, cY9⟩, dY0, dY1, dY2, dY3, dY4, dY5, dY6, dY7, dY8, dY9⟩ := KY12.out.of10
  go_wp2_with fail
  clear cA0 cA1 cA2 cA3 cA4 cA5 cA6 cA7 cA8 cA9 dA0 dA1 dA2 dA3 dA4 dA5 dA6 dA7 dA8 dA9 cB0 cB1 cB2 cB3 cB4 cB5 cB6 cB7 cB8 cB9 dB0 dB1 dB2 dB3 dB4 dB5 dB6 dB7 dB8 dB9 cX0 cX1 cX2 cX3 cX4 cX5 cX6 cX7 cX8 cX9 dX0 dX1 dX2 dX3 dX4 dX5 dX6 dX7 dX8 dX9 cY0 cY1 cY2 cY3 cY4 cY5 cY6 cY7 cY8 cY9 dY0 dY1 dY2 dY3 dY4 dY5 dY6 dY7 dY8 dY9
  obtain ⟨⟨cB0, cB1, cB2, cB3, cB4, cB5, cB6, cB7, cB8, cB9⟩, dB0, dB1, dB2, dB3, dB4, dB5, dB6, dB7, dB8, dB9⟩ := KB12.out.of10
  obtain ⟨⟨cY0, cY1, cY2, cY3, cY4, cY5, cY6, cY7, cY8, cY9⟩, dY0, dY1, dY2, dY3, dY4, dY5, dY6, dY7, dY8, dY9⟩ := KY12.out.of10
  have P12_0 : True := trivial
  have P12_1 : True := trivial
  go_region_held3 (fun w' => (w'.cell? ⟨g_Y, 0, none⟩ = some (.int .i64 e2) ∧ w'.cell? ⟨g_Y, 1, none⟩ = some (.bool p2.u) ∧ w'.cell? ⟨g_Y, 2, none⟩ = some (.int .u64 (n64 p2.k)) ∧ w'.cell? ⟨g_Y, 3, none⟩ = some (.int .u64 (n64 p2.l)) ∧ w'.cell? ⟨g_Y, 4, none⟩ = some (.slice (some ⟨g_y1, 0, none⟩) p2.rs.length p2.rs.length) ∧ w'.cell? ⟨g_Y, 5, none⟩ = some (.bool q2.u) ∧ w'.cell? ⟨g_Y, 6, none⟩ = some (.int .u64 (n64 q2.k)) ∧ w'.cell? ⟨g_Y, 7, none⟩ = some (.int .u64 (n64 q2.l)) ∧ w'.cell? ⟨g_Y, 8, none⟩ = some (.slice (some ⟨g_y2, 0, none⟩) q2.rs.length q2.rs.length) ∧ w'.cell? ⟨g_Y, 9, none⟩ = some (.bool t2)) ∧ (w'.cell? ⟨g_B, 0, none⟩ = some (.int .i64 e2) ∧ w'.cell? ⟨g_B, 1, none⟩ = some (.bool p2.u) ∧ w'.cell? ⟨g_B, 2, none⟩ = some (.int .u64 (n64 p2.k)) ∧ w'.cell? ⟨g_B, 3, none⟩ = some (.int .u64 (n64 p2.l)) ∧ w'.cell? ⟨g_B, 4, none⟩ = some (.slice p2.a p2.rs.length p2.c) ∧ w'.cell? ⟨g_B, 5, none⟩ = some (.bool q2.u) ∧ w'.cell? ⟨g_B, 6, none⟩ = some (.int .u64 (n64 q2.k)) ∧ w'.cell? ⟨g_B, 7, none⟩ = some (.int .u64 (n64 q2.l)) ∧ w'.cell? ⟨g_B, 8, none⟩ = some (.slice q2.a q2.rs.length q2.c) ∧ w'.cell? ⟨g_B, 9, none⟩ = some (.bool t2)))
    (first | go_keep | (exact ⟨KY13.out.of10.1, KB13.out.of10.1⟩) | (exact ⟨KY14.out.of10.1, KB14.out.of10.1⟩))
    (first | (have q := P12_0; go_at_call 27; clear q P12_0; refine (toKeys_any e2 p2 q2 t2 _ ((HP2.out.2.below B12.out.drew).mono B12.out.drew.size) ((HQ2.out.2.below B12.out.drew).mono B12.out.drew.size) fp2.out fq2.out).mono ?_; rintro e v13 ⟨g_v1, g_v2, n_v1_v2, rfl, ho_v1, ho_v2, hb⟩; replace hb := (Below.refl _ v12).drew.trans hb; replace ho_v2 := own_down ho_v2 (show v12.heap.size ≤ v12.drew.heap.size from Nat.le_refl _); replace ho_v1 := own_down ho_v1 (show v12.heap.size ≤ v12.drew.heap.size from Nat.le_refl _); have n_A_v1 : g_A ≠ g_v1 := (by have h1 := KA12.out.lt; have h2 := (ho_v1.lt g_v1 rfl).1; omega); have n_B_v1 : g_B ≠ g_v1 := (by have h1 := KB12.out.lt; have h2 := (ho_v1.lt g_v1 rfl).1; omega); have n_X_v1 : g_X ≠ g_v1 := (by have h1 := KX12.out.lt; have h2 := (ho_v1.lt g_v1 rfl).1; omega); have n_Y_v1 : g_Y ≠ g_v1 := (by have h1 := KY12.out.lt; have h2 := (ho_v1.lt g_v1 rfl).1; omega); have n_s1_v1 : g_s1 ≠ g_v1 := (by have h1 := (Os112.out.lt g_s1 rfl).2; have h2 := (ho_v1.lt g_v1 rfl).1; omega); have n_s2_v1 : g_s2 ≠ g_v1 := (by have h1 := (Os212.out.lt g_s2 rfl).2; have h2 := (ho_v1.lt g_v1 rfl).1; omega); have n_u1_v1 : g_u1 ≠ g_v1 := (by have h1 := (Ou112.out.lt g_u1 rfl).2; have h2 := (ho_v1.lt g_v1 rfl).1; omega); have n_u2_v1 : g_u2 ≠ g_v1 := (by have h1 := (Ou212.out.lt g_u2 rfl).2; have h2 := (ho_v1.lt g_v1 rfl).1; omega); have n_x1_v1 : g_x1 ≠ g_v1 := (by have h1 := (Ox112.out.lt g_x1 rfl).2; have h2 := (ho_v1.lt g_v1 rfl).1; omega); have n_x2_v1 : g_x2 ≠ g_v1 := (by have h1 := (Ox212.out.lt g_x2 rfl).2; have h2 := (ho_v1.lt g_v1 rfl).1; omega); have n_y1_v1 : g_y1 ≠ g_v1 := (by have h1 := (Oy112.out.lt g_y1 rfl).2; have h2 := (ho_v1.lt g_v1 rfl).1; omega); have n_y2_v1 : g_y2 ≠ g_v1 := (by have h1 := (Oy212.out.lt g_y2 rfl).2; have h2 := (ho_v1.lt g_v1 rfl).1; omega); have n_z1_v1 : g_z1 ≠ g_v1 := (by have h1 := (Oz112.out.lt g_z1 rfl).2; have h2 := (ho_v1.lt g_v1 rfl).1; omega); have n_z2_v1 : g_z2 ≠ g_v1 := (by have h1 := (Oz212.out.lt g_z2 rfl).2; have h2 := (ho_v1.lt g_v1 rfl).1; omega); have l_v1 : w.heap.size ≤ g_v1 := Nat.le_trans B12.out.size (ho_v1.lt g_v1 rfl).1; have n_A_v2 : g_A ≠ g_v2 := (by have h1 := KA12.out.lt; have h2 := (ho_v2.lt g_v2 rfl).1; omega); have n_B_v2 : g_B ≠ g_v2 := (by have h1 := KB12.out.lt; have h2 := (ho_v2.lt g_v2 rfl).1; omega); have n_X_v2 : g_X ≠ g_v2 := (by have h1 := KX12.out.lt; have h2 := (ho_v2.lt g_v2 rfl).1; omega); have n_Y_v2 : g_Y ≠ g_v2 := (by have h1 := KY12.out.lt; have h2 := (ho_v2.lt g_v2 rfl).1; omega); have n_s1_v2 : g_s1 ≠ g_v2 := (by have h1 := (Os112.out.lt g_s1 rfl).2; have h2 := (ho_v2.lt g_v2 rfl).1; omega); have n_s2_v2 : g_s2 ≠ g_v2 := (by have h1 := (Os212.out.lt g_s2 rfl).2; have h2 := (ho_v2.lt g_v2 rfl).1; omega); have n_u1_v2 : g_u1 ≠ g_v2 := (by have h1 := (Ou112.out.lt g_u1 rfl).2; have h2 := (ho_v2.lt g_v2 rfl).1; omega); have n_u2_v2 : g_u2 ≠ g_v2 := (by have h1 := (Ou212.out.lt g_u2 rfl).2; have h2 := (ho_v2.lt g_v2 rfl).1; omega); have n_x1_v2 : g_x1 ≠ g_v2 := (by have h1 := (Ox112.out.lt g_x1 rfl).2; have h2 := (ho_v2.lt g_v2 rfl).1; omega); have n_x2_v2 : g_x2 ≠ g_v2 := (by have h1 := (Ox212.out.lt g_x2 rfl).2; have h2 := (ho_v2.lt g_v2 rfl).1; omega); have n_y1_v2 : g_y1 ≠ g_v2 := (by have h1 := (Oy112.out.lt g_y1 rfl).2; have h2 := (ho_v2.lt g_v2 rfl).1; omega); have n_y2_v2 : g_y2 ≠ g_v2 := (by have h1 := (Oy212.out.lt g_y2 rfl).2; have h2 := (ho_v2.lt g_v2 rfl).1; omega); have n_z1_v2 : g_z1 ≠ g_v2 := (by have h1 := (Oz112.out.lt g_z1 rfl).2; have h2 := (ho_v2.lt g_v2 rfl).1; omega); have n_z2_v2 : g_z2 ≠ g_v2 := (by have h1 := (Oz212.out.lt g_z2 rfl).2; have h2 := (ho_v2.lt g_v2 rfl).1; omega); have l_v2 : w.heap.size ≤ g_v2 := Nat.le_trans B12.out.size (ho_v2.lt g_v2 rfl).1; have B13 := Lib.hid (B12.out.trans (hb.mono B12.out.size)); have KA13 := Lib.hid (KA12.out.below hb); have KB13 := Lib.hid (KB12.out.below hb); have KX13 := Lib.hid (KX12.out.below hb); have KY13 := Lib.hid (KY12.out.below hb); have Os113 := Lib.hid (Os112.out.kept (below_any (row := none) hb) (.inr (by simp [Value.ownBlock]))); have Os213 := Lib.hid (Os212.out.kept (below_any (row := none) hb) (.inr (by simp [Value.ownBlock]))); have Ou113 := Lib.hid (Ou112.out.kept (below_any (row := none) hb) (.inr (by simp [Value.ownBlock]))); have Ou213 := Lib.hid (Ou212.out.kept (below_any (row := none) hb) (.inr (by simp [Value.ownBlock]))); have Ox113 := Lib.hid (Ox112.out.kept (below_any (row := none) hb) (.inr (by simp [Value.ownBlock]))); have Ox213 := Lib.hid (Ox212.out.kept (below_any (row := none) hb) (.inr (by simp [Value.ownBlock]))); have Oy113 := Lib.hid (Oy112.out.kept (below_any (row := none) hb) (.inr (by simp [Value.ownBlock]))); have Oy213 := Lib.hid (Oy212.out.kept (below_any (row := none) hb) (.inr (by simp [Value.ownBlock]))); have Oz113 := Lib.hid (Oz112.out.kept (below_any (row := none) hb) (.inr (by simp [Value.ownBlock]))); have Oz213 := Lib.hid (Oz212.out.kept (below_any (row := none) hb) (.inr (by simp [Value.ownBlock]))); have Ov113 := Lib.hid (own_down ho_v1 (Nat.zero_le _)); have Ov213 := Lib.hid (own_down ho_v2 (Nat.zero_le _)); clear hb B12 KA12 KB12 KX12 KY12 Os112 Os212 Ou112 Ou212 Ox112 Ox212 Oy112 Oy212 Oz112 Oz212 ho_v1 ho_v2) | (have q := P12_1; go_at_call 28; clear q P12_1; refine (eqKeys_self e2 p2 q2 t2 (some ⟨g_y1, 0, none⟩) (some ⟨g_y2, 0, none⟩) (some ⟨g_v1, 0, none⟩) (some ⟨g_v2, 0, none⟩) p2.rs.length q2.rs.length p2.rs.length q2.rs.length _ (Row.ownK Oy113.out) (Row.ownK Oy213.out) (Row.ownK Ov113.out) (Row.ownK Ov213.out) fp2.out fq2.out).mono ?_; rintro e v14 ⟨rfl, hb⟩; have B14 := Lib.hid (B13.out.trans (hb.mono B13.out.size)); have KA14 := Lib.hid (KA13.out.below hb); have KB14 := Lib.hid (KB13.out.below hb); have KX14 := Lib.hid (KX13.out.below hb); have KY14 := Lib.hid (KY13.out.below hb); have Os114 := Lib.hid (Os113.out.kept (below_any (row := none) hb) (.inr (by simp [Value.ownBlock]))); have Os214 := Lib.hid (Os213.out.kept (below_any (row := none) hb) (.inr (by simp [Value.ownBlock]))); have Ou114 := Lib.hid (Ou113.out.kept (below_any (row := none) hb) (.inr (by simp [Value.ownBlock]))); have Ou214 := Lib.hid (Ou213.out.kept (below_any (row := none) hb) (.inr (by simp [Value.ownBlock]))); have Ox114 := Lib.hid (Ox113.out.kept (below_any (row := none) hb) (.inr (by simp [Value.ownBlock]))); have Ox214 := Lib.hid (Ox213.out.kept (below_any (row := none) hb) (.inr (by simp [Value.ownBlock]))); have Oy114 := Lib.hid (Oy113.out.kept (below_any (row := none) hb) (.inr (by simp [Value.ownBlock]))); have Oy214 := Lib.hid (Oy213.out.kept (below_any (row := none) hb) (.inr (by simp [Value.ownBlock]))); have Oz114 := Lib.hid (Oz113.out.kept (below_any (row := none) hb) (.inr (by simp [Value.ownBlock]))); have Oz214 := Lib.hid (Oz213.out.kept (below_any (row := none) hb) (.inr (by simp [Value.ownBlock]))); have Ov114 := Lib.hid (Ov113.out.kept (below_any (row := none) hb) (.inr (by simp [Value.ownBlock]))); have Ov214 := Lib.hid (Ov213.out.kept (below_any (row := none) hb) (.inr (by simp [Value.ownBlock]))); clear hb B13 KA13 KB13 KX13 KY13 Os113 Os213 Ou113 Ou213 Ox113 Ox213 Oy113 Oy213 Oz113 Oz213 Ov113 Ov213))
  try clear cB0 cB1 cB2 cB3 cB4 cB5 cB6 cB7 cB8 cB9 dB0 dB1 dB2 dB3 dB4 dB5 dB6 dB7 dB8 dB9 cY0 cY1 cY2 cY3 cY4 cY5 cY6 cY7 cY8 cY9 dY0 dY1 dY2 dY3 dY4 dY5 dY6 dY7 dY8 dY9
  obtain ⟨⟨cA0, cA1, cA2, cA3, cA4, cA5, cA6, cA7, cA8, cA9⟩, dA0, dA1, dA2, dA3, dA4, dA5, dA6, dA7, dA8, dA9⟩ := KA14.out.of10
  obtain ⟨⟨cB0, cB1, cB2, cB3, cB4, cB5, cB6, cB7, cB8, cB9⟩, dB0, dB1, dB2, dB3, dB4, dB5, dB6, dB7, dB8, dB9⟩ := KB14.out.of10
  obtain ⟨⟨cX0, cX1, cX2, cX3, cX4, cX5, cX6, cX7, cX8, cX9⟩, dX0, dX1, dX2, dX3, dX4, dX5, dX6, dX7, dX8, dX9⟩ := KX14.out.of10
  obtain ⟨⟨cY0, cY1, cY2, cY3, cY4, cY5, cY6, cY7, cY8, cY9⟩, dY0, dY1, dY2, dY3, dY4, dY5, dY6, dY7, dY8, dY9⟩ := KY14.out.of10
  go_wp2_with fail
  go_ret
  exact ⟨rfl, B14.out⟩

theorem walk {w : World} (e1 : Int) (p1 q1 : M) (t1 : Bool) (e2 : Int) (p2 q2 : M) (t2 : Bool) (h : (Lit.int .i64 e1).wf = true ∧ LawM w p1 ∧ LawM w q1) (h2 : (Lit.int .i64 e2).wf = true ∧ LawM w p2 ∧ LawM w q2) :
    Calls Try.prog 11 #[.agg #[.int .i64 e1, .bool p1.u, .int .u64 (n64 p1.k), .int .u64 (n64 p1.l), .slice p1.a p1.rs.length p1.c, .bool q1.u, .int .u64 (n64 q1.k), .int .u64 (n64 q1.l), .slice q1.a q1.rs.length q1.c, .bool t1], .agg #[.int .i64 e2, .bool p2.u, .int .u64 (n64 p2.k), .int .u64 (n64 p2.l), .slice p2.a p2.rs.length p2.c, .bool q2.u, .int .u64 (n64 q2.k), .int .u64 (n64 q2.l), .slice q2.a q2.rs.length q2.c, .bool t2]] w fun e w' => e = .returned (.bool true) ∧ Below w.heap.size w w' := go e1 p1 q1 t1 e2 p2 q2 t2 w h.2.1 h.2.2 h2.2.1 h2.2.2
theorem own : ownKnob Try.prog.godebug = none := by kernel_rfl
theorem laidOut : laidOutB Try.prog = true := by kernel_rfl

set_option maxRecDepth 100000 in
theorem lifted (os : Os) (started : os.Started) (H : Type) (enc : TypeId × Value → H) :
    ReturnsInHanded {} Try.checked os 11 .any (Rows.fnExactSameKeysSpec.pre6 enc Try.prog Try.f11 Rows.fnExactSameKeysRow.domain false) (Rows.fnExactSameKeysSpec.post enc Try.prog Try.f11 false true false false) := by
  refine returnsInHanded_of_change (C := Try.checked) own started (by kernel_rfl) Try.func11
    (ChangeSpec.witness6 (enc := enc) (C := Try.checked) false ⟨#[], #[.agg #[.int .i64 0, .bool false, .int .u64 0, .int .u64 0, .slice none 0 0, .bool false, .int .u64 0, .int .u64 0, .slice none 0 0, .bool false], .agg #[.int .i64 0, .bool false, .int .u64 0, .int .u64 0, .slice none 0 0, .bool false, .int .u64 0, .int .u64 0, .slice none 0 0, .bool false]], []⟩ 8 (by kernel_rfl) (by kernel_rfl) (by kernel_rfl) (by kernel_rfl)) ?_
  intro W base args ds gs before hval0 hW _ _
  have hval : ∀ (j : Nat) t v, Try.f11.params[j]? = some t → args[j]? = some v → Value.okWide Try.prog W .any base t v := hval0
  have hW' := hW
  obtain ⟨p, q, hA0, hV, rfl, _, _⟩ := hW
  have hA : DataW.TrodAll enc Try.prog W 0 (fun _ => true) true Try.f11.params.toList args.toList ds p := hA0
  rw [Try.params11] at hA hval
  obtain ⟨v0, vs0, d0, ds0, p0, q0, hargs, rfl, rfl, h0, r0⟩ := trodAll_cons hA
  obtain ⟨v1, vs1, d1, ds1, p1, q1, rfl, rfl, rfl, h1, r1⟩ := trodAll_cons r0
  obtain ⟨rfl, rfl, rfl⟩ := trodAll_nil r1
  obtain rfl : args = #[v0, v1] := by cases args; simp_all
  obtain ⟨rfl, rfl⟩ := trodVars_none hV
  have k0 := h0
  have lt0 : ∀ x ∈ p0, x.block < W.heap.size := by obtain ⟨m, hm⟩ := k0; exact DataW.trod_lt m _ _ _ hm
  obtain ⟨e0, p0, q0, t0, rfl, w0⟩ := argKeys (hval 0 52 v0 rfl rfl) h0
  have k1 := h1
  have lt1 : ∀ x ∈ p1, x.block < W.heap.size := by obtain ⟨m, hm⟩ := k1; exact DataW.trod_lt m _ _ _ hm
  obtain ⟨e1, p1, q1, t1, rfl, w1⟩ := argKeys (hval 1 52 v1 rfl rfl) h1
  clear hA0 hval0
  refine (walk e0 p0 q0 t0 e1 p1 q1 t1 w0 w1).mono fun e W' ⟨he, bel⟩ => ?_
  subst he
  exact ⟨_, rfl, _, _, _, [], _, [], hW', trodAll_mk1 (shut_bool Try.underlying4 _), (trodAll_cons_mk (Below.trod laidOut (by kernel_rfl) (of_decide_eq_true (by kernel_rfl)) k0 bel lt0) (trodAll_cons_mk (Below.trod laidOut (by kernel_rfl) (of_decide_eq_true (by kernel_rfl)) k1 bel lt1) trodAll_mk0)), rfl, bel.frame _, fun h => by cases h⟩

theorem over : Rows.fnExactSameKeysRow.holds Try.pinned (OpenSpec.ofChange Rows.fnExactSameKeysSpec) :=
  OpenClaim.holds_of_wide 11 Try.f11 rfl rfl rfl rfl rfl rfl rfl ⟨rfl, rfl, rfl, rfl, rfl⟩ rfl rfl rfl rfl rfl (by kernel_rfl) Try.func11 (by kernel_rfl)
    (of_decide_eq_true (by kernel_rfl)) (by unfold Func.isWrapper; first | (rw [if_pos (by decide +kernel)]; kernel_rfl) | (rw [if_neg (by decide +kernel)]; exact ⟨rfl, rfl⟩))
    (fun os started H enc _ => lifted os started H enc)

theorem proved : Rows.FnExactSameKeysSaid := over
#print axioms proved
end Go.Proofs.Ytobfgkiccmhgdaa.fnExactSameKeys
