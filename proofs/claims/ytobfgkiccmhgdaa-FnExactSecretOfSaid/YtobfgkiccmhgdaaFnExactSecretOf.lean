/- The law FnExactSecretOf holds for any keys and epoch (up to the law's own measure of 1048576 rows and bytes; past it the law itself answers true): impl's SecretOf answers as the model's, leaves its argument, and hands back memory of its own. No condition. -/
import Derived.Test.YtobfgkiccmhgdaaRows
import Derived.Test.YtobfgkiccmhgdaaKeysLaw
import Derived.Test.YtobfgkiccmhgdaaArgKeys
import Derived.Deep.RegionHeld3
import Derived.ProofKit
import Derived.OpenShut
import Derived.ShutString
import Derived.ChangeSame
import Derived.Test.YtobfgkiccmhgdaaKeysAt
import Derived.Test.YtobfgkiccmhgdaaMarkK
namespace Go.Proofs.Ytobfgkiccmhgdaa.fnExactSecretOf
open Go.ChangeShapes Go.WideShapes Go.ChangeAt Go.RowKit Go.Lib

/-- The law's word: true, and what lay before the call lies as it lay. -/
def OkB (w : World) (e : Ending) (w' : World) : Prop := e = .returned (.bool true) ∧ Below w.heap.size w w'

set_option maxRecDepth 100000 in
set_option maxHeartbeats 16000000 in
theorem goSome (e n : Int) (p q m : M) (t : Bool) (w : World) (hp : LawM w p) (hq : LawM w q) (hm : p.rs.length ≤ 1048576 → q.rs.length ≤ 1048576 → m.rs.length ≤ 1048576)
    (c1 : ∀ (g h c d : Nat) (w : World), (p.at (some ⟨g, 0, none⟩) c).On w → (q.at (some ⟨h, 0, none⟩) d).On w → p.Fit → q.Fit → Calls Try.prog 29 #[.agg #[.int .i64 e, .bool p.u, .int .u64 (n64 p.k), .int .u64 (n64 p.l), .slice (some ⟨g, 0, none⟩) p.rs.length c, .bool q.u, .int .u64 (n64 q.k), .int .u64 (n64 q.l), .slice (some ⟨h, 0, none⟩) q.rs.length d, .bool t], .int .i64 n] w (SecG m w))
    (c2 : ∀ (g h c d : Nat) (w : World), (p.at (some ⟨g, 0, none⟩) c).On w → (q.at (some ⟨h, 0, none⟩) d).On w → p.Fit → q.Fit → Calls Try.prog 30 #[.agg #[.int .i64 e, .bool p.u, .int .u64 (n64 p.k), .int .u64 (n64 p.l), .slice (some ⟨g, 0, none⟩) p.rs.length c, .bool q.u, .int .u64 (n64 q.k), .int .u64 (n64 q.l), .slice (some ⟨h, 0, none⟩) q.rs.length d, .bool t], .int .i64 n] w (SecG m w)) :
    Calls Try.prog 6 #[.agg #[.int .i64 e, .bool p.u, .int .u64 (n64 p.k), .int .u64 (n64 p.l), .slice p.a p.rs.length p.c, .bool q.u, .int .u64 (n64 q.k), .int .u64 (n64 q.l), .slice q.a q.rs.length q.c, .bool t], .int .i64 n] w (OkB w) := by
  have HP := Lib.hid hp
  have HQ := Lib.hid hq
  have C1 := Lib.hid c1
  have C2 := Lib.hid c2
  clear hp hq c1 c2
  have HMM := Lib.hid hm
  clear hm
  go_enter Try.func6, Try.ntmps6
  have B0 := Lib.hid (show Below w.heap.size w (w.alloc (.cells #[.int .i64 e, .bool p.u, .int .u64 (n64 p.k), .int .u64 (n64 p.l), .slice p.a p.rs.length p.c, .bool q.u, .int .u64 (n64 q.k), .int .u64 (n64 q.l), .slice q.a q.rs.length q.c, .bool t] 52)) from ((Below.refl _ w).alloc (by simp) _))
  have KK0 := Lib.hid (show Blk (w.alloc (.cells #[.int .i64 e, .bool p.u, .int .u64 (n64 p.k), .int .u64 (n64 p.l), .slice p.a p.rs.length p.c, .bool q.u, .int .u64 (n64 q.k), .int .u64 (n64 q.l), .slice q.a q.rs.length q.c, .bool t] 52)) (w.heap.size) [.int .i64 e, .bool p.u, .int .u64 (n64 p.k), .int .u64 (n64 p.l), .slice p.a p.rs.length p.c, .bool q.u, .int .u64 (n64 q.k), .int .u64 (n64 q.l), .slice q.a q.rs.length q.c, .bool t] from Blk.new w [.int .i64 e, .bool p.u, .int .u64 (n64 p.k), .int .u64 (n64 p.l), .slice p.a p.rs.length p.c, .bool q.u, .int .u64 (n64 q.k), .int .u64 (n64 q.l), .slice q.a q.rs.length q.c, .bool t] 52)
  go_wp2_with fail
  change Calls _ _ _ (w.alloc (.cells #[.int .i64 e, .bool p.u, .int .u64 (n64 p.k), .int .u64 (n64 p.l), .slice p.a p.rs.length p.c, .bool q.u, .int .u64 (n64 q.k), .int .u64 (n64 q.l), .slice q.a q.rs.length q.c, .bool t] 52)) _
  generalize w.alloc (.cells #[.int .i64 e, .bool p.u, .int .u64 (n64 p.k), .int .u64 (n64 p.l), .slice p.a p.rs.length p.c, .bool q.u, .int .u64 (n64 q.k), .int .u64 (n64 q.l), .slice q.a q.rs.length q.c, .bool t] 52) = v0 at B0 KK0 ⊢
  generalize w.heap.size = g_K at KK0 ⊢
  refine (szKeys_any e p q t 1048576 _ ⟨HP.out.1, ((HP.out.2.below B0.out).mono B0.out.size)⟩ ⟨HQ.out.1, ((HQ.out.2.below B0.out).mono B0.out.size)⟩ (by decide) (by decide)).mono ?_
  rintro e v1 ⟨hb, r, rfl, hr1, hr2⟩
  have B1 := Lib.hid (B0.out.trans (hb.mono B0.out.size))
  have KK1 := Lib.hid (KK0.out.below hb)
  clear hb B0 KK0
  have HR := Lib.hid hr2
  clear hr2
  obtain ⟨⟨cK0, cK1, cK2, cK3, cK4, cK5, cK6, cK7, cK8, cK9⟩, dK0, dK1, dK2, dK3, dK4, dK5, dK6, dK7, dK8, dK9⟩ := KK1.out.of10
  by_cases hnegr : r < 0
  · go_wp2_with fail
    go_ret
    exact ⟨rfl, B1.out⟩
  have fp := Lib.hid (show p.rs.length ≤ 1048576 by have := HR.out (by omega); omega)
  have Fp := Lib.hid (LawM.fit HP.out fp.out)
  have fq := Lib.hid (show q.rs.length ≤ 1048576 by have := HR.out (by omega); omega)
  have Fq := Lib.hid (LawM.fit HQ.out fq.out)
  clear HR
  go_wp2_with fail
  clear cK0 cK1 cK2 cK3 cK4 cK5 cK6 cK7 cK8 cK9 dK0 dK1 dK2 dK3 dK4 dK5 dK6 dK7 dK8 dK9
  clear hr1 hnegr
  have fm := Lib.hid (HMM.out fp.out fq.out)
  refine (toKeys_any e p q t _ ((HP.out.2.below B1.out).mono B1.out.size) ((HQ.out.2.below B1.out).mono B1.out.size) fp.out fq.out).mono ?_
  rintro e v2 ⟨g_s1, g_s2, n_s1_s2, rfl, ho_s1, ho_s2, hb⟩
  have n_K_s1 : g_K ≠ g_s1 := by have h1 := KK1.out.lt; have h2 := (ho_s1.lt g_s1 rfl).1; omega
  have l_s1 : w.heap.size ≤ g_s1 := Nat.le_trans B1.out.size (ho_s1.lt g_s1 rfl).1
  have n_K_s2 : g_K ≠ g_s2 := by have h1 := KK1.out.lt; have h2 := (ho_s2.lt g_s2 rfl).1; omega
  have l_s2 : w.heap.size ≤ g_s2 := Nat.le_trans B1.out.size (ho_s2.lt g_s2 rfl).1
  have B2 := Lib.hid (B1.out.trans (hb.mono B1.out.size))
  have KK2 := Lib.hid (KK1.out.below hb)
  have Os12 := Lib.hid (own_down ho_s1 (Nat.zero_le _))
  have Os22 := Lib.hid (own_down ho_s2 (Nat.zero_le _))
  clear hb B1 KK1 ho_s1 ho_s2
  obtain ⟨⟨cK0, cK1, cK2, cK3, cK4, cK5, cK6, cK7, cK8, cK9⟩, dK0, dK1, dK2, dK3, dK4, dK5, dK6, dK7, dK8, dK9⟩ := KK2.out.of10
  go_wp2_with fail
  clear cK0 cK1 cK2 cK3 cK4 cK5 cK6 cK7 cK8 cK9 dK0 dK1 dK2 dK3 dK4 dK5 dK6 dK7 dK8 dK9
  refine (C1.out g_s1 g_s2 p.rs.length q.rs.length _ (M.on_at Os12.out) (M.on_at Os22.out) Fp.out Fq.out).mono ?_
  rintro e v3 ⟨g_w, c_w, rfl, ho_w, hb⟩
  have n_K_w : g_K ≠ g_w := by have h1 := KK2.out.lt; have h2 := (ho_w.lt g_w rfl).1; omega
  have n_s1_w : g_s1 ≠ g_w := by have h1 := (Os12.out.lt g_s1 rfl).2; have h2 := (ho_w.lt g_w rfl).1; omega
  have n_s2_w : g_s2 ≠ g_w := by have h1 := (Os22.out.lt g_s2 rfl).2; have h2 := (ho_w.lt g_w rfl).1; omega
  have l_w : w.heap.size ≤ g_w := Nat.le_trans B2.out.size (ho_w.lt g_w rfl).1
  have B3 := Lib.hid (B2.out.trans (hb.mono B2.out.size))
  have KK3 := Lib.hid (KK2.out.below hb)
  have Os13 := Lib.hid (Os12.out.kept (below_any (row := none) hb) (.inr (by simp [Value.ownBlock])))
  have Os23 := Lib.hid (Os22.out.kept (below_any (row := none) hb) (.inr (by simp [Value.ownBlock])))
  have Ow3 := Lib.hid (own_down ho_w (Nat.zero_le _))
  clear hb B2 KK2 Os12 Os22 ho_w
  have KWn := Lib.hid (Blk.new v3 [.bool m.u, .int .u64 (n64 m.k), .int .u64 (n64 m.l), .slice (some ⟨g_w, 0, none⟩) m.rs.length c_w] 27)
  have n_K_W : g_K ≠ v3.heap.size := by have h1 := KK3.out.lt; omega
  have n_s1_W : g_s1 ≠ v3.heap.size := by have h1 := (Os13.out.lt g_s1 rfl).2; omega
  have n_s2_W : g_s2 ≠ v3.heap.size := by have h1 := (Os23.out.lt g_s2 rfl).2; omega
  have n_w_W : g_w ≠ v3.heap.size := by have h1 := (Ow3.out.lt g_w rfl).2; omega
  have Bn := Lib.hid (B3.out.alloc B3.out.size (.cells #[.bool m.u, .int .u64 (n64 m.k), .int .u64 (n64 m.l), .slice (some ⟨g_w, 0, none⟩) m.rs.length c_w] 27))
  have KKn := Lib.hid (KK3.out.alloc (.cells #[.bool m.u, .int .u64 (n64 m.k), .int .u64 (n64 m.l), .slice (some ⟨g_w, 0, none⟩) m.rs.length c_w] 27))
  have Os1n := Lib.hid (Os13.out.alloc (.cells #[.bool m.u, .int .u64 (n64 m.k), .int .u64 (n64 m.l), .slice (some ⟨g_w, 0, none⟩) m.rs.length c_w] 27))
  have Os2n := Lib.hid (Os23.out.alloc (.cells #[.bool m.u, .int .u64 (n64 m.k), .int .u64 (n64 m.l), .slice (some ⟨g_w, 0, none⟩) m.rs.length c_w] 27))
  have Own := Lib.hid (Ow3.out.alloc (.cells #[.bool m.u, .int .u64 (n64 m.k), .int .u64 (n64 m.l), .slice (some ⟨g_w, 0, none⟩) m.rs.length c_w] 27))
  clear B3 KK3 Os13 Os23 Ow3
  obtain ⟨⟨cK0, cK1, cK2, cK3, cK4, cK5, cK6, cK7, cK8, cK9⟩, dK0, dK1, dK2, dK3, dK4, dK5, dK6, dK7, dK8, dK9⟩ := KKn.out.of10
  go_wp2_with fail
  clear cK0 cK1 cK2 cK3 cK4 cK5 cK6 cK7 cK8 cK9 dK0 dK1 dK2 dK3 dK4 dK5 dK6 dK7 dK8 dK9
  change Calls _ _ _ (v3.alloc (.cells #[.bool m.u, .int .u64 (n64 m.k), .int .u64 (n64 m.l), .slice (some ⟨g_w, 0, none⟩) m.rs.length c_w] 27)) _
  generalize v3.alloc (.cells #[.bool m.u, .int .u64 (n64 m.k), .int .u64 (n64 m.l), .slice (some ⟨g_w, 0, none⟩) m.rs.length c_w] 27) = v4 at KWn Bn KKn Os1n Os2n Own ⊢
  generalize v3.heap.size = g_W at KWn n_K_W n_s1_W n_s2_W n_w_W ⊢
  clear v3
  have KK4 := KKn
  clear KKn
  have KW4 := KWn
  clear KWn
  have Os14 := Os1n
  clear Os1n
  have Os24 := Os2n
  clear Os2n
  have Ow4 := Own
  clear Own
  have B4 := Bn
  clear Bn
  refine (toKeys_any e p q t _ ((HP.out.2.below B4.out).mono B4.out.size) ((HQ.out.2.below B4.out).mono B4.out.size) fp.out fq.out).mono ?_
  rintro e v5 ⟨g_x1, g_x2, n_x1_x2, rfl, ho_x1, ho_x2, hb⟩
  have n_K_x1 : g_K ≠ g_x1 := by have h1 := KK4.out.lt; have h2 := (ho_x1.lt g_x1 rfl).1; omega
  have n_W_x1 : g_W ≠ g_x1 := by have h1 := KW4.out.lt; have h2 := (ho_x1.lt g_x1 rfl).1; omega
  have n_s1_x1 : g_s1 ≠ g_x1 := by have h1 := (Os14.out.lt g_s1 rfl).2; have h2 := (ho_x1.lt g_x1 rfl).1; omega
  have n_s2_x1 : g_s2 ≠ g_x1 := by have h1 := (Os24.out.lt g_s2 rfl).2; have h2 := (ho_x1.lt g_x1 rfl).1; omega
  have n_w_x1 : g_w ≠ g_x1 := by have h1 := (Ow4.out.lt g_w rfl).2; have h2 := (ho_x1.lt g_x1 rfl).1; omega
  have l_x1 : w.heap.size ≤ g_x1 := Nat.le_trans B4.out.size (ho_x1.lt g_x1 rfl).1
  have n_K_x2 : g_K ≠ g_x2 := by have h1 := KK4.out.lt; have h2 := (ho_x2.lt g_x2 rfl).1; omega
  have n_W_x2 : g_W ≠ g_x2 := by have h1 := KW4.out.lt; have h2 := (ho_x2.lt g_x2 rfl).1; omega
  have n_s1_x2 : g_s1 ≠ g_x2 := by have h1 := (Os14.out.lt g_s1 rfl).2; have h2 := (ho_x2.lt g_x2 rfl).1; omega
  have n_s2_x2 : g_s2 ≠ g_x2 := by have h1 := (Os24.out.lt g_s2 rfl).2; have h2 := (ho_x2.lt g_x2 rfl).1; omega
  have n_w_x2 : g_w ≠ g_x2 := by have h1 := (Ow4.out.lt g_w rfl).2; have h2 := (ho_x2.lt g_x2 rfl).1; omega
  have l_x2 : w.heap.size ≤ g_x2 := Nat.le_trans B4.out.size (ho_x2.lt g_x2 rfl).1
  have B5 := Lib.hid (B4.out.trans (hb.mono B4.out.size))
  have KK5 := Lib.hid (KK4.out.below hb)
  have KW5 := Lib.hid (KW4.out.below hb)
  have Os15 := Lib.hid (Os14.out.kept (below_any (row := none) hb) (.inr (by simp [Value.ownBlock])))
  have Os25 := Lib.hid (Os24.out.kept (below_any (row := none) hb) (.inr (by simp [Value.ownBlock])))
  have Ow5 := Lib.hid (Ow4.out.kept (below_any (row := none) hb) (.inr (by simp [Value.ownBlock])))
  have Ox15 := Lib.hid (own_down ho_x1 (Nat.zero_le _))
  have Ox25 := Lib.hid (own_down ho_x2 (Nat.zero_le _))
  clear hb B4 KK4 KW4 Os14 Os24 Ow4 ho_x1 ho_x2
  have KXn := Lib.hid (Blk.new v5 [.int .i64 e, .bool p.u, .int .u64 (n64 p.k), .int .u64 (n64 p.l), .slice (some ⟨g_x1, 0, none⟩) p.rs.length p.rs.length, .bool q.u, .int .u64 (n64 q.k), .int .u64 (n64 q.l), .slice (some ⟨g_x2, 0, none⟩) q.rs.length q.rs.length, .bool t] 29)
  have n_K_X : g_K ≠ v5.heap.size := by have h1 := KK5.out.lt; omega
  have n_W_X : g_W ≠ v5.heap.size := by have h1 := KW5.out.lt; omega
  have n_s1_X : g_s1 ≠ v5.heap.size := by have h1 := (Os15.out.lt g_s1 rfl).2; omega
  have n_s2_X : g_s2 ≠ v5.heap.size := by have h1 := (Os25.out.lt g_s2 rfl).2; omega
  have n_w_X : g_w ≠ v5.heap.size := by have h1 := (Ow5.out.lt g_w rfl).2; omega
  have n_x1_X : g_x1 ≠ v5.heap.size := by have h1 := (Ox15.out.lt g_x1 rfl).2; omega
  have n_x2_X : g_x2 ≠ v5.heap.size := by have h1 := (Ox25.out.lt g_x2 rfl).2; omega
  have Bn := Lib.hid (B5.out.alloc B5.out.size (.cells #[.int .i64 e, .bool p.u, .int .u64 (n64 p.k), .int .u64 (n64 p.l), .slice (some ⟨g_x1, 0, none⟩) p.rs.length p.rs.length, .bool q.u, .int .u64 (n64 q.k), .int .u64 (n64 q.l), .slice (some ⟨g_x2, 0, none⟩) q.rs.length q.rs.length, .bool t] 29))
  have KKn := Lib.hid (KK5.out.alloc (.cells #[.int .i64 e, .bool p.u, .int .u64 (n64 p.k), .int .u64 (n64 p.l), .slice (some ⟨g_x1, 0, none⟩) p.rs.length p.rs.length, .bool q.u, .int .u64 (n64 q.k), .int .u64 (n64 q.l), .slice (some ⟨g_x2, 0, none⟩) q.rs.length q.rs.length, .bool t] 29))
  have KWn := Lib.hid (KW5.out.alloc (.cells #[.int .i64 e, .bool p.u, .int .u64 (n64 p.k), .int .u64 (n64 p.l), .slice (some ⟨g_x1, 0, none⟩) p.rs.length p.rs.length, .bool q.u, .int .u64 (n64 q.k), .int .u64 (n64 q.l), .slice (some ⟨g_x2, 0, none⟩) q.rs.length q.rs.length, .bool t] 29))
  have Os1n := Lib.hid (Os15.out.alloc (.cells #[.int .i64 e, .bool p.u, .int .u64 (n64 p.k), .int .u64 (n64 p.l), .slice (some ⟨g_x1, 0, none⟩) p.rs.length p.rs.length, .bool q.u, .int .u64 (n64 q.k), .int .u64 (n64 q.l), .slice (some ⟨g_x2, 0, none⟩) q.rs.length q.rs.length, .bool t] 29))
  have Os2n := Lib.hid (Os25.out.alloc (.cells #[.int .i64 e, .bool p.u, .int .u64 (n64 p.k), .int .u64 (n64 p.l), .slice (some ⟨g_x1, 0, none⟩) p.rs.length p.rs.length, .bool q.u, .int .u64 (n64 q.k), .int .u64 (n64 q.l), .slice (some ⟨g_x2, 0, none⟩) q.rs.length q.rs.length, .bool t] 29))
  have Own := Lib.hid (Ow5.out.alloc (.cells #[.int .i64 e, .bool p.u, .int .u64 (n64 p.k), .int .u64 (n64 p.l), .slice (some ⟨g_x1, 0, none⟩) p.rs.length p.rs.length, .bool q.u, .int .u64 (n64 q.k), .int .u64 (n64 q.l), .slice (some ⟨g_x2, 0, none⟩) q.rs.length q.rs.length, .bool t] 29))
  have Ox1n := Lib.hid (Ox15.out.alloc (.cells #[.int .i64 e, .bool p.u, .int .u64 (n64 p.k), .int .u64 (n64 p.l), .slice (some ⟨g_x1, 0, none⟩) p.rs.length p.rs.length, .bool q.u, .int .u64 (n64 q.k), .int .u64 (n64 q.l), .slice (some ⟨g_x2, 0, none⟩) q.rs.length q.rs.length, .bool t] 29))
  have Ox2n := Lib.hid (Ox25.out.alloc (.cells #[.int .i64 e, .bool p.u, .int .u64 (n64 p.k), .int .u64 (n64 p.l), .slice (some ⟨g_x1, 0, none⟩) p.rs.length p.rs.length, .bool q.u, .int .u64 (n64 q.k), .int .u64 (n64 q.l), .slice (some ⟨g_x2, 0, none⟩) q.rs.length q.rs.length, .bool t] 29))
  clear B5 KK5 KW5 Os15 Os25 Ow5 Ox15 Ox25
  obtain ⟨⟨cK0, cK1, cK2, cK3, cK4, cK5, cK6, cK7, cK8, cK9⟩, dK0, dK1, dK2, dK3, dK4, dK5, dK6, dK7, dK8, dK9⟩ := KKn.out.of10
  obtain ⟨⟨cW0, cW1, cW2, cW3⟩, dW0, dW1, dW2, dW3⟩ := KWn.out.four
  go_wp2_with fail
  clear cK0 cK1 cK2 cK3 cK4 cK5 cK6 cK7 cK8 cK9 dK0 dK1 dK2 dK3 dK4 dK5 dK6 dK7 dK8 dK9 cW0 cW1 cW2 cW3 dW0 dW1 dW2 dW3
  change Calls _ _ _ (v5.alloc (.cells #[.int .i64 e, .bool p.u, .int .u64 (n64 p.k), .int .u64 (n64 p.l), .slice (some ⟨g_x1, 0, none⟩) p.rs.length p.rs.length, .bool q.u, .int .u64 (n64 q.k), .int .u64 (n64 q.l), .slice (some ⟨g_x2, 0, none⟩) q.rs.length q.rs.length, .bool t] 29)) _
  generalize v5.alloc (.cells #[.int .i64 e, .bool p.u, .int .u64 (n64 p.k), .int .u64 (n64 p.l), .slice (some ⟨g_x1, 0, none⟩) p.rs.length p.rs.length, .bool q.u, .int .u64 (n64 q.k), .int .u64 (n64 q.l), .slice (some ⟨g_x2, 0, none⟩) q.rs.length q.rs.length, .bool t] 29) = v6 at KXn Bn KKn KWn Os1n Os2n Own Ox1n Ox2n ⊢
  generalize v5.heap.size = g_X at KXn n_K_X n_W_X n_s1_X n_s2_X n_w_X n_x1_X n_x2_X ⊢
  clear v5
  have KK6 := KKn
  clear KKn
  have KW6 := KWn
  clear KWn
  have KX6 := KXn
  clear KXn
  have Os16 := Os1n
  clear Os1n
  have Os26 := Os2n
  clear Os2n
  have Ow6 := Own
  clear Own
  have Ox16 := Ox1n
  clear Ox1n
  have Ox26 := Ox2n
  clear Ox2n
  have B6 := Bn
  clear Bn
  refine (C2.out g_x1 g_x2 p.rs.length q.rs.length _ (M.on_at Ox16.out) (M.on_at Ox26.out) Fp.out Fq.out).mono ?_
  rintro e v7 ⟨g_g, c_g, rfl, ho_g, hb⟩
  have n_K_g : g_K ≠ g_g := by have h1 := KK6.out.lt; have h2 := (ho_g.lt g_g rfl).1; omega
  have n_W_g : g_W ≠ g_g := by have h1 := KW6.out.lt; have h2 := (ho_g.lt g_g rfl).1; omega
  have n_X_g : g_X ≠ g_g := by have h1 := KX6.out.lt; have h2 := (ho_g.lt g_g rfl).1; omega
  have n_s1_g : g_s1 ≠ g_g := by have h1 := (Os16.out.lt g_s1 rfl).2; have h2 := (ho_g.lt g_g rfl).1; omega
  have n_s2_g : g_s2 ≠ g_g := by have h1 := (Os26.out.lt g_s2 rfl).2; have h2 := (ho_g.lt g_g rfl).1; omega
  have n_w_g : g_w ≠ g_g := by have h1 := (Ow6.out.lt g_w rfl).2; have h2 := (ho_g.lt g_g rfl).1; omega
  have n_x1_g : g_x1 ≠ g_g := by have h1 := (Ox16.out.lt g_x1 rfl).2; have h2 := (ho_g.lt g_g rfl).1; omega
  have n_x2_g : g_x2 ≠ g_g := by have h1 := (Ox26.out.lt g_x2 rfl).2; have h2 := (ho_g.lt g_g rfl).1; omega
  have l_g : w.heap.size ≤ g_g := Nat.le_trans B6.out.size (ho_g.lt g_g rfl).1
  have B7 := Lib.hid (B6.out.trans (hb.mono B6.out.size))
  have KK7 := Lib.hid (KK6.out.below hb)
  have KW7 := Lib.hid (KW6.out.below hb)
  have KX7 := Lib.hid (KX6.out.below hb)
  have Os17 := Lib.hid (Os16.out.kept (below_any (row := none) hb) (.inr (by simp [Value.ownBlock])))
  have Os27 := Lib.hid (Os26.out.kept (below_any (row := none) hb) (.inr (by simp [Value.ownBlock])))
  have Ow7 := Lib.hid (Ow6.out.kept (below_any (row := none) hb) (.inr (by simp [Value.ownBlock])))
  have Ox17 := Lib.hid (Ox16.out.kept (below_any (row := none) hb) (.inr (by simp [Value.ownBlock])))
  have Ox27 := Lib.hid (Ox26.out.kept (below_any (row := none) hb) (.inr (by simp [Value.ownBlock])))
  have Og7 := Lib.hid (own_down ho_g (Nat.zero_le _))
  clear hb B6 KK6 KW6 KX6 Os16 Os26 Ow6 Ox16 Ox26 ho_g
  have KGn := Lib.hid (Blk.new v7 [.bool m.u, .int .u64 (n64 m.k), .int .u64 (n64 m.l), .slice (some ⟨g_g, 0, none⟩) m.rs.length c_g] 27)
  have n_K_G : g_K ≠ v7.heap.size := by have h1 := KK7.out.lt; omega
  have n_W_G : g_W ≠ v7.heap.size := by have h1 := KW7.out.lt; omega
  have n_X_G : g_X ≠ v7.heap.size := by have h1 := KX7.out.lt; omega
  have n_s1_G : g_s1 ≠ v7.heap.size := by have h1 := (Os17.out.lt g_s1 rfl).2; omega
  have n_s2_G : g_s2 ≠ v7.heap.size := by have h1 := (Os27.out.lt g_s2 rfl).2; omega
  have n_w_G : g_w ≠ v7.heap.size := by have h1 := (Ow7.out.lt g_w rfl).2; omega
  have n_x1_G : g_x1 ≠ v7.heap.size := by have h1 := (Ox17.out.lt g_x1 rfl).2; omega
  have n_x2_G : g_x2 ≠ v7.heap.size := by have h1 := (Ox27.out.lt g_x2 rfl).2; omega
  have n_g_G : g_g ≠ v7.heap.size := by have h1 := (Og7.out.lt g_g rfl).2; omega
  have Bn := Lib.hid (B7.out.alloc B7.out.size (.cells #[.bool m.u, .int .u64 (n64 m.k), .int .u64 (n64 m.l), .slice (some ⟨g_g, 0, none⟩) m.rs.length c_g] 27))
  have KKn := Lib.hid (KK7.out.alloc (.cells #[.bool m.u, .int .u64 (n64 m.k), .int .u64 (n64 m.l), .slice (some ⟨g_g, 0, none⟩) m.rs.length c_g] 27))
  have KWn := Lib.hid (KW7.out.alloc (.cells #[.bool m.u, .int .u64 (n64 m.k), .int .u64 (n64 m.l), .slice (some ⟨g_g, 0, none⟩) m.rs.length c_g] 27))
  have KXn := Lib.hid (KX7.out.alloc (.cells #[.bool m.u, .int .u64 (n64 m.k), .int .u64 (n64 m.l), .slice (some ⟨g_g, 0, none⟩) m.rs.length c_g] 27))
  have Os1n := Lib.hid (Os17.out.alloc (.cells #[.bool m.u, .int .u64 (n64 m.k), .int .u64 (n64 m.l), .slice (some ⟨g_g, 0, none⟩) m.rs.length c_g] 27))
  have Os2n := Lib.hid (Os27.out.alloc (.cells #[.bool m.u, .int .u64 (n64 m.k), .int .u64 (n64 m.l), .slice (some ⟨g_g, 0, none⟩) m.rs.length c_g] 27))
  have Own := Lib.hid (Ow7.out.alloc (.cells #[.bool m.u, .int .u64 (n64 m.k), .int .u64 (n64 m.l), .slice (some ⟨g_g, 0, none⟩) m.rs.length c_g] 27))
  have Ox1n := Lib.hid (Ox17.out.alloc (.cells #[.bool m.u, .int .u64 (n64 m.k), .int .u64 (n64 m.l), .slice (some ⟨g_g, 0, none⟩) m.rs.length c_g] 27))
  have Ox2n := Lib.hid (Ox27.out.alloc (.cells #[.bool m.u, .int .u64 (n64 m.k), .int .u64 (n64 m.l), .slice (some ⟨g_g, 0, none⟩) m.rs.length c_g] 27))
  have Ogn := Lib.hid (Og7.out.alloc (.cells #[.bool m.u, .int .u64 (n64 m.k), .int .u64 (n64 m.l), .slice (some ⟨g_g, 0, none⟩) m.rs.length c_g] 27))
  clear B7 KK7 KW7 KX7 Os17 Os27 Ow7 Ox17 Ox27 Og7
  obtain ⟨⟨cK0, cK1, cK2, cK3, cK4, cK5, cK6, cK7, cK8, cK9⟩, dK0, dK1, dK2, dK3, dK4, dK5, dK6, dK7, dK8, dK9⟩ := KKn.out.of10
  obtain ⟨⟨cW0, cW1, cW2, cW3⟩, dW0, dW1, dW2, dW3⟩ := KWn.out.four
  obtain ⟨⟨cX0, cX1, cX2, cX3, cX4, cX5, cX6, cX7, cX8, cX9⟩, dX0, dX1, dX2, dX3, dX4, dX5, dX6, dX7, dX8, dX9⟩ := KXn.out.of10
  go_wp2_with fail
  clear cK0 cK1 cK2 cK3 cK4 cK5 cK6 cK7 cK8 cK9 dK0 dK1 dK2 dK3 dK4 dK5 dK6 dK7 dK8 dK9 cW0 cW1 cW2 cW3 dW0 dW1 dW2 dW3 cX0 cX1 cX2 cX3 cX4 cX5 cX6 cX7 cX8 cX9 dX0 dX1 dX2 dX3 dX4 dX5 dX6 dX7 dX8 dX9
  change Calls _ _ _ (v7.alloc (.cells #[.bool m.u, .int .u64 (n64 m.k), .int .u64 (n64 m.l), .slice (some ⟨g_g, 0, none⟩) m.rs.length c_g] 27)) _
  generalize v7.alloc (.cells #[.bool m.u, .int .u64 (n64 m.k), .int .u64 (n64 m.l), .slice (some ⟨g_g, 0, none⟩) m.rs.length c_g] 27) = v8 at KGn Bn KKn KWn KXn Os1n Os2n Own Ox1n Ox2n Ogn ⊢
  generalize v7.heap.size = g_G at KGn n_K_G n_W_G n_X_G n_s1_G n_s2_G n_w_G n_x1_G n_x2_G n_g_G ⊢
  clear v7
  have KK8 := KKn
  clear KKn
  have KW8 := KWn
  clear KWn
  have KX8 := KXn
  clear KXn
  have KG8 := KGn
  clear KGn
  have Os18 := Os1n
  clear Os1n
  have Os28 := Os2n
  clear Os2n
  have Ow8 := Own
  clear Own
  have Ox18 := Ox1n
  clear Ox1n
  have Ox28 := Ox2n
  clear Ox2n
  have Og8 := Ogn
  clear Ogn
  have B8 := Bn
  clear Bn
  refine (eqMac_self m.u (n64 m.k) (n64 m.l) (some ⟨g_g, 0, none⟩) (some ⟨g_w, 0, none⟩) c_g c_w m.rs _ (Row.ownK Og8.out) (Row.ownK Ow8.out) fm.out).mono ?_
  rintro e v9 ⟨rfl, hb⟩
  have B9 := Lib.hid (B8.out.trans (hb.mono B8.out.size))
  have KK9 := Lib.hid (KK8.out.below hb)
  have KW9 := Lib.hid (KW8.out.below hb)
  have KX9 := Lib.hid (KX8.out.below hb)
  have KG9 := Lib.hid (KG8.out.below hb)
  have Os19 := Lib.hid (Os18.out.kept (below_any (row := none) hb) (.inr (by simp [Value.ownBlock])))
  have Os29 := Lib.hid (Os28.out.kept (below_any (row := none) hb) (.inr (by simp [Value.ownBlock])))
  have Ow9 := Lib.hid (Ow8.out.kept (below_any (row := none) hb) (.inr (by simp [Value.ownBlock])))
  have Ox19 := Lib.hid (Ox18.out.kept (below_any (row := none) hb) (.inr (by simp [Value.ownBlock])))
  have Ox29 := Lib.hid (Ox28.out.kept (below_any (row := none) hb) (.inr (by simp [Value.ownBlock])))
  have Og9 := Lib.hid (Og8.out.kept (below_any (row := none) hb) (.inr (by simp [Value.ownBlock])))
  clear hb B8 KK8 KW8 KX8 KG8 Os18 Os28 Ow8 Ox18 Ox28 Og8
  obtain ⟨⟨cK0, cK1, cK2, cK3, cK4, cK5, cK6, cK7, cK8, cK9⟩, dK0, dK1, dK2, dK3, dK4, dK5, dK6, dK7, dK8, dK9⟩ := KK9.out.of10
  obtain ⟨⟨cW0, cW1, cW2, cW3⟩, dW0, dW1, dW2, dW3⟩ := KW9.out.four
  obtain ⟨⟨cX0, cX1, cX2, cX3, cX4, cX5, cX6, cX7, cX8, cX9⟩, dX0, dX1, dX2, dX3, dX4, dX5, dX6, dX7, dX8, dX9⟩ := KX9.out.of10
  obtain ⟨⟨cG0, cG1, cG2, cG3⟩, dG0, dG1, dG2, dG3⟩ := KG9.out.four
  go_wp2_with fail
  clear cK0 cK1 cK2 cK3 cK4 cK5 cK6 cK7 cK8 cK9 dK0 dK1 dK2 dK3 dK4 dK5 dK6 dK7 dK8 dK9 cW0 cW1 cW2 cW3 dW0 dW1 dW2 dW3 cX0 cX1 cX2 cX3 cX4 cX5 cX6 cX7 cX8 cX9 dX0 dX1 dX2 dX3 dX4 dX5 dX6 dX7 dX8 dX9 cG0 cG1 cG2 cG3 dG0 dG1 dG2 dG3
  obtain ⟨⟨cK0, cK1, cK2, cK3, cK4, cK5, cK6, cK7, cK8, cK9⟩, dK0, dK1, dK2, dK3, dK4, dK5, dK6, dK7, dK8, dK9⟩ := KK9.out.of10
  obtain ⟨⟨cX0, cX1, cX2, cX3, cX4, cX5, cX6, cX7, cX8, cX9⟩, dX0, dX1, dX2, dX3, dX4, dX5, dX6, dX7, dX8, dX9⟩ := KX9.out.of10
  have P9_0 : True := trivial
  have P9_1 : True := trivial
  go_region_held3 (fun w' => (w'.cell? ⟨g_X, 0, none⟩ = some (.int .i64 e) ∧ w'.cell? ⟨g_X, 1, none⟩ = some (.bool p.u) ∧ w'.cell? ⟨g_X, 2, none⟩ = some (.int .u64 (n64 p.k)) ∧ w'.cell? ⟨g_X, 3, none⟩ = some (.int .u64 (n64 p.l)) ∧ w'.cell? ⟨g_X, 4, none⟩ = some (.slice (some ⟨g_x1, 0, none⟩) p.rs.length p.rs.length) ∧ w'.cell? ⟨g_X, 5, none⟩ = some (.bool q.u) ∧ w'.cell? ⟨g_X, 6, none⟩ = some (.int .u64 (n64 q.k)) ∧ w'.cell? ⟨g_X, 7, none⟩ = some (.int .u64 (n64 q.l)) ∧ w'.cell? ⟨g_X, 8, none⟩ = some (.slice (some ⟨g_x2, 0, none⟩) q.rs.length q.rs.length) ∧ w'.cell? ⟨g_X, 9, none⟩ = some (.bool t)) ∧ (w'.cell? ⟨g_K, 0, none⟩ = some (.int .i64 e) ∧ w'.cell? ⟨g_K, 1, none⟩ = some (.bool p.u) ∧ w'.cell? ⟨g_K, 2, none⟩ = some (.int .u64 (n64 p.k)) ∧ w'.cell? ⟨g_K, 3, none⟩ = some (.int .u64 (n64 p.l)) ∧ w'.cell? ⟨g_K, 4, none⟩ = some (.slice p.a p.rs.length p.c) ∧ w'.cell? ⟨g_K, 5, none⟩ = some (.bool q.u) ∧ w'.cell? ⟨g_K, 6, none⟩ = some (.int .u64 (n64 q.k)) ∧ w'.cell? ⟨g_K, 7, none⟩ = some (.int .u64 (n64 q.l)) ∧ w'.cell? ⟨g_K, 8, none⟩ = some (.slice q.a q.rs.length q.c) ∧ w'.cell? ⟨g_K, 9, none⟩ = some (.bool t)))
    (first | go_keep | (exact ⟨KX10.out.of10.1, KK10.out.of10.1⟩) | (exact ⟨KX11.out.of10.1, KK11.out.of10.1⟩))
    (first | (have q := P9_0; go_at_call 27; clear q P9_0; refine (toKeys_any e p q t _ ((HP.out.2.below B9.out.drew).mono B9.out.drew.size) ((HQ.out.2.below B9.out.drew).mono B9.out.drew.size) fp.out fq.out).mono ?_; rintro e v10 ⟨g_z1, g_z2, n_z1_z2, rfl, ho_z1, ho_z2, hb⟩; replace hb := (Below.refl _ v9).drew.trans hb; replace ho_z2 := own_down ho_z2 (show v9.heap.size ≤ v9.drew.heap.size from Nat.le_refl _); replace ho_z1 := own_down ho_z1 (show v9.heap.size ≤ v9.drew.heap.size from Nat.le_refl _); have n_K_z1 : g_K ≠ g_z1 := (by have h1 := KK9.out.lt; have h2 := (ho_z1.lt g_z1 rfl).1; omega); have n_W_z1 : g_W ≠ g_z1 := (by have h1 := KW9.out.lt; have h2 := (ho_z1.lt g_z1 rfl).1; omega); have n_X_z1 : g_X ≠ g_z1 := (by have h1 := KX9.out.lt; have h2 := (ho_z1.lt g_z1 rfl).1; omega); have n_G_z1 : g_G ≠ g_z1 := (by have h1 := KG9.out.lt; have h2 := (ho_z1.lt g_z1 rfl).1; omega); have n_s1_z1 : g_s1 ≠ g_z1 := (by have h1 := (Os19.out.lt g_s1 rfl).2; have h2 := (ho_z1.lt g_z1 rfl).1; omega); have n_s2_z1 : g_s2 ≠ g_z1 := (by have h1 := (Os29.out.lt g_s2 rfl).2; have h2 := (ho_z1.lt g_z1 rfl).1; omega); have n_w_z1 : g_w ≠ g_z1 := (by have h1 := (Ow9.out.lt g_w rfl).2; have h2 := (ho_z1.lt g_z1 rfl).1; omega); have n_x1_z1 : g_x1 ≠ g_z1 := (by have h1 := (Ox19.out.lt g_x1 rfl).2; have h2 := (ho_z1.lt g_z1 rfl).1; omega); have n_x2_z1 : g_x2 ≠ g_z1 := (by have h1 := (Ox29.out.lt g_x2 rfl).2; have h2 := (ho_z1.lt g_z1 rfl).1; omega); have n_g_z1 : g_g ≠ g_z1 := (by have h1 := (Og9.out.lt g_g rfl).2; have h2 := (ho_z1.lt g_z1 rfl).1; omega); have l_z1 : w.heap.size ≤ g_z1 := Nat.le_trans B9.out.size (ho_z1.lt g_z1 rfl).1; have n_K_z2 : g_K ≠ g_z2 := (by have h1 := KK9.out.lt; have h2 := (ho_z2.lt g_z2 rfl).1; omega); have n_W_z2 : g_W ≠ g_z2 := (by have h1 := KW9.out.lt; have h2 := (ho_z2.lt g_z2 rfl).1; omega); have n_X_z2 : g_X ≠ g_z2 := (by have h1 := KX9.out.lt; have h2 := (ho_z2.lt g_z2 rfl).1; omega); have n_G_z2 : g_G ≠ g_z2 := (by have h1 := KG9.out.lt; have h2 := (ho_z2.lt g_z2 rfl).1; omega); have n_s1_z2 : g_s1 ≠ g_z2 := (by have h1 := (Os19.out.lt g_s1 rfl).2; have h2 := (ho_z2.lt g_z2 rfl).1; omega); have n_s2_z2 : g_s2 ≠ g_z2 := (by have h1 := (Os29.out.lt g_s2 rfl).2; have h2 := (ho_z2.lt g_z2 rfl).1; omega); have n_w_z2 : g_w ≠ g_z2 := (by have h1 := (Ow9.out.lt g_w rfl).2; have h2 := (ho_z2.lt g_z2 rfl).1; omega); have n_x1_z2 : g_x1 ≠ g_z2 := (by have h1 := (Ox19.out.lt g_x1 rfl).2; have h2 := (ho_z2.lt g_z2 rfl).1; omega); have n_x2_z2 : g_x2 ≠ g_z2 := (by have h1 := (Ox29.out.lt g_x2 rfl).2; have h2 := (ho_z2.lt g_z2 rfl).1; omega); have n_g_z2 : g_g ≠ g_z2 := (by have h1 := (Og9.out.lt g_g rfl).2; have h2 := (ho_z2.lt g_z2 rfl).1; omega); have l_z2 : w.heap.size ≤ g_z2 := Nat.le_trans B9.out.size (ho_z2.lt g_z2 rfl).1; have B10 := Lib.hid (B9.out.trans (hb.mono B9.out.size)); have KK10 := Lib.hid (KK9.out.below hb); have KW10 := Lib.hid (KW9.out.below hb); have KX10 := Lib.hid (KX9.out.below hb); have KG10 := Lib.hid (KG9.out.below hb); have Os110 := Lib.hid (Os19.out.kept (below_any (row := none) hb) (.inr (by simp [Value.ownBlock]))); have Os210 := Lib.hid (Os29.out.kept (below_any (row := none) hb) (.inr (by simp [Value.ownBlock]))); have Ow10 := Lib.hid (Ow9.out.kept (below_any (row := none) hb) (.inr (by simp [Value.ownBlock]))); have Ox110 := Lib.hid (Ox19.out.kept (below_any (row := none) hb) (.inr (by simp [Value.ownBlock]))); have Ox210 := Lib.hid (Ox29.out.kept (below_any (row := none) hb) (.inr (by simp [Value.ownBlock]))); have Og10 := Lib.hid (Og9.out.kept (below_any (row := none) hb) (.inr (by simp [Value.ownBlock]))); have Oz110 := Lib.hid (own_down ho_z1 (Nat.zero_le _)); have Oz210 := Lib.hid (own_down ho_z2 (Nat.zero_le _)); clear hb B9 KK9 KW9 KX9 KG9 Os19 Os29 Ow9 Ox19 Ox29 Og9 ho_z1 ho_z2) | (have q := P9_1; go_at_call 28; clear q P9_1; refine (eqKeys_self e p q t (some ⟨g_x1, 0, none⟩) (some ⟨g_x2, 0, none⟩) (some ⟨g_z1, 0, none⟩) (some ⟨g_z2, 0, none⟩) p.rs.length q.rs.length p.rs.length q.rs.length _ (Row.ownK Ox110.out) (Row.ownK Ox210.out) (Row.ownK Oz110.out) (Row.ownK Oz210.out) fp.out fq.out).mono ?_; rintro e v11 ⟨rfl, hb⟩; have B11 := Lib.hid (B10.out.trans (hb.mono B10.out.size)); have KK11 := Lib.hid (KK10.out.below hb); have KW11 := Lib.hid (KW10.out.below hb); have KX11 := Lib.hid (KX10.out.below hb); have KG11 := Lib.hid (KG10.out.below hb); have Os111 := Lib.hid (Os110.out.kept (below_any (row := none) hb) (.inr (by simp [Value.ownBlock]))); have Os211 := Lib.hid (Os210.out.kept (below_any (row := none) hb) (.inr (by simp [Value.ownBlock]))); have Ow11 := Lib.hid (Ow10.out.kept (below_any (row := none) hb) (.inr (by simp [Value.ownBlock]))); have Ox111 := Lib.hid (Ox110.out.kept (below_any (row := none) hb) (.inr (by simp [Value.ownBlock]))); have Ox211 := Lib.hid (Ox210.out.kept (below_any (row := none) hb) (.inr (by simp [Value.ownBlock]))); have Og11 := Lib.hid (Og10.out.kept (below_any (row := none) hb) (.inr (by simp [Value.ownBlock]))); have Oz111 := Lib.hid (Oz110.out.kept (below_any (row := none) hb) (.inr (by simp [Value.ownBlock]))); have Oz211 := Lib.hid (Oz210.out.kept (below_any (row := none) hb) (.inr (by simp [Value.ownBlock]))); clear hb B10 KK10 KW10 KX10 KG10 Os110 Os210 Ow10 Ox110 Ox210 Og10 Oz110 Oz210))
  try clear cK0 cK1 cK2 cK3 cK4 cK5 cK6 cK7 cK8 cK9 dK0 dK1 dK2 dK3 dK4 dK5 dK6 dK7 dK8 dK9 cX0 cX1 cX2 cX3 cX4 cX5 cX6 cX7 cX8 cX9 dX0 dX1 dX2 dX3 dX4 dX5 dX6 dX7 dX8 dX9
  obtain ⟨⟨cK0, cK1, cK2, cK3, cK4, cK5, cK6, cK7, cK8, cK9⟩, dK0, dK1, dK2, dK3, dK4, dK5, dK6, dK7, dK8, dK9⟩ := KK11.out.of10
  obtain ⟨⟨cW0, cW1, cW2, cW3⟩, dW0, dW1, dW2, dW3⟩ := KW11.out.four
  obtain ⟨⟨cX0, cX1, cX2, cX3, cX4, cX5, cX6, cX7, cX8, cX9⟩, dX0, dX1, dX2, dX3, dX4, dX5, dX6, dX7, dX8, dX9⟩ := KX11.out.of10
  obtain ⟨⟨cG0, cG1, cG2, cG3⟩, dG0, dG1, dG2, dG3⟩ := KG11.out.four
  go_wp2_with fail
  clear cK0 cK1 cK2 cK3 cK4 cK5 cK6 cK7 cK8 cK9 dK0 dK1 dK2 dK3 dK4 dK5 dK6 dK7 dK8 dK9 cW0 cW1 cW2 cW3 dW0 dW1 dW2 dW3 cX0 cX1 cX2 cX3 cX4 cX5 cX6 cX7 cX8 cX9 dX0 dX1 dX2 dX3 dX4 dX5 dX6 dX7 dX8 dX9 cG0 cG1 cG2 cG3 dG0 dG1 dG2 dG3
  refine (markKeys_any e p q t 0 g_x1 g_x2 p.rs.length q.rs.length 1 _ Ox111.out Ox211.out n_x1_x2 (by decide) (by have := fp.out; omega) (Nat.le_succ_of_le fp.out) (Nat.le_succ_of_le fq.out)).mono ?_
  rintro e v13 ⟨rfl, ho1, ho2, v12, hg1, hg2⟩
  have B12 := Lib.hid (B11.out.trans (grown_below hg1 l_x1 B11.out.size))
  have KK12 := Lib.hid (KK11.out.grown hg1 (n_K_x1))
  have KW12 := Lib.hid (KW11.out.grown hg1 (n_W_x1))
  have KX12 := Lib.hid (KX11.out.grown hg1 (fun e => n_x1_X e.symm))
  have KG12 := Lib.hid (KG11.out.grown hg1 (fun e => n_x1_G e.symm))
  have Os112 := Lib.hid (Os111.out.kept hg1 (.inr (own_ne (n_s1_x1))))
  have Os212 := Lib.hid (Os211.out.kept hg1 (.inr (own_ne (n_s2_x1))))
  have Ow12 := Lib.hid (Ow11.out.kept hg1 (.inr (own_ne (n_w_x1))))
  have Og12 := Lib.hid (Og11.out.kept hg1 (.inr (own_ne (fun e => n_x1_g e.symm))))
  have Oz112 := Lib.hid (Oz111.out.kept hg1 (.inr (own_ne (fun e => n_x1_z1 e.symm))))
  have Oz212 := Lib.hid (Oz211.out.kept hg1 (.inr (own_ne (fun e => n_x1_z2 e.symm))))
  clear B11 KK11 KW11 KX11 KG11 Os111 Os211 Ow11 Ox111 Ox211 Og11 Oz111 Oz211
  have B13 := Lib.hid (B12.out.trans (grown_below hg2 l_x2 B12.out.size))
  have KK13 := Lib.hid (KK12.out.grown hg2 (n_K_x2))
  have KW13 := Lib.hid (KW12.out.grown hg2 (n_W_x2))
  have KX13 := Lib.hid (KX12.out.grown hg2 (fun e => n_x2_X e.symm))
  have KG13 := Lib.hid (KG12.out.grown hg2 (fun e => n_x2_G e.symm))
  have Os113 := Lib.hid (Os112.out.kept hg2 (.inr (own_ne (n_s1_x2))))
  have Os213 := Lib.hid (Os212.out.kept hg2 (.inr (own_ne (n_s2_x2))))
  have Ow13 := Lib.hid (Ow12.out.kept hg2 (.inr (own_ne (n_w_x2))))
  have Og13 := Lib.hid (Og12.out.kept hg2 (.inr (own_ne (fun e => n_x2_g e.symm))))
  have Oz113 := Lib.hid (Oz112.out.kept hg2 (.inr (own_ne (fun e => n_x2_z1 e.symm))))
  have Oz213 := Lib.hid (Oz212.out.kept hg2 (.inr (own_ne (fun e => n_x2_z2 e.symm))))
  clear B12 KK12 KW12 KX12 KG12 Os112 Os212 Ow12 Og12 Oz112 Oz212
  have Ox113 := Lib.hid ho1
  have Ox213 := Lib.hid ho2
  clear ho1 ho2 hg1 hg2
  have hk1 : (0 : Int) ≤ ((1 + 2 * p.rs.length + 2 * q.rs.length : Nat) : Int) := Int.natCast_nonneg _
  obtain ⟨⟨cK0, cK1, cK2, cK3, cK4, cK5, cK6, cK7, cK8, cK9⟩, dK0, dK1, dK2, dK3, dK4, dK5, dK6, dK7, dK8, dK9⟩ := KK13.out.of10
  obtain ⟨⟨cW0, cW1, cW2, cW3⟩, dW0, dW1, dW2, dW3⟩ := KW13.out.four
  obtain ⟨⟨cX0, cX1, cX2, cX3, cX4, cX5, cX6, cX7, cX8, cX9⟩, dX0, dX1, dX2, dX3, dX4, dX5, dX6, dX7, dX8, dX9⟩ := KX13.out.of10
  obtain ⟨⟨cG0, cG1, cG2, cG3⟩, dG0, dG1, dG2, dG3⟩ := KG13.out.four
  go_wp2_with fail
  clear cK0 cK1 cK2 cK3 cK4 cK5 cK6 cK7 cK8 cK9 dK0 dK1 dK2 dK3 dK4 dK5 dK6 dK7 dK8 dK9 cW0 cW1 cW2 cW3 dW0 dW1 dW2 dW3 cX0 cX1 cX2 cX3 cX4 cX5 cX6 cX7 cX8 cX9 dX0 dX1 dX2 dX3 dX4 dX5 dX6 dX7 dX8 dX9 cG0 cG1 cG2 cG3 dG0 dG1 dG2 dG3
  refine (eqMac_self m.u (n64 m.k) (n64 m.l) (some ⟨g_g, 0, none⟩) (some ⟨g_w, 0, none⟩) c_g c_w m.rs _ (Row.ownK Og13.out) (Row.ownK Ow13.out) fm.out).mono ?_
  rintro e v14 ⟨rfl, hb⟩
  have B14 := Lib.hid (B13.out.trans (hb.mono B13.out.size))
  have KK14 := Lib.hid (KK13.out.below hb)
  have KW14 := Lib.hid (KW13.out.below hb)
  have KX14 := Lib.hid (KX13.out.below hb)
  have KG14 := Lib.hid (KG13.out.below hb)
  have Os114 := Lib.hid (Os113.out.kept (below_any (row := none) hb) (.inr (by simp [Value.ownBlock])))
  have Os214 := Lib.hid (Os213.out.kept (below_any (row := none) hb) (.inr (by simp [Value.ownBlock])))
  have Ow14 := Lib.hid (Ow13.out.kept (below_any (row := none) hb) (.inr (by simp [Value.ownBlock])))
  have Ox114 := Lib.hid (Ox113.out.kept (below_any (row := none) hb) (.inr (by simp [Value.ownBlock])))
  have Ox214 := Lib.hid (Ox213.out.kept (below_any (row := none) hb) (.inr (by simp [Value.ownBlock])))
  have Og14 := Lib.hid (Og13.out.kept (below_any (row := none) hb) (.inr (by simp [Value.ownBlock])))
  have Oz114 := Lib.hid (Oz113.out.kept (below_any (row := none) hb) (.inr (by simp [Value.ownBlock])))
  have Oz214 := Lib.hid (Oz213.out.kept (below_any (row := none) hb) (.inr (by simp [Value.ownBlock])))
  clear hb B13 KK13 KW13 KX13 KG13 Os113 Os213 Ow13 Ox113 Ox213 Og13 Oz113 Oz213
  obtain ⟨⟨cK0, cK1, cK2, cK3, cK4, cK5, cK6, cK7, cK8, cK9⟩, dK0, dK1, dK2, dK3, dK4, dK5, dK6, dK7, dK8, dK9⟩ := KK14.out.of10
  obtain ⟨⟨cW0, cW1, cW2, cW3⟩, dW0, dW1, dW2, dW3⟩ := KW14.out.four
  obtain ⟨⟨cX0, cX1, cX2, cX3, cX4, cX5, cX6, cX7, cX8, cX9⟩, dX0, dX1, dX2, dX3, dX4, dX5, dX6, dX7, dX8, dX9⟩ := KX14.out.of10
  obtain ⟨⟨cG0, cG1, cG2, cG3⟩, dG0, dG1, dG2, dG3⟩ := KG14.out.four
  go_wp2_with fail
  clear cK0 cK1 cK2 cK3 cK4 cK5 cK6 cK7 cK8 cK9 dK0 dK1 dK2 dK3 dK4 dK5 dK6 dK7 dK8 dK9 cW0 cW1 cW2 cW3 dW0 dW1 dW2 dW3 cX0 cX1 cX2 cX3 cX4 cX5 cX6 cX7 cX8 cX9 dX0 dX1 dX2 dX3 dX4 dX5 dX6 dX7 dX8 dX9 cG0 cG1 cG2 cG3 dG0 dG1 dG2 dG3
  refine (markMac_any m.u (n64 m.k) (n64 m.l) 0 g_g m.rs.length c_g 1 m.rs _ rfl Og14.out (by decide) (by decide) (Nat.le_succ_of_le fm.out)).mono ?_
  rintro e v15 ⟨rfl, ho, hg⟩
  have B15 := Lib.hid (B14.out.trans (grown_below hg l_g B14.out.size))
  have KK15 := Lib.hid (KK14.out.grown hg (n_K_g))
  have KW15 := Lib.hid (KW14.out.grown hg (n_W_g))
  have KX15 := Lib.hid (KX14.out.grown hg (n_X_g))
  have KG15 := Lib.hid (KG14.out.grown hg (fun e => n_g_G e.symm))
  have Os115 := Lib.hid (Os114.out.kept hg (.inr (own_ne (n_s1_g))))
  have Os215 := Lib.hid (Os214.out.kept hg (.inr (own_ne (n_s2_g))))
  have Ow15 := Lib.hid (Ow14.out.kept hg (.inr (own_ne (n_w_g))))
  have Ox115 := Lib.hid (Ox114.out.kept hg (.inr (own_ne (n_x1_g))))
  have Ox215 := Lib.hid (Ox214.out.kept hg (.inr (own_ne (n_x2_g))))
  have Og15 := Lib.hid ho
  have Oz115 := Lib.hid (Oz114.out.kept hg (.inr (own_ne (fun e => n_g_z1 e.symm))))
  have Oz215 := Lib.hid (Oz214.out.kept hg (.inr (own_ne (fun e => n_g_z2 e.symm))))
  clear hg B14 KK14 KW14 KX14 KG14 Os114 Os214 Ow14 Ox114 Ox214 Og14 Oz114 Oz214 ho
  obtain ⟨⟨cK0, cK1, cK2, cK3, cK4, cK5, cK6, cK7, cK8, cK9⟩, dK0, dK1, dK2, dK3, dK4, dK5, dK6, dK7, dK8, dK9⟩ := KK15.out.of10
  obtain ⟨⟨cW0, cW1, cW2, cW3⟩, dW0, dW1, dW2, dW3⟩ := KW15.out.four
  obtain ⟨⟨cX0, cX1, cX2, cX3, cX4, cX5, cX6, cX7, cX8, cX9⟩, dX0, dX1, dX2, dX3, dX4, dX5, dX6, dX7, dX8, dX9⟩ := KX15.out.of10
  obtain ⟨⟨cG0, cG1, cG2, cG3⟩, dG0, dG1, dG2, dG3⟩ := KG15.out.four
  go_wp2_with fail
  clear cK0 cK1 cK2 cK3 cK4 cK5 cK6 cK7 cK8 cK9 dK0 dK1 dK2 dK3 dK4 dK5 dK6 dK7 dK8 dK9 cW0 cW1 cW2 cW3 dW0 dW1 dW2 dW3 cX0 cX1 cX2 cX3 cX4 cX5 cX6 cX7 cX8 cX9 dX0 dX1 dX2 dX3 dX4 dX5 dX6 dX7 dX8 dX9 cG0 cG1 cG2 cG3 dG0 dG1 dG2 dG3
  refine (heldMac_any m.u (n64 m.k) (n64 m.l) (some ⟨g_g, 0, none⟩) m.rs.length c_g 1 _ (Row.ownK Og15.out) (by decide) (by decide) (Nat.le_succ_of_le fm.out)).mono ?_
  rintro e v16 ⟨rfl, hb⟩
  have B16 := Lib.hid (B15.out.trans (hb.mono B15.out.size))
  have KK16 := Lib.hid (KK15.out.below hb)
  have KW16 := Lib.hid (KW15.out.below hb)
  have KX16 := Lib.hid (KX15.out.below hb)
  have KG16 := Lib.hid (KG15.out.below hb)
  have Os116 := Lib.hid (Os115.out.kept (below_any (row := none) hb) (.inr (by simp [Value.ownBlock])))
  have Os216 := Lib.hid (Os215.out.kept (below_any (row := none) hb) (.inr (by simp [Value.ownBlock])))
  have Ow16 := Lib.hid (Ow15.out.kept (below_any (row := none) hb) (.inr (by simp [Value.ownBlock])))
  have Ox116 := Lib.hid (Ox115.out.kept (below_any (row := none) hb) (.inr (by simp [Value.ownBlock])))
  have Ox216 := Lib.hid (Ox215.out.kept (below_any (row := none) hb) (.inr (by simp [Value.ownBlock])))
  have Og16 := Lib.hid (Og15.out.kept (below_any (row := none) hb) (.inr (by simp [Value.ownBlock])))
  have Oz116 := Lib.hid (Oz115.out.kept (below_any (row := none) hb) (.inr (by simp [Value.ownBlock])))
  have Oz216 := Lib.hid (Oz215.out.kept (below_any (row := none) hb) (.inr (by simp [Value.ownBlock])))
  clear hb B15 KK15 KW15 KX15 KG15 Os115 Os215 Ow15 Ox115 Ox215 Og15 Oz115 Oz215
  have hk2 : ((1 + 2 * m.rs.length : Nat) : Int) = 1 + 2 * (m.rs.length : Int) := by omega
  obtain ⟨⟨cK0, cK1, cK2, cK3, cK4, cK5, cK6, cK7, cK8, cK9⟩, dK0, dK1, dK2, dK3, dK4, dK5, dK6, dK7, dK8, dK9⟩ := KK16.out.of10
  obtain ⟨⟨cW0, cW1, cW2, cW3⟩, dW0, dW1, dW2, dW3⟩ := KW16.out.four
  obtain ⟨⟨cX0, cX1, cX2, cX3, cX4, cX5, cX6, cX7, cX8, cX9⟩, dX0, dX1, dX2, dX3, dX4, dX5, dX6, dX7, dX8, dX9⟩ := KX16.out.of10
  obtain ⟨⟨cG0, cG1, cG2, cG3⟩, dG0, dG1, dG2, dG3⟩ := KG16.out.four
  go_wp2_with fail
  clear cK0 cK1 cK2 cK3 cK4 cK5 cK6 cK7 cK8 cK9 dK0 dK1 dK2 dK3 dK4 dK5 dK6 dK7 dK8 dK9 cW0 cW1 cW2 cW3 dW0 dW1 dW2 dW3 cX0 cX1 cX2 cX3 cX4 cX5 cX6 cX7 cX8 cX9 dX0 dX1 dX2 dX3 dX4 dX5 dX6 dX7 dX8 dX9 cG0 cG1 cG2 cG3 dG0 dG1 dG2 dG3
  refine (toKeys_any e p q t _ ((HP.out.2.below B16.out).mono B16.out.size) ((HQ.out.2.below B16.out).mono B16.out.size) fp.out fq.out).mono ?_
  rintro e v17 ⟨g_y1, g_y2, n_y1_y2, rfl, ho_y1, ho_y2, hb⟩
  have n_K_y1 : g_K ≠ g_y1 := by have h1 := KK16.out.lt; have h2 := (ho_y1.lt g_y1 rfl).1; omega
  have n_W_y1 : g_W ≠ g_y1 := by have h1 := KW16.out.lt; have h2 := (ho_y1.lt g_y1 rfl).1; omega
  have n_X_y1 : g_X ≠ g_y1 := by have h1 := KX16.out.lt; have h2 := (ho_y1.lt g_y1 rfl).1; omega
  have n_G_y1 : g_G ≠ g_y1 := by have h1 := KG16.out.lt; have h2 := (ho_y1.lt g_y1 rfl).1; omega
  have n_s1_y1 : g_s1 ≠ g_y1 := by have h1 := (Os116.out.lt g_s1 rfl).2; have h2 := (ho_y1.lt g_y1 rfl).1; omega
  have n_s2_y1 : g_s2 ≠ g_y1 := by have h1 := (Os216.out.lt g_s2 rfl).2; have h2 := (ho_y1.lt g_y1 rfl).1; omega
  have n_w_y1 : g_w ≠ g_y1 := by have h1 := (Ow16.out.lt g_w rfl).2; have h2 := (ho_y1.lt g_y1 rfl).1; omega
  have n_x1_y1 : g_x1 ≠ g_y1 := by have h1 := (Ox116.out.lt g_x1 rfl).2; have h2 := (ho_y1.lt g_y1 rfl).1; omega
  have n_x2_y1 : g_x2 ≠ g_y1 := by have h1 := (Ox216.out.lt g_x2 rfl).2; have h2 := (ho_y1.lt g_y1 rfl).1; omega
  have n_g_y1 : g_g ≠ g_y1 := by have h1 := (Og16.out.lt g_g rfl).2; have h2 := (ho_y1.lt g_y1 rfl).1; omega
  have n_z1_y1 : g_z1 ≠ g_y1 := by have h1 := (Oz116.out.lt g_z1 rfl).2; have h2 := (ho_y1.lt g_y1 rfl).1; omega
  have n_z2_y1 : g_z2 ≠ g_y1 := by have h1 := (Oz216.out.lt g_z2 rfl).2; have h2 := (ho_y1.lt g_y1 rfl).1; omega
  have l_y1 : w.heap.size ≤ g_y1 := Nat.le_trans B16.out.size (ho_y1.lt g_y1 rfl).1
  have n_K_y2 : g_K ≠ g_y2 := by have h1 := KK16.out.lt; have h2 := (ho_y2.lt g_y2 rfl).1; omega
  have n_W_y2 : g_W ≠ g_y2 := by have h1 := KW16.out.lt; have h2 := (ho_y2.lt g_y2 rfl).1; omega
  have n_X_y2 : g_X ≠ g_y2 := by have h1 := KX16.out.lt; have h2 := (ho_y2.lt g_y2 rfl).1; omega
  have n_G_y2 : g_G ≠ g_y2 := by have h1 := KG16.out.lt; have h2 := (ho_y2.lt g_y2 rfl).1; omega
  have n_s1_y2 : g_s1 ≠ g_y2 := by have h1 := (Os116.out.lt g_s1 rfl).2; have h2 := (ho_y2.lt g_y2 rfl).1; omega
  have n_s2_y2 : g_s2 ≠ g_y2 := by have h1 := (Os216.out.lt g_s2 rfl).2; have h2 := (ho_y2.lt g_y2 rfl).1; omega
  have n_w_y2 : g_w ≠ g_y2 := by have h1 := (Ow16.out.lt g_w rfl).2; have h2 := (ho_y2.lt g_y2 rfl).1; omega
  have n_x1_y2 : g_x1 ≠ g_y2 := by have h1 := (Ox116.out.lt g_x1 rfl).2; have h2 := (ho_y2.lt g_y2 rfl).1; omega
  have n_x2_y2 : g_x2 ≠ g_y2 := by have h1 := (Ox216.out.lt g_x2 rfl).2; have h2 := (ho_y2.lt g_y2 rfl).1; omega
  have n_g_y2 : g_g ≠ g_y2 := by have h1 := (Og16.out.lt g_g rfl).2; have h2 := (ho_y2.lt g_y2 rfl).1; omega
  have n_z1_y2 : g_z1 ≠ g_y2 := by have h1 := (Oz116.out.lt g_z1 rfl).2; have h2 := (ho_y2.lt g_y2 rfl).1; omega
  have n_z2_y2 : g_z2 ≠ g_y2 := by have h1 := (Oz216.out.lt g_z2 rfl).2; have h2 := (ho_y2.lt g_y2 rfl).1; omega
  have l_y2 : w.heap.size ≤ g_y2 := Nat.le_trans B16.out.size (ho_y2.lt g_y2 rfl).1
  have B17 := Lib.hid (B16.out.trans (hb.mono B16.out.size))
  have KK17 := Lib.hid (KK16.out.below hb)
  have KW17 := Lib.hid (KW16.out.below hb)
  have KX17 := Lib.hid (KX16.out.below hb)
  have KG17 := Lib.hid (KG16.out.below hb)
  have Os117 := Lib.hid (Os116.out.kept (below_any (row := none) hb) (.inr (by simp [Value.ownBlock])))
  have Os217 := Lib.hid (Os216.out.kept (below_any (row := none) hb) (.inr (by simp [Value.ownBlock])))
  have Ow17 := Lib.hid (Ow16.out.kept (below_any (row := none) hb) (.inr (by simp [Value.ownBlock])))
  have Ox117 := Lib.hid (Ox116.out.kept (below_any (row := none) hb) (.inr (by simp [Value.ownBlock])))
  have Ox217 := Lib.hid (Ox216.out.kept (below_any (row := none) hb) (.inr (by simp [Value.ownBlock])))
  have Og17 := Lib.hid (Og16.out.kept (below_any (row := none) hb) (.inr (by simp [Value.ownBlock])))
  have Oz117 := Lib.hid (Oz116.out.kept (below_any (row := none) hb) (.inr (by simp [Value.ownBlock])))
  have Oz217 := Lib.hid (Oz216.out.kept (below_any (row := none) hb) (.inr (by simp [Value.ownBlock])))
  have Oy117 := Lib.hid (own_down ho_y1 (Nat.zero_le _))
  have Oy217 := Lib.hid (own_down ho_y2 (Nat.zero_le _))
  clear hb B16 KK16 KW16 KX16 KG16 Os116 Os216 Ow16 Ox116 Ox216 Og16 Oz116 Oz216 ho_y1 ho_y2
  obtain ⟨⟨cK0, cK1, cK2, cK3, cK4, cK5, cK6, cK7, cK8, cK9⟩, dK0, dK1, dK2, dK3, dK4, dK5, dK6, dK7, dK8, dK9⟩ := KK17.out.of10
  obtain ⟨⟨cW0, cW1, cW2, cW3⟩, dW0, dW1, dW2, dW3⟩ := KW17.out.four
  obtain ⟨⟨cX0, cX1, cX2, cX3, cX4, cX5, cX6, cX7, cX8, cX9⟩, dX0, dX1, dX2, dX3, dX4, dX5, dX6, dX7, dX8, dX9⟩ := KX17.out.of10
  obtain ⟨⟨cG0, cG1, cG2, cG3⟩, dG0, dG1, dG2, dG3⟩ := KG17.out.four
  go_wp2_with fail
  clear cK0 cK1 cK2 cK3 cK4 cK5 cK6 cK7 cK8 cK9 dK0 dK1 dK2 dK3 dK4 dK5 dK6 dK7 dK8 dK9 cW0 cW1 cW2 cW3 dW0 dW1 dW2 dW3 cX0 cX1 cX2 cX3 cX4 cX5 cX6 cX7 cX8 cX9 dX0 dX1 dX2 dX3 dX4 dX5 dX6 dX7 dX8 dX9 cG0 cG1 cG2 cG3 dG0 dG1 dG2 dG3
  refine (C2.out g_y1 g_y2 p.rs.length q.rs.length _ (M.on_at Oy117.out) (M.on_at Oy217.out) Fp.out Fq.out).mono ?_
  rintro e v18 ⟨g_h, c_h, rfl, ho_h, hb⟩
  have n_K_h : g_K ≠ g_h := by have h1 := KK17.out.lt; have h2 := (ho_h.lt g_h rfl).1; omega
  have n_W_h : g_W ≠ g_h := by have h1 := KW17.out.lt; have h2 := (ho_h.lt g_h rfl).1; omega
  have n_X_h : g_X ≠ g_h := by have h1 := KX17.out.lt; have h2 := (ho_h.lt g_h rfl).1; omega
  have n_G_h : g_G ≠ g_h := by have h1 := KG17.out.lt; have h2 := (ho_h.lt g_h rfl).1; omega
  have n_s1_h : g_s1 ≠ g_h := by have h1 := (Os117.out.lt g_s1 rfl).2; have h2 := (ho_h.lt g_h rfl).1; omega
  have n_s2_h : g_s2 ≠ g_h := by have h1 := (Os217.out.lt g_s2 rfl).2; have h2 := (ho_h.lt g_h rfl).1; omega
  have n_w_h : g_w ≠ g_h := by have h1 := (Ow17.out.lt g_w rfl).2; have h2 := (ho_h.lt g_h rfl).1; omega
  have n_x1_h : g_x1 ≠ g_h := by have h1 := (Ox117.out.lt g_x1 rfl).2; have h2 := (ho_h.lt g_h rfl).1; omega
  have n_x2_h : g_x2 ≠ g_h := by have h1 := (Ox217.out.lt g_x2 rfl).2; have h2 := (ho_h.lt g_h rfl).1; omega
  have n_g_h : g_g ≠ g_h := by have h1 := (Og17.out.lt g_g rfl).2; have h2 := (ho_h.lt g_h rfl).1; omega
  have n_z1_h : g_z1 ≠ g_h := by have h1 := (Oz117.out.lt g_z1 rfl).2; have h2 := (ho_h.lt g_h rfl).1; omega
  have n_z2_h : g_z2 ≠ g_h := by have h1 := (Oz217.out.lt g_z2 rfl).2; have h2 := (ho_h.lt g_h rfl).1; omega
  have n_y1_h : g_y1 ≠ g_h := by have h1 := (Oy117.out.lt g_y1 rfl).2; have h2 := (ho_h.lt g_h rfl).1; omega
  have n_y2_h : g_y2 ≠ g_h := by have h1 := (Oy217.out.lt g_y2 rfl).2; have h2 := (ho_h.lt g_h rfl).1; omega
  have l_h : w.heap.size ≤ g_h := Nat.le_trans B17.out.size (ho_h.lt g_h rfl).1
  have B18 := Lib.hid (B17.out.trans (hb.mono B17.out.size))
  have KK18 := Lib.hid (KK17.out.below hb)
  have KW18 := Lib.hid (KW17.out.below hb)
  have KX18 := Lib.hid (KX17.out.below hb)
  have KG18 := Lib.hid (KG17.out.below hb)
  have Os118 := Lib.hid (Os117.out.kept (below_any (row := none) hb) (.inr (by simp [Value.ownBlock])))
  have Os218 := Lib.hid (Os217.out.kept (below_any (row := none) hb) (.inr (by simp [Value.ownBlock])))
  have Ow18 := Lib.hid (Ow17.out.kept (below_any (row := none) hb) (.inr (by simp [Value.ownBlock])))
  have Ox118 := Lib.hid (Ox117.out.kept (below_any (row := none) hb) (.inr (by simp [Value.ownBlock])))
  have Ox218 := Lib.hid (Ox217.out.kept (below_any (row := none) hb) (.inr (by simp [Value.ownBlock])))
  have Og18 := Lib.hid (Og17.out.kept (below_any (row := none) hb) (.inr (by simp [Value.ownBlock])))
  have Oz118 := Lib.hid (Oz117.out.kept (below_any (row := none) hb) (.inr (by simp [Value.ownBlock])))
  have Oz218 := Lib.hid (Oz217.out.kept (below_any (row := none) hb) (.inr (by simp [Value.ownBlock])))
  have Oy118 := Lib.hid (Oy117.out.kept (below_any (row := none) hb) (.inr (by simp [Value.ownBlock])))
  have Oy218 := Lib.hid (Oy217.out.kept (below_any (row := none) hb) (.inr (by simp [Value.ownBlock])))
  have Oh18 := Lib.hid (own_down ho_h (Nat.zero_le _))
  clear hb B17 KK17 KW17 KX17 KG17 Os117 Os217 Ow17 Ox117 Ox217 Og17 Oz117 Oz217 Oy117 Oy217 ho_h
  have KHn := Lib.hid (Blk.new v18 [.bool m.u, .int .u64 (n64 m.k), .int .u64 (n64 m.l), .slice (some ⟨g_h, 0, none⟩) m.rs.length c_h] 27)
  have n_K_H : g_K ≠ v18.heap.size := by have h1 := KK18.out.lt; omega
  have n_W_H : g_W ≠ v18.heap.size := by have h1 := KW18.out.lt; omega
  have n_X_H : g_X ≠ v18.heap.size := by have h1 := KX18.out.lt; omega
  have n_G_H : g_G ≠ v18.heap.size := by have h1 := KG18.out.lt; omega
  have n_s1_H : g_s1 ≠ v18.heap.size := by have h1 := (Os118.out.lt g_s1 rfl).2; omega
  have n_s2_H : g_s2 ≠ v18.heap.size := by have h1 := (Os218.out.lt g_s2 rfl).2; omega
  have n_w_H : g_w ≠ v18.heap.size := by have h1 := (Ow18.out.lt g_w rfl).2; omega
  have n_x1_H : g_x1 ≠ v18.heap.size := by have h1 := (Ox118.out.lt g_x1 rfl).2; omega
  have n_x2_H : g_x2 ≠ v18.heap.size := by have h1 := (Ox218.out.lt g_x2 rfl).2; omega
  have n_g_H : g_g ≠ v18.heap.size := by have h1 := (Og18.out.lt g_g rfl).2; omega
  have n_z1_H : g_z1 ≠ v18.heap.size := by have h1 := (Oz118.out.lt g_z1 rfl).2; omega
  have n_z2_H : g_z2 ≠ v18.heap.size := by have h1 := (Oz218.out.lt g_z2 rfl).2; omega
  have n_y1_H : g_y1 ≠ v18.heap.size := by have h1 := (Oy118.out.lt g_y1 rfl).2; omega
  have n_y2_H : g_y2 ≠ v18.heap.size := by have h1 := (Oy218.out.lt g_y2 rfl).2; omega
  have n_h_H : g_h ≠ v18.heap.size := by have h1 := (Oh18.out.lt g_h rfl).2; omega
  have Bn := Lib.hid (B18.out.alloc B18.out.size (.cells #[.bool m.u, .int .u64 (n64 m.k), .int .u64 (n64 m.l), .slice (some ⟨g_h, 0, none⟩) m.rs.length c_h] 27))
  have KKn := Lib.hid (KK18.out.alloc (.cells #[.bool m.u, .int .u64 (n64 m.k), .int .u64 (n64 m.l), .slice (some ⟨g_h, 0, none⟩) m.rs.length c_h] 27))
  have KWn := Lib.hid (KW18.out.alloc (.cells #[.bool m.u, .int .u64 (n64 m.k), .int .u64 (n64 m.l), .slice (some ⟨g_h, 0, none⟩) m.rs.length c_h] 27))
  have KXn := Lib.hid (KX18.out.alloc (.cells #[.bool m.u, .int .u64 (n64 m.k), .int .u64 (n64 m.l), .slice (some ⟨g_h, 0, none⟩) m.rs.length c_h] 27))
  have KGn := Lib.hid (KG18.out.alloc (.cells #[.bool m.u, .int .u64 (n64 m.k), .int .u64 (n64 m.l), .slice (some ⟨g_h, 0, none⟩) m.rs.length c_h] 27))
  have Os1n := Lib.hid (Os118.out.alloc (.cells #[.bool m.u, .int .u64 (n64 m.k), .int .u64 (n64 m.l), .slice (some ⟨g_h, 0, none⟩) m.rs.length c_h] 27))
  have Os2n := Lib.hid (Os218.out.alloc (.cells #[.bool m.u, .int .u64 (n64 m.k), .int .u64 (n64 m.l), .slice (some ⟨g_h, 0, none⟩) m.rs.length c_h] 27))
  have Own := Lib.hid (Ow18.out.alloc (.cells #[.bool m.u, .int .u64 (n64 m.k), .int .u64 (n64 m.l), .slice (some ⟨g_h, 0, none⟩) m.rs.length c_h] 27))
  have Ox1n := Lib.hid (Ox118.out.alloc (.cells #[.bool m.u, .int .u64 (n64 m.k), .int .u64 (n64 m.l), .slice (some ⟨g_h, 0, none⟩) m.rs.length c_h] 27))
  have Ox2n := Lib.hid (Ox218.out.alloc (.cells #[.bool m.u, .int .u64 (n64 m.k), .int .u64 (n64 m.l), .slice (some ⟨g_h, 0, none⟩) m.rs.length c_h] 27))
  have Ogn := Lib.hid (Og18.out.alloc (.cells #[.bool m.u, .int .u64 (n64 m.k), .int .u64 (n64 m.l), .slice (some ⟨g_h, 0, none⟩) m.rs.length c_h] 27))
  have Oz1n := Lib.hid (Oz118.out.alloc (.cells #[.bool m.u, .int .u64 (n64 m.k), .int .u64 (n64 m.l), .slice (some ⟨g_h, 0, none⟩) m.rs.length c_h] 27))
  have Oz2n := Lib.hid (Oz218.out.alloc (.cells #[.bool m.u, .int .u64 (n64 m.k), .int .u64 (n64 m.l), .slice (some ⟨g_h, 0, none⟩) m.rs.length c_h] 27))
  have Oy1n := Lib.hid (Oy118.out.alloc (.cells #[.bool m.u, .int .u64 (n64 m.k), .int .u64 (n64 m.l), .slice (some ⟨g_h, 0, none⟩) m.rs.length c_h] 27))
  have Oy2n := Lib.hid (Oy218.out.alloc (.cells #[.bool m.u, .int .u64 (n64 m.k), .int .u64 (n64 m.l), .slice (some ⟨g_h, 0, none⟩) m.rs.length c_h] 27))
  have Ohn := Lib.hid (Oh18.out.alloc (.cells #[.bool m.u, .int .u64 (n64 m.k), .int .u64 (n64 m.l), .slice (some ⟨g_h, 0, none⟩) m.rs.length c_h] 27))
  clear B18 KK18 KW18 KX18 KG18 Os118 Os218 Ow18 Ox118 Ox218 Og18 Oz118 Oz218 Oy118 Oy218 Oh18
  obtain ⟨⟨cK0, cK1, cK2, cK3, cK4, cK5, cK6, cK7, cK8, cK9⟩, dK0, dK1, dK2, dK3, dK4, dK5, dK6, dK7, dK8, dK9⟩ := KKn.out.of10
  obtain ⟨⟨cW0, cW1, cW2, cW3⟩, dW0, dW1, dW2, dW3⟩ := KWn.out.four
  obtain ⟨⟨cX0, cX1, cX2, cX3, cX4, cX5, cX6, cX7, cX8, cX9⟩, dX0, dX1, dX2, dX3, dX4, dX5, dX6, dX7, dX8, dX9⟩ := KXn.out.of10
  obtain ⟨⟨cG0, cG1, cG2, cG3⟩, dG0, dG1, dG2, dG3⟩ := KGn.out.four
  go_wp2_with fail
  clear cK0 cK1 cK2 cK3 cK4 cK5 cK6 cK7 cK8 cK9 dK0 dK1 dK2 dK3 dK4 dK5 dK6 dK7 dK8 dK9 cW0 cW1 cW2 cW3 dW0 dW1 dW2 dW3 cX0 cX1 cX2 cX3 cX4 cX5 cX6 cX7 cX8 cX9 dX0 dX1 dX2 dX3 dX4 dX5 dX6 dX7 dX8 dX9 cG0 cG1 cG2 cG3 dG0 dG1 dG2 dG3
  change Calls _ _ _ (v18.alloc (.cells #[.bool m.u, .int .u64 (n64 m.k), .int .u64 (n64 m.l), .slice (some ⟨g_h, 0, none⟩) m.rs.length c_h] 27)) _
  generalize v18.alloc (.cells #[.bool m.u, .int .u64 (n64 m.k), .int .u64 (n64 m.l), .slice (some ⟨g_h, 0, none⟩) m.rs.length c_h] 27) = v19 at KHn Bn KKn KWn KXn KGn Os1n Os2n Own Ox1n Ox2n Ogn Oz1n Oz2n Oy1n Oy2n Ohn ⊢
  generalize v18.heap.size = g_H at KHn n_K_H n_W_H n_X_H n_G_H n_s1_H n_s2_H n_w_H n_x1_H n_x2_H n_g_H n_z1_H n_z2_H n_y1_H n_y2_H n_h_H ⊢
  clear v18
  have KK19 := KKn
  clear KKn
  have KW19 := KWn
  clear KWn
  have KX19 := KXn
  clear KXn
  have KG19 := KGn
  clear KGn
  have KH19 := KHn
  clear KHn
  have Os119 := Os1n
  clear Os1n
  have Os219 := Os2n
  clear Os2n
  have Ow19 := Own
  clear Own
  have Ox119 := Ox1n
  clear Ox1n
  have Ox219 := Ox2n
  clear Ox2n
  have Og19 := Ogn
  clear Ogn
  have Oz119 := Oz1n
  clear Oz1n
  have Oz219 := Oz2n
  clear Oz2n
  have Oy119 := Oy1n
  clear Oy1n
  have Oy219 := Oy2n
  clear Oy2n
  have Oh19 := Ohn
  clear Ohn
  have B19 := Bn
  clear Bn
  refine (eqMac_self m.u (n64 m.k) (n64 m.l) (some ⟨g_h, 0, none⟩) (some ⟨g_w, 0, none⟩) c_h c_w m.rs _ (Row.ownK Oh19.out) (Row.ownK Ow19.out) fm.out).mono ?_
  rintro e v20 ⟨rfl, hb⟩
  have B20 := Lib.hid (B19.out.trans (hb.mono B19.out.size))
  have KK20 := Lib.hid (KK19.out.below hb)
  have KW20 := Lib.hid (KW19.out.below hb)
  have KX20 := Lib.hid (KX19.out.below hb)
  have KG20 := Lib.hid (KG19.out.below hb)
  have KH20 := Lib.hid (KH19.out.below hb)
  have Os120 := Lib.hid (Os119.out.kept (below_any (row := none) hb) (.inr (by simp [Value.ownBlock])))
  have Os220 := Lib.hid (Os219.out.kept (below_any (row := none) hb) (.inr (by simp [Value.ownBlock])))
  have Ow20 := Lib.hid (Ow19.out.kept (below_any (row := none) hb) (.inr (by simp [Value.ownBlock])))
  have Ox120 := Lib.hid (Ox119.out.kept (below_any (row := none) hb) (.inr (by simp [Value.ownBlock])))
  have Ox220 := Lib.hid (Ox219.out.kept (below_any (row := none) hb) (.inr (by simp [Value.ownBlock])))
  have Og20 := Lib.hid (Og19.out.kept (below_any (row := none) hb) (.inr (by simp [Value.ownBlock])))
  have Oz120 := Lib.hid (Oz119.out.kept (below_any (row := none) hb) (.inr (by simp [Value.ownBlock])))
  have Oz220 := Lib.hid (Oz219.out.kept (below_any (row := none) hb) (.inr (by simp [Value.ownBlock])))
  have Oy120 := Lib.hid (Oy119.out.kept (below_any (row := none) hb) (.inr (by simp [Value.ownBlock])))
  have Oy220 := Lib.hid (Oy219.out.kept (below_any (row := none) hb) (.inr (by simp [Value.ownBlock])))
  have Oh20 := Lib.hid (Oh19.out.kept (below_any (row := none) hb) (.inr (by simp [Value.ownBlock])))
  clear hb B19 KK19 KW19 KX19 KG19 KH19 Os119 Os219 Ow19 Ox119 Ox219 Og19 Oz119 Oz219 Oy119 Oy219 Oh19
  obtain ⟨⟨cK0, cK1, cK2, cK3, cK4, cK5, cK6, cK7, cK8, cK9⟩, dK0, dK1, dK2, dK3, dK4, dK5, dK6, dK7, dK8, dK9⟩ := KK20.out.of10
  obtain ⟨⟨cW0, cW1, cW2, cW3⟩, dW0, dW1, dW2, dW3⟩ := KW20.out.four
  obtain ⟨⟨cX0, cX1, cX2, cX3, cX4, cX5, cX6, cX7, cX8, cX9⟩, dX0, dX1, dX2, dX3, dX4, dX5, dX6, dX7, dX8, dX9⟩ := KX20.out.of10
  obtain ⟨⟨cG0, cG1, cG2, cG3⟩, dG0, dG1, dG2, dG3⟩ := KG20.out.four
  obtain ⟨⟨cH0, cH1, cH2, cH3⟩, dH0, dH1, dH2, dH3⟩ := KH20.out.four
  go_wp2_with fail
  clear cK0 cK1 cK2 cK3 cK4 cK5 cK6 cK7 cK8 cK9 dK0 dK1 dK2 dK3 dK4 dK5 dK6 dK7 dK8 dK9 cW0 cW1 cW2 cW3 dW0 dW1 dW2 dW3 cX0 cX1 cX2 cX3 cX4 cX5 cX6 cX7 cX8 cX9 dX0 dX1 dX2 dX3 dX4 dX5 dX6 dX7 dX8 dX9 cG0 cG1 cG2 cG3 dG0 dG1 dG2 dG3 cH0 cH1 cH2 cH3 dH0 dH1 dH2 dH3
  refine (heldMac_any m.u (n64 m.k) (n64 m.l) (some ⟨g_g, 0, none⟩) m.rs.length c_g 1 _ (Row.ownK Og20.out) (by decide) (by decide) (Nat.le_succ_of_le fm.out)).mono ?_
  rintro e v21 ⟨rfl, hb⟩
  have B21 := Lib.hid (B20.out.trans (hb.mono B20.out.size))
  have KK21 := Lib.hid (KK20.out.below hb)
  have KW21 := Lib.hid (KW20.out.below hb)
  have KX21 := Lib.hid (KX20.out.below hb)
  have KG21 := Lib.hid (KG20.out.below hb)
  have KH21 := Lib.hid (KH20.out.below hb)
  have Os121 := Lib.hid (Os120.out.kept (below_any (row := none) hb) (.inr (by simp [Value.ownBlock])))
  have Os221 := Lib.hid (Os220.out.kept (below_any (row := none) hb) (.inr (by simp [Value.ownBlock])))
  have Ow21 := Lib.hid (Ow20.out.kept (below_any (row := none) hb) (.inr (by simp [Value.ownBlock])))
  have Ox121 := Lib.hid (Ox120.out.kept (below_any (row := none) hb) (.inr (by simp [Value.ownBlock])))
  have Ox221 := Lib.hid (Ox220.out.kept (below_any (row := none) hb) (.inr (by simp [Value.ownBlock])))
  have Og21 := Lib.hid (Og20.out.kept (below_any (row := none) hb) (.inr (by simp [Value.ownBlock])))
  have Oz121 := Lib.hid (Oz120.out.kept (below_any (row := none) hb) (.inr (by simp [Value.ownBlock])))
  have Oz221 := Lib.hid (Oz220.out.kept (below_any (row := none) hb) (.inr (by simp [Value.ownBlock])))
  have Oy121 := Lib.hid (Oy120.out.kept (below_any (row := none) hb) (.inr (by simp [Value.ownBlock])))
  have Oy221 := Lib.hid (Oy220.out.kept (below_any (row := none) hb) (.inr (by simp [Value.ownBlock])))
  have Oh21 := Lib.hid (Oh20.out.kept (below_any (row := none) hb) (.inr (by simp [Value.ownBlock])))
  clear hb B20 KK20 KW20 KX20 KG20 KH20 Os120 Os220 Ow20 Ox120 Ox220 Og20 Oz120 Oz220 Oy120 Oy220 Oh20
  obtain ⟨⟨cK0, cK1, cK2, cK3, cK4, cK5, cK6, cK7, cK8, cK9⟩, dK0, dK1, dK2, dK3, dK4, dK5, dK6, dK7, dK8, dK9⟩ := KK21.out.of10
  obtain ⟨⟨cW0, cW1, cW2, cW3⟩, dW0, dW1, dW2, dW3⟩ := KW21.out.four
  obtain ⟨⟨cX0, cX1, cX2, cX3, cX4, cX5, cX6, cX7, cX8, cX9⟩, dX0, dX1, dX2, dX3, dX4, dX5, dX6, dX7, dX8, dX9⟩ := KX21.out.of10
  obtain ⟨⟨cG0, cG1, cG2, cG3⟩, dG0, dG1, dG2, dG3⟩ := KG21.out.four
  obtain ⟨⟨cH0, cH1, cH2, cH3⟩, dH0, dH1, dH2, dH3⟩ := KH21.out.four
  go_wp2_with fail
  go_ret
  exact ⟨rfl, B21.out⟩

set_option maxRecDepth 100000 in
set_option maxHeartbeats 16000000 in
theorem goNone (e n : Int) (p q : M) (t : Bool) (w : World) (hp : LawM w p) (hq : LawM w q)
    (c1 : ∀ (g h c d : Nat) (w : World), Calls Try.prog 29 #[.agg #[.int .i64 e, .bool p.u, .int .u64 (n64 p.k), .int .u64 (n64 p.l), .slice (some ⟨g, 0, none⟩) p.rs.length c, .bool q.u, .int .u64 (n64 q.k), .int .u64 (n64 q.l), .slice (some ⟨h, 0, none⟩) q.rs.length d, .bool t], .int .i64 n] w (SecNo w))
    (c2 : ∀ (g h c d : Nat) (w : World), Calls Try.prog 30 #[.agg #[.int .i64 e, .bool p.u, .int .u64 (n64 p.k), .int .u64 (n64 p.l), .slice (some ⟨g, 0, none⟩) p.rs.length c, .bool q.u, .int .u64 (n64 q.k), .int .u64 (n64 q.l), .slice (some ⟨h, 0, none⟩) q.rs.length d, .bool t], .int .i64 n] w (SecNo w)) :
    Calls Try.prog 6 #[.agg #[.int .i64 e, .bool p.u, .int .u64 (n64 p.k), .int .u64 (n64 p.l), .slice p.a p.rs.length p.c, .bool q.u, .int .u64 (n64 q.k), .int .u64 (n64 q.l), .slice q.a q.rs.length q.c, .bool t], .int .i64 n] w (OkB w) := by
  have HP := Lib.hid hp
  have HQ := Lib.hid hq
  have C1 := Lib.hid c1
  have C2 := Lib.hid c2
  clear hp hq c1 c2
  go_enter Try.func6, Try.ntmps6
  have B0 := Lib.hid (show Below w.heap.size w (w.alloc (.cells #[.int .i64 e, .bool p.u, .int .u64 (n64 p.k), .int .u64 (n64 p.l), .slice p.a p.rs.length p.c, .bool q.u, .int .u64 (n64 q.k), .int .u64 (n64 q.l), .slice q.a q.rs.length q.c, .bool t] 52)) from ((Below.refl _ w).alloc (by simp) _))
  have KK0 := Lib.hid (show Blk (w.alloc (.cells #[.int .i64 e, .bool p.u, .int .u64 (n64 p.k), .int .u64 (n64 p.l), .slice p.a p.rs.length p.c, .bool q.u, .int .u64 (n64 q.k), .int .u64 (n64 q.l), .slice q.a q.rs.length q.c, .bool t] 52)) (w.heap.size) [.int .i64 e, .bool p.u, .int .u64 (n64 p.k), .int .u64 (n64 p.l), .slice p.a p.rs.length p.c, .bool q.u, .int .u64 (n64 q.k), .int .u64 (n64 q.l), .slice q.a q.rs.length q.c, .bool t] from Blk.new w [.int .i64 e, .bool p.u, .int .u64 (n64 p.k), .int .u64 (n64 p.l), .slice p.a p.rs.length p.c, .bool q.u, .int .u64 (n64 q.k), .int .u64 (n64 q.l), .slice q.a q.rs.length q.c, .bool t] 52)
  go_wp2_with fail
  change Calls _ _ _ (w.alloc (.cells #[.int .i64 e, .bool p.u, .int .u64 (n64 p.k), .int .u64 (n64 p.l), .slice p.a p.rs.length p.c, .bool q.u, .int .u64 (n64 q.k), .int .u64 (n64 q.l), .slice q.a q.rs.length q.c, .bool t] 52)) _
  generalize w.alloc (.cells #[.int .i64 e, .bool p.u, .int .u64 (n64 p.k), .int .u64 (n64 p.l), .slice p.a p.rs.length p.c, .bool q.u, .int .u64 (n64 q.k), .int .u64 (n64 q.l), .slice q.a q.rs.length q.c, .bool t] 52) = v0 at B0 KK0 ⊢
  generalize w.heap.size = g_K at KK0 ⊢
  refine (szKeys_any e p q t 1048576 _ ⟨HP.out.1, ((HP.out.2.below B0.out).mono B0.out.size)⟩ ⟨HQ.out.1, ((HQ.out.2.below B0.out).mono B0.out.size)⟩ (by decide) (by decide)).mono ?_
  rintro e v1 ⟨hb, r, rfl, hr1, hr2⟩
  have B1 := Lib.hid (B0.out.trans (hb.mono B0.out.size))
  have KK1 := Lib.hid (KK0.out.below hb)
  clear hb B0 KK0
  have HR := Lib.hid hr2
  clear hr2
  obtain ⟨⟨cK0, cK1, cK2, cK3, cK4, cK5, cK6, cK7, cK8, cK9⟩, dK0, dK1, dK2, dK3, dK4, dK5, dK6, dK7, dK8, dK9⟩ := KK1.out.of10
  by_cases hnegr : r < 0
  · go_wp2_with fail
    go_ret
    exact ⟨rfl, B1.out⟩
  have fp := Lib.hid (show p.rs.length ≤ 1048576 by have := HR.out (by omega); omega)
  have Fp := Lib.hid (LawM.fit HP.out fp.out)
  have fq := Lib.hid (show q.rs.length ≤ 1048576 by have := HR.out (by omega); omega)
  have Fq := Lib.hid (LawM.fit HQ.out fq.out)
  clear HR
  go_wp2_with fail
  clear cK0 cK1 cK2 cK3 cK4 cK5 cK6 cK7 cK8 cK9 dK0 dK1 dK2 dK3 dK4 dK5 dK6 dK7 dK8 dK9
  clear hr1 hnegr
  refine (toKeys_any e p q t _ ((HP.out.2.below B1.out).mono B1.out.size) ((HQ.out.2.below B1.out).mono B1.out.size) fp.out fq.out).mono ?_
  rintro e v2 ⟨g_s1, g_s2, n_s1_s2, rfl, ho_s1, ho_s2, hb⟩
  have n_K_s1 : g_K ≠ g_s1 := by have h1 := KK1.out.lt; have h2 := (ho_s1.lt g_s1 rfl).1; omega
  have l_s1 : w.heap.size ≤ g_s1 := Nat.le_trans B1.out.size (ho_s1.lt g_s1 rfl).1
  have n_K_s2 : g_K ≠ g_s2 := by have h1 := KK1.out.lt; have h2 := (ho_s2.lt g_s2 rfl).1; omega
  have l_s2 : w.heap.size ≤ g_s2 := Nat.le_trans B1.out.size (ho_s2.lt g_s2 rfl).1
  have B2 := Lib.hid (B1.out.trans (hb.mono B1.out.size))
  have KK2 := Lib.hid (KK1.out.below hb)
  have Os12 := Lib.hid (own_down ho_s1 (Nat.zero_le _))
  have Os22 := Lib.hid (own_down ho_s2 (Nat.zero_le _))
  clear hb B1 KK1 ho_s1 ho_s2
  obtain ⟨⟨cK0, cK1, cK2, cK3, cK4, cK5, cK6, cK7, cK8, cK9⟩, dK0, dK1, dK2, dK3, dK4, dK5, dK6, dK7, dK8, dK9⟩ := KK2.out.of10
  go_wp2_with fail
  clear cK0 cK1 cK2 cK3 cK4 cK5 cK6 cK7 cK8 cK9 dK0 dK1 dK2 dK3 dK4 dK5 dK6 dK7 dK8 dK9
  refine (C1.out g_s1 g_s2 p.rs.length q.rs.length _).mono ?_
  rintro e v3 ⟨rfl, hb⟩
  have B3 := Lib.hid (B2.out.trans (hb.mono B2.out.size))
  have KK3 := Lib.hid (KK2.out.below hb)
  have Os13 := Lib.hid (Os12.out.kept (below_any (row := none) hb) (.inr (by simp [Value.ownBlock])))
  have Os23 := Lib.hid (Os22.out.kept (below_any (row := none) hb) (.inr (by simp [Value.ownBlock])))
  clear hb B2 KK2 Os12 Os22
  have KWn := Lib.hid (Blk.new v3 [.bool false, .int .u64 0, .int .u64 0, .slice none 0 0] 27)
  have n_K_W : g_K ≠ v3.heap.size := by have h1 := KK3.out.lt; omega
  have n_s1_W : g_s1 ≠ v3.heap.size := by have h1 := (Os13.out.lt g_s1 rfl).2; omega
  have n_s2_W : g_s2 ≠ v3.heap.size := by have h1 := (Os23.out.lt g_s2 rfl).2; omega
  have Bn := Lib.hid (B3.out.alloc B3.out.size (.cells #[.bool false, .int .u64 0, .int .u64 0, .slice none 0 0] 27))
  have KKn := Lib.hid (KK3.out.alloc (.cells #[.bool false, .int .u64 0, .int .u64 0, .slice none 0 0] 27))
  have Os1n := Lib.hid (Os13.out.alloc (.cells #[.bool false, .int .u64 0, .int .u64 0, .slice none 0 0] 27))
  have Os2n := Lib.hid (Os23.out.alloc (.cells #[.bool false, .int .u64 0, .int .u64 0, .slice none 0 0] 27))
  clear B3 KK3 Os13 Os23
  obtain ⟨⟨cK0, cK1, cK2, cK3, cK4, cK5, cK6, cK7, cK8, cK9⟩, dK0, dK1, dK2, dK3, dK4, dK5, dK6, dK7, dK8, dK9⟩ := KKn.out.of10
  go_wp2_with fail
  clear cK0 cK1 cK2 cK3 cK4 cK5 cK6 cK7 cK8 cK9 dK0 dK1 dK2 dK3 dK4 dK5 dK6 dK7 dK8 dK9
  change Calls _ _ _ (v3.alloc (.cells #[.bool false, .int .u64 0, .int .u64 0, .slice none 0 0] 27)) _
  generalize v3.alloc (.cells #[.bool false, .int .u64 0, .int .u64 0, .slice none 0 0] 27) = v4 at KWn Bn KKn Os1n Os2n ⊢
  generalize v3.heap.size = g_W at KWn n_K_W n_s1_W n_s2_W ⊢
  clear v3
  have KK4 := KKn
  clear KKn
  have KW4 := KWn
  clear KWn
  have Os14 := Os1n
  clear Os1n
  have Os24 := Os2n
  clear Os2n
  have B4 := Bn
  clear Bn
  refine (toKeys_any e p q t _ ((HP.out.2.below B4.out).mono B4.out.size) ((HQ.out.2.below B4.out).mono B4.out.size) fp.out fq.out).mono ?_
  rintro e v5 ⟨g_x1, g_x2, n_x1_x2, rfl, ho_x1, ho_x2, hb⟩
  have n_K_x1 : g_K ≠ g_x1 := by have h1 := KK4.out.lt; have h2 := (ho_x1.lt g_x1 rfl).1; omega
  have n_W_x1 : g_W ≠ g_x1 := by have h1 := KW4.out.lt; have h2 := (ho_x1.lt g_x1 rfl).1; omega
  have n_s1_x1 : g_s1 ≠ g_x1 := by have h1 := (Os14.out.lt g_s1 rfl).2; have h2 := (ho_x1.lt g_x1 rfl).1; omega
  have n_s2_x1 : g_s2 ≠ g_x1 := by have h1 := (Os24.out.lt g_s2 rfl).2; have h2 := (ho_x1.lt g_x1 rfl).1; omega
  have l_x1 : w.heap.size ≤ g_x1 := Nat.le_trans B4.out.size (ho_x1.lt g_x1 rfl).1
  have n_K_x2 : g_K ≠ g_x2 := by have h1 := KK4.out.lt; have h2 := (ho_x2.lt g_x2 rfl).1; omega
  have n_W_x2 : g_W ≠ g_x2 := by have h1 := KW4.out.lt; have h2 := (ho_x2.lt g_x2 rfl).1; omega
  have n_s1_x2 : g_s1 ≠ g_x2 := by have h1 := (Os14.out.lt g_s1 rfl).2; have h2 := (ho_x2.lt g_x2 rfl).1; omega
  have n_s2_x2 : g_s2 ≠ g_x2 := by have h1 := (Os24.out.lt g_s2 rfl).2; have h2 := (ho_x2.lt g_x2 rfl).1; omega
  have l_x2 : w.heap.size ≤ g_x2 := Nat.le_trans B4.out.size (ho_x2.lt g_x2 rfl).1
  have B5 := Lib.hid (B4.out.trans (hb.mono B4.out.size))
  have KK5 := Lib.hid (KK4.out.below hb)
  have KW5 := Lib.hid (KW4.out.below hb)
  have Os15 := Lib.hid (Os14.out.kept (below_any (row := none) hb) (.inr (by simp [Value.ownBlock])))
  have Os25 := Lib.hid (Os24.out.kept (below_any (row := none) hb) (.inr (by simp [Value.ownBlock])))
  have Ox15 := Lib.hid (own_down ho_x1 (Nat.zero_le _))
  have Ox25 := Lib.hid (own_down ho_x2 (Nat.zero_le _))
  clear hb B4 KK4 KW4 Os14 Os24 ho_x1 ho_x2
  have KXn := Lib.hid (Blk.new v5 [.int .i64 e, .bool p.u, .int .u64 (n64 p.k), .int .u64 (n64 p.l), .slice (some ⟨g_x1, 0, none⟩) p.rs.length p.rs.length, .bool q.u, .int .u64 (n64 q.k), .int .u64 (n64 q.l), .slice (some ⟨g_x2, 0, none⟩) q.rs.length q.rs.length, .bool t] 29)
  have n_K_X : g_K ≠ v5.heap.size := by have h1 := KK5.out.lt; omega
  have n_W_X : g_W ≠ v5.heap.size := by have h1 := KW5.out.lt; omega
  have n_s1_X : g_s1 ≠ v5.heap.size := by have h1 := (Os15.out.lt g_s1 rfl).2; omega
  have n_s2_X : g_s2 ≠ v5.heap.size := by have h1 := (Os25.out.lt g_s2 rfl).2; omega
  have n_x1_X : g_x1 ≠ v5.heap.size := by have h1 := (Ox15.out.lt g_x1 rfl).2; omega
  have n_x2_X : g_x2 ≠ v5.heap.size := by have h1 := (Ox25.out.lt g_x2 rfl).2; omega
  have Bn := Lib.hid (B5.out.alloc B5.out.size (.cells #[.int .i64 e, .bool p.u, .int .u64 (n64 p.k), .int .u64 (n64 p.l), .slice (some ⟨g_x1, 0, none⟩) p.rs.length p.rs.length, .bool q.u, .int .u64 (n64 q.k), .int .u64 (n64 q.l), .slice (some ⟨g_x2, 0, none⟩) q.rs.length q.rs.length, .bool t] 29))
  have KKn := Lib.hid (KK5.out.alloc (.cells #[.int .i64 e, .bool p.u, .int .u64 (n64 p.k), .int .u64 (n64 p.l), .slice (some ⟨g_x1, 0, none⟩) p.rs.length p.rs.length, .bool q.u, .int .u64 (n64 q.k), .int .u64 (n64 q.l), .slice (some ⟨g_x2, 0, none⟩) q.rs.length q.rs.length, .bool t] 29))
  have KWn := Lib.hid (KW5.out.alloc (.cells #[.int .i64 e, .bool p.u, .int .u64 (n64 p.k), .int .u64 (n64 p.l), .slice (some ⟨g_x1, 0, none⟩) p.rs.length p.rs.length, .bool q.u, .int .u64 (n64 q.k), .int .u64 (n64 q.l), .slice (some ⟨g_x2, 0, none⟩) q.rs.length q.rs.length, .bool t] 29))
  have Os1n := Lib.hid (Os15.out.alloc (.cells #[.int .i64 e, .bool p.u, .int .u64 (n64 p.k), .int .u64 (n64 p.l), .slice (some ⟨g_x1, 0, none⟩) p.rs.length p.rs.length, .bool q.u, .int .u64 (n64 q.k), .int .u64 (n64 q.l), .slice (some ⟨g_x2, 0, none⟩) q.rs.length q.rs.length, .bool t] 29))
  have Os2n := Lib.hid (Os25.out.alloc (.cells #[.int .i64 e, .bool p.u, .int .u64 (n64 p.k), .int .u64 (n64 p.l), .slice (some ⟨g_x1, 0, none⟩) p.rs.length p.rs.length, .bool q.u, .int .u64 (n64 q.k), .int .u64 (n64 q.l), .slice (some ⟨g_x2, 0, none⟩) q.rs.length q.rs.length, .bool t] 29))
  have Ox1n := Lib.hid (Ox15.out.alloc (.cells #[.int .i64 e, .bool p.u, .int .u64 (n64 p.k), .int .u64 (n64 p.l), .slice (some ⟨g_x1, 0, none⟩) p.rs.length p.rs.length, .bool q.u, .int .u64 (n64 q.k), .int .u64 (n64 q.l), .slice (some ⟨g_x2, 0, none⟩) q.rs.length q.rs.length, .bool t] 29))
  have Ox2n := Lib.hid (Ox25.out.alloc (.cells #[.int .i64 e, .bool p.u, .int .u64 (n64 p.k), .int .u64 (n64 p.l), .slice (some ⟨g_x1, 0, none⟩) p.rs.length p.rs.length, .bool q.u, .int .u64 (n64 q.k), .int .u64 (n64 q.l), .slice (some ⟨g_x2, 0, none⟩) q.rs.length q.rs.length, .bool t] 29))
  clear B5 KK5 KW5 Os15 Os25 Ox15 Ox25
  obtain ⟨⟨cK0, cK1, cK2, cK3, cK4, cK5, cK6, cK7, cK8, cK9⟩, dK0, dK1, dK2, dK3, dK4, dK5, dK6, dK7, dK8, dK9⟩ := KKn.out.of10
  obtain ⟨⟨cW0, cW1, cW2, cW3⟩, dW0, dW1, dW2, dW3⟩ := KWn.out.four
  go_wp2_with fail
  clear cK0 cK1 cK2 cK3 cK4 cK5 cK6 cK7 cK8 cK9 dK0 dK1 dK2 dK3 dK4 dK5 dK6 dK7 dK8 dK9 cW0 cW1 cW2 cW3 dW0 dW1 dW2 dW3
  change Calls _ _ _ (v5.alloc (.cells #[.int .i64 e, .bool p.u, .int .u64 (n64 p.k), .int .u64 (n64 p.l), .slice (some ⟨g_x1, 0, none⟩) p.rs.length p.rs.length, .bool q.u, .int .u64 (n64 q.k), .int .u64 (n64 q.l), .slice (some ⟨g_x2, 0, none⟩) q.rs.length q.rs.length, .bool t] 29)) _
  generalize v5.alloc (.cells #[.int .i64 e, .bool p.u, .int .u64 (n64 p.k), .int .u64 (n64 p.l), .slice (some ⟨g_x1, 0, none⟩) p.rs.length p.rs.length, .bool q.u, .int .u64 (n64 q.k), .int .u64 (n64 q.l), .slice (some ⟨g_x2, 0, none⟩) q.rs.length q.rs.length, .bool t] 29) = v6 at KXn Bn KKn KWn Os1n Os2n Ox1n Ox2n ⊢
  generalize v5.heap.size = g_X at KXn n_K_X n_W_X n_s1_X n_s2_X n_x1_X n_x2_X ⊢
  clear v5
  have KK6 := KKn
  clear KKn
  have KW6 := KWn
  clear KWn
  have KX6 := KXn
  clear KXn
  have Os16 := Os1n
  clear Os1n
  have Os26 := Os2n
  clear Os2n
  have Ox16 := Ox1n
  clear Ox1n
  have Ox26 := Ox2n
  clear Ox2n
  have B6 := Bn
  clear Bn
  refine (C2.out g_x1 g_x2 p.rs.length q.rs.length _).mono ?_
  rintro e v7 ⟨rfl, hb⟩
  have B7 := Lib.hid (B6.out.trans (hb.mono B6.out.size))
  have KK7 := Lib.hid (KK6.out.below hb)
  have KW7 := Lib.hid (KW6.out.below hb)
  have KX7 := Lib.hid (KX6.out.below hb)
  have Os17 := Lib.hid (Os16.out.kept (below_any (row := none) hb) (.inr (by simp [Value.ownBlock])))
  have Os27 := Lib.hid (Os26.out.kept (below_any (row := none) hb) (.inr (by simp [Value.ownBlock])))
  have Ox17 := Lib.hid (Ox16.out.kept (below_any (row := none) hb) (.inr (by simp [Value.ownBlock])))
  have Ox27 := Lib.hid (Ox26.out.kept (below_any (row := none) hb) (.inr (by simp [Value.ownBlock])))
  clear hb B6 KK6 KW6 KX6 Os16 Os26 Ox16 Ox26
  have KGn := Lib.hid (Blk.new v7 [.bool false, .int .u64 0, .int .u64 0, .slice none 0 0] 27)
  have n_K_G : g_K ≠ v7.heap.size := by have h1 := KK7.out.lt; omega
  have n_W_G : g_W ≠ v7.heap.size := by have h1 := KW7.out.lt; omega
  have n_X_G : g_X ≠ v7.heap.size := by have h1 := KX7.out.lt; omega
  have n_s1_G : g_s1 ≠ v7.heap.size := by have h1 := (Os17.out.lt g_s1 rfl).2; omega
  have n_s2_G : g_s2 ≠ v7.heap.size := by have h1 := (Os27.out.lt g_s2 rfl).2; omega
  have n_x1_G : g_x1 ≠ v7.heap.size := by have h1 := (Ox17.out.lt g_x1 rfl).2; omega
  have n_x2_G : g_x2 ≠ v7.heap.size := by have h1 := (Ox27.out.lt g_x2 rfl).2; omega
  have Bn := Lib.hid (B7.out.alloc B7.out.size (.cells #[.bool false, .int .u64 0, .int .u64 0, .slice none 0 0] 27))
  have KKn := Lib.hid (KK7.out.alloc (.cells #[.bool false, .int .u64 0, .int .u64 0, .slice none 0 0] 27))
  have KWn := Lib.hid (KW7.out.alloc (.cells #[.bool false, .int .u64 0, .int .u64 0, .slice none 0 0] 27))
  have KXn := Lib.hid (KX7.out.alloc (.cells #[.bool false, .int .u64 0, .int .u64 0, .slice none 0 0] 27))
  have Os1n := Lib.hid (Os17.out.alloc (.cells #[.bool false, .int .u64 0, .int .u64 0, .slice none 0 0] 27))
  have Os2n := Lib.hid (Os27.out.alloc (.cells #[.bool false, .int .u64 0, .int .u64 0, .slice none 0 0] 27))
  have Ox1n := Lib.hid (Ox17.out.alloc (.cells #[.bool false, .int .u64 0, .int .u64 0, .slice none 0 0] 27))
  have Ox2n := Lib.hid (Ox27.out.alloc (.cells #[.bool false, .int .u64 0, .int .u64 0, .slice none 0 0] 27))
  clear B7 KK7 KW7 KX7 Os17 Os27 Ox17 Ox27
  obtain ⟨⟨cK0, cK1, cK2, cK3, cK4, cK5, cK6, cK7, cK8, cK9⟩, dK0, dK1, dK2, dK3, dK4, dK5, dK6, dK7, dK8, dK9⟩ := KKn.out.of10
  obtain ⟨⟨cW0, cW1, cW2, cW3⟩, dW0, dW1, dW2, dW3⟩ := KWn.out.four
  obtain ⟨⟨cX0, cX1, cX2, cX3, cX4, cX5, cX6, cX7, cX8, cX9⟩, dX0, dX1, dX2, dX3, dX4, dX5, dX6, dX7, dX8, dX9⟩ := KXn.out.of10
  go_wp2_with fail
  clear cK0 cK1 cK2 cK3 cK4 cK5 cK6 cK7 cK8 cK9 dK0 dK1 dK2 dK3 dK4 dK5 dK6 dK7 dK8 dK9 cW0 cW1 cW2 cW3 dW0 dW1 dW2 dW3 cX0 cX1 cX2 cX3 cX4 cX5 cX6 cX7 cX8 cX9 dX0 dX1 dX2 dX3 dX4 dX5 dX6 dX7 dX8 dX9
  change Calls _ _ _ (v7.alloc (.cells #[.bool false, .int .u64 0, .int .u64 0, .slice none 0 0] 27)) _
  generalize v7.alloc (.cells #[.bool false, .int .u64 0, .int .u64 0, .slice none 0 0] 27) = v8 at KGn Bn KKn KWn KXn Os1n Os2n Ox1n Ox2n ⊢
  generalize v7.heap.size = g_G at KGn n_K_G n_W_G n_X_G n_s1_G n_s2_G n_x1_G n_x2_G ⊢
  clear v7
  have KK8 := KKn
  clear KKn
  have KW8 := KWn
  clear KWn
  have KX8 := KXn
  clear KXn
  have KG8 := KGn
  clear KGn
  have Os18 := Os1n
  clear Os1n
  have Os28 := Os2n
  clear Os2n
  have Ox18 := Ox1n
  clear Ox1n
  have Ox28 := Ox2n
  clear Ox2n
  have B8 := Bn
  clear Bn
  refine (eqMac_self false 0 0 none none 0 0 [] _ Row.nil Row.nil (by decide)).mono ?_
  rintro e v9 ⟨rfl, hb⟩
  have B9 := Lib.hid (B8.out.trans (hb.mono B8.out.size))
  have KK9 := Lib.hid (KK8.out.below hb)
  have KW9 := Lib.hid (KW8.out.below hb)
  have KX9 := Lib.hid (KX8.out.below hb)
  have KG9 := Lib.hid (KG8.out.below hb)
  have Os19 := Lib.hid (Os18.out.kept (below_any (row := none) hb) (.inr (by simp [Value.ownBlock])))
  have Os29 := Lib.hid (Os28.out.kept (below_any (row := none) hb) (.inr (by simp [Value.ownBlock])))
  have Ox19 := Lib.hid (Ox18.out.kept (below_any (row := none) hb) (.inr (by simp [Value.ownBlock])))
  have Ox29 := Lib.hid (Ox28.out.kept (below_any (row := none) hb) (.inr (by simp [Value.ownBlock])))
  clear hb B8 KK8 KW8 KX8 KG8 Os18 Os28 Ox18 Ox28
  obtain ⟨⟨cK0, cK1, cK2, cK3, cK4, cK5, cK6, cK7, cK8, cK9⟩, dK0, dK1, dK2, dK3, dK4, dK5, dK6, dK7, dK8, dK9⟩ := KK9.out.of10
  obtain ⟨⟨cW0, cW1, cW2, cW3⟩, dW0, dW1, dW2, dW3⟩ := KW9.out.four
  obtain ⟨⟨cX0, cX1, cX2, cX3, cX4, cX5, cX6, cX7, cX8, cX9⟩, dX0, dX1, dX2, dX3, dX4, dX5, dX6, dX7, dX8, dX9⟩ := KX9.out.of10
  obtain ⟨⟨cG0, cG1, cG2, cG3⟩, dG0, dG1, dG2, dG3⟩ := KG9.out.four
  go_wp2_with fail
  clear cK0 cK1 cK2 cK3 cK4 cK5 cK6 cK7 cK8 cK9 dK0 dK1 dK2 dK3 dK4 dK5 dK6 dK7 dK8 dK9 cW0 cW1 cW2 cW3 dW0 dW1 dW2 dW3 cX0 cX1 cX2 cX3 cX4 cX5 cX6 cX7 cX8 cX9 dX0 dX1 dX2 dX3 dX4 dX5 dX6 dX7 dX8 dX9 cG0 cG1 cG2 cG3 dG0 dG1 dG2 dG3
  obtain ⟨⟨cK0, cK1, cK2, cK3, cK4, cK5, cK6, cK7, cK8, cK9⟩, dK0, dK1, dK2, dK3, dK4, dK5, dK6, dK7, dK8, dK9⟩ := KK9.out.of10
  obtain ⟨⟨cX0, cX1, cX2, cX3, cX4, cX5, cX6, cX7, cX8, cX9⟩, dX0, dX1, dX2, dX3, dX4, dX5, dX6, dX7, dX8, dX9⟩ := KX9.out.of10
  have P9_0 : True := trivial
  have P9_1 : True := trivial
  go_region_held3 (fun w' => (w'.cell? ⟨g_X, 0, none⟩ = some (.int .i64 e) ∧ w'.cell? ⟨g_X, 1, none⟩ = some (.bool p.u) ∧ w'.cell? ⟨g_X, 2, none⟩ = some (.int .u64 (n64 p.k)) ∧ w'.cell? ⟨g_X, 3, none⟩ = some (.int .u64 (n64 p.l)) ∧ w'.cell? ⟨g_X, 4, none⟩ = some (.slice (some ⟨g_x1, 0, none⟩) p.rs.length p.rs.length) ∧ w'.cell? ⟨g_X, 5, none⟩ = some (.bool q.u) ∧ w'.cell? ⟨g_X, 6, none⟩ = some (.int .u64 (n64 q.k)) ∧ w'.cell? ⟨g_X, 7, none⟩ = some (.int .u64 (n64 q.l)) ∧ w'.cell? ⟨g_X, 8, none⟩ = some (.slice (some ⟨g_x2, 0, none⟩) q.rs.length q.rs.length) ∧ w'.cell? ⟨g_X, 9, none⟩ = some (.bool t)) ∧ (w'.cell? ⟨g_K, 0, none⟩ = some (.int .i64 e) ∧ w'.cell? ⟨g_K, 1, none⟩ = some (.bool p.u) ∧ w'.cell? ⟨g_K, 2, none⟩ = some (.int .u64 (n64 p.k)) ∧ w'.cell? ⟨g_K, 3, none⟩ = some (.int .u64 (n64 p.l)) ∧ w'.cell? ⟨g_K, 4, none⟩ = some (.slice p.a p.rs.length p.c) ∧ w'.cell? ⟨g_K, 5, none⟩ = some (.bool q.u) ∧ w'.cell? ⟨g_K, 6, none⟩ = some (.int .u64 (n64 q.k)) ∧ w'.cell? ⟨g_K, 7, none⟩ = some (.int .u64 (n64 q.l)) ∧ w'.cell? ⟨g_K, 8, none⟩ = some (.slice q.a q.rs.length q.c) ∧ w'.cell? ⟨g_K, 9, none⟩ = some (.bool t)))
    (first | go_keep | (exact ⟨KX10.out.of10.1, KK10.out.of10.1⟩) | (exact ⟨KX11.out.of10.1, KK11.out.of10.1⟩))
    (first | (have q := P9_0; go_at_call 27; clear q P9_0; refine (toKeys_any e p q t _ ((HP.out.2.below B9.out.drew).mono B9.out.drew.size) ((HQ.out.2.below B9.out.drew).mono B9.out.drew.size) fp.out fq.out).mono ?_; rintro e v10 ⟨g_z1, g_z2, n_z1_z2, rfl, ho_z1, ho_z2, hb⟩; replace hb := (Below.refl _ v9).drew.trans hb; replace ho_z2 := own_down ho_z2 (show v9.heap.size ≤ v9.drew.heap.size from Nat.le_refl _); replace ho_z1 := own_down ho_z1 (show v9.heap.size ≤ v9.drew.heap.size from Nat.le_refl _); have n_K_z1 : g_K ≠ g_z1 := (by have h1 := KK9.out.lt; have h2 := (ho_z1.lt g_z1 rfl).1; omega); have n_W_z1 : g_W ≠ g_z1 := (by have h1 := KW9.out.lt; have h2 := (ho_z1.lt g_z1 rfl).1; omega); have n_X_z1 : g_X ≠ g_z1 := (by have h1 := KX9.out.lt; have h2 := (ho_z1.lt g_z1 rfl).1; omega); have n_G_z1 : g_G ≠ g_z1 := (by have h1 := KG9.out.lt; have h2 := (ho_z1.lt g_z1 rfl).1; omega); have n_s1_z1 : g_s1 ≠ g_z1 := (by have h1 := (Os19.out.lt g_s1 rfl).2; have h2 := (ho_z1.lt g_z1 rfl).1; omega); have n_s2_z1 : g_s2 ≠ g_z1 := (by have h1 := (Os29.out.lt g_s2 rfl).2; have h2 := (ho_z1.lt g_z1 rfl).1; omega); have n_x1_z1 : g_x1 ≠ g_z1 := (by have h1 := (Ox19.out.lt g_x1 rfl).2; have h2 := (ho_z1.lt g_z1 rfl).1; omega); have n_x2_z1 : g_x2 ≠ g_z1 := (by have h1 := (Ox29.out.lt g_x2 rfl).2; have h2 := (ho_z1.lt g_z1 rfl).1; omega); have l_z1 : w.heap.size ≤ g_z1 := Nat.le_trans B9.out.size (ho_z1.lt g_z1 rfl).1; have n_K_z2 : g_K ≠ g_z2 := (by have h1 := KK9.out.lt; have h2 := (ho_z2.lt g_z2 rfl).1; omega); have n_W_z2 : g_W ≠ g_z2 := (by have h1 := KW9.out.lt; have h2 := (ho_z2.lt g_z2 rfl).1; omega); have n_X_z2 : g_X ≠ g_z2 := (by have h1 := KX9.out.lt; have h2 := (ho_z2.lt g_z2 rfl).1; omega); have n_G_z2 : g_G ≠ g_z2 := (by have h1 := KG9.out.lt; have h2 := (ho_z2.lt g_z2 rfl).1; omega); have n_s1_z2 : g_s1 ≠ g_z2 := (by have h1 := (Os19.out.lt g_s1 rfl).2; have h2 := (ho_z2.lt g_z2 rfl).1; omega); have n_s2_z2 : g_s2 ≠ g_z2 := (by have h1 := (Os29.out.lt g_s2 rfl).2; have h2 := (ho_z2.lt g_z2 rfl).1; omega); have n_x1_z2 : g_x1 ≠ g_z2 := (by have h1 := (Ox19.out.lt g_x1 rfl).2; have h2 := (ho_z2.lt g_z2 rfl).1; omega); have n_x2_z2 : g_x2 ≠ g_z2 := (by have h1 := (Ox29.out.lt g_x2 rfl).2; have h2 := (ho_z2.lt g_z2 rfl).1; omega); have l_z2 : w.heap.size ≤ g_z2 := Nat.le_trans B9.out.size (ho_z2.lt g_z2 rfl).1; have B10 := Lib.hid (B9.out.trans (hb.mono B9.out.size)); have KK10 := Lib.hid (KK9.out.below hb); have KW10 := Lib.hid (KW9.out.below hb); have KX10 := Lib.hid (KX9.out.below hb); have KG10 := Lib.hid (KG9.out.below hb); have Os110 := Lib.hid (Os19.out.kept (below_any (row := none) hb) (.inr (by simp [Value.ownBlock]))); have Os210 := Lib.hid (Os29.out.kept (below_any (row := none) hb) (.inr (by simp [Value.ownBlock]))); have Ox110 := Lib.hid (Ox19.out.kept (below_any (row := none) hb) (.inr (by simp [Value.ownBlock]))); have Ox210 := Lib.hid (Ox29.out.kept (below_any (row := none) hb) (.inr (by simp [Value.ownBlock]))); have Oz110 := Lib.hid (own_down ho_z1 (Nat.zero_le _)); have Oz210 := Lib.hid (own_down ho_z2 (Nat.zero_le _)); clear hb B9 KK9 KW9 KX9 KG9 Os19 Os29 Ox19 Ox29 ho_z1 ho_z2) | (have q := P9_1; go_at_call 28; clear q P9_1; refine (eqKeys_self e p q t (some ⟨g_x1, 0, none⟩) (some ⟨g_x2, 0, none⟩) (some ⟨g_z1, 0, none⟩) (some ⟨g_z2, 0, none⟩) p.rs.length q.rs.length p.rs.length q.rs.length _ (Row.ownK Ox110.out) (Row.ownK Ox210.out) (Row.ownK Oz110.out) (Row.ownK Oz210.out) fp.out fq.out).mono ?_; rintro e v11 ⟨rfl, hb⟩; have B11 := Lib.hid (B10.out.trans (hb.mono B10.out.size)); have KK11 := Lib.hid (KK10.out.below hb); have KW11 := Lib.hid (KW10.out.below hb); have KX11 := Lib.hid (KX10.out.below hb); have KG11 := Lib.hid (KG10.out.below hb); have Os111 := Lib.hid (Os110.out.kept (below_any (row := none) hb) (.inr (by simp [Value.ownBlock]))); have Os211 := Lib.hid (Os210.out.kept (below_any (row := none) hb) (.inr (by simp [Value.ownBlock]))); have Ox111 := Lib.hid (Ox110.out.kept (below_any (row := none) hb) (.inr (by simp [Value.ownBlock]))); have Ox211 := Lib.hid (Ox210.out.kept (below_any (row := none) hb) (.inr (by simp [Value.ownBlock]))); have Oz111 := Lib.hid (Oz110.out.kept (below_any (row := none) hb) (.inr (by simp [Value.ownBlock]))); have Oz211 := Lib.hid (Oz210.out.kept (below_any (row := none) hb) (.inr (by simp [Value.ownBlock]))); clear hb B10 KK10 KW10 KX10 KG10 Os110 Os210 Ox110 Ox210 Oz110 Oz210))
  try clear cK0 cK1 cK2 cK3 cK4 cK5 cK6 cK7 cK8 cK9 dK0 dK1 dK2 dK3 dK4 dK5 dK6 dK7 dK8 dK9 cX0 cX1 cX2 cX3 cX4 cX5 cX6 cX7 cX8 cX9 dX0 dX1 dX2 dX3 dX4 dX5 dX6 dX7 dX8 dX9
  obtain ⟨⟨cK0, cK1, cK2, cK3, cK4, cK5, cK6, cK7, cK8, cK9⟩, dK0, dK1, dK2, dK3, dK4, dK5, dK6, dK7, dK8, dK9⟩ := KK11.out.of10
  obtain ⟨⟨cW0, cW1, cW2, cW3⟩, dW0, dW1, dW2, dW3⟩ := KW11.out.four
  obtain ⟨⟨cX0, cX1, cX2, cX3, cX4, cX5, cX6, cX7, cX8, cX9⟩, dX0, dX1, dX2, dX3, dX4, dX5, dX6, dX7, dX8, dX9⟩ := KX11.out.of10
  obtain ⟨⟨cG0, cG1, cG2, cG3⟩, dG0, dG1, dG2, dG3⟩ := KG11.out.four
  go_wp2_with fail
  clear cK0 cK1 cK2 cK3 cK4 cK5 cK6 cK7 cK8 cK9 dK0 dK1 dK2 dK3 dK4 dK5 dK6 dK7 dK8 dK9 cW0 cW1 cW2 cW3 dW0 dW1 dW2 dW3 cX0 cX1 cX2 cX3 cX4 cX5 cX6 cX7 cX8 cX9 dX0 dX1 dX2 dX3 dX4 dX5 dX6 dX7 dX8 dX9 cG0 cG1 cG2 cG3 dG0 dG1 dG2 dG3
  refine (markKeys_any e p q t 0 g_x1 g_x2 p.rs.length q.rs.length 1 _ Ox111.out Ox211.out n_x1_x2 (by decide) (by have := fp.out; omega) (Nat.le_succ_of_le fp.out) (Nat.le_succ_of_le fq.out)).mono ?_
  rintro e v13 ⟨rfl, ho1, ho2, v12, hg1, hg2⟩
  have B12 := Lib.hid (B11.out.trans (grown_below hg1 l_x1 B11.out.size))
  have KK12 := Lib.hid (KK11.out.grown hg1 (n_K_x1))
  have KW12 := Lib.hid (KW11.out.grown hg1 (n_W_x1))
  have KX12 := Lib.hid (KX11.out.grown hg1 (fun e => n_x1_X e.symm))
  have KG12 := Lib.hid (KG11.out.grown hg1 (fun e => n_x1_G e.symm))
  have Os112 := Lib.hid (Os111.out.kept hg1 (.inr (own_ne (n_s1_x1))))
  have Os212 := Lib.hid (Os211.out.kept hg1 (.inr (own_ne (n_s2_x1))))
  have Oz112 := Lib.hid (Oz111.out.kept hg1 (.inr (own_ne (fun e => n_x1_z1 e.symm))))
  have Oz212 := Lib.hid (Oz211.out.kept hg1 (.inr (own_ne (fun e => n_x1_z2 e.symm))))
  clear B11 KK11 KW11 KX11 KG11 Os111 Os211 Ox111 Ox211 Oz111 Oz211
  have B13 := Lib.hid (B12.out.trans (grown_below hg2 l_x2 B12.out.size))
  have KK13 := Lib.hid (KK12.out.grown hg2 (n_K_x2))
  have KW13 := Lib.hid (KW12.out.grown hg2 (n_W_x2))
  have KX13 := Lib.hid (KX12.out.grown hg2 (fun e => n_x2_X e.symm))
  have KG13 := Lib.hid (KG12.out.grown hg2 (fun e => n_x2_G e.symm))
  have Os113 := Lib.hid (Os112.out.kept hg2 (.inr (own_ne (n_s1_x2))))
  have Os213 := Lib.hid (Os212.out.kept hg2 (.inr (own_ne (n_s2_x2))))
  have Oz113 := Lib.hid (Oz112.out.kept hg2 (.inr (own_ne (fun e => n_x2_z1 e.symm))))
  have Oz213 := Lib.hid (Oz212.out.kept hg2 (.inr (own_ne (fun e => n_x2_z2 e.symm))))
  clear B12 KK12 KW12 KX12 KG12 Os112 Os212 Oz112 Oz212
  have Ox113 := Lib.hid ho1
  have Ox213 := Lib.hid ho2
  clear ho1 ho2 hg1 hg2
  have hk1 : (0 : Int) ≤ ((1 + 2 * p.rs.length + 2 * q.rs.length : Nat) : Int) := Int.natCast_nonneg _
  obtain ⟨⟨cK0, cK1, cK2, cK3, cK4, cK5, cK6, cK7, cK8, cK9⟩, dK0, dK1, dK2, dK3, dK4, dK5, dK6, dK7, dK8, dK9⟩ := KK13.out.of10
  obtain ⟨⟨cW0, cW1, cW2, cW3⟩, dW0, dW1, dW2, dW3⟩ := KW13.out.four
  obtain ⟨⟨cX0, cX1, cX2, cX3, cX4, cX5, cX6, cX7, cX8, cX9⟩, dX0, dX1, dX2, dX3, dX4, dX5, dX6, dX7, dX8, dX9⟩ := KX13.out.of10
  obtain ⟨⟨cG0, cG1, cG2, cG3⟩, dG0, dG1, dG2, dG3⟩ := KG13.out.four
  go_wp2_with fail
  clear cK0 cK1 cK2 cK3 cK4 cK5 cK6 cK7 cK8 cK9 dK0 dK1 dK2 dK3 dK4 dK5 dK6 dK7 dK8 dK9 cW0 cW1 cW2 cW3 dW0 dW1 dW2 dW3 cX0 cX1 cX2 cX3 cX4 cX5 cX6 cX7 cX8 cX9 dX0 dX1 dX2 dX3 dX4 dX5 dX6 dX7 dX8 dX9 cG0 cG1 cG2 cG3 dG0 dG1 dG2 dG3
  refine (eqMac_self false 0 0 none none 0 0 [] _ Row.nil Row.nil (by decide)).mono ?_
  rintro e v14 ⟨rfl, hb⟩
  have B14 := Lib.hid (B13.out.trans (hb.mono B13.out.size))
  have KK14 := Lib.hid (KK13.out.below hb)
  have KW14 := Lib.hid (KW13.out.below hb)
  have KX14 := Lib.hid (KX13.out.below hb)
  have KG14 := Lib.hid (KG13.out.below hb)
  have Os114 := Lib.hid (Os113.out.kept (below_any (row := none) hb) (.inr (by simp [Value.ownBlock])))
  have Os214 := Lib.hid (Os213.out.kept (below_any (row := none) hb) (.inr (by simp [Value.ownBlock])))
  have Ox114 := Lib.hid (Ox113.out.kept (below_any (row := none) hb) (.inr (by simp [Value.ownBlock])))
  have Ox214 := Lib.hid (Ox213.out.kept (below_any (row := none) hb) (.inr (by simp [Value.ownBlock])))
  have Oz114 := Lib.hid (Oz113.out.kept (below_any (row := none) hb) (.inr (by simp [Value.ownBlock])))
  have Oz214 := Lib.hid (Oz213.out.kept (below_any (row := none) hb) (.inr (by simp [Value.ownBlock])))
  clear hb B13 KK13 KW13 KX13 KG13 Os113 Os213 Ox113 Ox213 Oz113 Oz213
  obtain ⟨⟨cK0, cK1, cK2, cK3, cK4, cK5, cK6, cK7, cK8, cK9⟩, dK0, dK1, dK2, dK3, dK4, dK5, dK6, dK7, dK8, dK9⟩ := KK14.out.of10
  obtain ⟨⟨cW0, cW1, cW2, cW3⟩, dW0, dW1, dW2, dW3⟩ := KW14.out.four
  obtain ⟨⟨cX0, cX1, cX2, cX3, cX4, cX5, cX6, cX7, cX8, cX9⟩, dX0, dX1, dX2, dX3, dX4, dX5, dX6, dX7, dX8, dX9⟩ := KX14.out.of10
  obtain ⟨⟨cG0, cG1, cG2, cG3⟩, dG0, dG1, dG2, dG3⟩ := KG14.out.four
  go_wp2_with fail
  clear cK0 cK1 cK2 cK3 cK4 cK5 cK6 cK7 cK8 cK9 dK0 dK1 dK2 dK3 dK4 dK5 dK6 dK7 dK8 dK9 cW0 cW1 cW2 cW3 dW0 dW1 dW2 dW3 cX0 cX1 cX2 cX3 cX4 cX5 cX6 cX7 cX8 cX9 dX0 dX1 dX2 dX3 dX4 dX5 dX6 dX7 dX8 dX9 cG0 cG1 cG2 cG3 dG0 dG1 dG2 dG3
  refine (markMac_nil false 0 0 1 _).mono ?_
  rintro e v15 ⟨rfl, hb⟩
  have B15 := Lib.hid (B14.out.trans (hb.mono B14.out.size))
  have KK15 := Lib.hid (KK14.out.below hb)
  have KW15 := Lib.hid (KW14.out.below hb)
  have KX15 := Lib.hid (KX14.out.below hb)
  have KG15 := Lib.hid (KG14.out.below hb)
  have Os115 := Lib.hid (Os114.out.kept (below_any (row := none) hb) (.inr (by simp [Value.ownBlock])))
  have Os215 := Lib.hid (Os214.out.kept (below_any (row := none) hb) (.inr (by simp [Value.ownBlock])))
  have Ox115 := Lib.hid (Ox114.out.kept (below_any (row := none) hb) (.inr (by simp [Value.ownBlock])))
  have Ox215 := Lib.hid (Ox214.out.kept (below_any (row := none) hb) (.inr (by simp [Value.ownBlock])))
  have Oz115 := Lib.hid (Oz114.out.kept (below_any (row := none) hb) (.inr (by simp [Value.ownBlock])))
  have Oz215 := Lib.hid (Oz214.out.kept (below_any (row := none) hb) (.inr (by simp [Value.ownBlock])))
  clear hb B14 KK14 KW14 KX14 KG14 Os114 Os214 Ox114 Ox214 Oz114 Oz214
  obtain ⟨⟨cK0, cK1, cK2, cK3, cK4, cK5, cK6, cK7, cK8, cK9⟩, dK0, dK1, dK2, dK3, dK4, dK5, dK6, dK7, dK8, dK9⟩ := KK15.out.of10
  obtain ⟨⟨cW0, cW1, cW2, cW3⟩, dW0, dW1, dW2, dW3⟩ := KW15.out.four
  obtain ⟨⟨cX0, cX1, cX2, cX3, cX4, cX5, cX6, cX7, cX8, cX9⟩, dX0, dX1, dX2, dX3, dX4, dX5, dX6, dX7, dX8, dX9⟩ := KX15.out.of10
  obtain ⟨⟨cG0, cG1, cG2, cG3⟩, dG0, dG1, dG2, dG3⟩ := KG15.out.four
  go_wp2_with fail
  clear cK0 cK1 cK2 cK3 cK4 cK5 cK6 cK7 cK8 cK9 dK0 dK1 dK2 dK3 dK4 dK5 dK6 dK7 dK8 dK9 cW0 cW1 cW2 cW3 dW0 dW1 dW2 dW3 cX0 cX1 cX2 cX3 cX4 cX5 cX6 cX7 cX8 cX9 dX0 dX1 dX2 dX3 dX4 dX5 dX6 dX7 dX8 dX9 cG0 cG1 cG2 cG3 dG0 dG1 dG2 dG3
  refine (heldMac_any false 0 0 none 0 0 1 _ Row.nil (by decide) (by decide) (by decide)).mono ?_
  rintro e v16 ⟨rfl, hb⟩
  have B16 := Lib.hid (B15.out.trans (hb.mono B15.out.size))
  have KK16 := Lib.hid (KK15.out.below hb)
  have KW16 := Lib.hid (KW15.out.below hb)
  have KX16 := Lib.hid (KX15.out.below hb)
  have KG16 := Lib.hid (KG15.out.below hb)
  have Os116 := Lib.hid (Os115.out.kept (below_any (row := none) hb) (.inr (by simp [Value.ownBlock])))
  have Os216 := Lib.hid (Os215.out.kept (below_any (row := none) hb) (.inr (by simp [Value.ownBlock])))
  have Ox116 := Lib.hid (Ox115.out.kept (below_any (row := none) hb) (.inr (by simp [Value.ownBlock])))
  have Ox216 := Lib.hid (Ox215.out.kept (below_any (row := none) hb) (.inr (by simp [Value.ownBlock])))
  have Oz116 := Lib.hid (Oz115.out.kept (below_any (row := none) hb) (.inr (by simp [Value.ownBlock])))
  have Oz216 := Lib.hid (Oz215.out.kept (below_any (row := none) hb) (.inr (by simp [Value.ownBlock])))
  clear hb B15 KK15 KW15 KX15 KG15 Os115 Os215 Ox115 Ox215 Oz115 Oz215
  obtain ⟨⟨cK0, cK1, cK2, cK3, cK4, cK5, cK6, cK7, cK8, cK9⟩, dK0, dK1, dK2, dK3, dK4, dK5, dK6, dK7, dK8, dK9⟩ := KK16.out.of10
  obtain ⟨⟨cW0, cW1, cW2, cW3⟩, dW0, dW1, dW2, dW3⟩ := KW16.out.four
  obtain ⟨⟨cX0, cX1, cX2, cX3, cX4, cX5, cX6, cX7, cX8, cX9⟩, dX0, dX1, dX2, dX3, dX4, dX5, dX6, dX7, dX8, dX9⟩ := KX16.out.of10
  obtain ⟨⟨cG0, cG1, cG2, cG3⟩, dG0, dG1, dG2, dG3⟩ := KG16.out.four
  go_wp2_with fail
  clear cK0 cK1 cK2 cK3 cK4 cK5 cK6 cK7 cK8 cK9 dK0 dK1 dK2 dK3 dK4 dK5 dK6 dK7 dK8 dK9 cW0 cW1 cW2 cW3 dW0 dW1 dW2 dW3 cX0 cX1 cX2 cX3 cX4 cX5 cX6 cX7 cX8 cX9 dX0 dX1 dX2 dX3 dX4 dX5 dX6 dX7 dX8 dX9 cG0 cG1 cG2 cG3 dG0 dG1 dG2 dG3
  refine (toKeys_any e p q t _ ((HP.out.2.below B16.out).mono B16.out.size) ((HQ.out.2.below B16.out).mono B16.out.size) fp.out fq.out).mono ?_
  rintro e v17 ⟨g_y1, g_y2, n_y1_y2, rfl, ho_y1, ho_y2, hb⟩
  have n_K_y1 : g_K ≠ g_y1 := by have h1 := KK16.out.lt; have h2 := (ho_y1.lt g_y1 rfl).1; omega
  have n_W_y1 : g_W ≠ g_y1 := by have h1 := KW16.out.lt; have h2 := (ho_y1.lt g_y1 rfl).1; omega
  have n_X_y1 : g_X ≠ g_y1 := by have h1 := KX16.out.lt; have h2 := (ho_y1.lt g_y1 rfl).1; omega
  have n_G_y1 : g_G ≠ g_y1 := by have h1 := KG16.out.lt; have h2 := (ho_y1.lt g_y1 rfl).1; omega
  have n_s1_y1 : g_s1 ≠ g_y1 := by have h1 := (Os116.out.lt g_s1 rfl).2; have h2 := (ho_y1.lt g_y1 rfl).1; omega
  have n_s2_y1 : g_s2 ≠ g_y1 := by have h1 := (Os216.out.lt g_s2 rfl).2; have h2 := (ho_y1.lt g_y1 rfl).1; omega
  have n_x1_y1 : g_x1 ≠ g_y1 := by have h1 := (Ox116.out.lt g_x1 rfl).2; have h2 := (ho_y1.lt g_y1 rfl).1; omega
  have n_x2_y1 : g_x2 ≠ g_y1 := by have h1 := (Ox216.out.lt g_x2 rfl).2; have h2 := (ho_y1.lt g_y1 rfl).1; omega
  have n_z1_y1 : g_z1 ≠ g_y1 := by have h1 := (Oz116.out.lt g_z1 rfl).2; have h2 := (ho_y1.lt g_y1 rfl).1; omega
  have n_z2_y1 : g_z2 ≠ g_y1 := by have h1 := (Oz216.out.lt g_z2 rfl).2; have h2 := (ho_y1.lt g_y1 rfl).1; omega
  have l_y1 : w.heap.size ≤ g_y1 := Nat.le_trans B16.out.size (ho_y1.lt g_y1 rfl).1
  have n_K_y2 : g_K ≠ g_y2 := by have h1 := KK16.out.lt; have h2 := (ho_y2.lt g_y2 rfl).1; omega
  have n_W_y2 : g_W ≠ g_y2 := by have h1 := KW16.out.lt; have h2 := (ho_y2.lt g_y2 rfl).1; omega
  have n_X_y2 : g_X ≠ g_y2 := by have h1 := KX16.out.lt; have h2 := (ho_y2.lt g_y2 rfl).1; omega
  have n_G_y2 : g_G ≠ g_y2 := by have h1 := KG16.out.lt; have h2 := (ho_y2.lt g_y2 rfl).1; omega
  have n_s1_y2 : g_s1 ≠ g_y2 := by have h1 := (Os116.out.lt g_s1 rfl).2; have h2 := (ho_y2.lt g_y2 rfl).1; omega
  have n_s2_y2 : g_s2 ≠ g_y2 := by have h1 := (Os216.out.lt g_s2 rfl).2; have h2 := (ho_y2.lt g_y2 rfl).1; omega
  have n_x1_y2 : g_x1 ≠ g_y2 := by have h1 := (Ox116.out.lt g_x1 rfl).2; have h2 := (ho_y2.lt g_y2 rfl).1; omega
  have n_x2_y2 : g_x2 ≠ g_y2 := by have h1 := (Ox216.out.lt g_x2 rfl).2; have h2 := (ho_y2.lt g_y2 rfl).1; omega
  have n_z1_y2 : g_z1 ≠ g_y2 := by have h1 := (Oz116.out.lt g_z1 rfl).2; have h2 := (ho_y2.lt g_y2 rfl).1; omega
  have n_z2_y2 : g_z2 ≠ g_y2 := by have h1 := (Oz216.out.lt g_z2 rfl).2; have h2 := (ho_y2.lt g_y2 rfl).1; omega
  have l_y2 : w.heap.size ≤ g_y2 := Nat.le_trans B16.out.size (ho_y2.lt g_y2 rfl).1
  have B17 := Lib.hid (B16.out.trans (hb.mono B16.out.size))
  have KK17 := Lib.hid (KK16.out.below hb)
  have KW17 := Lib.hid (KW16.out.below hb)
  have KX17 := Lib.hid (KX16.out.below hb)
  have KG17 := Lib.hid (KG16.out.below hb)
  have Os117 := Lib.hid (Os116.out.kept (below_any (row := none) hb) (.inr (by simp [Value.ownBlock])))
  have Os217 := Lib.hid (Os216.out.kept (below_any (row := none) hb) (.inr (by simp [Value.ownBlock])))
  have Ox117 := Lib.hid (Ox116.out.kept (below_any (row := none) hb) (.inr (by simp [Value.ownBlock])))
  have Ox217 := Lib.hid (Ox216.out.kept (below_any (row := none) hb) (.inr (by simp [Value.ownBlock])))
  have Oz117 := Lib.hid (Oz116.out.kept (below_any (row := none) hb) (.inr (by simp [Value.ownBlock])))
  have Oz217 := Lib.hid (Oz216.out.kept (below_any (row := none) hb) (.inr (by simp [Value.ownBlock])))
  have Oy117 := Lib.hid (own_down ho_y1 (Nat.zero_le _))
  have Oy217 := Lib.hid (own_down ho_y2 (Nat.zero_le _))
  clear hb B16 KK16 KW16 KX16 KG16 Os116 Os216 Ox116 Ox216 Oz116 Oz216 ho_y1 ho_y2
  obtain ⟨⟨cK0, cK1, cK2, cK3, cK4, cK5, cK6, cK7, cK8, cK9⟩, dK0, dK1, dK2, dK3, dK4, dK5, dK6, dK7, dK8, dK9⟩ := KK17.out.of10
  obtain ⟨⟨cW0, cW1, cW2, cW3⟩, dW0, dW1, dW2, dW3⟩ := KW17.out.four
  obtain ⟨⟨cX0, cX1, cX2, cX3, cX4, cX5, cX6, cX7, cX8, cX9⟩, dX0, dX1, dX2, dX3, dX4, dX5, dX6, dX7, dX8, dX9⟩ := KX17.out.of10
  obtain ⟨⟨cG0, cG1, cG2, cG3⟩, dG0, dG1, dG2, dG3⟩ := KG17.out.four
  go_wp2_with fail
  clear cK0 cK1 cK2 cK3 cK4 cK5 cK6 cK7 cK8 cK9 dK0 dK1 dK2 dK3 dK4 dK5 dK6 dK7 dK8 dK9 cW0 cW1 cW2 cW3 dW0 dW1 dW2 dW3 cX0 cX1 cX2 cX3 cX4 cX5 cX6 cX7 cX8 cX9 dX0 dX1 dX2 dX3 dX4 dX5 dX6 dX7 dX8 dX9 cG0 cG1 cG2 cG3 dG0 dG1 dG2 dG3
  refine (C2.out g_y1 g_y2 p.rs.length q.rs.length _).mono ?_
  rintro e v18 ⟨rfl, hb⟩
  have B18 := Lib.hid (B17.out.trans (hb.mono B17.out.size))
  have KK18 := Lib.hid (KK17.out.below hb)
  have KW18 := Lib.hid (KW17.out.below hb)
  have KX18 := Lib.hid (KX17.out.below hb)
  have KG18 := Lib.hid (KG17.out.below hb)
  have Os118 := Lib.hid (Os117.out.kept (below_any (row := none) hb) (.inr (by simp [Value.ownBlock])))
  have Os218 := Lib.hid (Os217.out.kept (below_any (row := none) hb) (.inr (by simp [Value.ownBlock])))
  have Ox118 := Lib.hid (Ox117.out.kept (below_any (row := none) hb) (.inr (by simp [Value.ownBlock])))
  have Ox218 := Lib.hid (Ox217.out.kept (below_any (row := none) hb) (.inr (by simp [Value.ownBlock])))
  have Oz118 := Lib.hid (Oz117.out.kept (below_any (row := none) hb) (.inr (by simp [Value.ownBlock])))
  have Oz218 := Lib.hid (Oz217.out.kept (below_any (row := none) hb) (.inr (by simp [Value.ownBlock])))
  have Oy118 := Lib.hid (Oy117.out.kept (below_any (row := none) hb) (.inr (by simp [Value.ownBlock])))
  have Oy218 := Lib.hid (Oy217.out.kept (below_any (row := none) hb) (.inr (by simp [Value.ownBlock])))
  clear hb B17 KK17 KW17 KX17 KG17 Os117 Os217 Ox117 Ox217 Oz117 Oz217 Oy117 Oy217
  have KHn := Lib.hid (Blk.new v18 [.bool false, .int .u64 0, .int .u64 0, .slice none 0 0] 27)
  have n_K_H : g_K ≠ v18.heap.size := by have h1 := KK18.out.lt; omega
  have n_W_H : g_W ≠ v18.heap.size := by have h1 := KW18.out.lt; omega
  have n_X_H : g_X ≠ v18.heap.size := by have h1 := KX18.out.lt; omega
  have n_G_H : g_G ≠ v18.heap.size := by have h1 := KG18.out.lt; omega
  have n_s1_H : g_s1 ≠ v18.heap.size := by have h1 := (Os118.out.lt g_s1 rfl).2; omega
  have n_s2_H : g_s2 ≠ v18.heap.size := by have h1 := (Os218.out.lt g_s2 rfl).2; omega
  have n_x1_H : g_x1 ≠ v18.heap.size := by have h1 := (Ox118.out.lt g_x1 rfl).2; omega
  have n_x2_H : g_x2 ≠ v18.heap.size := by have h1 := (Ox218.out.lt g_x2 rfl).2; omega
  have n_z1_H : g_z1 ≠ v18.heap.size := by have h1 := (Oz118.out.lt g_z1 rfl).2; omega
  have n_z2_H : g_z2 ≠ v18.heap.size := by have h1 := (Oz218.out.lt g_z2 rfl).2; omega
  have n_y1_H : g_y1 ≠ v18.heap.size := by have h1 := (Oy118.out.lt g_y1 rfl).2; omega
  have n_y2_H : g_y2 ≠ v18.heap.size := by have h1 := (Oy218.out.lt g_y2 rfl).2; omega
  have Bn := Lib.hid (B18.out.alloc B18.out.size (.cells #[.bool false, .int .u64 0, .int .u64 0, .slice none 0 0] 27))
  have KKn := Lib.hid (KK18.out.alloc (.cells #[.bool false, .int .u64 0, .int .u64 0, .slice none 0 0] 27))
  have KWn := Lib.hid (KW18.out.alloc (.cells #[.bool false, .int .u64 0, .int .u64 0, .slice none 0 0] 27))
  have KXn := Lib.hid (KX18.out.alloc (.cells #[.bool false, .int .u64 0, .int .u64 0, .slice none 0 0] 27))
  have KGn := Lib.hid (KG18.out.alloc (.cells #[.bool false, .int .u64 0, .int .u64 0, .slice none 0 0] 27))
  have Os1n := Lib.hid (Os118.out.alloc (.cells #[.bool false, .int .u64 0, .int .u64 0, .slice none 0 0] 27))
  have Os2n := Lib.hid (Os218.out.alloc (.cells #[.bool false, .int .u64 0, .int .u64 0, .slice none 0 0] 27))
  have Ox1n := Lib.hid (Ox118.out.alloc (.cells #[.bool false, .int .u64 0, .int .u64 0, .slice none 0 0] 27))
  have Ox2n := Lib.hid (Ox218.out.alloc (.cells #[.bool false, .int .u64 0, .int .u64 0, .slice none 0 0] 27))
  have Oz1n := Lib.hid (Oz118.out.alloc (.cells #[.bool false, .int .u64 0, .int .u64 0, .slice none 0 0] 27))
  have Oz2n := Lib.hid (Oz218.out.alloc (.cells #[.bool false, .int .u64 0, .int .u64 0, .slice none 0 0] 27))
  have Oy1n := Lib.hid (Oy118.out.alloc (.cells #[.bool false, .int .u64 0, .int .u64 0, .slice none 0 0] 27))
  have Oy2n := Lib.hid (Oy218.out.alloc (.cells #[.bool false, .int .u64 0, .int .u64 0, .slice none 0 0] 27))
  clear B18 KK18 KW18 KX18 KG18 Os118 Os218 Ox118 Ox218 Oz118 Oz218 Oy118 Oy218
  obtain ⟨⟨cK0, cK1, cK2, cK3, cK4, cK5, cK6, cK7, cK8, cK9⟩, dK0, dK1, dK2, dK3, dK4, dK5, dK6, dK7, dK8, dK9⟩ := KKn.out.of10
  obtain ⟨⟨cW0, cW1, cW2, cW3⟩, dW0, dW1, dW2, dW3⟩ := KWn.out.four
  obtain ⟨⟨cX0, cX1, cX2, cX3, cX4, cX5, cX6, cX7, cX8, cX9⟩, dX0, dX1, dX2, dX3, dX4, dX5, dX6, dX7, dX8, dX9⟩ := KXn.out.of10
  obtain ⟨⟨cG0, cG1, cG2, cG3⟩, dG0, dG1, dG2, dG3⟩ := KGn.out.four
  go_wp2_with fail
  clear cK0 cK1 cK2 cK3 cK4 cK5 cK6 cK7 cK8 cK9 dK0 dK1 dK2 dK3 dK4 dK5 dK6 dK7 dK8 dK9 cW0 cW1 cW2 cW3 dW0 dW1 dW2 dW3 cX0 cX1 cX2 cX3 cX4 cX5 cX6 cX7 cX8 cX9 dX0 dX1 dX2 dX3 dX4 dX5 dX6 dX7 dX8 dX9 cG0 cG1 cG2 cG3 dG0 dG1 dG2 dG3
  change Calls _ _ _ (v18.alloc (.cells #[.bool false, .int .u64 0, .int .u64 0, .slice none 0 0] 27)) _
  generalize v18.alloc (.cells #[.bool false, .int .u64 0, .int .u64 0, .slice none 0 0] 27) = v19 at KHn Bn KKn KWn KXn KGn Os1n Os2n Ox1n Ox2n Oz1n Oz2n Oy1n Oy2n ⊢
  generalize v18.heap.size = g_H at KHn n_K_H n_W_H n_X_H n_G_H n_s1_H n_s2_H n_x1_H n_x2_H n_z1_H n_z2_H n_y1_H n_y2_H ⊢
  clear v18
  have KK19 := KKn
  clear KKn
  have KW19 := KWn
  clear KWn
  have KX19 := KXn
  clear KXn
  have KG19 := KGn
  clear KGn
  have KH19 := KHn
  clear KHn
  have Os119 := Os1n
  clear Os1n
  have Os219 := Os2n
  clear Os2n
  have Ox119 := Ox1n
  clear Ox1n
  have Ox219 := Ox2n
  clear Ox2n
  have Oz119 := Oz1n
  clear Oz1n
  have Oz219 := Oz2n
  clear Oz2n
  have Oy119 := Oy1n
  clear Oy1n
  have Oy219 := Oy2n
  clear Oy2n
  have B19 := Bn
  clear Bn
  refine (eqMac_self false 0 0 none none 0 0 [] _ Row.nil Row.nil (by decide)).mono ?_
  rintro e v20 ⟨rfl, hb⟩
  have B20 := Lib.hid (B19.out.trans (hb.mono B19.out.size))
  have KK20 := Lib.hid (KK19.out.below hb)
  have KW20 := Lib.hid (KW19.out.below hb)
  have KX20 := Lib.hid (KX19.out.below hb)
  have KG20 := Lib.hid (KG19.out.below hb)
  have KH20 := Lib.hid (KH19.out.below hb)
  have Os120 := Lib.hid (Os119.out.kept (below_any (row := none) hb) (.inr (by simp [Value.ownBlock])))
  have Os220 := Lib.hid (Os219.out.kept (below_any (row := none) hb) (.inr (by simp [Value.ownBlock])))
  have Ox120 := Lib.hid (Ox119.out.kept (below_any (row := none) hb) (.inr (by simp [Value.ownBlock])))
  have Ox220 := Lib.hid (Ox219.out.kept (below_any (row := none) hb) (.inr (by simp [Value.ownBlock])))
  have Oz120 := Lib.hid (Oz119.out.kept (below_any (row := none) hb) (.inr (by simp [Value.ownBlock])))
  have Oz220 := Lib.hid (Oz219.out.kept (below_any (row := none) hb) (.inr (by simp [Value.ownBlock])))
  have Oy120 := Lib.hid (Oy119.out.kept (below_any (row := none) hb) (.inr (by simp [Value.ownBlock])))
  have Oy220 := Lib.hid (Oy219.out.kept (below_any (row := none) hb) (.inr (by simp [Value.ownBlock])))
  clear hb B19 KK19 KW19 KX19 KG19 KH19 Os119 Os219 Ox119 Ox219 Oz119 Oz219 Oy119 Oy219
  obtain ⟨⟨cK0, cK1, cK2, cK3, cK4, cK5, cK6, cK7, cK8, cK9⟩, dK0, dK1, dK2, dK3, dK4, dK5, dK6, dK7, dK8, dK9⟩ := KK20.out.of10
  obtain ⟨⟨cW0, cW1, cW2, cW3⟩, dW0, dW1, dW2, dW3⟩ := KW20.out.four
  obtain ⟨⟨cX0, cX1, cX2, cX3, cX4, cX5, cX6, cX7, cX8, cX9⟩, dX0, dX1, dX2, dX3, dX4, dX5, dX6, dX7, dX8, dX9⟩ := KX20.out.of10
  obtain ⟨⟨cG0, cG1, cG2, cG3⟩, dG0, dG1, dG2, dG3⟩ := KG20.out.four
  obtain ⟨⟨cH0, cH1, cH2, cH3⟩, dH0, dH1, dH2, dH3⟩ := KH20.out.four
  go_wp2_with fail
  clear cK0 cK1 cK2 cK3 cK4 cK5 cK6 cK7 cK8 cK9 dK0 dK1 dK2 dK3 dK4 dK5 dK6 dK7 dK8 dK9 cW0 cW1 cW2 cW3 dW0 dW1 dW2 dW3 cX0 cX1 cX2 cX3 cX4 cX5 cX6 cX7 cX8 cX9 dX0 dX1 dX2 dX3 dX4 dX5 dX6 dX7 dX8 dX9 cG0 cG1 cG2 cG3 dG0 dG1 dG2 dG3 cH0 cH1 cH2 cH3 dH0 dH1 dH2 dH3
  refine (heldMac_any false 0 0 none 0 0 1 _ Row.nil (by decide) (by decide) (by decide)).mono ?_
  rintro e v21 ⟨rfl, hb⟩
  have B21 := Lib.hid (B20.out.trans (hb.mono B20.out.size))
  have KK21 := Lib.hid (KK20.out.below hb)
  have KW21 := Lib.hid (KW20.out.below hb)
  have KX21 := Lib.hid (KX20.out.below hb)
  have KG21 := Lib.hid (KG20.out.below hb)
  have KH21 := Lib.hid (KH20.out.below hb)
  have Os121 := Lib.hid (Os120.out.kept (below_any (row := none) hb) (.inr (by simp [Value.ownBlock])))
  have Os221 := Lib.hid (Os220.out.kept (below_any (row := none) hb) (.inr (by simp [Value.ownBlock])))
  have Ox121 := Lib.hid (Ox120.out.kept (below_any (row := none) hb) (.inr (by simp [Value.ownBlock])))
  have Ox221 := Lib.hid (Ox220.out.kept (below_any (row := none) hb) (.inr (by simp [Value.ownBlock])))
  have Oz121 := Lib.hid (Oz120.out.kept (below_any (row := none) hb) (.inr (by simp [Value.ownBlock])))
  have Oz221 := Lib.hid (Oz220.out.kept (below_any (row := none) hb) (.inr (by simp [Value.ownBlock])))
  have Oy121 := Lib.hid (Oy120.out.kept (below_any (row := none) hb) (.inr (by simp [Value.ownBlock])))
  have Oy221 := Lib.hid (Oy220.out.kept (below_any (row := none) hb) (.inr (by simp [Value.ownBlock])))
  clear hb B20 KK20 KW20 KX20 KG20 KH20 Os120 Os220 Ox120 Ox220 Oz120 Oz220 Oy120 Oy220
  obtain ⟨⟨cK0, cK1, cK2, cK3, cK4, cK5, cK6, cK7, cK8, cK9⟩, dK0, dK1, dK2, dK3, dK4, dK5, dK6, dK7, dK8, dK9⟩ := KK21.out.of10
  obtain ⟨⟨cW0, cW1, cW2, cW3⟩, dW0, dW1, dW2, dW3⟩ := KW21.out.four
  obtain ⟨⟨cX0, cX1, cX2, cX3, cX4, cX5, cX6, cX7, cX8, cX9⟩, dX0, dX1, dX2, dX3, dX4, dX5, dX6, dX7, dX8, dX9⟩ := KX21.out.of10
  obtain ⟨⟨cG0, cG1, cG2, cG3⟩, dG0, dG1, dG2, dG3⟩ := KG21.out.four
  obtain ⟨⟨cH0, cH1, cH2, cH3⟩, dH0, dH1, dH2, dH3⟩ := KH21.out.four
  go_wp2_with fail
  go_ret
  exact ⟨rfl, B21.out⟩

set_option maxRecDepth 100000 in
set_option maxHeartbeats 8000000 in
theorem go (e n : Int) (p q : M) (t : Bool) (w : World) (hp : LawM w p) (hq : LawM w q) :
    Calls Try.prog 6 #[.agg #[.int .i64 e, .bool p.u, .int .u64 (n64 p.k), .int .u64 (n64 p.l), .slice p.a p.rs.length p.c, .bool q.u, .int .u64 (n64 q.k), .int .u64 (n64 q.l), .slice q.a q.rs.length q.c, .bool t], .int .i64 n] w (OkB w) := by

  cases t with
  | false =>
    by_cases hn : (n == e) = false
    · exact goNone e n p q false w hp hq (fun g h c d w => secNoOneS_at e n p q g h c d w hn) (fun g h c d w => secNoOneI_at e n p q g h c d w hn)
    · obtain rfl : n = e := by simpa using hn
      exact goSome n n p q p false w hp hq (fun h _ => h) (fun g h c d w o1 o2 f _ => secNowOneS_at n p q g h c d w o1 o2 f) (fun g h c d w o1 o2 f _ => secNowOneI_at n p q g h c d w o1 o2 f)
  | true =>
    by_cases hn : (n == e) = false
    · by_cases hw : (n == wrap64 (e - 1)) = false
      · exact goNone e n p q true w hp hq (fun g h c d w => secNoTwoS_at e n p q g h c d w hn hw) (fun g h c d w => secNoTwoI_at e n p q g h c d w hn hw)
      · have hw' : n = wrap64 (e - 1) := by simpa using hw
        exact goSome e n p q q true w hp hq (fun _ h => h) (fun g h c d w o1 o2 _ f => secBefS_at e n p q g h c d w o1 o2 f hn hw') (fun g h c d w o1 o2 _ f => secBefI_at e n p q g h c d w o1 o2 f hn hw')
    · obtain rfl : n = e := by simpa using hn
      exact goSome n n p q p true w hp hq (fun h _ => h) (fun g h c d w o1 o2 f _ => secNowTwoS_at n p q g h c d w o1 o2 f) (fun g h c d w o1 o2 f _ => secNowTwoI_at n p q g h c d w o1 o2 f)

theorem walk {w : World} (e : Int) (p q : M) (t : Bool) (n : Int) (h : (Lit.int .i64 e).wf = true ∧ LawM w p ∧ LawM w q) (_wn : (Lit.int .i64 n).wf = true) :
    Calls Try.prog 6 #[.agg #[.int .i64 e, .bool p.u, .int .u64 (n64 p.k), .int .u64 (n64 p.l), .slice p.a p.rs.length p.c, .bool q.u, .int .u64 (n64 q.k), .int .u64 (n64 q.l), .slice q.a q.rs.length q.c, .bool t], .int .i64 n] w fun e w' => e = .returned (.bool true) ∧ Below w.heap.size w w' := go e n p q t w h.2.1 h.2.2
theorem own : ownKnob Try.prog.godebug = none := by kernel_rfl
theorem laidOut : laidOutB Try.prog = true := by kernel_rfl

set_option maxRecDepth 100000 in
theorem lifted (os : Os) (started : os.Started) (H : Type) (enc : TypeId × Value → H) :
    ReturnsInHanded {} Try.checked os 6 .any (Rows.fnExactSecretOfSpec.pre6 enc Try.prog Try.f6 Rows.fnExactSecretOfRow.domain false) (Rows.fnExactSecretOfSpec.post enc Try.prog Try.f6 false true false false) := by
  refine returnsInHanded_of_change (C := Try.checked) own started (by kernel_rfl) Try.func6
    (ChangeSpec.witness6 (enc := enc) (C := Try.checked) false ⟨#[], #[.agg #[.int .i64 0, .bool false, .int .u64 0, .int .u64 0, .slice none 0 0, .bool false, .int .u64 0, .int .u64 0, .slice none 0 0, .bool false], .int .i64 0], []⟩ 8 (by kernel_rfl) (by kernel_rfl) (by kernel_rfl) (by kernel_rfl)) ?_
  intro W base args ds gs before hval0 hW _ _
  have hval : ∀ (j : Nat) t v, Try.f6.params[j]? = some t → args[j]? = some v → Value.okWide Try.prog W .any base t v := hval0
  have hW' := hW
  obtain ⟨p, q, hA0, hV, rfl, _, _⟩ := hW
  have hA : DataW.TrodAll enc Try.prog W 0 (fun _ => true) true Try.f6.params.toList args.toList ds p := hA0
  rw [Try.params6] at hA hval
  obtain ⟨v0, vs0, d0, ds0, p0, q0, hargs, rfl, rfl, h0, r0⟩ := trodAll_cons hA
  obtain ⟨v1, vs1, d1, ds1, p1, q1, rfl, rfl, rfl, h1, r1⟩ := trodAll_cons r0
  obtain ⟨rfl, rfl, rfl⟩ := trodAll_nil r1
  obtain rfl : args = #[v0, v1] := by cases args; simp_all
  obtain ⟨rfl, rfl⟩ := trodVars_none hV
  have k0 := h0
  have lt0 : ∀ x ∈ p0, x.block < W.heap.size := by obtain ⟨m, hm⟩ := k0; exact DataW.trod_lt m _ _ _ hm
  obtain ⟨e0, p0, q0, t0, rfl, w0⟩ := argKeys (hval 0 52 v0 rfl rfl) h0
  obtain ⟨a1, rfl, rfl, rfl, w1⟩ := open_int Try.underlying3 (hval 1 3 v1 rfl rfl) h1
  clear hA0 hval0
  refine (walk e0 p0 q0 t0 a1 w0 w1).mono fun e W' ⟨he, bel⟩ => ?_
  subst he
  exact ⟨_, rfl, _, _, _, [], _, [], hW', trodAll_mk1 (shut_bool Try.underlying4 _), (trodAll_cons_mk (Below.trod laidOut (by kernel_rfl) (of_decide_eq_true (by kernel_rfl)) k0 bel lt0) (trodAll_cons_mk (shut_int Try.underlying3 w1) trodAll_mk0)), rfl, bel.frame _, fun h => by cases h⟩

theorem over : Rows.fnExactSecretOfRow.holds Try.pinned (OpenSpec.ofChange Rows.fnExactSecretOfSpec) :=
  OpenClaim.holds_of_wide 6 Try.f6 rfl rfl rfl rfl rfl rfl rfl ⟨rfl, rfl, rfl, rfl, rfl⟩ rfl rfl rfl rfl rfl (by kernel_rfl) Try.func6 (by kernel_rfl)
    (of_decide_eq_true (by kernel_rfl)) (by unfold Func.isWrapper; first | (rw [if_pos (by decide +kernel)]; kernel_rfl) | (rw [if_neg (by decide +kernel)]; exact ⟨rfl, rfl⟩))
    (fun os started H enc _ => lifted os started H enc)

theorem proved : Rows.FnExactSecretOfSaid := over
#print axioms proved
end Go.Proofs.Ytobfgkiccmhgdaa.fnExactSecretOf
