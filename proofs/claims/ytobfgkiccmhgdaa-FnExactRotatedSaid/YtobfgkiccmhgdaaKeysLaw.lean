/- The laws' own szKeys, toKeys, eqKeys. Nothing here is a claim. -/
import Derived.Test.YtobfgkiccmhgdaaKeysA
import Derived.Test.YtobfgkiccmhgdaaMacLaw2
namespace Go.Proofs.Ytobfgkiccmhgdaa
open Go.RowKit Go.Lib

/-- A Mac among a law's arguments. -/
def LawM (w : World) (m : M) : Prop := (m.rs.length ≤ maxLen ∧ ∀ r ∈ m.rs, goodM r) ∧ Row w w.heap.size m.a (mrs m.rs)
/-- What szKeys tells: a result that is not negative bounds both tables. -/
def SzK (p q : M) (left : Int) (w : World) (e : Ending) (w' : World) : Prop :=
  Below w.heap.size w w' ∧ ∃ r : Int, e = .returned (.int .i64 r) ∧ r ≤ left ∧ (0 ≤ r → r = left - p.rs.length - mlens p.rs - q.rs.length - mlens q.rs)

set_option maxRecDepth 100000 in
set_option maxHeartbeats 4000000 in
theorem szKeys_any (e : Int) (p q : M) (t : Bool) (left : Int) (w : World) (hp : LawM w p) (hq : LawM w q) (h0 : 0 ≤ left) (h1 : left ≤ 1048576) :
    Calls Try.prog 26 #[.agg #[.int .i64 e, .bool p.u, .int .u64 (n64 p.k), .int .u64 (n64 p.l), .slice p.a p.rs.length p.c, .bool q.u, .int .u64 (n64 q.k), .int .u64 (n64 q.l), .slice q.a q.rs.length q.c, .bool t], .int .i64 left] w (SzK p q left w) := by
  have HP := Lib.hid hp
  have HQ := Lib.hid hq
  clear hp hq
  go_enter Try.func26, Try.ntmps26
  have B0 := Lib.hid (show Below w.heap.size w (w.alloc (.cells #[.int .i64 e, .bool p.u, .int .u64 (n64 p.k), .int .u64 (n64 p.l), .slice p.a p.rs.length p.c, .bool q.u, .int .u64 (n64 q.k), .int .u64 (n64 q.l), .slice q.a q.rs.length q.c, .bool t] 52)) from ((Below.refl _ w).alloc (by simp) _))
  have KK0 := Lib.hid (show Blk (w.alloc (.cells #[.int .i64 e, .bool p.u, .int .u64 (n64 p.k), .int .u64 (n64 p.l), .slice p.a p.rs.length p.c, .bool q.u, .int .u64 (n64 q.k), .int .u64 (n64 q.l), .slice q.a q.rs.length q.c, .bool t] 52)) (w.heap.size) [.int .i64 e, .bool p.u, .int .u64 (n64 p.k), .int .u64 (n64 p.l), .slice p.a p.rs.length p.c, .bool q.u, .int .u64 (n64 q.k), .int .u64 (n64 q.l), .slice q.a q.rs.length q.c, .bool t] from Blk.new w [.int .i64 e, .bool p.u, .int .u64 (n64 p.k), .int .u64 (n64 p.l), .slice p.a p.rs.length p.c, .bool q.u, .int .u64 (n64 q.k), .int .u64 (n64 q.l), .slice q.a q.rs.length q.c, .bool t] 52)
  go_wp2_with fail
  change Calls _ _ _ (w.alloc (.cells #[.int .i64 e, .bool p.u, .int .u64 (n64 p.k), .int .u64 (n64 p.l), .slice p.a p.rs.length p.c, .bool q.u, .int .u64 (n64 q.k), .int .u64 (n64 q.l), .slice q.a q.rs.length q.c, .bool t] 52)) _
  generalize w.alloc (.cells #[.int .i64 e, .bool p.u, .int .u64 (n64 p.k), .int .u64 (n64 p.l), .slice p.a p.rs.length p.c, .bool q.u, .int .u64 (n64 q.k), .int .u64 (n64 q.l), .slice q.a q.rs.length q.c, .bool t] 52) = v0 at B0 KK0 ⊢
  generalize w.heap.size = g_K at KK0 ⊢
  refine (szMac_any p.u (n64 p.k) (n64 p.l) p.a p.c p.rs left _ ((HP.out.2.below B0.out).mono B0.out.size) HP.out.1.1 (fun r hr => (HP.out.1.2 r hr).1) h0 h1).mono ?_
  rintro e v1 ⟨hb, r, rfl, hr1, hr2⟩
  have B1 := Lib.hid (B0.out.trans (hb.mono B0.out.size))
  have KK1 := Lib.hid (KK0.out.below hb)
  clear hb B0 KK0
  have HR := Lib.hid hr2
  clear hr2
  obtain ⟨⟨cK0, cK1, cK2, cK3, cK4, cK5, cK6, cK7, cK8, cK9⟩, dK0, dK1, dK2, dK3, dK4, dK5, dK6, dK7, dK8, dK9⟩ := KK1.out.of10
  by_cases hneg : r < 0
  · go_wp2_with fail
    go_ret
    exact ⟨B1.out, -1, rfl, by omega, fun h => by omega⟩
  go_wp2_with fail
  clear cK0 cK1 cK2 cK3 cK4 cK5 cK6 cK7 cK8 cK9 dK0 dK1 dK2 dK3 dK4 dK5 dK6 dK7 dK8 dK9
  refine (szMac_any q.u (n64 q.k) (n64 q.l) q.a q.c q.rs r _ ((HQ.out.2.below B1.out).mono B1.out.size) HQ.out.1.1 (fun r hr => (HQ.out.1.2 r hr).1) (by omega) (by omega)).mono ?_
  rintro e v2 ⟨hb, s, rfl, hs1, hs2⟩
  have B2 := Lib.hid (B1.out.trans (hb.mono B1.out.size))
  have KK2 := Lib.hid (KK1.out.below hb)
  clear hb B1 KK1
  have HS := Lib.hid hs2
  clear hs2
  obtain ⟨⟨cK0, cK1, cK2, cK3, cK4, cK5, cK6, cK7, cK8, cK9⟩, dK0, dK1, dK2, dK3, dK4, dK5, dK6, dK7, dK8, dK9⟩ := KK2.out.of10
  by_cases hneg2 : s < 0
  · go_wp2_with fail
    go_ret
    exact ⟨B2.out, -1, rfl, by omega, fun h => by omega⟩
  go_wp2_with fail
  go_ret
  exact ⟨B2.out, s, rfl, by omega, fun h => by have a1 := HR.out (by omega); have a2 := HS.out h; omega⟩

/-- What toKeys hands back: the same, the rows in new memory. -/
def ToK (e : Int) (p q : M) (t : Bool) (w : World) (x : Ending) (w' : World) : Prop :=
  ∃ g_p g_q, g_p ≠ g_q ∧ x = .returned (.agg #[.int .i64 e, .bool p.u, .int .u64 (n64 p.k), .int .u64 (n64 p.l), .slice (some ⟨g_p, 0, none⟩) p.rs.length p.rs.length, .bool q.u, .int .u64 (n64 q.k), .int .u64 (n64 q.l), .slice (some ⟨g_q, 0, none⟩) q.rs.length q.rs.length, .bool t]) ∧ w'.ownsRow w.heap.size 92 2 (.slice (some ⟨g_p, 0, none⟩) p.rs.length p.rs.length) p.rs.length (mrs p.rs) ∧ w'.ownsRow w.heap.size 92 2 (.slice (some ⟨g_q, 0, none⟩) q.rs.length q.rs.length) q.rs.length (mrs q.rs) ∧ Below w.heap.size w w'
set_option maxRecDepth 100000 in
set_option maxHeartbeats 4000000 in
theorem toKeys_any (e : Int) (p q : M) (t : Bool) (w : World) (hp : Row w w.heap.size p.a (mrs p.rs)) (hq : Row w w.heap.size q.a (mrs q.rs)) (fp : p.rs.length ≤ 1048576) (fq : q.rs.length ≤ 1048576) :
    Calls Try.prog 27 #[.agg #[.int .i64 e, .bool p.u, .int .u64 (n64 p.k), .int .u64 (n64 p.l), .slice p.a p.rs.length p.c, .bool q.u, .int .u64 (n64 q.k), .int .u64 (n64 q.l), .slice q.a q.rs.length q.c, .bool t]] w (ToK e p q t w) := by
  have HP := Lib.hid hp
  have HQ := Lib.hid hq
  clear hp hq
  go_enter Try.func27, Try.ntmps27
  have B0 := Lib.hid (show Below w.heap.size w (((w.alloc (.cells #[.int .i64 e, .bool p.u, .int .u64 (n64 p.k), .int .u64 (n64 p.l), .slice p.a p.rs.length p.c, .bool q.u, .int .u64 (n64 q.k), .int .u64 (n64 q.l), .slice q.a q.rs.length q.c, .bool t] 52)).alloc (.cells #[.int .i64 0, .bool false, .int .u64 0, .int .u64 0, .slice none 0 0, .bool false, .int .u64 0, .int .u64 0, .slice none 0 0, .bool false] 29)).alloc (.cells #[.int .i64 e, .bool false, .int .u64 0, .int .u64 0, .slice none 0 0, .bool false, .int .u64 0, .int .u64 0, .slice none 0 0, .bool false] 29)) from ((((Below.refl _ w).alloc (by simp) _).alloc (by simp) _).alloc (by simp; omega) _))
  have KK0 := Lib.hid (show Blk (((w.alloc (.cells #[.int .i64 e, .bool p.u, .int .u64 (n64 p.k), .int .u64 (n64 p.l), .slice p.a p.rs.length p.c, .bool q.u, .int .u64 (n64 q.k), .int .u64 (n64 q.l), .slice q.a q.rs.length q.c, .bool t] 52)).alloc (.cells #[.int .i64 0, .bool false, .int .u64 0, .int .u64 0, .slice none 0 0, .bool false, .int .u64 0, .int .u64 0, .slice none 0 0, .bool false] 29)).alloc (.cells #[.int .i64 e, .bool false, .int .u64 0, .int .u64 0, .slice none 0 0, .bool false, .int .u64 0, .int .u64 0, .slice none 0 0, .bool false] 29)) (w.heap.size) [.int .i64 e, .bool p.u, .int .u64 (n64 p.k), .int .u64 (n64 p.l), .slice p.a p.rs.length p.c, .bool q.u, .int .u64 (n64 q.k), .int .u64 (n64 q.l), .slice q.a q.rs.length q.c, .bool t] from ((Blk.new w [.int .i64 e, .bool p.u, .int .u64 (n64 p.k), .int .u64 (n64 p.l), .slice p.a p.rs.length p.c, .bool q.u, .int .u64 (n64 q.k), .int .u64 (n64 q.l), .slice q.a q.rs.length q.c, .bool t] 52).alloc (.cells #[.int .i64 0, .bool false, .int .u64 0, .int .u64 0, .slice none 0 0, .bool false, .int .u64 0, .int .u64 0, .slice none 0 0, .bool false] 29)).alloc (.cells #[.int .i64 e, .bool false, .int .u64 0, .int .u64 0, .slice none 0 0, .bool false, .int .u64 0, .int .u64 0, .slice none 0 0, .bool false] 29))
  have s1 : (w.alloc (.cells #[.int .i64 e, .bool p.u, .int .u64 (n64 p.k), .int .u64 (n64 p.l), .slice p.a p.rs.length p.c, .bool q.u, .int .u64 (n64 q.k), .int .u64 (n64 q.l), .slice q.a q.rs.length q.c, .bool t] 52)).heap.size = w.heap.size + 1 := by simp
  have KR0 := Lib.hid (show Blk (((w.alloc (.cells #[.int .i64 e, .bool p.u, .int .u64 (n64 p.k), .int .u64 (n64 p.l), .slice p.a p.rs.length p.c, .bool q.u, .int .u64 (n64 q.k), .int .u64 (n64 q.l), .slice q.a q.rs.length q.c, .bool t] 52)).alloc (.cells #[.int .i64 0, .bool false, .int .u64 0, .int .u64 0, .slice none 0 0, .bool false, .int .u64 0, .int .u64 0, .slice none 0 0, .bool false] 29)).alloc (.cells #[.int .i64 e, .bool false, .int .u64 0, .int .u64 0, .slice none 0 0, .bool false, .int .u64 0, .int .u64 0, .slice none 0 0, .bool false] 29)) (w.heap.size + 1) [.int .i64 0, .bool false, .int .u64 0, .int .u64 0, .slice none 0 0, .bool false, .int .u64 0, .int .u64 0, .slice none 0 0, .bool false] by have h0 := (Blk.new (w.alloc (.cells #[.int .i64 e, .bool p.u, .int .u64 (n64 p.k), .int .u64 (n64 p.l), .slice p.a p.rs.length p.c, .bool q.u, .int .u64 (n64 q.k), .int .u64 (n64 q.l), .slice q.a q.rs.length q.c, .bool t] 52)) [.int .i64 0, .bool false, .int .u64 0, .int .u64 0, .slice none 0 0, .bool false, .int .u64 0, .int .u64 0, .slice none 0 0, .bool false] 29).alloc (.cells #[.int .i64 e, .bool false, .int .u64 0, .int .u64 0, .slice none 0 0, .bool false, .int .u64 0, .int .u64 0, .slice none 0 0, .bool false] 29); rwa [s1] at h0)
  have n_K_R : w.heap.size ≠ w.heap.size + 1 := by omega
  have s2 : ((w.alloc (.cells #[.int .i64 e, .bool p.u, .int .u64 (n64 p.k), .int .u64 (n64 p.l), .slice p.a p.rs.length p.c, .bool q.u, .int .u64 (n64 q.k), .int .u64 (n64 q.l), .slice q.a q.rs.length q.c, .bool t] 52)).alloc (.cells #[.int .i64 0, .bool false, .int .u64 0, .int .u64 0, .slice none 0 0, .bool false, .int .u64 0, .int .u64 0, .slice none 0 0, .bool false] 29)).heap.size = w.heap.size + 1 + 1 := by simp
  have KT0 := Lib.hid (show Blk (((w.alloc (.cells #[.int .i64 e, .bool p.u, .int .u64 (n64 p.k), .int .u64 (n64 p.l), .slice p.a p.rs.length p.c, .bool q.u, .int .u64 (n64 q.k), .int .u64 (n64 q.l), .slice q.a q.rs.length q.c, .bool t] 52)).alloc (.cells #[.int .i64 0, .bool false, .int .u64 0, .int .u64 0, .slice none 0 0, .bool false, .int .u64 0, .int .u64 0, .slice none 0 0, .bool false] 29)).alloc (.cells #[.int .i64 e, .bool false, .int .u64 0, .int .u64 0, .slice none 0 0, .bool false, .int .u64 0, .int .u64 0, .slice none 0 0, .bool false] 29)) (w.heap.size + 1 + 1) [.int .i64 e, .bool false, .int .u64 0, .int .u64 0, .slice none 0 0, .bool false, .int .u64 0, .int .u64 0, .slice none 0 0, .bool false] by have h0 := Blk.new ((w.alloc (.cells #[.int .i64 e, .bool p.u, .int .u64 (n64 p.k), .int .u64 (n64 p.l), .slice p.a p.rs.length p.c, .bool q.u, .int .u64 (n64 q.k), .int .u64 (n64 q.l), .slice q.a q.rs.length q.c, .bool t] 52)).alloc (.cells #[.int .i64 0, .bool false, .int .u64 0, .int .u64 0, .slice none 0 0, .bool false, .int .u64 0, .int .u64 0, .slice none 0 0, .bool false] 29)) [.int .i64 e, .bool false, .int .u64 0, .int .u64 0, .slice none 0 0, .bool false, .int .u64 0, .int .u64 0, .slice none 0 0, .bool false] 29; rwa [s2] at h0)
  have n_K_T : w.heap.size ≠ w.heap.size + 1 + 1 := by omega
  have n_R_T : w.heap.size + 1 ≠ w.heap.size + 1 + 1 := by omega
  clear s1 s2
  go_wp2_with fail
  change Calls _ _ _ (((w.alloc (.cells #[.int .i64 e, .bool p.u, .int .u64 (n64 p.k), .int .u64 (n64 p.l), .slice p.a p.rs.length p.c, .bool q.u, .int .u64 (n64 q.k), .int .u64 (n64 q.l), .slice q.a q.rs.length q.c, .bool t] 52)).alloc (.cells #[.int .i64 0, .bool false, .int .u64 0, .int .u64 0, .slice none 0 0, .bool false, .int .u64 0, .int .u64 0, .slice none 0 0, .bool false] 29)).alloc (.cells #[.int .i64 e, .bool false, .int .u64 0, .int .u64 0, .slice none 0 0, .bool false, .int .u64 0, .int .u64 0, .slice none 0 0, .bool false] 29)) _
  generalize ((w.alloc (.cells #[.int .i64 e, .bool p.u, .int .u64 (n64 p.k), .int .u64 (n64 p.l), .slice p.a p.rs.length p.c, .bool q.u, .int .u64 (n64 q.k), .int .u64 (n64 q.l), .slice q.a q.rs.length q.c, .bool t] 52)).alloc (.cells #[.int .i64 0, .bool false, .int .u64 0, .int .u64 0, .slice none 0 0, .bool false, .int .u64 0, .int .u64 0, .slice none 0 0, .bool false] 29)).alloc (.cells #[.int .i64 e, .bool false, .int .u64 0, .int .u64 0, .slice none 0 0, .bool false, .int .u64 0, .int .u64 0, .slice none 0 0, .bool false] 29) = v0 at B0 KK0 KR0 KT0 ⊢
  generalize hh_T : w.heap.size + 1 + 1 = g_T at KT0 n_K_T n_R_T ⊢
  generalize hh_R : w.heap.size + 1 = g_R at KR0 n_K_R n_R_T ⊢
  generalize hh_K : w.heap.size = g_K at KK0 n_K_R n_K_T ⊢
  have l_K : w.heap.size ≤ g_K := by omega
  have l_R : w.heap.size ≤ g_R := by omega
  have l_T : w.heap.size ≤ g_T := by omega
  clear hh_K hh_R hh_T
  refine (toMac_any p.u (n64 p.k) (n64 p.l) p.a p.c p.rs _ ((HP.out.below B0.out).mono B0.out.size) fp).mono ?_
  rintro e v1 ⟨g_p, rfl, ho_p, hb⟩
  have n_K_p : g_K ≠ g_p := by have h1 := KK0.out.lt; have h2 := (ho_p.lt g_p rfl).1; omega
  have n_R_p : g_R ≠ g_p := by have h1 := KR0.out.lt; have h2 := (ho_p.lt g_p rfl).1; omega
  have n_T_p : g_T ≠ g_p := by have h1 := KT0.out.lt; have h2 := (ho_p.lt g_p rfl).1; omega
  have l_p : w.heap.size ≤ g_p := Nat.le_trans B0.out.size (ho_p.lt g_p rfl).1
  have B1 := Lib.hid (B0.out.trans (hb.mono B0.out.size))
  have KK1 := Lib.hid (KK0.out.below hb)
  have KR1 := Lib.hid (KR0.out.below hb)
  have KT1 := Lib.hid (KT0.out.below hb)
  have Op1 := Lib.hid (own_down ho_p (Nat.zero_le _))
  clear hb B0 KK0 KR0 KT0 ho_p
  obtain ⟨⟨cK0, cK1, cK2, cK3, cK4, cK5, cK6, cK7, cK8, cK9⟩, dK0, dK1, dK2, dK3, dK4, dK5, dK6, dK7, dK8, dK9⟩ := KK1.out.of10
  obtain ⟨⟨cR0, cR1, cR2, cR3, cR4, cR5, cR6, cR7, cR8, cR9⟩, dR0, dR1, dR2, dR3, dR4, dR5, dR6, dR7, dR8, dR9⟩ := KR1.out.of10
  obtain ⟨⟨cT0, cT1, cT2, cT3, cT4, cT5, cT6, cT7, cT8, cT9⟩, dT0, dT1, dT2, dT3, dT4, dT5, dT6, dT7, dT8, dT9⟩ := KT1.out.of10
  have KK2 := Lib.hid (show Blk ((((v1.setCell ⟨g_T, 1, none⟩ (.bool p.u)).setCell ⟨g_T, 2, none⟩ (.int .u64 (n64 p.k))).setCell ⟨g_T, 3, none⟩ (.int .u64 (n64 p.l))).setCell ⟨g_T, 4, none⟩ (.slice (some ⟨g_p, 0, none⟩) p.rs.length p.rs.length)) g_K [.int .i64 e, .bool p.u, .int .u64 (n64 p.k), .int .u64 (n64 p.l), .slice p.a p.rs.length p.c, .bool q.u, .int .u64 (n64 q.k), .int .u64 (n64 q.l), .slice q.a q.rs.length q.c, .bool t] from ((((KK1.out.setOther ⟨g_T, 1, none⟩ (.bool p.u) (n_K_T)).setOther ⟨g_T, 2, none⟩ (.int .u64 (n64 p.k)) (n_K_T)).setOther ⟨g_T, 3, none⟩ (.int .u64 (n64 p.l)) (n_K_T)).setOther ⟨g_T, 4, none⟩ (.slice (some ⟨g_p, 0, none⟩) p.rs.length p.rs.length) (n_K_T)))
  have KR2 := Lib.hid (show Blk ((((v1.setCell ⟨g_T, 1, none⟩ (.bool p.u)).setCell ⟨g_T, 2, none⟩ (.int .u64 (n64 p.k))).setCell ⟨g_T, 3, none⟩ (.int .u64 (n64 p.l))).setCell ⟨g_T, 4, none⟩ (.slice (some ⟨g_p, 0, none⟩) p.rs.length p.rs.length)) g_R [.int .i64 0, .bool false, .int .u64 0, .int .u64 0, .slice none 0 0, .bool false, .int .u64 0, .int .u64 0, .slice none 0 0, .bool false] from ((((KR1.out.setOther ⟨g_T, 1, none⟩ (.bool p.u) (n_R_T)).setOther ⟨g_T, 2, none⟩ (.int .u64 (n64 p.k)) (n_R_T)).setOther ⟨g_T, 3, none⟩ (.int .u64 (n64 p.l)) (n_R_T)).setOther ⟨g_T, 4, none⟩ (.slice (some ⟨g_p, 0, none⟩) p.rs.length p.rs.length) (n_R_T)))
  have KT2 := Lib.hid (show Blk ((((v1.setCell ⟨g_T, 1, none⟩ (.bool p.u)).setCell ⟨g_T, 2, none⟩ (.int .u64 (n64 p.k))).setCell ⟨g_T, 3, none⟩ (.int .u64 (n64 p.l))).setCell ⟨g_T, 4, none⟩ (.slice (some ⟨g_p, 0, none⟩) p.rs.length p.rs.length)) g_T [.int .i64 e, .bool p.u, .int .u64 (n64 p.k), .int .u64 (n64 p.l), .slice (some ⟨g_p, 0, none⟩) p.rs.length p.rs.length, .bool false, .int .u64 0, .int .u64 0, .slice none 0 0, .bool false] from ((((KT1.out.set 1 (.bool p.u)).set 2 (.int .u64 (n64 p.k))).set 3 (.int .u64 (n64 p.l))).set 4 (.slice (some ⟨g_p, 0, none⟩) p.rs.length p.rs.length)))
  have Op2 := Lib.hid (own_set' (own_set' (own_set' (own_set' Op1.out 1 (.bool p.u) (n_T_p)) 2 (.int .u64 (n64 p.k)) (n_T_p)) 3 (.int .u64 (n64 p.l)) (n_T_p)) 4 (.slice (some ⟨g_p, 0, none⟩) p.rs.length p.rs.length) (n_T_p))
  have B2 := Lib.hid (show Below w.heap.size w ((((v1.setCell ⟨g_T, 1, none⟩ (.bool p.u)).setCell ⟨g_T, 2, none⟩ (.int .u64 (n64 p.k))).setCell ⟨g_T, 3, none⟩ (.int .u64 (n64 p.l))).setCell ⟨g_T, 4, none⟩ (.slice (some ⟨g_p, 0, none⟩) p.rs.length p.rs.length)) from ((((B1.out.setCell l_T (.bool p.u)).setCell l_T (.int .u64 (n64 p.k))).setCell l_T (.int .u64 (n64 p.l))).setCell l_T (.slice (some ⟨g_p, 0, none⟩) p.rs.length p.rs.length)))
  clear B1
  go_wp2_with fail
  clear KK1 KR1 KT1 Op1
  clear cK0 cK1 cK2 cK3 cK4 cK5 cK6 cK7 cK8 cK9 dK0 dK1 dK2 dK3 dK4 dK5 dK6 dK7 dK8 dK9 cR0 cR1 cR2 cR3 cR4 cR5 cR6 cR7 cR8 cR9 dR0 dR1 dR2 dR3 dR4 dR5 dR6 dR7 dR8 dR9 cT0 cT1 cT2 cT3 cT4 cT5 cT6 cT7 cT8 cT9 dT0 dT1 dT2 dT3 dT4 dT5 dT6 dT7 dT8 dT9
  change Calls _ _ _ ((((v1.setCell ⟨g_T, 1, none⟩ (.bool p.u)).setCell ⟨g_T, 2, none⟩ (.int .u64 (n64 p.k))).setCell ⟨g_T, 3, none⟩ (.int .u64 (n64 p.l))).setCell ⟨g_T, 4, none⟩ (.slice (some ⟨g_p, 0, none⟩) p.rs.length p.rs.length)) _
  generalize (((v1.setCell ⟨g_T, 1, none⟩ (.bool p.u)).setCell ⟨g_T, 2, none⟩ (.int .u64 (n64 p.k))).setCell ⟨g_T, 3, none⟩ (.int .u64 (n64 p.l))).setCell ⟨g_T, 4, none⟩ (.slice (some ⟨g_p, 0, none⟩) p.rs.length p.rs.length) = v2 at B2 KK2 KR2 KT2 Op2 ⊢
  refine (toMac_any q.u (n64 q.k) (n64 q.l) q.a q.c q.rs _ ((HQ.out.below B2.out).mono B2.out.size) fq).mono ?_
  rintro e v3 ⟨g_q, rfl, ho_q, hb⟩
  have n_K_q : g_K ≠ g_q := by have h1 := KK2.out.lt; have h2 := (ho_q.lt g_q rfl).1; omega
  have n_R_q : g_R ≠ g_q := by have h1 := KR2.out.lt; have h2 := (ho_q.lt g_q rfl).1; omega
  have n_T_q : g_T ≠ g_q := by have h1 := KT2.out.lt; have h2 := (ho_q.lt g_q rfl).1; omega
  have n_p_q : g_p ≠ g_q := by have h1 := (Op2.out.lt g_p rfl).2; have h2 := (ho_q.lt g_q rfl).1; omega
  have l_q : w.heap.size ≤ g_q := Nat.le_trans B2.out.size (ho_q.lt g_q rfl).1
  have B3 := Lib.hid (B2.out.trans (hb.mono B2.out.size))
  have KK3 := Lib.hid (KK2.out.below hb)
  have KR3 := Lib.hid (KR2.out.below hb)
  have KT3 := Lib.hid (KT2.out.below hb)
  have Op3 := Lib.hid (Op2.out.kept (below_any (row := none) hb) (.inr (by simp [Value.ownBlock])))
  have Oq3 := Lib.hid (own_down ho_q (Nat.zero_le _))
  clear hb B2 KK2 KR2 KT2 Op2 ho_q
  obtain ⟨⟨cK0, cK1, cK2, cK3, cK4, cK5, cK6, cK7, cK8, cK9⟩, dK0, dK1, dK2, dK3, dK4, dK5, dK6, dK7, dK8, dK9⟩ := KK3.out.of10
  obtain ⟨⟨cR0, cR1, cR2, cR3, cR4, cR5, cR6, cR7, cR8, cR9⟩, dR0, dR1, dR2, dR3, dR4, dR5, dR6, dR7, dR8, dR9⟩ := KR3.out.of10
  obtain ⟨⟨cT0, cT1, cT2, cT3, cT4, cT5, cT6, cT7, cT8, cT9⟩, dT0, dT1, dT2, dT3, dT4, dT5, dT6, dT7, dT8, dT9⟩ := KT3.out.of10
  go_wp2_with fail
  refine bodyPost_ret (v := .agg #[.int .i64 e, .bool p.u, .int .u64 (n64 p.k), .int .u64 (n64 p.l), .slice (some ⟨g_p, 0, none⟩) p.rs.length p.rs.length, .bool q.u, .int .u64 (n64 q.k), .int .u64 (n64 q.l), .slice (some ⟨g_q, 0, none⟩) q.rs.length q.rs.length, .bool t]) (by simp [results, Try.results27, go_sem, cR0, cR1, cR2, cR3, cR4, cR5, cR6, cR7, cR8, cR9]) rfl ⟨g_p, g_q, n_p_q, rfl, ?_, ?_, (((((((((((((((B3.out.setCell l_T _).setCell l_T _).setCell l_T _).setCell l_T _).setCell l_T _).setCell l_R _).setCell l_R _).setCell l_R _).setCell l_R _).setCell l_R _).setCell l_R _).setCell l_R _).setCell l_R _).setCell l_R _).setCell l_R _)⟩
  · exact own_up (own_set' (own_set' (own_set' (own_set' (own_set' (own_set' (own_set' (own_set' (own_set' (own_set' (own_set' (own_set' (own_set' (own_set' (own_set' Op3.out _ _ (n_T_p)) _ _ (n_T_p)) _ _ (n_T_p)) _ _ (n_T_p)) _ _ (n_T_p)) _ _ (n_R_p)) _ _ (n_R_p)) _ _ (n_R_p)) _ _ (n_R_p)) _ _ (n_R_p)) _ _ (n_R_p)) _ _ (n_R_p)) _ _ (n_R_p)) _ _ (n_R_p)) _ _ (n_R_p)) l_p
  · exact own_up (own_set' (own_set' (own_set' (own_set' (own_set' (own_set' (own_set' (own_set' (own_set' (own_set' (own_set' (own_set' (own_set' (own_set' (own_set' Oq3.out _ _ (n_T_q)) _ _ (n_T_q)) _ _ (n_T_q)) _ _ (n_T_q)) _ _ (n_T_q)) _ _ (n_R_q)) _ _ (n_R_q)) _ _ (n_R_q)) _ _ (n_R_q)) _ _ (n_R_q)) _ _ (n_R_q)) _ _ (n_R_q)) _ _ (n_R_q)) _ _ (n_R_q)) _ _ (n_R_q)) l_q

set_option maxRecDepth 100000 in
set_option maxHeartbeats 4000000 in
theorem eqKeys_self (e : Int) (p q : M) (t : Bool) (a1 a2 b1 b2 : Option Addr) (c1 c2 d1 d2 : Nat) (w : World) (ha1 : Row w w.heap.size a1 (mrs p.rs)) (ha2 : Row w w.heap.size a2 (mrs q.rs)) (hb1 : Row w w.heap.size b1 (mrs p.rs)) (hb2 : Row w w.heap.size b2 (mrs q.rs)) (fp : p.rs.length ≤ 1048576) (fq : q.rs.length ≤ 1048576) :
    Calls Try.prog 28 #[.agg #[.int .i64 e, .bool p.u, .int .u64 (n64 p.k), .int .u64 (n64 p.l), .slice a1 p.rs.length c1, .bool q.u, .int .u64 (n64 q.k), .int .u64 (n64 q.l), .slice a2 q.rs.length c2, .bool t], .agg #[.int .i64 e, .bool p.u, .int .u64 (n64 p.k), .int .u64 (n64 p.l), .slice b1 p.rs.length d1, .bool q.u, .int .u64 (n64 q.k), .int .u64 (n64 q.l), .slice b2 q.rs.length d2, .bool t]] w (EndB true w) := by
  have HA1 := Lib.hid ha1
  have HA2 := Lib.hid ha2
  have HB1 := Lib.hid hb1
  have HB2 := Lib.hid hb2
  clear ha1 ha2 hb1 hb2
  go_enter Try.func28, Try.ntmps28
  have B0 := Lib.hid (show Below w.heap.size w ((w.alloc (.cells #[.int .i64 e, .bool p.u, .int .u64 (n64 p.k), .int .u64 (n64 p.l), .slice a1 p.rs.length c1, .bool q.u, .int .u64 (n64 q.k), .int .u64 (n64 q.l), .slice a2 q.rs.length c2, .bool t] 29)).alloc (.cells #[.int .i64 e, .bool p.u, .int .u64 (n64 p.k), .int .u64 (n64 p.l), .slice b1 p.rs.length d1, .bool q.u, .int .u64 (n64 q.k), .int .u64 (n64 q.l), .slice b2 q.rs.length d2, .bool t] 29)) from (((Below.refl _ w).alloc (by simp) _).alloc (by simp) _))
  have KA0 := Lib.hid (show Blk ((w.alloc (.cells #[.int .i64 e, .bool p.u, .int .u64 (n64 p.k), .int .u64 (n64 p.l), .slice a1 p.rs.length c1, .bool q.u, .int .u64 (n64 q.k), .int .u64 (n64 q.l), .slice a2 q.rs.length c2, .bool t] 29)).alloc (.cells #[.int .i64 e, .bool p.u, .int .u64 (n64 p.k), .int .u64 (n64 p.l), .slice b1 p.rs.length d1, .bool q.u, .int .u64 (n64 q.k), .int .u64 (n64 q.l), .slice b2 q.rs.length d2, .bool t] 29)) (w.heap.size) [.int .i64 e, .bool p.u, .int .u64 (n64 p.k), .int .u64 (n64 p.l), .slice a1 p.rs.length c1, .bool q.u, .int .u64 (n64 q.k), .int .u64 (n64 q.l), .slice a2 q.rs.length c2, .bool t] from (Blk.new w [.int .i64 e, .bool p.u, .int .u64 (n64 p.k), .int .u64 (n64 p.l), .slice a1 p.rs.length c1, .bool q.u, .int .u64 (n64 q.k), .int .u64 (n64 q.l), .slice a2 q.rs.length c2, .bool t] 29).alloc (.cells #[.int .i64 e, .bool p.u, .int .u64 (n64 p.k), .int .u64 (n64 p.l), .slice b1 p.rs.length d1, .bool q.u, .int .u64 (n64 q.k), .int .u64 (n64 q.l), .slice b2 q.rs.length d2, .bool t] 29))
  have s1 : (w.alloc (.cells #[.int .i64 e, .bool p.u, .int .u64 (n64 p.k), .int .u64 (n64 p.l), .slice a1 p.rs.length c1, .bool q.u, .int .u64 (n64 q.k), .int .u64 (n64 q.l), .slice a2 q.rs.length c2, .bool t] 29)).heap.size = w.heap.size + 1 := by simp
  have KB0 := Lib.hid (show Blk ((w.alloc (.cells #[.int .i64 e, .bool p.u, .int .u64 (n64 p.k), .int .u64 (n64 p.l), .slice a1 p.rs.length c1, .bool q.u, .int .u64 (n64 q.k), .int .u64 (n64 q.l), .slice a2 q.rs.length c2, .bool t] 29)).alloc (.cells #[.int .i64 e, .bool p.u, .int .u64 (n64 p.k), .int .u64 (n64 p.l), .slice b1 p.rs.length d1, .bool q.u, .int .u64 (n64 q.k), .int .u64 (n64 q.l), .slice b2 q.rs.length d2, .bool t] 29)) (w.heap.size + 1) [.int .i64 e, .bool p.u, .int .u64 (n64 p.k), .int .u64 (n64 p.l), .slice b1 p.rs.length d1, .bool q.u, .int .u64 (n64 q.k), .int .u64 (n64 q.l), .slice b2 q.rs.length d2, .bool t] by have h0 := Blk.new (w.alloc (.cells #[.int .i64 e, .bool p.u, .int .u64 (n64 p.k), .int .u64 (n64 p.l), .slice a1 p.rs.length c1, .bool q.u, .int .u64 (n64 q.k), .int .u64 (n64 q.l), .slice a2 q.rs.length c2, .bool t] 29)) [.int .i64 e, .bool p.u, .int .u64 (n64 p.k), .int .u64 (n64 p.l), .slice b1 p.rs.length d1, .bool q.u, .int .u64 (n64 q.k), .int .u64 (n64 q.l), .slice b2 q.rs.length d2, .bool t] 29; rwa [s1] at h0)
  have n_A_B : w.heap.size ≠ w.heap.size + 1 := by omega
  clear s1
  go_wp2_with fail
  change Calls _ _ _ ((w.alloc (.cells #[.int .i64 e, .bool p.u, .int .u64 (n64 p.k), .int .u64 (n64 p.l), .slice a1 p.rs.length c1, .bool q.u, .int .u64 (n64 q.k), .int .u64 (n64 q.l), .slice a2 q.rs.length c2, .bool t] 29)).alloc (.cells #[.int .i64 e, .bool p.u, .int .u64 (n64 p.k), .int .u64 (n64 p.l), .slice b1 p.rs.length d1, .bool q.u, .int .u64 (n64 q.k), .int .u64 (n64 q.l), .slice b2 q.rs.length d2, .bool t] 29)) _
  generalize (w.alloc (.cells #[.int .i64 e, .bool p.u, .int .u64 (n64 p.k), .int .u64 (n64 p.l), .slice a1 p.rs.length c1, .bool q.u, .int .u64 (n64 q.k), .int .u64 (n64 q.l), .slice a2 q.rs.length c2, .bool t] 29)).alloc (.cells #[.int .i64 e, .bool p.u, .int .u64 (n64 p.k), .int .u64 (n64 p.l), .slice b1 p.rs.length d1, .bool q.u, .int .u64 (n64 q.k), .int .u64 (n64 q.l), .slice b2 q.rs.length d2, .bool t] 29) = v0 at B0 KA0 KB0 ⊢
  generalize w.heap.size + 1 = g_B at KB0 n_A_B ⊢
  generalize w.heap.size = g_A at KA0 n_A_B ⊢
  refine (eqMac_self p.u (n64 p.k) (n64 p.l) a1 b1 c1 d1 p.rs _ ((HA1.out.below B0.out).mono B0.out.size) ((HB1.out.below B0.out).mono B0.out.size) fp).mono ?_
  rintro e v1 ⟨rfl, hb⟩
  have B1 := Lib.hid (B0.out.trans (hb.mono B0.out.size))
  have KA1 := Lib.hid (KA0.out.below hb)
  have KB1 := Lib.hid (KB0.out.below hb)
  clear hb B0 KA0 KB0
  obtain ⟨⟨cA0, cA1, cA2, cA3, cA4, cA5, cA6, cA7, cA8, cA9⟩, dA0, dA1, dA2, dA3, dA4, dA5, dA6, dA7, dA8, dA9⟩ := KA1.out.of10
  obtain ⟨⟨cB0, cB1, cB2, cB3, cB4, cB5, cB6, cB7, cB8, cB9⟩, dB0, dB1, dB2, dB3, dB4, dB5, dB6, dB7, dB8, dB9⟩ := KB1.out.of10
  go_wp2_with fail
  clear cA0 cA1 cA2 cA3 cA4 cA5 cA6 cA7 cA8 cA9 dA0 dA1 dA2 dA3 dA4 dA5 dA6 dA7 dA8 dA9 cB0 cB1 cB2 cB3 cB4 cB5 cB6 cB7 cB8 cB9 dB0 dB1 dB2 dB3 dB4 dB5 dB6 dB7 dB8 dB9
  refine (eqMac_self q.u (n64 q.k) (n64 q.l) a2 b2 c2 d2 q.rs _ ((HA2.out.below B1.out).mono B1.out.size) ((HB2.out.below B1.out).mono B1.out.size) fq).mono ?_
  rintro e v2 ⟨rfl, hb⟩
  have B2 := Lib.hid (B1.out.trans (hb.mono B1.out.size))
  have KA2 := Lib.hid (KA1.out.below hb)
  have KB2 := Lib.hid (KB1.out.below hb)
  clear hb B1 KA1 KB1
  obtain ⟨⟨cA0, cA1, cA2, cA3, cA4, cA5, cA6, cA7, cA8, cA9⟩, dA0, dA1, dA2, dA3, dA4, dA5, dA6, dA7, dA8, dA9⟩ := KA2.out.of10
  obtain ⟨⟨cB0, cB1, cB2, cB3, cB4, cB5, cB6, cB7, cB8, cB9⟩, dB0, dB1, dB2, dB3, dB4, dB5, dB6, dB7, dB8, dB9⟩ := KB2.out.of10
  go_wp2_with fail
  go_ret
  exact ⟨rfl, B2.out⟩

theorem keysOkI_at (e : Int) (p q : M) (t : Bool) (a b : Option Addr) (c d : Nat) (w : World) (op : (p.at a c).On w) (oq : (q.at b d).On w) (fp : p.Fit) (fq : q.Fit) :
    Calls Try.prog 18 #[.agg #[.int .i64 e, .bool p.u, .int .u64 (n64 p.k), .int .u64 (n64 p.l), .slice a p.rs.length c, .bool q.u, .int .u64 (n64 q.k), .int .u64 (n64 q.l), .slice b q.rs.length d, .bool t]] w (EndB (keysOk e p q t) w) := keysOkI e (p.at a c) (q.at b d) t w op oq fp fq
theorem keysOkS_at (e : Int) (p q : M) (t : Bool) (a b : Option Addr) (c d : Nat) (w : World) (op : (p.at a c).On w) (oq : (q.at b d).On w) (fp : p.Fit) (fq : q.Fit) :
    Calls Try.prog 15 #[.agg #[.int .i64 e, .bool p.u, .int .u64 (n64 p.k), .int .u64 (n64 p.l), .slice a p.rs.length c, .bool q.u, .int .u64 (n64 q.k), .int .u64 (n64 q.l), .slice b q.rs.length d, .bool t]] w (EndB (keysOk e p q t) w) := keysOkS e (p.at a c) (q.at b d) t w op oq fp fq
theorem LawM.fit {w : World} {m : M} (h : LawM w m) (hl : m.rs.length ≤ 1048576) : m.Fit := ⟨Nat.le_succ_of_le hl, h.1.2⟩
end Go.Proofs.Ytobfgkiccmhgdaa
