/- The copies of keys and Rotated, of the model and of the program. Nothing here is a claim. -/
import Derived.Test.YtobfgkiccmhgdaaKeysA
import Derived.Deep.RegionWith
import Derived.Deep.RegionHeld3
import Derived.Deep.DeepCutAuto
import Derived.IntWalk
namespace Go.Proofs.Ytobfgkiccmhgdaa
open Go.RowKit Go.Lib

theorem own_below {w w' : World} {base size n : Nat} {e : TypeId} {v : Value} {xs : List Value} (h : w.ownsRow base e size v n xs) (hb : Below w.heap.size w w') : w'.ownsRow base e size v n xs :=
  h.kept (below_any (row := none) hb) (Classical.em _)
/-- Keys that are handed back, of these Macs: their rows in new memory; where a slice is nil it is said of which. -/
def KeysI (e : Int) (p q : M) (t : Bool) (w : World) (x : Ending) (w' : World) : Prop :=
  ∃ a c b d, x = .returned (.agg #[.int .i64 e, .bool p.u, .int .u64 (n64 p.k), .int .u64 (n64 p.l), .slice a p.rs.length c, .bool q.u, .int .u64 (n64 q.k), .int .u64 (n64 q.l), .slice b q.rs.length d, .bool t]) ∧ w'.ownsRow w.heap.size 92 2 (.slice a p.rs.length c) p.rs.length (mrs p.rs) ∧ w'.ownsRow w.heap.size 92 2 (.slice b q.rs.length d) q.rs.length (mrs q.rs) ∧ ((p.a = none ∧ a = none ∧ c = 0 ∧ p.rs = []) ∨ ∃ g, a = some ⟨g, 0, none⟩) ∧ ((q.a = none ∧ b = none ∧ d = 0 ∧ q.rs = []) ∨ ∃ g, b = some ⟨g, 0, none⟩) ∧
    (∀ g h, a = some ⟨g, 0, none⟩ → b = some ⟨h, 0, none⟩ → g ≠ h) ∧ Below w.heap.size w w'
def KeysS (e : Int) (p q : M) (t : Bool) (w : World) (x : Ending) (w' : World) : Prop :=
  ∃ g c h d, x = .returned (.agg #[.int .i64 e, .bool p.u, .int .u64 (n64 p.k), .int .u64 (n64 p.l), .slice (some ⟨g, 0, none⟩) p.rs.length c, .bool q.u, .int .u64 (n64 q.k), .int .u64 (n64 q.l), .slice (some ⟨h, 0, none⟩) q.rs.length d, .bool t]) ∧ w'.ownsRow w.heap.size 92 2 (.slice (some ⟨g, 0, none⟩) p.rs.length c) p.rs.length (mrs p.rs) ∧ w'.ownsRow w.heap.size 92 2 (.slice (some ⟨h, 0, none⟩) q.rs.length d) q.rs.length (mrs q.rs) ∧ g ≠ h ∧ Below w.heap.size w w'

set_option maxRecDepth 100000 in
set_option maxHeartbeats 4000000 in
theorem copyKeysI (e : Int) (p q : M) (t : Bool) (w : World) (hp : p.On w) (hq : q.On w) (fp : p.rs.length ≤ 1048577) (fq : q.rs.length ≤ 1048577) :
    Calls Try.prog 58 #[.agg #[.int .i64 e, .bool p.u, .int .u64 (n64 p.k), .int .u64 (n64 p.l), .slice p.a p.rs.length p.c, .bool q.u, .int .u64 (n64 q.k), .int .u64 (n64 q.l), .slice q.a q.rs.length q.c, .bool t]] w (KeysI e p q t w) := by
  have HP := Lib.hid hp
  have HQ := Lib.hid hq
  clear hp hq
  go_enter Try.func58, Try.ntmps58
  have B0 := Lib.hid (show Below w.heap.size w ((w.alloc (.cells #[.int .i64 e, .bool p.u, .int .u64 (n64 p.k), .int .u64 (n64 p.l), .slice p.a p.rs.length p.c, .bool q.u, .int .u64 (n64 q.k), .int .u64 (n64 q.l), .slice q.a q.rs.length q.c, .bool t] 29)).alloc (.cells #[.int .i64 0, .bool false, .int .u64 0, .int .u64 0, .slice none 0 0, .bool false, .int .u64 0, .int .u64 0, .slice none 0 0, .bool false] 29)) from (((Below.refl _ w).alloc (by simp) _).alloc (by simp) _))
  have KK0 := Lib.hid (show Blk ((w.alloc (.cells #[.int .i64 e, .bool p.u, .int .u64 (n64 p.k), .int .u64 (n64 p.l), .slice p.a p.rs.length p.c, .bool q.u, .int .u64 (n64 q.k), .int .u64 (n64 q.l), .slice q.a q.rs.length q.c, .bool t] 29)).alloc (.cells #[.int .i64 0, .bool false, .int .u64 0, .int .u64 0, .slice none 0 0, .bool false, .int .u64 0, .int .u64 0, .slice none 0 0, .bool false] 29)) (w.heap.size) [.int .i64 e, .bool p.u, .int .u64 (n64 p.k), .int .u64 (n64 p.l), .slice p.a p.rs.length p.c, .bool q.u, .int .u64 (n64 q.k), .int .u64 (n64 q.l), .slice q.a q.rs.length q.c, .bool t] from (Blk.new w [.int .i64 e, .bool p.u, .int .u64 (n64 p.k), .int .u64 (n64 p.l), .slice p.a p.rs.length p.c, .bool q.u, .int .u64 (n64 q.k), .int .u64 (n64 q.l), .slice q.a q.rs.length q.c, .bool t] 29).alloc (.cells #[.int .i64 0, .bool false, .int .u64 0, .int .u64 0, .slice none 0 0, .bool false, .int .u64 0, .int .u64 0, .slice none 0 0, .bool false] 29))
  have s1 : (w.alloc (.cells #[.int .i64 e, .bool p.u, .int .u64 (n64 p.k), .int .u64 (n64 p.l), .slice p.a p.rs.length p.c, .bool q.u, .int .u64 (n64 q.k), .int .u64 (n64 q.l), .slice q.a q.rs.length q.c, .bool t] 29)).heap.size = w.heap.size + 1 := by simp
  have KR0 := Lib.hid (show Blk ((w.alloc (.cells #[.int .i64 e, .bool p.u, .int .u64 (n64 p.k), .int .u64 (n64 p.l), .slice p.a p.rs.length p.c, .bool q.u, .int .u64 (n64 q.k), .int .u64 (n64 q.l), .slice q.a q.rs.length q.c, .bool t] 29)).alloc (.cells #[.int .i64 0, .bool false, .int .u64 0, .int .u64 0, .slice none 0 0, .bool false, .int .u64 0, .int .u64 0, .slice none 0 0, .bool false] 29)) (w.heap.size + 1) [.int .i64 0, .bool false, .int .u64 0, .int .u64 0, .slice none 0 0, .bool false, .int .u64 0, .int .u64 0, .slice none 0 0, .bool false] by have h0 := Blk.new (w.alloc (.cells #[.int .i64 e, .bool p.u, .int .u64 (n64 p.k), .int .u64 (n64 p.l), .slice p.a p.rs.length p.c, .bool q.u, .int .u64 (n64 q.k), .int .u64 (n64 q.l), .slice q.a q.rs.length q.c, .bool t] 29)) [.int .i64 0, .bool false, .int .u64 0, .int .u64 0, .slice none 0 0, .bool false, .int .u64 0, .int .u64 0, .slice none 0 0, .bool false] 29; rwa [s1] at h0)
  have n_K_R : w.heap.size ≠ w.heap.size + 1 := by omega
  clear s1
  have Hp0 := Lib.hid (show p.On ((w.alloc (.cells #[.int .i64 e, .bool p.u, .int .u64 (n64 p.k), .int .u64 (n64 p.l), .slice p.a p.rs.length p.c, .bool q.u, .int .u64 (n64 q.k), .int .u64 (n64 q.l), .slice q.a q.rs.length q.c, .bool t] 29)).alloc (.cells #[.int .i64 0, .bool false, .int .u64 0, .int .u64 0, .slice none 0 0, .bool false, .int .u64 0, .int .u64 0, .slice none 0 0, .bool false] 29)) from HP.out.below B0.out)
  clear HP
  have Hq0 := Lib.hid (show q.On ((w.alloc (.cells #[.int .i64 e, .bool p.u, .int .u64 (n64 p.k), .int .u64 (n64 p.l), .slice p.a p.rs.length p.c, .bool q.u, .int .u64 (n64 q.k), .int .u64 (n64 q.l), .slice q.a q.rs.length q.c, .bool t] 29)).alloc (.cells #[.int .i64 0, .bool false, .int .u64 0, .int .u64 0, .slice none 0 0, .bool false, .int .u64 0, .int .u64 0, .slice none 0 0, .bool false] 29)) from HQ.out.below B0.out)
  clear HQ
  go_upto_region 1 with fail
  generalize (w.alloc (.cells #[.int .i64 e, .bool p.u, .int .u64 (n64 p.k), .int .u64 (n64 p.l), .slice p.a p.rs.length p.c, .bool q.u, .int .u64 (n64 q.k), .int .u64 (n64 q.l), .slice q.a q.rs.length q.c, .bool t] 29)).alloc (.cells #[.int .i64 0, .bool false, .int .u64 0, .int .u64 0, .slice none 0 0, .bool false, .int .u64 0, .int .u64 0, .slice none 0 0, .bool false] 29) = v0 at B0 KK0 KR0 Hp0 Hq0 ⊢
  generalize hh_R : w.heap.size + 1 = g_R at KR0 n_K_R ⊢
  generalize hh_K : w.heap.size = g_K at KK0 n_K_R ⊢
  have l_K : w.heap.size ≤ g_K := by omega
  have l_R : w.heap.size ≤ g_R := by omega
  clear hh_K hh_R
  obtain ⟨⟨cK0, cK1, cK2, cK3, cK4, cK5, cK6, cK7, cK8, cK9⟩, dK0, dK1, dK2, dK3, dK4, dK5, dK6, dK7, dK8, dK9⟩ := KK0.out.of10
  have P0_0 : True := trivial
  have P0_1 : True := trivial
  go_region_with (first | (have q_ := P0_0; go_at_call 59; clear q_ P0_0; clear cK0 cK1 cK2 cK3 cK4 cK5 cK6 cK7 cK8 cK9 dK0 dK1 dK2 dK3 dK4 dK5 dK6 dK7 dK8 dK9; refine (copyMacI p _ Hp0.out.drew fp).mono ?_; rintro e v1 ⟨a, c, rfl, ho, hn1, hb⟩; replace hb := (Below.refl _ v0).drew.trans hb; have O1 := Lib.hid ho; have hz1 := B0.out.size; have lK1 := KK0.out.lt; have lR1 := KR0.out.lt; clear ho; have B1 := Lib.hid (B0.out.trans (hb.mono B0.out.size)); have KK1 := Lib.hid (KK0.out.below hb); have KR1 := Lib.hid (KR0.out.below hb); have Hp1 := Lib.hid (Hp0.out.below hb); have Hq1 := Lib.hid (Hq0.out.below hb); clear hb B0 KK0 KR0 Hp0 Hq0; obtain ⟨⟨cK0, cK1, cK2, cK3, cK4, cK5, cK6, cK7, cK8, cK9⟩, dK0, dK1, dK2, dK3, dK4, dK5, dK6, dK7, dK8, dK9⟩ := KK1.out.of10) | (have q_ := P0_1; go_at_call 59; clear q_ P0_1; clear cK0 cK1 cK2 cK3 cK4 cK5 cK6 cK7 cK8 cK9 dK0 dK1 dK2 dK3 dK4 dK5 dK6 dK7 dK8 dK9; refine (copyMacI q _ Hq1.out fq).mono ?_; rintro e v2 ⟨b, d, rfl, ho, hn2, hb⟩; have O2 := Lib.hid ho; have O1' := Lib.hid (own_below O1.out hb); have hz2 := B1.out.size; have lK2 := KK1.out.lt; have lR2 := KR1.out.lt; clear ho; have B2 := Lib.hid (B1.out.trans (hb.mono B1.out.size)); have KK2 := Lib.hid (KK1.out.below hb); have KR2 := Lib.hid (KR1.out.below hb); have Hp2 := Lib.hid (Hp1.out.below hb); have Hq2 := Lib.hid (Hq1.out.below hb); clear hb B1 KK1 KR1 Hp1 Hq1; obtain ⟨⟨cK0, cK1, cK2, cK3, cK4, cK5, cK6, cK7, cK8, cK9⟩, dK0, dK1, dK2, dK3, dK4, dK5, dK6, dK7, dK8, dK9⟩ := KK2.out.of10; obtain ⟨⟨cR0, cR1, cR2, cR3, cR4, cR5, cR6, cR7, cR8, cR9⟩, dR0, dR1, dR2, dR3, dR4, dR5, dR6, dR7, dR8, dR9⟩ := KR2.out.of10))
  all_goals go_wp2_with fail
  all_goals refine bodyPost_ret (v := .agg #[.int .i64 e, .bool p.u, .int .u64 (n64 p.k), .int .u64 (n64 p.l), .slice a p.rs.length c, .bool q.u, .int .u64 (n64 q.k), .int .u64 (n64 q.l), .slice b q.rs.length d, .bool t]) (by simp [results, Try.results58, go_sem, cR0, cR1, cR2, cR3, cR4, cR5, cR6, cR7, cR8, cR9]) rfl ⟨a, c, b, d, rfl, own_down (own_set (own_set (own_set (own_set (own_set (own_set (own_set (own_set (own_set (own_set (own_set (own_set (own_set (own_set (own_set (own_set (own_set (own_set O1'.out _ _ lK1 _) _ _ lK1 _) _ _ lK1 _) _ _ lK1 _) _ _ lK1 _) _ _ lK1 _) _ _ lK1 _) _ _ lK1 _) _ _ lR1 _) _ _ lR1 _) _ _ lR1 _) _ _ lR1 _) _ _ lR1 _) _ _ lR1 _) _ _ lR1 _) _ _ lR1 _) _ _ lR1 _) _ _ lR1 _) hz1, own_down (own_set (own_set (own_set (own_set (own_set (own_set (own_set (own_set (own_set (own_set (own_set (own_set (own_set (own_set (own_set (own_set (own_set (own_set O2.out _ _ lK2 _) _ _ lK2 _) _ _ lK2 _) _ _ lK2 _) _ _ lK2 _) _ _ lK2 _) _ _ lK2 _) _ _ lK2 _) _ _ lR2 _) _ _ lR2 _) _ _ lR2 _) _ _ lR2 _) _ _ lR2 _) _ _ lR2 _) _ _ lR2 _) _ _ lR2 _) _ _ lR2 _) _ _ lR2 _) hz2, hn1, hn2, ?_, ((((((((((((((((((((((((((((((((((((B2.out).setCell l_K _)).setCell l_K _)).setCell l_K _)).setCell l_K _)).setCell l_K _)).setCell l_K _)).setCell l_K _)).setCell l_K _)).setCell l_R _)).setCell l_R _)).setCell l_R _)).setCell l_R _)).setCell l_R _)).setCell l_R _)).setCell l_R _)).setCell l_R _)).setCell l_R _)).setCell l_R _)⟩
  all_goals (intro g h hg hh; subst hg hh; have h1 := (O1.out.lt g rfl).2; have h2 := (O2.out.lt h rfl).1; omega)

set_option maxRecDepth 100000 in
set_option maxHeartbeats 4000000 in
theorem copyKeysS (e : Int) (p q : M) (t : Bool) (w : World) (hp : p.On w) (hq : q.On w) (fp : p.rs.length ≤ 1048577) (fq : q.rs.length ≤ 1048577) :
    Calls Try.prog 68 #[.agg #[.int .i64 e, .bool p.u, .int .u64 (n64 p.k), .int .u64 (n64 p.l), .slice p.a p.rs.length p.c, .bool q.u, .int .u64 (n64 q.k), .int .u64 (n64 q.l), .slice q.a q.rs.length q.c, .bool t]] w (KeysS e p q t w) := by
  have HP := Lib.hid hp
  have HQ := Lib.hid hq
  clear hp hq
  go_enter Try.func68, Try.ntmps68
  have B0 := Lib.hid (show Below w.heap.size w ((w.alloc (.cells #[.int .i64 e, .bool p.u, .int .u64 (n64 p.k), .int .u64 (n64 p.l), .slice p.a p.rs.length p.c, .bool q.u, .int .u64 (n64 q.k), .int .u64 (n64 q.l), .slice q.a q.rs.length q.c, .bool t] 29)).alloc (.cells #[.int .i64 0, .bool false, .int .u64 0, .int .u64 0, .slice none 0 0, .bool false, .int .u64 0, .int .u64 0, .slice none 0 0, .bool false] 29)) from (((Below.refl _ w).alloc (by simp) _).alloc (by simp) _))
  have KK0 := Lib.hid (show Blk ((w.alloc (.cells #[.int .i64 e, .bool p.u, .int .u64 (n64 p.k), .int .u64 (n64 p.l), .slice p.a p.rs.length p.c, .bool q.u, .int .u64 (n64 q.k), .int .u64 (n64 q.l), .slice q.a q.rs.length q.c, .bool t] 29)).alloc (.cells #[.int .i64 0, .bool false, .int .u64 0, .int .u64 0, .slice none 0 0, .bool false, .int .u64 0, .int .u64 0, .slice none 0 0, .bool false] 29)) (w.heap.size) [.int .i64 e, .bool p.u, .int .u64 (n64 p.k), .int .u64 (n64 p.l), .slice p.a p.rs.length p.c, .bool q.u, .int .u64 (n64 q.k), .int .u64 (n64 q.l), .slice q.a q.rs.length q.c, .bool t] from (Blk.new w [.int .i64 e, .bool p.u, .int .u64 (n64 p.k), .int .u64 (n64 p.l), .slice p.a p.rs.length p.c, .bool q.u, .int .u64 (n64 q.k), .int .u64 (n64 q.l), .slice q.a q.rs.length q.c, .bool t] 29).alloc (.cells #[.int .i64 0, .bool false, .int .u64 0, .int .u64 0, .slice none 0 0, .bool false, .int .u64 0, .int .u64 0, .slice none 0 0, .bool false] 29))
  have s1 : (w.alloc (.cells #[.int .i64 e, .bool p.u, .int .u64 (n64 p.k), .int .u64 (n64 p.l), .slice p.a p.rs.length p.c, .bool q.u, .int .u64 (n64 q.k), .int .u64 (n64 q.l), .slice q.a q.rs.length q.c, .bool t] 29)).heap.size = w.heap.size + 1 := by simp
  have KR0 := Lib.hid (show Blk ((w.alloc (.cells #[.int .i64 e, .bool p.u, .int .u64 (n64 p.k), .int .u64 (n64 p.l), .slice p.a p.rs.length p.c, .bool q.u, .int .u64 (n64 q.k), .int .u64 (n64 q.l), .slice q.a q.rs.length q.c, .bool t] 29)).alloc (.cells #[.int .i64 0, .bool false, .int .u64 0, .int .u64 0, .slice none 0 0, .bool false, .int .u64 0, .int .u64 0, .slice none 0 0, .bool false] 29)) (w.heap.size + 1) [.int .i64 0, .bool false, .int .u64 0, .int .u64 0, .slice none 0 0, .bool false, .int .u64 0, .int .u64 0, .slice none 0 0, .bool false] by have h0 := Blk.new (w.alloc (.cells #[.int .i64 e, .bool p.u, .int .u64 (n64 p.k), .int .u64 (n64 p.l), .slice p.a p.rs.length p.c, .bool q.u, .int .u64 (n64 q.k), .int .u64 (n64 q.l), .slice q.a q.rs.length q.c, .bool t] 29)) [.int .i64 0, .bool false, .int .u64 0, .int .u64 0, .slice none 0 0, .bool false, .int .u64 0, .int .u64 0, .slice none 0 0, .bool false] 29; rwa [s1] at h0)
  have n_K_R : w.heap.size ≠ w.heap.size + 1 := by omega
  clear s1
  go_wp2_with fail
  change Calls _ _ _ ((w.alloc (.cells #[.int .i64 e, .bool p.u, .int .u64 (n64 p.k), .int .u64 (n64 p.l), .slice p.a p.rs.length p.c, .bool q.u, .int .u64 (n64 q.k), .int .u64 (n64 q.l), .slice q.a q.rs.length q.c, .bool t] 29)).alloc (.cells #[.int .i64 0, .bool false, .int .u64 0, .int .u64 0, .slice none 0 0, .bool false, .int .u64 0, .int .u64 0, .slice none 0 0, .bool false] 29)) _
  generalize (w.alloc (.cells #[.int .i64 e, .bool p.u, .int .u64 (n64 p.k), .int .u64 (n64 p.l), .slice p.a p.rs.length p.c, .bool q.u, .int .u64 (n64 q.k), .int .u64 (n64 q.l), .slice q.a q.rs.length q.c, .bool t] 29)).alloc (.cells #[.int .i64 0, .bool false, .int .u64 0, .int .u64 0, .slice none 0 0, .bool false, .int .u64 0, .int .u64 0, .slice none 0 0, .bool false] 29) = v0 at B0 KK0 KR0 ⊢
  generalize hh_R : w.heap.size + 1 = g_R at KR0 n_K_R ⊢
  generalize hh_K : w.heap.size = g_K at KK0 n_K_R ⊢
  have l_K : w.heap.size ≤ g_K := by omega
  have l_R : w.heap.size ≤ g_R := by omega
  clear hh_K hh_R
  refine (copyMacS p _ (HP.out.below B0.out) fp).mono ?_
  rintro e v1 ⟨g_a, c_a, rfl, ho_a, hb⟩
  have n_K_a : g_K ≠ g_a := by have h1 := KK0.out.lt; have h2 := (ho_a.lt g_a rfl).1; omega
  have n_R_a : g_R ≠ g_a := by have h1 := KR0.out.lt; have h2 := (ho_a.lt g_a rfl).1; omega
  have l_a : w.heap.size ≤ g_a := Nat.le_trans B0.out.size (ho_a.lt g_a rfl).1
  have B1 := Lib.hid (B0.out.trans (hb.mono B0.out.size))
  have KK1 := Lib.hid (KK0.out.below hb)
  have KR1 := Lib.hid (KR0.out.below hb)
  have Oa1 := Lib.hid (own_down ho_a (Nat.zero_le _))
  clear hb B0 KK0 KR0 ho_a
  obtain ⟨⟨cK0, cK1, cK2, cK3, cK4, cK5, cK6, cK7, cK8, cK9⟩, dK0, dK1, dK2, dK3, dK4, dK5, dK6, dK7, dK8, dK9⟩ := KK1.out.of10
  obtain ⟨⟨cR0, cR1, cR2, cR3, cR4, cR5, cR6, cR7, cR8, cR9⟩, dR0, dR1, dR2, dR3, dR4, dR5, dR6, dR7, dR8, dR9⟩ := KR1.out.of10
  have KK2 := Lib.hid (show Blk ((((v1.setCell ⟨g_K, 1, none⟩ (.bool p.u)).setCell ⟨g_K, 2, none⟩ (.int .u64 (n64 p.k))).setCell ⟨g_K, 3, none⟩ (.int .u64 (n64 p.l))).setCell ⟨g_K, 4, none⟩ (.slice (some ⟨g_a, 0, none⟩) p.rs.length c_a)) g_K [.int .i64 e, .bool p.u, .int .u64 (n64 p.k), .int .u64 (n64 p.l), .slice (some ⟨g_a, 0, none⟩) p.rs.length c_a, .bool q.u, .int .u64 (n64 q.k), .int .u64 (n64 q.l), .slice q.a q.rs.length q.c, .bool t] from ((((KK1.out.set 1 (.bool p.u)).set 2 (.int .u64 (n64 p.k))).set 3 (.int .u64 (n64 p.l))).set 4 (.slice (some ⟨g_a, 0, none⟩) p.rs.length c_a)))
  have KR2 := Lib.hid (show Blk ((((v1.setCell ⟨g_K, 1, none⟩ (.bool p.u)).setCell ⟨g_K, 2, none⟩ (.int .u64 (n64 p.k))).setCell ⟨g_K, 3, none⟩ (.int .u64 (n64 p.l))).setCell ⟨g_K, 4, none⟩ (.slice (some ⟨g_a, 0, none⟩) p.rs.length c_a)) g_R [.int .i64 0, .bool false, .int .u64 0, .int .u64 0, .slice none 0 0, .bool false, .int .u64 0, .int .u64 0, .slice none 0 0, .bool false] from ((((KR1.out.setOther ⟨g_K, 1, none⟩ (.bool p.u) (fun e => n_K_R e.symm)).setOther ⟨g_K, 2, none⟩ (.int .u64 (n64 p.k)) (fun e => n_K_R e.symm)).setOther ⟨g_K, 3, none⟩ (.int .u64 (n64 p.l)) (fun e => n_K_R e.symm)).setOther ⟨g_K, 4, none⟩ (.slice (some ⟨g_a, 0, none⟩) p.rs.length c_a) (fun e => n_K_R e.symm)))
  have Oa2 := Lib.hid (own_set' (own_set' (own_set' (own_set' Oa1.out 1 (.bool p.u) (n_K_a)) 2 (.int .u64 (n64 p.k)) (n_K_a)) 3 (.int .u64 (n64 p.l)) (n_K_a)) 4 (.slice (some ⟨g_a, 0, none⟩) p.rs.length c_a) (n_K_a))
  have B2 := Lib.hid (show Below w.heap.size w ((((v1.setCell ⟨g_K, 1, none⟩ (.bool p.u)).setCell ⟨g_K, 2, none⟩ (.int .u64 (n64 p.k))).setCell ⟨g_K, 3, none⟩ (.int .u64 (n64 p.l))).setCell ⟨g_K, 4, none⟩ (.slice (some ⟨g_a, 0, none⟩) p.rs.length c_a)) from ((((B1.out.setCell l_K (.bool p.u)).setCell l_K (.int .u64 (n64 p.k))).setCell l_K (.int .u64 (n64 p.l))).setCell l_K (.slice (some ⟨g_a, 0, none⟩) p.rs.length c_a)))
  clear B1
  go_wp2_with fail
  clear KK1 KR1 Oa1
  clear cK0 cK1 cK2 cK3 cK4 cK5 cK6 cK7 cK8 cK9 dK0 dK1 dK2 dK3 dK4 dK5 dK6 dK7 dK8 dK9 cR0 cR1 cR2 cR3 cR4 cR5 cR6 cR7 cR8 cR9 dR0 dR1 dR2 dR3 dR4 dR5 dR6 dR7 dR8 dR9
  change Calls _ _ _ ((((v1.setCell ⟨g_K, 1, none⟩ (.bool p.u)).setCell ⟨g_K, 2, none⟩ (.int .u64 (n64 p.k))).setCell ⟨g_K, 3, none⟩ (.int .u64 (n64 p.l))).setCell ⟨g_K, 4, none⟩ (.slice (some ⟨g_a, 0, none⟩) p.rs.length c_a)) _
  generalize (((v1.setCell ⟨g_K, 1, none⟩ (.bool p.u)).setCell ⟨g_K, 2, none⟩ (.int .u64 (n64 p.k))).setCell ⟨g_K, 3, none⟩ (.int .u64 (n64 p.l))).setCell ⟨g_K, 4, none⟩ (.slice (some ⟨g_a, 0, none⟩) p.rs.length c_a) = v2 at B2 KK2 KR2 Oa2 ⊢
  refine (copyMacS q _ (HQ.out.below B2.out) fq).mono ?_
  rintro e v3 ⟨g_b, c_b, rfl, ho_b, hb⟩
  have n_K_b : g_K ≠ g_b := by have h1 := KK2.out.lt; have h2 := (ho_b.lt g_b rfl).1; omega
  have n_R_b : g_R ≠ g_b := by have h1 := KR2.out.lt; have h2 := (ho_b.lt g_b rfl).1; omega
  have n_a_b : g_a ≠ g_b := by have h1 := (Oa2.out.lt g_a rfl).2; have h2 := (ho_b.lt g_b rfl).1; omega
  have l_b : w.heap.size ≤ g_b := Nat.le_trans B2.out.size (ho_b.lt g_b rfl).1
  have B3 := Lib.hid (B2.out.trans (hb.mono B2.out.size))
  have KK3 := Lib.hid (KK2.out.below hb)
  have KR3 := Lib.hid (KR2.out.below hb)
  have Oa3 := Lib.hid (Oa2.out.kept (below_any (row := none) hb) (.inr (by simp [Value.ownBlock])))
  have Ob3 := Lib.hid (own_down ho_b (Nat.zero_le _))
  clear hb B2 KK2 KR2 Oa2 ho_b
  obtain ⟨⟨cK0, cK1, cK2, cK3, cK4, cK5, cK6, cK7, cK8, cK9⟩, dK0, dK1, dK2, dK3, dK4, dK5, dK6, dK7, dK8, dK9⟩ := KK3.out.of10
  obtain ⟨⟨cR0, cR1, cR2, cR3, cR4, cR5, cR6, cR7, cR8, cR9⟩, dR0, dR1, dR2, dR3, dR4, dR5, dR6, dR7, dR8, dR9⟩ := KR3.out.of10
  go_wp2_with fail
  refine bodyPost_ret (v := .agg #[.int .i64 e, .bool p.u, .int .u64 (n64 p.k), .int .u64 (n64 p.l), .slice (some ⟨g_a, 0, none⟩) p.rs.length c_a, .bool q.u, .int .u64 (n64 q.k), .int .u64 (n64 q.l), .slice (some ⟨g_b, 0, none⟩) q.rs.length c_b, .bool t]) (by simp [results, Try.results68, go_sem, cR0, cR1, cR2, cR3, cR4, cR5, cR6, cR7, cR8, cR9]) rfl ⟨g_a, c_a, g_b, c_b, rfl, own_up (own_set' (own_set' (own_set' (own_set' (own_set' (own_set' (own_set' (own_set' (own_set' (own_set' (own_set' (own_set' (own_set' (own_set' Oa3.out _ _ (n_K_a)) _ _ (n_K_a)) _ _ (n_K_a)) _ _ (n_K_a)) _ _ (n_R_a)) _ _ (n_R_a)) _ _ (n_R_a)) _ _ (n_R_a)) _ _ (n_R_a)) _ _ (n_R_a)) _ _ (n_R_a)) _ _ (n_R_a)) _ _ (n_R_a)) _ _ (n_R_a)) l_a, own_up (own_set' (own_set' (own_set' (own_set' (own_set' (own_set' (own_set' (own_set' (own_set' (own_set' (own_set' (own_set' (own_set' (own_set' Ob3.out _ _ (n_K_b)) _ _ (n_K_b)) _ _ (n_K_b)) _ _ (n_K_b)) _ _ (n_R_b)) _ _ (n_R_b)) _ _ (n_R_b)) _ _ (n_R_b)) _ _ (n_R_b)) _ _ (n_R_b)) _ _ (n_R_b)) _ _ (n_R_b)) _ _ (n_R_b)) _ _ (n_R_b)) l_b, n_a_b, ((((((((((((((((((((((((((((B3.out).setCell l_K _)).setCell l_K _)).setCell l_K _)).setCell l_K _)).setCell l_R _)).setCell l_R _)).setCell l_R _)).setCell l_R _)).setCell l_R _)).setCell l_R _)).setCell l_R _)).setCell l_R _)).setCell l_R _)).setCell l_R _)⟩

end Go.Proofs.Ytobfgkiccmhgdaa
