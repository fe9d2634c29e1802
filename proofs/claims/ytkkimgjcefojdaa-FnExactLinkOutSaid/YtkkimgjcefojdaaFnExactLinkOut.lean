/- The law FnExactLinkOut holds for every argument (up to the law's own measure of 1048576 entries and bytes; past it the law itself answers true): impl's LinkOut answers as the model's, both results, and leaves its argument. No condition. -/
import Derived.Test.YtkkimgjcefojdaaRows
import Derived.Test.YtkkimgjcefojdaaLinkOutA
import Derived.Test.YtkkimgjcefojdaaPkFnExactLinkOut
import Derived.Deep.RegionHeld3
import Derived.ProofKit
import Derived.OpenShut
import Derived.ShutString
import Derived.ChangeSame
namespace Go.Proofs.Ytkkimgjcefojdaa.fnExactLinkOut
open Go.ChangeShapes Go.WideShapes Go.ChangeAt Go.RowKit Go.Lib
open Go.ChangeMaps (open_string shut_string)

/-- The law's word: true, and what lay before the call lies as it lay. -/
def OkB (w : World) (e : Ending) (w' : World) : Prop := e = .returned (.bool true) ∧ Below w.heap.size w w'

set_option maxRecDepth 100000 in
set_option maxHeartbeats 8000000 in
theorem go (m ip : Int) (a : Option Addr) (cap : Nat) (rs : List ER) (dst : Int) (t : ByteArray) (w : World) (hrow : Row w w.heap.size a (ers rs)) (hl : rs.length ≤ maxLen) :
    Calls Try.prog 4 #[.agg #[.int .i64 m, .int .i64 ip, .slice a rs.length cap], .int .i64 dst, .string t] w (OkB w) := by
  have HA := Lib.hid hrow
  have HL := Lib.hid hl
  clear hrow hl
  by_cases hb0 : (t.size : Int) ≤ 1048576
  case neg =>
    have h1 : (1048576 : Int) < t.size := by omega
    clear hb0
    go_enter Try.func4, Try.ntmps4
    go_wp2_with fail
    go_ret
    exact ⟨rfl, (Below.refl _ _).alloc (Nat.le_refl _) _⟩
  have h1 : ¬ (1048576 : Int) < t.size := by omega
  clear hb0
  by_cases hs : rs.length ≤ 1048576
  case neg =>
    have hn := Lib.hid hs
    clear hs
    go_enter Try.func4, Try.ntmps4
    have B0 := Lib.hid (show Below w.heap.size w (w.alloc (.cells #[.int .i64 m, .int .i64 ip, .slice a rs.length cap] 24)) from ((Below.refl _ w).alloc (by simp) _))
    have KA0 := Lib.hid (show Blk (w.alloc (.cells #[.int .i64 m, .int .i64 ip, .slice a rs.length cap] 24)) (w.heap.size) [.int .i64 m, .int .i64 ip, .slice a rs.length cap] from Blk.new w [.int .i64 m, .int .i64 ip, .slice a rs.length cap] 24)
    go_wp2_with fail
    change Calls _ _ _ (w.alloc (.cells #[.int .i64 m, .int .i64 ip, .slice a rs.length cap] 24)) _
    generalize w.alloc (.cells #[.int .i64 m, .int .i64 ip, .slice a rs.length cap] 24) = v0 at B0 KA0 ⊢
    generalize hh_A : w.heap.size = g_A at KA0 ⊢
    have l_A : w.heap.size ≤ g_A := by omega
    clear hh_A
    refine (szLink_any m ip a rs.length cap 1048576 _ HL.out (by omega)).mono ?_
    rintro e v1 ⟨hr, hb⟩
    have B1 := Lib.hid (B0.out.trans (hb.mono B0.out.size))
    have KA1 := Lib.hid (KA0.out.below hb)
    clear hb B0 KA0
    rw [if_neg hn.out] at hr
    subst hr
    obtain ⟨⟨cA0, cA1, cA2⟩, dA0, dA1, dA2⟩ := KA1.out.o3
    go_wp2_with fail
    go_ret
    exact ⟨rfl, B1.out⟩
  have hn := Lib.hid hs
  have CS := Lib.hid (fun g w h => linkOutS m ip (some ⟨g, 0, none⟩) rs.length rs dst t w h (Nat.le_succ_of_le hs) (Nat.le_refl _))
  have CI := Lib.hid (fun g w h => linkOutI m ip (some ⟨g, 0, none⟩) rs.length rs dst t w h (Nat.le_succ_of_le hs))
  clear hs
  unfold EndOut at CS CI
  generalize outT m ip rs dst t = y at CS CI
  generalize outOk m ip rs dst t = k at CS CI
  cases k with
  | false =>
    go_enter Try.func4, Try.ntmps4
    have B0 := Lib.hid (show Below w.heap.size w (w.alloc (.cells #[.int .i64 m, .int .i64 ip, .slice a rs.length cap] 24)) from ((Below.refl _ w).alloc (by simp) _))
    have KA0 := Lib.hid (show Blk (w.alloc (.cells #[.int .i64 m, .int .i64 ip, .slice a rs.length cap] 24)) (w.heap.size) [.int .i64 m, .int .i64 ip, .slice a rs.length cap] from Blk.new w [.int .i64 m, .int .i64 ip, .slice a rs.length cap] 24)
    go_wp2_with fail
    change Calls _ _ _ (w.alloc (.cells #[.int .i64 m, .int .i64 ip, .slice a rs.length cap] 24)) _
    generalize w.alloc (.cells #[.int .i64 m, .int .i64 ip, .slice a rs.length cap] 24) = v0 at B0 KA0 ⊢
    generalize hh_A : w.heap.size = g_A at KA0 ⊢
    have l_A : w.heap.size ≤ g_A := by omega
    clear hh_A
    refine (szLink_any m ip a rs.length cap 1048576 _ HL.out (by omega)).mono ?_
    rintro e v1 ⟨hr, hb⟩
    have B1 := Lib.hid (B0.out.trans (hb.mono B0.out.size))
    have KA1 := Lib.hid (KA0.out.below hb)
    clear hb B0 KA0
    rw [if_pos hn.out] at hr
    subst hr
    have hs := hn.out
    have hz : ¬ (1048576 : Int) - (rs.length : Int) < 0 := by omega
    obtain ⟨⟨cA0, cA1, cA2⟩, dA0, dA1, dA2⟩ := KA1.out.o3
    go_wp2_with fail
    clear hs hz
    clear cA0 cA1 cA2 dA0 dA1 dA2
    refine (toLink_any m ip a cap rs _ ((HA.out.below B1.out).mono B1.out.size) hn.out).mono ?_
    rintro e v2 ⟨g_t, rfl, ho_t, hb⟩
    have n_A_t : g_A ≠ g_t := by have h1 := KA1.out.lt; have h2 := (ho_t.lt g_t rfl).1; omega
    have l_t : w.heap.size ≤ g_t := Nat.le_trans B1.out.size (ho_t.lt g_t rfl).1
    have B2 := Lib.hid (B1.out.trans (hb.mono B1.out.size))
    have KA2 := Lib.hid (KA1.out.below hb)
    have Ot2 := Lib.hid (own_down ho_t (Nat.zero_le _))
    clear hb B1 KA1 ho_t
    obtain ⟨⟨cA0, cA1, cA2⟩, dA0, dA1, dA2⟩ := KA2.out.o3
    go_wp2_with fail
    clear cA0 cA1 cA2 dA0 dA1 dA2
    refine (CS.out g_t _ (Row.ownK Ot2.out)).mono ?_
    rintro e v3 ⟨rfl, hb⟩
    have B3 := Lib.hid (B2.out.trans (hb.mono B2.out.size))
    have KA3 := Lib.hid (KA2.out.below hb)
    have Ot3 := Lib.hid (Ot2.out.kept (below_any (row := none) hb) (.inr (by simp [Value.ownBlock])))
    clear hb B2 KA2 Ot2
    obtain ⟨⟨cA0, cA1, cA2⟩, dA0, dA1, dA2⟩ := KA3.out.o3
    go_wp2_with fail
    clear cA0 cA1 cA2 dA0 dA1 dA2
    refine (toLink_any m ip a cap rs _ ((HA.out.below B3.out).mono B3.out.size) hn.out).mono ?_
    rintro e v4 ⟨g_x, rfl, ho_x, hb⟩
    have n_A_x : g_A ≠ g_x := by have h1 := KA3.out.lt; have h2 := (ho_x.lt g_x rfl).1; omega
    have n_t_x : g_t ≠ g_x := by have h1 := (Ot3.out.lt g_t rfl).2; have h2 := (ho_x.lt g_x rfl).1; omega
    have l_x : w.heap.size ≤ g_x := Nat.le_trans B3.out.size (ho_x.lt g_x rfl).1
    have B4 := Lib.hid (B3.out.trans (hb.mono B3.out.size))
    have KA4 := Lib.hid (KA3.out.below hb)
    have Ot4 := Lib.hid (Ot3.out.kept (below_any (row := none) hb) (.inr (by simp [Value.ownBlock])))
    have Ox4 := Lib.hid (own_down ho_x (Nat.zero_le _))
    clear hb B3 KA3 Ot3 ho_x
    have KXn := Lib.hid (Blk.new v4 [.int .i64 m, .int .i64 ip, .slice (some ⟨g_x, 0, none⟩) rs.length rs.length] 29)
    have l_X : w.heap.size ≤ v4.heap.size := B4.out.size
    have n_A_X : g_A ≠ v4.heap.size := by have h1 := KA4.out.lt; omega
    have n_t_X : g_t ≠ v4.heap.size := by have h1 := (Ot4.out.lt g_t rfl).2; omega
    have n_x_X : g_x ≠ v4.heap.size := by have h1 := (Ox4.out.lt g_x rfl).2; omega
    have Bn := Lib.hid (B4.out.alloc B4.out.size (.cells #[.int .i64 m, .int .i64 ip, .slice (some ⟨g_x, 0, none⟩) rs.length rs.length] 29))
    have KAn := Lib.hid (KA4.out.alloc (.cells #[.int .i64 m, .int .i64 ip, .slice (some ⟨g_x, 0, none⟩) rs.length rs.length] 29))
    have Otn := Lib.hid (Ot4.out.alloc (.cells #[.int .i64 m, .int .i64 ip, .slice (some ⟨g_x, 0, none⟩) rs.length rs.length] 29))
    have Oxn := Lib.hid (Ox4.out.alloc (.cells #[.int .i64 m, .int .i64 ip, .slice (some ⟨g_x, 0, none⟩) rs.length rs.length] 29))
    clear B4 KA4 Ot4 Ox4
    obtain ⟨⟨cA0, cA1, cA2⟩, dA0, dA1, dA2⟩ := KAn.out.o3
    go_wp2_with fail
    clear cA0 cA1 cA2 dA0 dA1 dA2
    change Calls _ _ _ (v4.alloc (.cells #[.int .i64 m, .int .i64 ip, .slice (some ⟨g_x, 0, none⟩) rs.length rs.length] 29)) _
    generalize v4.alloc (.cells #[.int .i64 m, .int .i64 ip, .slice (some ⟨g_x, 0, none⟩) rs.length rs.length] 29) = v5 at KXn Bn KAn Otn Oxn ⊢
    generalize v4.heap.size = g_X at KXn l_X n_A_X n_t_X n_x_X ⊢
    clear v4
    have KA5 := KAn
    clear KAn
    have KX5 := KXn
    clear KXn
    have Ot5 := Otn
    clear Otn
    have Ox5 := Oxn
    clear Oxn
    have B5 := Bn
    clear Bn
    refine (CI.out g_x _ (Row.ownK Ox5.out)).mono ?_
    rintro e v6 ⟨rfl, hb⟩
    have B6 := Lib.hid (B5.out.trans (hb.mono B5.out.size))
    have KA6 := Lib.hid (KA5.out.below hb)
    have KX6 := Lib.hid (KX5.out.below hb)
    have Ot6 := Lib.hid (Ot5.out.kept (below_any (row := none) hb) (.inr (by simp [Value.ownBlock])))
    have Ox6 := Lib.hid (Ox5.out.kept (below_any (row := none) hb) (.inr (by simp [Value.ownBlock])))
    clear hb B5 KA5 KX5 Ot5 Ox5
    obtain ⟨⟨cA0, cA1, cA2⟩, dA0, dA1, dA2⟩ := KA6.out.o3
    obtain ⟨⟨cX0, cX1, cX2⟩, dX0, dX1, dX2⟩ := KX6.out.o3
    go_wp2_with fail
    clear cA0 cA1 cA2 dA0 dA1 dA2 cX0 cX1 cX2 dX0 dX1 dX2
    obtain ⟨⟨cA0, cA1, cA2⟩, dA0, dA1, dA2⟩ := KA6.out.o3
    obtain ⟨⟨cX0, cX1, cX2⟩, dX0, dX1, dX2⟩ := KX6.out.o3
    have P6_0 : True := trivial
    have P6_1 : True := trivial
    go_region_held3 (fun w' => (w'.cell? ⟨g_X, 0, none⟩ = some (.int .i64 m) ∧ w'.cell? ⟨g_X, 1, none⟩ = some (.int .i64 ip) ∧ w'.cell? ⟨g_X, 2, none⟩ = some (.slice (some ⟨g_x, 0, none⟩) rs.length rs.length)) ∧ (w'.cell? ⟨g_A, 0, none⟩ = some (.int .i64 m) ∧ w'.cell? ⟨g_A, 1, none⟩ = some (.int .i64 ip) ∧ w'.cell? ⟨g_A, 2, none⟩ = some (.slice a rs.length cap)))
      (first | go_keep | (exact ⟨KX7.out.o3.1, KA7.out.o3.1⟩) | (exact ⟨KX8.out.o3.1, KA8.out.o3.1⟩))
      (first | (have q := P6_0; go_at_call 8; clear q P6_0; refine (toLink_any m ip a cap rs _ ((HA.out.below B6.out.drew).mono B6.out.drew.size) hn.out).mono ?_; rintro e v7 ⟨g_z, rfl, ho_z, hb⟩; replace hb := (Below.refl _ v6).drew.trans hb; replace ho_z := own_down ho_z (show v6.heap.size ≤ v6.drew.heap.size from Nat.le_refl _); have n_A_z : g_A ≠ g_z := (by have h1 := KA6.out.lt; have h2 := (ho_z.lt g_z rfl).1; omega); have n_X_z : g_X ≠ g_z := (by have h1 := KX6.out.lt; have h2 := (ho_z.lt g_z rfl).1; omega); have n_t_z : g_t ≠ g_z := (by have h1 := (Ot6.out.lt g_t rfl).2; have h2 := (ho_z.lt g_z rfl).1; omega); have n_x_z : g_x ≠ g_z := (by have h1 := (Ox6.out.lt g_x rfl).2; have h2 := (ho_z.lt g_z rfl).1; omega); have l_z : w.heap.size ≤ g_z := Nat.le_trans B6.out.size (ho_z.lt g_z rfl).1; have B7 := Lib.hid (B6.out.trans (hb.mono B6.out.size)); have KA7 := Lib.hid (KA6.out.below hb); have KX7 := Lib.hid (KX6.out.below hb); have Ot7 := Lib.hid (Ot6.out.kept (below_any (row := none) hb) (.inr (by simp [Value.ownBlock]))); have Ox7 := Lib.hid (Ox6.out.kept (below_any (row := none) hb) (.inr (by simp [Value.ownBlock]))); have Oz7 := Lib.hid (own_down ho_z (Nat.zero_le _)); clear hb B6 KA6 KX6 Ot6 Ox6 ho_z) | (have q := P6_1; go_at_call 10; clear q P6_1; refine (eqLink_self m ip (some ⟨g_x, 0, none⟩) (some ⟨g_z, 0, none⟩) rs.length rs.length rs.length rs _ rfl (Row.ownK Ox7.out) (Row.ownK Oz7.out) (Nat.le_succ_of_le hn.out)).mono ?_; rintro e v8 ⟨rfl, hb⟩; have B8 := Lib.hid (B7.out.trans (hb.mono B7.out.size)); have KA8 := Lib.hid (KA7.out.below hb); have KX8 := Lib.hid (KX7.out.below hb); have Ot8 := Lib.hid (Ot7.out.kept (below_any (row := none) hb) (.inr (by simp [Value.ownBlock]))); have Ox8 := Lib.hid (Ox7.out.kept (below_any (row := none) hb) (.inr (by simp [Value.ownBlock]))); have Oz8 := Lib.hid (Oz7.out.kept (below_any (row := none) hb) (.inr (by simp [Value.ownBlock]))); clear hb B7 KA7 KX7 Ot7 Ox7 Oz7))
    try clear cA0 cA1 cA2 dA0 dA1 dA2 cX0 cX1 cX2 dX0 dX1 dX2
    obtain ⟨⟨cA0, cA1, cA2⟩, dA0, dA1, dA2⟩ := KA8.out.o3
    obtain ⟨⟨cX0, cX1, cX2⟩, dX0, dX1, dX2⟩ := KX8.out.o3
    go_wp2_with fail
    go_ret
    exact ⟨rfl, B8.out⟩
  | true =>
    go_enter Try.func4, Try.ntmps4
    have B0 := Lib.hid (show Below w.heap.size w (w.alloc (.cells #[.int .i64 m, .int .i64 ip, .slice a rs.length cap] 24)) from ((Below.refl _ w).alloc (by simp) _))
    have KA0 := Lib.hid (show Blk (w.alloc (.cells #[.int .i64 m, .int .i64 ip, .slice a rs.length cap] 24)) (w.heap.size) [.int .i64 m, .int .i64 ip, .slice a rs.length cap] from Blk.new w [.int .i64 m, .int .i64 ip, .slice a rs.length cap] 24)
    go_wp2_with fail
    change Calls _ _ _ (w.alloc (.cells #[.int .i64 m, .int .i64 ip, .slice a rs.length cap] 24)) _
    generalize w.alloc (.cells #[.int .i64 m, .int .i64 ip, .slice a rs.length cap] 24) = v0 at B0 KA0 ⊢
    generalize hh_A : w.heap.size = g_A at KA0 ⊢
    have l_A : w.heap.size ≤ g_A := by omega
    clear hh_A
    refine (szLink_any m ip a rs.length cap 1048576 _ HL.out (by omega)).mono ?_
    rintro e v1 ⟨hr, hb⟩
    have B1 := Lib.hid (B0.out.trans (hb.mono B0.out.size))
    have KA1 := Lib.hid (KA0.out.below hb)
    clear hb B0 KA0
    rw [if_pos hn.out] at hr
    subst hr
    have hs := hn.out
    have hz : ¬ (1048576 : Int) - (rs.length : Int) < 0 := by omega
    obtain ⟨⟨cA0, cA1, cA2⟩, dA0, dA1, dA2⟩ := KA1.out.o3
    go_wp2_with fail
    clear hs hz
    clear cA0 cA1 cA2 dA0 dA1 dA2
    refine (toLink_any m ip a cap rs _ ((HA.out.below B1.out).mono B1.out.size) hn.out).mono ?_
    rintro e v2 ⟨g_t, rfl, ho_t, hb⟩
    have n_A_t : g_A ≠ g_t := by have h1 := KA1.out.lt; have h2 := (ho_t.lt g_t rfl).1; omega
    have l_t : w.heap.size ≤ g_t := Nat.le_trans B1.out.size (ho_t.lt g_t rfl).1
    have B2 := Lib.hid (B1.out.trans (hb.mono B1.out.size))
    have KA2 := Lib.hid (KA1.out.below hb)
    have Ot2 := Lib.hid (own_down ho_t (Nat.zero_le _))
    clear hb B1 KA1 ho_t
    obtain ⟨⟨cA0, cA1, cA2⟩, dA0, dA1, dA2⟩ := KA2.out.o3
    go_wp2_with fail
    clear cA0 cA1 cA2 dA0 dA1 dA2
    refine (CS.out g_t _ (Row.ownK Ot2.out)).mono ?_
    rintro e v3 ⟨rfl, hb⟩
    have B3 := Lib.hid (B2.out.trans (hb.mono B2.out.size))
    have KA3 := Lib.hid (KA2.out.below hb)
    have Ot3 := Lib.hid (Ot2.out.kept (below_any (row := none) hb) (.inr (by simp [Value.ownBlock])))
    clear hb B2 KA2 Ot2
    obtain ⟨⟨cA0, cA1, cA2⟩, dA0, dA1, dA2⟩ := KA3.out.o3
    go_wp2_with fail
    clear cA0 cA1 cA2 dA0 dA1 dA2
    refine (toLink_any m ip a cap rs _ ((HA.out.below B3.out).mono B3.out.size) hn.out).mono ?_
    rintro e v4 ⟨g_x, rfl, ho_x, hb⟩
    have n_A_x : g_A ≠ g_x := by have h1 := KA3.out.lt; have h2 := (ho_x.lt g_x rfl).1; omega
    have n_t_x : g_t ≠ g_x := by have h1 := (Ot3.out.lt g_t rfl).2; have h2 := (ho_x.lt g_x rfl).1; omega
    have l_x : w.heap.size ≤ g_x := Nat.le_trans B3.out.size (ho_x.lt g_x rfl).1
    have B4 := Lib.hid (B3.out.trans (hb.mono B3.out.size))
    have KA4 := Lib.hid (KA3.out.below hb)
    have Ot4 := Lib.hid (Ot3.out.kept (below_any (row := none) hb) (.inr (by simp [Value.ownBlock])))
    have Ox4 := Lib.hid (own_down ho_x (Nat.zero_le _))
    clear hb B3 KA3 Ot3 ho_x
    have KXn := Lib.hid (Blk.new v4 [.int .i64 m, .int .i64 ip, .slice (some ⟨g_x, 0, none⟩) rs.length rs.length] 29)
    have l_X : w.heap.size ≤ v4.heap.size := B4.out.size
    have n_A_X : g_A ≠ v4.heap.size := by have h1 := KA4.out.lt; omega
    have n_t_X : g_t ≠ v4.heap.size := by have h1 := (Ot4.out.lt g_t rfl).2; omega
    have n_x_X : g_x ≠ v4.heap.size := by have h1 := (Ox4.out.lt g_x rfl).2; omega
    have Bn := Lib.hid (B4.out.alloc B4.out.size (.cells #[.int .i64 m, .int .i64 ip, .slice (some ⟨g_x, 0, none⟩) rs.length rs.length] 29))
    have KAn := Lib.hid (KA4.out.alloc (.cells #[.int .i64 m, .int .i64 ip, .slice (some ⟨g_x, 0, none⟩) rs.length rs.length] 29))
    have Otn := Lib.hid (Ot4.out.alloc (.cells #[.int .i64 m, .int .i64 ip, .slice (some ⟨g_x, 0, none⟩) rs.length rs.length] 29))
    have Oxn := Lib.hid (Ox4.out.alloc (.cells #[.int .i64 m, .int .i64 ip, .slice (some ⟨g_x, 0, none⟩) rs.length rs.length] 29))
    clear B4 KA4 Ot4 Ox4
    obtain ⟨⟨cA0, cA1, cA2⟩, dA0, dA1, dA2⟩ := KAn.out.o3
    go_wp2_with fail
    clear cA0 cA1 cA2 dA0 dA1 dA2
    change Calls _ _ _ (v4.alloc (.cells #[.int .i64 m, .int .i64 ip, .slice (some ⟨g_x, 0, none⟩) rs.length rs.length] 29)) _
    generalize v4.alloc (.cells #[.int .i64 m, .int .i64 ip, .slice (some ⟨g_x, 0, none⟩) rs.length rs.length] 29) = v5 at KXn Bn KAn Otn Oxn ⊢
    generalize v4.heap.size = g_X at KXn l_X n_A_X n_t_X n_x_X ⊢
    clear v4
    have KA5 := KAn
    clear KAn
    have KX5 := KXn
    clear KXn
    have Ot5 := Otn
    clear Otn
    have Ox5 := Oxn
    clear Oxn
    have B5 := Bn
    clear Bn
    refine (CI.out g_x _ (Row.ownK Ox5.out)).mono ?_
    rintro e v6 ⟨rfl, hb⟩
    have B6 := Lib.hid (B5.out.trans (hb.mono B5.out.size))
    have KA6 := Lib.hid (KA5.out.below hb)
    have KX6 := Lib.hid (KX5.out.below hb)
    have Ot6 := Lib.hid (Ot5.out.kept (below_any (row := none) hb) (.inr (by simp [Value.ownBlock])))
    have Ox6 := Lib.hid (Ox5.out.kept (below_any (row := none) hb) (.inr (by simp [Value.ownBlock])))
    clear hb B5 KA5 KX5 Ot5 Ox5
    obtain ⟨⟨cA0, cA1, cA2⟩, dA0, dA1, dA2⟩ := KA6.out.o3
    obtain ⟨⟨cX0, cX1, cX2⟩, dX0, dX1, dX2⟩ := KX6.out.o3
    go_wp2_with fail
    clear cA0 cA1 cA2 dA0 dA1 dA2 cX0 cX1 cX2 dX0 dX1 dX2
    obtain ⟨⟨cA0, cA1, cA2⟩, dA0, dA1, dA2⟩ := KA6.out.o3
    obtain ⟨⟨cX0, cX1, cX2⟩, dX0, dX1, dX2⟩ := KX6.out.o3
    have P6_0 : True := trivial
    have P6_1 : True := trivial
    go_region_held3 (fun w' => (w'.cell? ⟨g_X, 0, none⟩ = some (.int .i64 m) ∧ w'.cell? ⟨g_X, 1, none⟩ = some (.int .i64 ip) ∧ w'.cell? ⟨g_X, 2, none⟩ = some (.slice (some ⟨g_x, 0, none⟩) rs.length rs.length)) ∧ (w'.cell? ⟨g_A, 0, none⟩ = some (.int .i64 m) ∧ w'.cell? ⟨g_A, 1, none⟩ = some (.int .i64 ip) ∧ w'.cell? ⟨g_A, 2, none⟩ = some (.slice a rs.length cap)))
      (first | go_keep | (exact ⟨KX7.out.o3.1, KA7.out.o3.1⟩) | (exact ⟨KX8.out.o3.1, KA8.out.o3.1⟩))
      (first | (have q := P6_0; go_at_call 8; clear q P6_0; refine (toLink_any m ip a cap rs _ ((HA.out.below B6.out.drew).mono B6.out.drew.size) hn.out).mono ?_; rintro e v7 ⟨g_z, rfl, ho_z, hb⟩; replace hb := (Below.refl _ v6).drew.trans hb; replace ho_z := own_down ho_z (show v6.heap.size ≤ v6.drew.heap.size from Nat.le_refl _); have n_A_z : g_A ≠ g_z := (by have h1 := KA6.out.lt; have h2 := (ho_z.lt g_z rfl).1; omega); have n_X_z : g_X ≠ g_z := (by have h1 := KX6.out.lt; have h2 := (ho_z.lt g_z rfl).1; omega); have n_t_z : g_t ≠ g_z := (by have h1 := (Ot6.out.lt g_t rfl).2; have h2 := (ho_z.lt g_z rfl).1; omega); have n_x_z : g_x ≠ g_z := (by have h1 := (Ox6.out.lt g_x rfl).2; have h2 := (ho_z.lt g_z rfl).1; omega); have l_z : w.heap.size ≤ g_z := Nat.le_trans B6.out.size (ho_z.lt g_z rfl).1; have B7 := Lib.hid (B6.out.trans (hb.mono B6.out.size)); have KA7 := Lib.hid (KA6.out.below hb); have KX7 := Lib.hid (KX6.out.below hb); have Ot7 := Lib.hid (Ot6.out.kept (below_any (row := none) hb) (.inr (by simp [Value.ownBlock]))); have Ox7 := Lib.hid (Ox6.out.kept (below_any (row := none) hb) (.inr (by simp [Value.ownBlock]))); have Oz7 := Lib.hid (own_down ho_z (Nat.zero_le _)); clear hb B6 KA6 KX6 Ot6 Ox6 ho_z) | (have q := P6_1; go_at_call 10; clear q P6_1; refine (eqLink_self m ip (some ⟨g_x, 0, none⟩) (some ⟨g_z, 0, none⟩) rs.length rs.length rs.length rs _ rfl (Row.ownK Ox7.out) (Row.ownK Oz7.out) (Nat.le_succ_of_le hn.out)).mono ?_; rintro e v8 ⟨rfl, hb⟩; have B8 := Lib.hid (B7.out.trans (hb.mono B7.out.size)); have KA8 := Lib.hid (KA7.out.below hb); have KX8 := Lib.hid (KX7.out.below hb); have Ot8 := Lib.hid (Ot7.out.kept (below_any (row := none) hb) (.inr (by simp [Value.ownBlock]))); have Ox8 := Lib.hid (Ox7.out.kept (below_any (row := none) hb) (.inr (by simp [Value.ownBlock]))); have Oz8 := Lib.hid (Oz7.out.kept (below_any (row := none) hb) (.inr (by simp [Value.ownBlock]))); clear hb B7 KA7 KX7 Ot7 Ox7 Oz7))
    try clear cA0 cA1 cA2 dA0 dA1 dA2 cX0 cX1 cX2 dX0 dX1 dX2
    obtain ⟨⟨cA0, cA1, cA2⟩, dA0, dA1, dA2⟩ := KA8.out.o3
    obtain ⟨⟨cX0, cX1, cX2⟩, dX0, dX1, dX2⟩ := KX8.out.o3
    go_wp2_with fail
    go_ret
    exact ⟨rfl, B8.out⟩

theorem walk {w : World} (m ip : Int) (a : Option Addr) (len cap : Nat) (rs : List ER) (dst : Int) (t : ByteArray) (h : LawL w m ip a len cap rs) (_ : (Lit.int .i64 dst).wf = true) (_ : t.size ≤ maxLen) : Calls Try.prog 4 #[.agg #[.int .i64 m, .int .i64 ip, .slice a len cap], .int .i64 dst, .string t] w (OkB w) := by
  obtain ⟨_, _, ⟨rfl, _, hm, _⟩, hrow⟩ := h
  exact go m ip a cap rs dst t w hrow (by omega)
theorem own : ownKnob Try.prog.godebug = none := by kernel_rfl
theorem laidOut : laidOutB Try.prog = true := by kernel_rfl

set_option maxRecDepth 100000 in
theorem lifted (os : Os) (started : os.Started) (H : Type) (enc : TypeId × Value → H) :
    ReturnsInHanded {} Try.checked os 4 .any (Rows.fnExactLinkOutSpec.pre6 enc Try.prog Try.f4 Rows.fnExactLinkOutRow.domain false) (Rows.fnExactLinkOutSpec.post enc Try.prog Try.f4 false true false false) := by
  refine returnsInHanded_of_change (C := Try.checked) own started (by kernel_rfl) Try.func4
    (ChangeSpec.witness6 (enc := enc) (C := Try.checked) false ⟨#[], #[.agg #[.int .i64 0, .int .i64 0, .slice none 0 0], .int .i64 0, .string ByteArray.empty], []⟩ 8 (by kernel_rfl) (by kernel_rfl) (by kernel_rfl) (by kernel_rfl)) ?_
  intro W base args ds gs before hval0 hW _ _
  have hval : ∀ (j : Nat) t v, Try.f4.params[j]? = some t → args[j]? = some v → Value.okWide Try.prog W .any base t v := hval0
  have hW' := hW
  obtain ⟨p, q, hA0, hV, rfl, _, _⟩ := hW
  have hA : DataW.TrodAll enc Try.prog W 0 (fun _ => true) true Try.f4.params.toList args.toList ds p := hA0
  rw [Try.params4] at hA hval
  obtain ⟨v0, vs0, d0, ds0, p0, q0, hargs, rfl, rfl, h0, r0⟩ := trodAll_cons hA
  obtain ⟨v1, vs1, d1, ds1, p1, q1, rfl, rfl, rfl, h1, r1⟩ := trodAll_cons r0
  obtain ⟨v2, vs2, d2, ds2, p2, q2, rfl, rfl, rfl, h2, r2⟩ := trodAll_cons r1
  obtain ⟨rfl, rfl, rfl⟩ := trodAll_nil r2
  obtain rfl : args = #[v0, v1, v2] := by cases args; simp_all
  obtain ⟨rfl, rfl⟩ := trodVars_none hV
  have k0 := h0
  have lt0 : ∀ x ∈ p0, x.block < W.heap.size := by obtain ⟨m, hm⟩ := k0; exact DataW.trod_lt m _ _ _ hm
  obtain ⟨m0, ip0, a0, len0, cap0, s0, rfl, w0⟩ := argLink (hval 0 24 v0 rfl rfl) h0
  obtain ⟨a1, rfl, rfl, rfl, w1⟩ := open_int Try.underlying3 (hval 1 3 v1 rfl rfl) h1
  obtain ⟨a2, rfl, rfl, rfl, w2⟩ := open_string Try.underlying9 (hval 2 9 v2 rfl rfl) h2
  clear hA0 hval0
  refine (walk m0 ip0 a0 len0 cap0 s0 a1 a2 w0 w1 w2).mono fun e W' ⟨he, bel⟩ => ?_
  subst he
  exact ⟨_, rfl, _, _, _, [], _, [], hW', trodAll_mk1 (shut_bool Try.underlying4 _), (trodAll_cons_mk (Below.trod laidOut (by kernel_rfl) (of_decide_eq_true (by kernel_rfl)) k0 bel lt0) (trodAll_cons_mk (shut_int Try.underlying3 w1) (trodAll_cons_mk (shut_string Try.underlying9 w2) trodAll_mk0))), rfl, bel.frame _, fun h => by cases h⟩

theorem over : Rows.fnExactLinkOutRow.holds Try.pinned (OpenSpec.ofChange Rows.fnExactLinkOutSpec) :=
  OpenClaim.holds_of_wide 4 Try.f4 rfl rfl rfl rfl rfl rfl rfl ⟨rfl, rfl, rfl, rfl, rfl⟩ rfl rfl rfl rfl rfl (by kernel_rfl) Try.func4 (by kernel_rfl)
    (of_decide_eq_true (by kernel_rfl)) (by unfold Func.isWrapper; first | (rw [if_pos (by decide +kernel)]; kernel_rfl) | (rw [if_neg (by decide +kernel)]; exact ⟨rfl, rfl⟩))
    (fun os started H enc _ => lifted os started H enc)

theorem proved : Rows.FnExactLinkOutSaid := over
#print axioms proved
end Go.Proofs.Ytkkimgjcefojdaa.fnExactLinkOut
