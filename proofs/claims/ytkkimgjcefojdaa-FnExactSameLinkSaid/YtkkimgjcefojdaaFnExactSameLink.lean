/- The law FnExactSameLink holds for every argument (up to the law's own measure of 1048576 entries and bytes; past it the law itself answers true): impl's SameLink answers as the model's and leaves its arguments. No condition. -/
import Derived.Test.YtkkimgjcefojdaaRows
import Derived.Test.YtkkimgjcefojdaaSameLnk
import Derived.Test.YtkkimgjcefojdaaLinkLaw
import Derived.Test.YtkkimgjcefojdaaArgLink
import Derived.Deep.RegionHeld3
import Derived.ProofKit
import Derived.OpenShut
import Derived.ShutString
import Derived.ChangeSame
namespace Go.Proofs.Ytkkimgjcefojdaa.fnExactSameLink
open Go.ChangeShapes Go.WideShapes Go.ChangeAt Go.RowKit Go.Lib
open Go.ChangeMaps (open_string shut_string)

/-- The law's word: true, and what lay before the call lies as it lay. -/
def OkB (w : World) (e : Ending) (w' : World) : Prop := e = .returned (.bool true) ∧ Below w.heap.size w w'

set_option maxRecDepth 100000 in
set_option maxHeartbeats 8000000 in
theorem go (m ip n jp : Int) (a b : Option Addr) (cap dap : Nat) (rs ss : List ER) (w : World) (hrow : Row w w.heap.size a (ers rs)) (hl : rs.length ≤ maxLen) (hrow2 : Row w w.heap.size b (ers ss)) (hl2 : ss.length ≤ maxLen) :
    Calls Try.prog 5 #[.agg #[.int .i64 m, .int .i64 ip, .slice a rs.length cap], .agg #[.int .i64 n, .int .i64 jp, .slice b ss.length dap]] w (OkB w) := by
  have HA := Lib.hid hrow
  have HL := Lib.hid hl
  have HB := Lib.hid hrow2
  have HM := Lib.hid hl2
  clear hrow hl hrow2 hl2
  by_cases hs : rs.length ≤ 1048576
  case neg =>
    have hn := Lib.hid hs
    clear hs
    go_enter Try.func5, Try.ntmps5
    have B0 := Lib.hid (show Below w.heap.size w ((w.alloc (.cells #[.int .i64 m, .int .i64 ip, .slice a rs.length cap] 24)).alloc (.cells #[.int .i64 n, .int .i64 jp, .slice b ss.length dap] 24)) from (((Below.refl _ w).alloc (by simp) _).alloc (by simp) _))
    have KA0 := Lib.hid (show Blk ((w.alloc (.cells #[.int .i64 m, .int .i64 ip, .slice a rs.length cap] 24)).alloc (.cells #[.int .i64 n, .int .i64 jp, .slice b ss.length dap] 24)) (w.heap.size) [.int .i64 m, .int .i64 ip, .slice a rs.length cap] from (Blk.new w [.int .i64 m, .int .i64 ip, .slice a rs.length cap] 24).alloc (.cells #[.int .i64 n, .int .i64 jp, .slice b ss.length dap] 24))
    have s1 : (w.alloc (.cells #[.int .i64 m, .int .i64 ip, .slice a rs.length cap] 24)).heap.size = w.heap.size + 1 := by simp
    have KB0 := Lib.hid (show Blk ((w.alloc (.cells #[.int .i64 m, .int .i64 ip, .slice a rs.length cap] 24)).alloc (.cells #[.int .i64 n, .int .i64 jp, .slice b ss.length dap] 24)) (w.heap.size + 1) [.int .i64 n, .int .i64 jp, .slice b ss.length dap] by have h0 := Blk.new (w.alloc (.cells #[.int .i64 m, .int .i64 ip, .slice a rs.length cap] 24)) [.int .i64 n, .int .i64 jp, .slice b ss.length dap] 24; rwa [s1] at h0)
    have n_A_B : w.heap.size ≠ w.heap.size + 1 := by omega
    clear s1
    go_wp2_with fail
    change Calls _ _ _ ((w.alloc (.cells #[.int .i64 m, .int .i64 ip, .slice a rs.length cap] 24)).alloc (.cells #[.int .i64 n, .int .i64 jp, .slice b ss.length dap] 24)) _
    generalize (w.alloc (.cells #[.int .i64 m, .int .i64 ip, .slice a rs.length cap] 24)).alloc (.cells #[.int .i64 n, .int .i64 jp, .slice b ss.length dap] 24) = v0 at B0 KA0 KB0 ⊢
    generalize hh_B : w.heap.size + 1 = g_B at KB0 n_A_B ⊢
    generalize hh_A : w.heap.size = g_A at KA0 n_A_B ⊢
    have l_A : w.heap.size ≤ g_A := by omega
    have l_B : w.heap.size ≤ g_B := by omega
    clear hh_A hh_B
    refine (szLink_any m ip a rs.length cap 1048576 _ HL.out (by omega)).mono ?_
    rintro e v1 ⟨hr, hb⟩
    have B1 := Lib.hid (B0.out.trans (hb.mono B0.out.size))
    have KA1 := Lib.hid (KA0.out.below hb)
    have KB1 := Lib.hid (KB0.out.below hb)
    clear hb B0 KA0 KB0
    rw [if_neg hn.out] at hr
    subst hr
    obtain ⟨⟨cA0, cA1, cA2⟩, dA0, dA1, dA2⟩ := KA1.out.o3
    obtain ⟨⟨cB0, cB1, cB2⟩, dB0, dB1, dB2⟩ := KB1.out.o3
    go_wp2_with fail
    go_ret
    exact ⟨rfl, B1.out⟩
  have hn := Lib.hid hs
  have hcast : ((1048576 : Nat) : Int) - (rs.length : Int) = ((1048576 - rs.length : Nat) : Int) := by omega
  have HC := Lib.hid hcast
  clear hcast
  by_cases hs2 : ss.length ≤ 1048576 - rs.length
  case neg =>
    have hq := Lib.hid hs2
    clear hs2 hs
    go_enter Try.func5, Try.ntmps5
    have B0 := Lib.hid (show Below w.heap.size w ((w.alloc (.cells #[.int .i64 m, .int .i64 ip, .slice a rs.length cap] 24)).alloc (.cells #[.int .i64 n, .int .i64 jp, .slice b ss.length dap] 24)) from (((Below.refl _ w).alloc (by simp) _).alloc (by simp) _))
    have KA0 := Lib.hid (show Blk ((w.alloc (.cells #[.int .i64 m, .int .i64 ip, .slice a rs.length cap] 24)).alloc (.cells #[.int .i64 n, .int .i64 jp, .slice b ss.length dap] 24)) (w.heap.size) [.int .i64 m, .int .i64 ip, .slice a rs.length cap] from (Blk.new w [.int .i64 m, .int .i64 ip, .slice a rs.length cap] 24).alloc (.cells #[.int .i64 n, .int .i64 jp, .slice b ss.length dap] 24))
    have s1 : (w.alloc (.cells #[.int .i64 m, .int .i64 ip, .slice a rs.length cap] 24)).heap.size = w.heap.size + 1 := by simp
    have KB0 := Lib.hid (show Blk ((w.alloc (.cells #[.int .i64 m, .int .i64 ip, .slice a rs.length cap] 24)).alloc (.cells #[.int .i64 n, .int .i64 jp, .slice b ss.length dap] 24)) (w.heap.size + 1) [.int .i64 n, .int .i64 jp, .slice b ss.length dap] by have h0 := Blk.new (w.alloc (.cells #[.int .i64 m, .int .i64 ip, .slice a rs.length cap] 24)) [.int .i64 n, .int .i64 jp, .slice b ss.length dap] 24; rwa [s1] at h0)
    have n_A_B : w.heap.size ≠ w.heap.size + 1 := by omega
    clear s1
    go_wp2_with fail
    change Calls _ _ _ ((w.alloc (.cells #[.int .i64 m, .int .i64 ip, .slice a rs.length cap] 24)).alloc (.cells #[.int .i64 n, .int .i64 jp, .slice b ss.length dap] 24)) _
    generalize (w.alloc (.cells #[.int .i64 m, .int .i64 ip, .slice a rs.length cap] 24)).alloc (.cells #[.int .i64 n, .int .i64 jp, .slice b ss.length dap] 24) = v0 at B0 KA0 KB0 ⊢
    generalize hh_B : w.heap.size + 1 = g_B at KB0 n_A_B ⊢
    generalize hh_A : w.heap.size = g_A at KA0 n_A_B ⊢
    have l_A : w.heap.size ≤ g_A := by omega
    have l_B : w.heap.size ≤ g_B := by omega
    clear hh_A hh_B
    refine (szLink_any m ip a rs.length cap 1048576 _ HL.out (by omega)).mono ?_
    rintro e v1 ⟨hr, hb⟩
    have B1 := Lib.hid (B0.out.trans (hb.mono B0.out.size))
    have KA1 := Lib.hid (KA0.out.below hb)
    have KB1 := Lib.hid (KB0.out.below hb)
    clear hb B0 KA0 KB0
    rw [if_pos hn.out, HC.out] at hr
    subst hr
    have hs := hn.out
    have hz : ¬ ((1048576 - rs.length : Nat) : Int) < 0 := by omega
    obtain ⟨⟨cA0, cA1, cA2⟩, dA0, dA1, dA2⟩ := KA1.out.o3
    obtain ⟨⟨cB0, cB1, cB2⟩, dB0, dB1, dB2⟩ := KB1.out.o3
    go_wp2_with fail
    clear hs hz
    clear cA0 cA1 cA2 dA0 dA1 dA2 cB0 cB1 cB2 dB0 dB1 dB2
    refine (szLink_any n jp b ss.length dap (1048576 - rs.length) _ HM.out (by omega)).mono ?_
    rintro e v2 ⟨hr, hb⟩
    have B2 := Lib.hid (B1.out.trans (hb.mono B1.out.size))
    have KA2 := Lib.hid (KA1.out.below hb)
    have KB2 := Lib.hid (KB1.out.below hb)
    clear hb B1 KA1 KB1
    rw [if_neg hq.out] at hr
    subst hr
    obtain ⟨⟨cA0, cA1, cA2⟩, dA0, dA1, dA2⟩ := KA2.out.o3
    obtain ⟨⟨cB0, cB1, cB2⟩, dB0, dB1, dB2⟩ := KB2.out.o3
    go_wp2_with fail
    go_ret
    exact ⟨rfl, B2.out⟩
  have hq := Lib.hid hs2
  have hm := Lib.hid (show ss.length ≤ 1048576 by omega)
  have CS := Lib.hid (fun g h w x y => sameLinkS m n ip jp (some ⟨g, 0, none⟩) (some ⟨h, 0, none⟩) rs.length ss.length rs ss w x y (Nat.le_succ_of_le hs))
  have CI := Lib.hid (fun g h w x y => sameLinkI m n ip jp (some ⟨g, 0, none⟩) (some ⟨h, 0, none⟩) rs.length ss.length rs ss w x y (Nat.le_succ_of_le hs))
  clear hs hs2
  generalize sameL m n ip jp rs ss = k at CS CI
  cases k with
  | false =>
    go_enter Try.func5, Try.ntmps5
    have B0 := Lib.hid (show Below w.heap.size w ((w.alloc (.cells #[.int .i64 m, .int .i64 ip, .slice a rs.length cap] 24)).alloc (.cells #[.int .i64 n, .int .i64 jp, .slice b ss.length dap] 24)) from (((Below.refl _ w).alloc (by simp) _).alloc (by simp) _))
    have KA0 := Lib.hid (show Blk ((w.alloc (.cells #[.int .i64 m, .int .i64 ip, .slice a rs.length cap] 24)).alloc (.cells #[.int .i64 n, .int .i64 jp, .slice b ss.length dap] 24)) (w.heap.size) [.int .i64 m, .int .i64 ip, .slice a rs.length cap] from (Blk.new w [.int .i64 m, .int .i64 ip, .slice a rs.length cap] 24).alloc (.cells #[.int .i64 n, .int .i64 jp, .slice b ss.length dap] 24))
    have s1 : (w.alloc (.cells #[.int .i64 m, .int .i64 ip, .slice a rs.length cap] 24)).heap.size = w.heap.size + 1 := by simp
    have KB0 := Lib.hid (show Blk ((w.alloc (.cells #[.int .i64 m, .int .i64 ip, .slice a rs.length cap] 24)).alloc (.cells #[.int .i64 n, .int .i64 jp, .slice b ss.length dap] 24)) (w.heap.size + 1) [.int .i64 n, .int .i64 jp, .slice b ss.length dap] by have h0 := Blk.new (w.alloc (.cells #[.int .i64 m, .int .i64 ip, .slice a rs.length cap] 24)) [.int .i64 n, .int .i64 jp, .slice b ss.length dap] 24; rwa [s1] at h0)
    have n_A_B : w.heap.size ≠ w.heap.size + 1 := by omega
    clear s1
    go_wp2_with fail
    change Calls _ _ _ ((w.alloc (.cells #[.int .i64 m, .int .i64 ip, .slice a rs.length cap] 24)).alloc (.cells #[.int .i64 n, .int .i64 jp, .slice b ss.length dap] 24)) _
    generalize (w.alloc (.cells #[.int .i64 m, .int .i64 ip, .slice a rs.length cap] 24)).alloc (.cells #[.int .i64 n, .int .i64 jp, .slice b ss.length dap] 24) = v0 at B0 KA0 KB0 ⊢
    generalize hh_B : w.heap.size + 1 = g_B at KB0 n_A_B ⊢
    generalize hh_A : w.heap.size = g_A at KA0 n_A_B ⊢
    have l_A : w.heap.size ≤ g_A := by omega
    have l_B : w.heap.size ≤ g_B := by omega
    clear hh_A hh_B
    refine (szLink_any m ip a rs.length cap 1048576 _ HL.out (by omega)).mono ?_
    rintro e v1 ⟨hr, hb⟩
    have B1 := Lib.hid (B0.out.trans (hb.mono B0.out.size))
    have KA1 := Lib.hid (KA0.out.below hb)
    have KB1 := Lib.hid (KB0.out.below hb)
    clear hb B0 KA0 KB0
    rw [if_pos hn.out, HC.out] at hr
    subst hr
    have hs := hn.out
    have hz : ¬ ((1048576 - rs.length : Nat) : Int) < 0 := by omega
    obtain ⟨⟨cA0, cA1, cA2⟩, dA0, dA1, dA2⟩ := KA1.out.o3
    obtain ⟨⟨cB0, cB1, cB2⟩, dB0, dB1, dB2⟩ := KB1.out.o3
    go_wp2_with fail
    clear hs hz
    clear cA0 cA1 cA2 dA0 dA1 dA2 cB0 cB1 cB2 dB0 dB1 dB2
    refine (szLink_any n jp b ss.length dap (1048576 - rs.length) _ HM.out (by omega)).mono ?_
    rintro e v2 ⟨hr, hb⟩
    have B2 := Lib.hid (B1.out.trans (hb.mono B1.out.size))
    have KA2 := Lib.hid (KA1.out.below hb)
    have KB2 := Lib.hid (KB1.out.below hb)
    clear hb B1 KA1 KB1
    rw [if_pos hq.out] at hr
    subst hr
    have hs := hq.out
    have hz : ¬ ((1048576 - rs.length : Nat) : Int) - (ss.length : Int) < 0 := by omega
    obtain ⟨⟨cA0, cA1, cA2⟩, dA0, dA1, dA2⟩ := KA2.out.o3
    obtain ⟨⟨cB0, cB1, cB2⟩, dB0, dB1, dB2⟩ := KB2.out.o3
    go_wp2_with fail
    clear hs hz
    clear cA0 cA1 cA2 dA0 dA1 dA2 cB0 cB1 cB2 dB0 dB1 dB2
    obtain ⟨⟨cA0, cA1, cA2⟩, dA0, dA1, dA2⟩ := KA2.out.o3
    obtain ⟨⟨cB0, cB1, cB2⟩, dB0, dB1, dB2⟩ := KB2.out.o3
    have P2_0 : True := trivial
    have P2_1 : True := trivial
    have P2_2 : True := trivial
    go_region_held3 (fun w' => (w'.cell? ⟨g_A, 0, none⟩ = some (.int .i64 m) ∧ w'.cell? ⟨g_A, 1, none⟩ = some (.int .i64 ip) ∧ w'.cell? ⟨g_A, 2, none⟩ = some (.slice a rs.length cap)) ∧ (w'.cell? ⟨g_B, 0, none⟩ = some (.int .i64 n) ∧ w'.cell? ⟨g_B, 1, none⟩ = some (.int .i64 jp) ∧ w'.cell? ⟨g_B, 2, none⟩ = some (.slice b ss.length dap)))
      (first | go_keep | (exact ⟨KA3.out.o3.1, KB3.out.o3.1⟩) | (exact ⟨KA4.out.o3.1, KB4.out.o3.1⟩) | (exact ⟨KA5.out.o3.1, KB5.out.o3.1⟩))
      (first | (have q := P2_0; go_at_call 8; clear q P2_0; refine (toLink_any m ip a cap rs _ ((HA.out.below B2.out.drew).mono B2.out.drew.size) hn.out).mono ?_; rintro e v3 ⟨g_p, rfl, ho_p, hb⟩; replace hb := (Below.refl _ v2).drew.trans hb; replace ho_p := own_down ho_p (show v2.heap.size ≤ v2.drew.heap.size from Nat.le_refl _); have n_A_p : g_A ≠ g_p := (by have h1 := KA2.out.lt; have h2 := (ho_p.lt g_p rfl).1; omega); have n_B_p : g_B ≠ g_p := (by have h1 := KB2.out.lt; have h2 := (ho_p.lt g_p rfl).1; omega); have l_p : w.heap.size ≤ g_p := Nat.le_trans B2.out.size (ho_p.lt g_p rfl).1; have B3 := Lib.hid (B2.out.trans (hb.mono B2.out.size)); have KA3 := Lib.hid (KA2.out.below hb); have KB3 := Lib.hid (KB2.out.below hb); have Op3 := Lib.hid (own_down ho_p (Nat.zero_le _)); clear hb B2 KA2 KB2 ho_p) | (have q := P2_1; go_at_call 8; clear q P2_1; refine (toLink_any n jp b dap ss _ ((HB.out.below B3.out).mono B3.out.size) hm.out).mono ?_; rintro e v4 ⟨g_q, rfl, ho_q, hb⟩; have n_A_q : g_A ≠ g_q := (by have h1 := KA3.out.lt; have h2 := (ho_q.lt g_q rfl).1; omega); have n_B_q : g_B ≠ g_q := (by have h1 := KB3.out.lt; have h2 := (ho_q.lt g_q rfl).1; omega); have n_p_q : g_p ≠ g_q := (by have h1 := (Op3.out.lt g_p rfl).2; have h2 := (ho_q.lt g_q rfl).1; omega); have l_q : w.heap.size ≤ g_q := Nat.le_trans B3.out.size (ho_q.lt g_q rfl).1; have B4 := Lib.hid (B3.out.trans (hb.mono B3.out.size)); have KA4 := Lib.hid (KA3.out.below hb); have KB4 := Lib.hid (KB3.out.below hb); have Op4 := Lib.hid (Op3.out.kept (below_any (row := none) hb) (.inr (by simp [Value.ownBlock]))); have Oq4 := Lib.hid (own_down ho_q (Nat.zero_le _)); clear hb B3 KA3 KB3 Op3 ho_q) | (have q := P2_2; go_at_call 13; clear q P2_2; refine (CS.out g_p g_q _ (Row.ownK Op4.out) (Row.ownK Oq4.out)).mono ?_; rintro e v5 ⟨rfl, hb⟩; have B5 := Lib.hid (B4.out.trans (hb.mono B4.out.size)); have KA5 := Lib.hid (KA4.out.below hb); have KB5 := Lib.hid (KB4.out.below hb); have Op5 := Lib.hid (Op4.out.kept (below_any (row := none) hb) (.inr (by simp [Value.ownBlock]))); have Oq5 := Lib.hid (Oq4.out.kept (below_any (row := none) hb) (.inr (by simp [Value.ownBlock]))); clear hb B4 KA4 KB4 Op4 Oq4))
    try clear cA0 cA1 cA2 dA0 dA1 dA2 cB0 cB1 cB2 dB0 dB1 dB2
    obtain ⟨⟨cA0, cA1, cA2⟩, dA0, dA1, dA2⟩ := KA5.out.o3
    obtain ⟨⟨cB0, cB1, cB2⟩, dB0, dB1, dB2⟩ := KB5.out.o3
    go_wp2_with fail
    clear cA0 cA1 cA2 dA0 dA1 dA2 cB0 cB1 cB2 dB0 dB1 dB2
    refine (toLink_any m ip a cap rs _ ((HA.out.below B5.out).mono B5.out.size) hn.out).mono ?_
    rintro e v6 ⟨g_x, rfl, ho_x, hb⟩
    have n_A_x : g_A ≠ g_x := by have h1 := KA5.out.lt; have h2 := (ho_x.lt g_x rfl).1; omega
    have n_B_x : g_B ≠ g_x := by have h1 := KB5.out.lt; have h2 := (ho_x.lt g_x rfl).1; omega
    have n_p_x : g_p ≠ g_x := by have h1 := (Op5.out.lt g_p rfl).2; have h2 := (ho_x.lt g_x rfl).1; omega
    have n_q_x : g_q ≠ g_x := by have h1 := (Oq5.out.lt g_q rfl).2; have h2 := (ho_x.lt g_x rfl).1; omega
    have l_x : w.heap.size ≤ g_x := Nat.le_trans B5.out.size (ho_x.lt g_x rfl).1
    have B6 := Lib.hid (B5.out.trans (hb.mono B5.out.size))
    have KA6 := Lib.hid (KA5.out.below hb)
    have KB6 := Lib.hid (KB5.out.below hb)
    have Op6 := Lib.hid (Op5.out.kept (below_any (row := none) hb) (.inr (by simp [Value.ownBlock])))
    have Oq6 := Lib.hid (Oq5.out.kept (below_any (row := none) hb) (.inr (by simp [Value.ownBlock])))
    have Ox6 := Lib.hid (own_down ho_x (Nat.zero_le _))
    clear hb B5 KA5 KB5 Op5 Oq5 ho_x
    have KXn := Lib.hid (Blk.new v6 [.int .i64 m, .int .i64 ip, .slice (some ⟨g_x, 0, none⟩) rs.length rs.length] 29)
    have l_X : w.heap.size ≤ v6.heap.size := B6.out.size
    have n_A_X : g_A ≠ v6.heap.size := by have h1 := KA6.out.lt; omega
    have n_B_X : g_B ≠ v6.heap.size := by have h1 := KB6.out.lt; omega
    have n_p_X : g_p ≠ v6.heap.size := by have h1 := (Op6.out.lt g_p rfl).2; omega
    have n_q_X : g_q ≠ v6.heap.size := by have h1 := (Oq6.out.lt g_q rfl).2; omega
    have n_x_X : g_x ≠ v6.heap.size := by have h1 := (Ox6.out.lt g_x rfl).2; omega
    have Bn := Lib.hid (B6.out.alloc B6.out.size (.cells #[.int .i64 m, .int .i64 ip, .slice (some ⟨g_x, 0, none⟩) rs.length rs.length] 29))
    have KAn := Lib.hid (KA6.out.alloc (.cells #[.int .i64 m, .int .i64 ip, .slice (some ⟨g_x, 0, none⟩) rs.length rs.length] 29))
    have KBn := Lib.hid (KB6.out.alloc (.cells #[.int .i64 m, .int .i64 ip, .slice (some ⟨g_x, 0, none⟩) rs.length rs.length] 29))
    have Opn := Lib.hid (Op6.out.alloc (.cells #[.int .i64 m, .int .i64 ip, .slice (some ⟨g_x, 0, none⟩) rs.length rs.length] 29))
    have Oqn := Lib.hid (Oq6.out.alloc (.cells #[.int .i64 m, .int .i64 ip, .slice (some ⟨g_x, 0, none⟩) rs.length rs.length] 29))
    have Oxn := Lib.hid (Ox6.out.alloc (.cells #[.int .i64 m, .int .i64 ip, .slice (some ⟨g_x, 0, none⟩) rs.length rs.length] 29))
    clear B6 KA6 KB6 Op6 Oq6 Ox6
    obtain ⟨⟨cA0, cA1, cA2⟩, dA0, dA1, dA2⟩ := KAn.out.o3
    obtain ⟨⟨cB0, cB1, cB2⟩, dB0, dB1, dB2⟩ := KBn.out.o3
    go_wp2_with fail
    clear cA0 cA1 cA2 dA0 dA1 dA2 cB0 cB1 cB2 dB0 dB1 dB2
    change Calls _ _ _ (v6.alloc (.cells #[.int .i64 m, .int .i64 ip, .slice (some ⟨g_x, 0, none⟩) rs.length rs.length] 29)) _
    generalize v6.alloc (.cells #[.int .i64 m, .int .i64 ip, .slice (some ⟨g_x, 0, none⟩) rs.length rs.length] 29) = v7 at KXn Bn KAn KBn Opn Oqn Oxn ⊢
    generalize v6.heap.size = g_X at KXn l_X n_A_X n_B_X n_p_X n_q_X n_x_X ⊢
    clear v6
    have KA7 := KAn
    clear KAn
    have KB7 := KBn
    clear KBn
    have KX7 := KXn
    clear KXn
    have Op7 := Opn
    clear Opn
    have Oq7 := Oqn
    clear Oqn
    have Ox7 := Oxn
    clear Oxn
    have B7 := Bn
    clear Bn
    refine (toLink_any n jp b dap ss _ ((HB.out.below B7.out).mono B7.out.size) hm.out).mono ?_
    rintro e v8 ⟨g_y, rfl, ho_y, hb⟩
    have n_A_y : g_A ≠ g_y := by have h1 := KA7.out.lt; have h2 := (ho_y.lt g_y rfl).1; omega
    have n_B_y : g_B ≠ g_y := by have h1 := KB7.out.lt; have h2 := (ho_y.lt g_y rfl).1; omega
    have n_X_y : g_X ≠ g_y := by have h1 := KX7.out.lt; have h2 := (ho_y.lt g_y rfl).1; omega
    have n_p_y : g_p ≠ g_y := by have h1 := (Op7.out.lt g_p rfl).2; have h2 := (ho_y.lt g_y rfl).1; omega
    have n_q_y : g_q ≠ g_y := by have h1 := (Oq7.out.lt g_q rfl).2; have h2 := (ho_y.lt g_y rfl).1; omega
    have n_x_y : g_x ≠ g_y := by have h1 := (Ox7.out.lt g_x rfl).2; have h2 := (ho_y.lt g_y rfl).1; omega
    have l_y : w.heap.size ≤ g_y := Nat.le_trans B7.out.size (ho_y.lt g_y rfl).1
    have B8 := Lib.hid (B7.out.trans (hb.mono B7.out.size))
    have KA8 := Lib.hid (KA7.out.below hb)
    have KB8 := Lib.hid (KB7.out.below hb)
    have KX8 := Lib.hid (KX7.out.below hb)
    have Op8 := Lib.hid (Op7.out.kept (below_any (row := none) hb) (.inr (by simp [Value.ownBlock])))
    have Oq8 := Lib.hid (Oq7.out.kept (below_any (row := none) hb) (.inr (by simp [Value.ownBlock])))
    have Ox8 := Lib.hid (Ox7.out.kept (below_any (row := none) hb) (.inr (by simp [Value.ownBlock])))
    have Oy8 := Lib.hid (own_down ho_y (Nat.zero_le _))
    clear hb B7 KA7 KB7 KX7 Op7 Oq7 Ox7 ho_y
    have KYn := Lib.hid (Blk.new v8 [.int .i64 n, .int .i64 jp, .slice (some ⟨g_y, 0, none⟩) ss.length ss.length] 29)
    have l_Y : w.heap.size ≤ v8.heap.size := B8.out.size
    have n_A_Y : g_A ≠ v8.heap.size := by have h1 := KA8.out.lt; omega
    have n_B_Y : g_B ≠ v8.heap.size := by have h1 := KB8.out.lt; omega
    have n_X_Y : g_X ≠ v8.heap.size := by have h1 := KX8.out.lt; omega
    have n_p_Y : g_p ≠ v8.heap.size := by have h1 := (Op8.out.lt g_p rfl).2; omega
    have n_q_Y : g_q ≠ v8.heap.size := by have h1 := (Oq8.out.lt g_q rfl).2; omega
    have n_x_Y : g_x ≠ v8.heap.size := by have h1 := (Ox8.out.lt g_x rfl).2; omega
    have n_y_Y : g_y ≠ v8.heap.size := by have h1 := (Oy8.out.lt g_y rfl).2; omega
    have Bn := Lib.hid (B8.out.alloc B8.out.size (.cells #[.int .i64 n, .int .i64 jp, .slice (some ⟨g_y, 0, none⟩) ss.length ss.length] 29))
    have KAn := Lib.hid (KA8.out.alloc (.cells #[.int .i64 n, .int .i64 jp, .slice (some ⟨g_y, 0, none⟩) ss.length ss.length] 29))
    have KBn := Lib.hid (KB8.out.alloc (.cells #[.int .i64 n, .int .i64 jp, .slice (some ⟨g_y, 0, none⟩) ss.length ss.length] 29))
    have KXn := Lib.hid (KX8.out.alloc (.cells #[.int .i64 n, .int .i64 jp, .slice (some ⟨g_y, 0, none⟩) ss.length ss.length] 29))
    have Opn := Lib.hid (Op8.out.alloc (.cells #[.int .i64 n, .int .i64 jp, .slice (some ⟨g_y, 0, none⟩) ss.length ss.length] 29))
    have Oqn := Lib.hid (Oq8.out.alloc (.cells #[.int .i64 n, .int .i64 jp, .slice (some ⟨g_y, 0, none⟩) ss.length ss.length] 29))
    have Oxn := Lib.hid (Ox8.out.alloc (.cells #[.int .i64 n, .int .i64 jp, .slice (some ⟨g_y, 0, none⟩) ss.length ss.length] 29))
    have Oyn := Lib.hid (Oy8.out.alloc (.cells #[.int .i64 n, .int .i64 jp, .slice (some ⟨g_y, 0, none⟩) ss.length ss.length] 29))
    clear B8 KA8 KB8 KX8 Op8 Oq8 Ox8 Oy8
    obtain ⟨⟨cA0, cA1, cA2⟩, dA0, dA1, dA2⟩ := KAn.out.o3
    obtain ⟨⟨cB0, cB1, cB2⟩, dB0, dB1, dB2⟩ := KBn.out.o3
    obtain ⟨⟨cX0, cX1, cX2⟩, dX0, dX1, dX2⟩ := KXn.out.o3
    go_wp2_with fail
    clear cA0 cA1 cA2 dA0 dA1 dA2 cB0 cB1 cB2 dB0 dB1 dB2 cX0 cX1 cX2 dX0 dX1 dX2
    change Calls _ _ _ (v8.alloc (.cells #[.int .i64 n, .int .i64 jp, .slice (some ⟨g_y, 0, none⟩) ss.length ss.length] 29)) _
    generalize v8.alloc (.cells #[.int .i64 n, .int .i64 jp, .slice (some ⟨g_y, 0, none⟩) ss.length ss.length] 29) = v9 at KYn Bn KAn KBn KXn Opn Oqn Oxn Oyn ⊢
    generalize v8.heap.size = g_Y at KYn l_Y n_A_Y n_B_Y n_X_Y n_p_Y n_q_Y n_x_Y n_y_Y ⊢
    clear v8
    have KA9 := KAn
    clear KAn
    have KB9 := KBn
    clear KBn
    have KX9 := KXn
    clear KXn
    have KY9 := KYn
    clear KYn
    have Op9 := Opn
    clear Opn
    have Oq9 := Oqn
    clear Oqn
    have Ox9 := Oxn
    clear Oxn
    have Oy9 := Oyn
    clear Oyn
    have B9 := Bn
    clear Bn
    refine (CI.out g_x g_y _ (Row.ownK Ox9.out) (Row.ownK Oy9.out)).mono ?_
    rintro e v10 ⟨rfl, hb⟩
    have B10 := Lib.hid (B9.out.trans (hb.mono B9.out.size))
    have KA10 := Lib.hid (KA9.out.below hb)
    have KB10 := Lib.hid (KB9.out.below hb)
    have KX10 := Lib.hid (KX9.out.below hb)
    have KY10 := Lib.hid (KY9.out.below hb)
    have Op10 := Lib.hid (Op9.out.kept (below_any (row := none) hb) (.inr (by simp [Value.ownBlock])))
    have Oq10 := Lib.hid (Oq9.out.kept (below_any (row := none) hb) (.inr (by simp [Value.ownBlock])))
    have Ox10 := Lib.hid (Ox9.out.kept (below_any (row := none) hb) (.inr (by simp [Value.ownBlock])))
    have Oy10 := Lib.hid (Oy9.out.kept (below_any (row := none) hb) (.inr (by simp [Value.ownBlock])))
    clear hb B9 KA9 KB9 KX9 KY9 Op9 Oq9 Ox9 Oy9
    obtain ⟨⟨cA0, cA1, cA2⟩, dA0, dA1, dA2⟩ := KA10.out.o3
    obtain ⟨⟨cB0, cB1, cB2⟩, dB0, dB1, dB2⟩ := KB10.out.o3
    obtain ⟨⟨cX0, cX1, cX2⟩, dX0, dX1, dX2⟩ := KX10.out.o3
    obtain ⟨⟨cY0, cY1, cY2⟩, dY0, dY1, dY2⟩ := KY10.out.o3
    go_wp2_with fail
    clear cA0 cA1 cA2 dA0 dA1 dA2 cB0 cB1 cB2 dB0 dB1 dB2 cX0 cX1 cX2 dX0 dX1 dX2 cY0 cY1 cY2 dY0 dY1 dY2
    obtain ⟨⟨cA0, cA1, cA2⟩, dA0, dA1, dA2⟩ := KA10.out.o3
    obtain ⟨⟨cX0, cX1, cX2⟩, dX0, dX1, dX2⟩ := KX10.out.o3
    have P10_0 : True := trivial
    have P10_1 : True := trivial
    go_region_held3 (fun w' => (w'.cell? ⟨g_X, 0, none⟩ = some (.int .i64 m) ∧ w'.cell? ⟨g_X, 1, none⟩ = some (.int .i64 ip) ∧ w'.cell? ⟨g_X, 2, none⟩ = some (.slice (some ⟨g_x, 0, none⟩) rs.length rs.length)) ∧ (w'.cell? ⟨g_A, 0, none⟩ = some (.int .i64 m) ∧ w'.cell? ⟨g_A, 1, none⟩ = some (.int .i64 ip) ∧ w'.cell? ⟨g_A, 2, none⟩ = some (.slice a rs.length cap)))
      (first | go_keep | (exact ⟨KX11.out.o3.1, KA11.out.o3.1⟩) | (exact ⟨KX12.out.o3.1, KA12.out.o3.1⟩))
      (first | (have q := P10_0; go_at_call 8; clear q P10_0; refine (toLink_any m ip a cap rs _ ((HA.out.below B10.out.drew).mono B10.out.drew.size) hn.out).mono ?_; rintro e v11 ⟨g_c, rfl, ho_c, hb⟩; replace hb := (Below.refl _ v10).drew.trans hb; replace ho_c := own_down ho_c (show v10.heap.size ≤ v10.drew.heap.size from Nat.le_refl _); have n_A_c : g_A ≠ g_c := (by have h1 := KA10.out.lt; have h2 := (ho_c.lt g_c rfl).1; omega); have n_B_c : g_B ≠ g_c := (by have h1 := KB10.out.lt; have h2 := (ho_c.lt g_c rfl).1; omega); have n_X_c : g_X ≠ g_c := (by have h1 := KX10.out.lt; have h2 := (ho_c.lt g_c rfl).1; omega); have n_Y_c : g_Y ≠ g_c := (by have h1 := KY10.out.lt; have h2 := (ho_c.lt g_c rfl).1; omega); have n_p_c : g_p ≠ g_c := (by have h1 := (Op10.out.lt g_p rfl).2; have h2 := (ho_c.lt g_c rfl).1; omega); have n_q_c : g_q ≠ g_c := (by have h1 := (Oq10.out.lt g_q rfl).2; have h2 := (ho_c.lt g_c rfl).1; omega); have n_x_c : g_x ≠ g_c := (by have h1 := (Ox10.out.lt g_x rfl).2; have h2 := (ho_c.lt g_c rfl).1; omega); have n_y_c : g_y ≠ g_c := (by have h1 := (Oy10.out.lt g_y rfl).2; have h2 := (ho_c.lt g_c rfl).1; omega); have l_c : w.heap.size ≤ g_c := Nat.le_trans B10.out.size (ho_c.lt g_c rfl).1; have B11 := Lib.hid (B10.out.trans (hb.mono B10.out.size)); have KA11 := Lib.hid (KA10.out.below hb); have KB11 := Lib.hid (KB10.out.below hb); have KX11 := Lib.hid (KX10.out.below hb); have KY11 := Lib.hid (KY10.out.below hb); have Op11 := Lib.hid (Op10.out.kept (below_any (row := none) hb) (.inr (by simp [Value.ownBlock]))); have Oq11 := Lib.hid (Oq10.out.kept (below_any (row := none) hb) (.inr (by simp [Value.ownBlock]))); have Ox11 := Lib.hid (Ox10.out.kept (below_any (row := none) hb) (.inr (by simp [Value.ownBlock]))); have Oy11 := Lib.hid (Oy10.out.kept (below_any (row := none) hb) (.inr (by simp [Value.ownBlock]))); have Oc11 := Lib.hid (own_down ho_c (Nat.zero_le _)); clear hb B10 KA10 KB10 KX10 KY10 Op10 Oq10 Ox10 Oy10 ho_c) | (have q := P10_1; go_at_call 10; clear q P10_1; refine (eqLink_self m ip (some ⟨g_x, 0, none⟩) (some ⟨g_c, 0, none⟩) rs.length rs.length rs.length rs _ rfl (Row.ownK Ox11.out) (Row.ownK Oc11.out) (Nat.le_succ_of_le hn.out)).mono ?_; rintro e v12 ⟨rfl, hb⟩; have B12 := Lib.hid (B11.out.trans (hb.mono B11.out.size)); have KA12 := Lib.hid (KA11.out.below hb); have KB12 := Lib.hid (KB11.out.below hb); have KX12 := Lib.hid (KX11.out.below hb); have KY12 := Lib.hid (KY11.out.below hb); have Op12 := Lib.hid (Op11.out.kept (below_any (row := none) hb) (.inr (by simp [Value.ownBlock]))); have Oq12 := Lib.hid (Oq11.out.kept (below_any (row := none) hb) (.inr (by simp [Value.ownBlock]))); have Ox12 := Lib.hid (Ox11.out.kept (below_any (row := none) hb) (.inr (by simp [Value.ownBlock]))); have Oy12 := Lib.hid (Oy11.out.kept (below_any (row := none) hb) (.inr (by simp [Value.ownBlock]))); have Oc12 := Lib.hid (Oc11.out.kept (below_any (row := none) hb) (.inr (by simp [Value.ownBlock]))); clear hb B11 KA11 KB11 KX11 KY11 Op11 Oq11 Ox11 Oy11 Oc11))
    try clear cA0 cA1 cA2 dA0 dA1 dA2 cX0 cX1 cX2 dX0 dX1 dX2
    obtain ⟨⟨cA0, cA1, cA2⟩, dA0, dA1, dA2⟩ := KA12.out.o3
    obtain ⟨⟨cB0, cB1, cB2⟩, dB0, dB1, dB2⟩ := KB12.out.o3
    obtain ⟨⟨cX0, cX1, cX2⟩, dX0, dX1, dX2⟩ := KX12.out.o3
    obtain ⟨⟨cY0, cY1, cY2⟩, dY0, dY1, dY2⟩ := KY12.out.o3
    go_wp2_with fail
    clear cA0 cA1 cA2 dA0 dA1 dA2 cB0 cB1 cB2 dB0 dB1 dB2 cX0 cX1 cX2 dX0 dX1 dX2 cY0 cY1 cY2 dY0 dY1 dY2
    obtain ⟨⟨cB0, cB1, cB2⟩, dB0, dB1, dB2⟩ := KB12.out.o3
    obtain ⟨⟨cY0, cY1, cY2⟩, dY0, dY1, dY2⟩ := KY12.out.o3
    have P12_0 : True := trivial
    have P12_1 : True := trivial
    go_region_held3 (fun w' => (w'.cell? ⟨g_Y, 0, none⟩ = some (.int .i64 n) ∧ w'.cell? ⟨g_Y, 1, none⟩ = some (.int .i64 jp) ∧ w'.cell? ⟨g_Y, 2, none⟩ = some (.slice (some ⟨g_y, 0, none⟩) ss.length ss.length)) ∧ (w'.cell? ⟨g_B, 0, none⟩ = some (.int .i64 n) ∧ w'.cell? ⟨g_B, 1, none⟩ = some (.int .i64 jp) ∧ w'.cell? ⟨g_B, 2, none⟩ = some (.slice b ss.length dap)))
      (first | go_keep | (exact ⟨KY13.out.o3.1, KB13.out.o3.1⟩) | (exact ⟨KY14.out.o3.1, KB14.out.o3.1⟩))
      (first | (have q := P12_0; go_at_call 8; clear q P12_0; refine (toLink_any n jp b dap ss _ ((HB.out.below B12.out.drew).mono B12.out.drew.size) hm.out).mono ?_; rintro e v13 ⟨g_d, rfl, ho_d, hb⟩; replace hb := (Below.refl _ v12).drew.trans hb; replace ho_d := own_down ho_d (show v12.heap.size ≤ v12.drew.heap.size from Nat.le_refl _); have n_A_d : g_A ≠ g_d := (by have h1 := KA12.out.lt; have h2 := (ho_d.lt g_d rfl).1; omega); have n_B_d : g_B ≠ g_d := (by have h1 := KB12.out.lt; have h2 := (ho_d.lt g_d rfl).1; omega); have n_X_d : g_X ≠ g_d := (by have h1 := KX12.out.lt; have h2 := (ho_d.lt g_d rfl).1; omega); have n_Y_d : g_Y ≠ g_d := (by have h1 := KY12.out.lt; have h2 := (ho_d.lt g_d rfl).1; omega); have n_p_d : g_p ≠ g_d := (by have h1 := (Op12.out.lt g_p rfl).2; have h2 := (ho_d.lt g_d rfl).1; omega); have n_q_d : g_q ≠ g_d := (by have h1 := (Oq12.out.lt g_q rfl).2; have h2 := (ho_d.lt g_d rfl).1; omega); have n_x_d : g_x ≠ g_d := (by have h1 := (Ox12.out.lt g_x rfl).2; have h2 := (ho_d.lt g_d rfl).1; omega); have n_y_d : g_y ≠ g_d := (by have h1 := (Oy12.out.lt g_y rfl).2; have h2 := (ho_d.lt g_d rfl).1; omega); have n_c_d : g_c ≠ g_d := (by have h1 := (Oc12.out.lt g_c rfl).2; have h2 := (ho_d.lt g_d rfl).1; omega); have l_d : w.heap.size ≤ g_d := Nat.le_trans B12.out.size (ho_d.lt g_d rfl).1; have B13 := Lib.hid (B12.out.trans (hb.mono B12.out.size)); have KA13 := Lib.hid (KA12.out.below hb); have KB13 := Lib.hid (KB12.out.below hb); have KX13 := Lib.hid (KX12.out.below hb); have KY13 := Lib.hid (KY12.out.below hb); have Op13 := Lib.hid (Op12.out.kept (below_any (row := none) hb) (.inr (by simp [Value.ownBlock]))); have Oq13 := Lib.hid (Oq12.out.kept (below_any (row := none) hb) (.inr (by simp [Value.ownBlock]))); have Ox13 := Lib.hid (Ox12.out.kept (below_any (row := none) hb) (.inr (by simp [Value.ownBlock]))); have Oy13 := Lib.hid (Oy12.out.kept (below_any (row := none) hb) (.inr (by simp [Value.ownBlock]))); have Oc13 := Lib.hid (Oc12.out.kept (below_any (row := none) hb) (.inr (by simp [Value.ownBlock]))); have Od13 := Lib.hid (own_down ho_d (Nat.zero_le _)); clear hb B12 KA12 KB12 KX12 KY12 Op12 Oq12 Ox12 Oy12 Oc12 ho_d) | (have q := P12_1; go_at_call 10; clear q P12_1; refine (eqLink_self n jp (some ⟨g_y, 0, none⟩) (some ⟨g_d, 0, none⟩) ss.length ss.length ss.length ss _ rfl (Row.ownK Oy13.out) (Row.ownK Od13.out) (Nat.le_succ_of_le hm.out)).mono ?_; rintro e v14 ⟨rfl, hb⟩; have B14 := Lib.hid (B13.out.trans (hb.mono B13.out.size)); have KA14 := Lib.hid (KA13.out.below hb); have KB14 := Lib.hid (KB13.out.below hb); have KX14 := Lib.hid (KX13.out.below hb); have KY14 := Lib.hid (KY13.out.below hb); have Op14 := Lib.hid (Op13.out.kept (below_any (row := none) hb) (.inr (by simp [Value.ownBlock]))); have Oq14 := Lib.hid (Oq13.out.kept (below_any (row := none) hb) (.inr (by simp [Value.ownBlock]))); have Ox14 := Lib.hid (Ox13.out.kept (below_any (row := none) hb) (.inr (by simp [Value.ownBlock]))); have Oy14 := Lib.hid (Oy13.out.kept (below_any (row := none) hb) (.inr (by simp [Value.ownBlock]))); have Oc14 := Lib.hid (Oc13.out.kept (below_any (row := none) hb) (.inr (by simp [Value.ownBlock]))); have Od14 := Lib.hid (Od13.out.kept (below_any (row := none) hb) (.inr (by simp [Value.ownBlock]))); clear hb B13 KA13 KB13 KX13 KY13 Op13 Oq13 Ox13 Oy13 Oc13 Od13))
    try clear cB0 cB1 cB2 dB0 dB1 dB2 cY0 cY1 cY2 dY0 dY1 dY2
    obtain ⟨⟨cA0, cA1, cA2⟩, dA0, dA1, dA2⟩ := KA14.out.o3
    obtain ⟨⟨cB0, cB1, cB2⟩, dB0, dB1, dB2⟩ := KB14.out.o3
    obtain ⟨⟨cX0, cX1, cX2⟩, dX0, dX1, dX2⟩ := KX14.out.o3
    obtain ⟨⟨cY0, cY1, cY2⟩, dY0, dY1, dY2⟩ := KY14.out.o3
    go_wp2_with fail
    go_ret
    exact ⟨rfl, B14.out⟩
  | true =>
    go_enter Try.func5, Try.ntmps5
    have B0 := Lib.hid (show Below w.heap.size w ((w.alloc (.cells #[.int .i64 m, .int .i64 ip, .slice a rs.length cap] 24)).alloc (.cells #[.int .i64 n, .int .i64 jp, .slice b ss.length dap] 24)) from (((Below.refl _ w).alloc (by simp) _).alloc (by simp) _))
    have KA0 := Lib.hid (show Blk ((w.alloc (.cells #[.int .i64 m, .int .i64 ip, .slice a rs.length cap] 24)).alloc (.cells #[.int .i64 n, .int .i64 jp, .slice b ss.length dap] 24)) (w.heap.size) [.int .i64 m, .int .i64 ip, .slice a rs.length cap] from (Blk.new w [.int .i64 m, .int .i64 ip, .slice a rs.length cap] 24).alloc (.cells #[.int .i64 n, .int .i64 jp, .slice b ss.length dap] 24))
    have s1 : (w.alloc (.cells #[.int .i64 m, .int .i64 ip, .slice a rs.length cap] 24)).heap.size = w.heap.size + 1 := by simp
    have KB0 := Lib.hid (show Blk ((w.alloc (.cells #[.int .i64 m, .int .i64 ip, .slice a rs.length cap] 24)).alloc (.cells #[.int .i64 n, .int .i64 jp, .slice b ss.length dap] 24)) (w.heap.size + 1) [.int .i64 n, .int .i64 jp, .slice b ss.length dap] by have h0 := Blk.new (w.alloc (.cells #[.int .i64 m, .int .i64 ip, .slice a rs.length cap] 24)) [.int .i64 n, .int .i64 jp, .slice b ss.length dap] 24; rwa [s1] at h0)
    have n_A_B : w.heap.size ≠ w.heap.size + 1 := by omega
    clear s1
    go_wp2_with fail
    change Calls _ _ _ ((w.alloc (.cells #[.int .i64 m, .int .i64 ip, .slice a rs.length cap] 24)).alloc (.cells #[.int .i64 n, .int .i64 jp, .slice b ss.length dap] 24)) _
    generalize (w.alloc (.cells #[.int .i64 m, .int .i64 ip, .slice a rs.length cap] 24)).alloc (.cells #[.int .i64 n, .int .i64 jp, .slice b ss.length dap] 24) = v0 at B0 KA0 KB0 ⊢
    generalize hh_B : w.heap.size + 1 = g_B at KB0 n_A_B ⊢
    generalize hh_A : w.heap.size = g_A at KA0 n_A_B ⊢
    have l_A : w.heap.size ≤ g_A := by omega
    have l_B : w.heap.size ≤ g_B := by omega
    clear hh_A hh_B
    refine (szLink_any m ip a rs.length cap 1048576 _ HL.out (by omega)).mono ?_
    rintro e v1 ⟨hr, hb⟩
    have B1 := Lib.hid (B0.out.trans (hb.mono B0.out.size))
    have KA1 := Lib.hid (KA0.out.below hb)
    have KB1 := Lib.hid (KB0.out.below hb)
    clear hb B0 KA0 KB0
    rw [if_pos hn.out, HC.out] at hr
    subst hr
    have hs := hn.out
    have hz : ¬ ((1048576 - rs.length : Nat) : Int) < 0 := by omega
    obtain ⟨⟨cA0, cA1, cA2⟩, dA0, dA1, dA2⟩ := KA1.out.o3
    obtain ⟨⟨cB0, cB1, cB2⟩, dB0, dB1, dB2⟩ := KB1.out.o3
    go_wp2_with fail
    clear hs hz
    clear cA0 cA1 cA2 dA0 dA1 dA2 cB0 cB1 cB2 dB0 dB1 dB2
    refine (szLink_any n jp b ss.length dap (1048576 - rs.length) _ HM.out (by omega)).mono ?_
    rintro e v2 ⟨hr, hb⟩
    have B2 := Lib.hid (B1.out.trans (hb.mono B1.out.size))
    have KA2 := Lib.hid (KA1.out.below hb)
    have KB2 := Lib.hid (KB1.out.below hb)
    clear hb B1 KA1 KB1
    rw [if_pos hq.out] at hr
    subst hr
    have hs := hq.out
    have hz : ¬ ((1048576 - rs.length : Nat) : Int) - (ss.length : Int) < 0 := by omega
    obtain ⟨⟨cA0, cA1, cA2⟩, dA0, dA1, dA2⟩ := KA2.out.o3
    obtain ⟨⟨cB0, cB1, cB2⟩, dB0, dB1, dB2⟩ := KB2.out.o3
    go_wp2_with fail
    clear hs hz
    clear cA0 cA1 cA2 dA0 dA1 dA2 cB0 cB1 cB2 dB0 dB1 dB2
    obtain ⟨⟨cA0, cA1, cA2⟩, dA0, dA1, dA2⟩ := KA2.out.o3
    obtain ⟨⟨cB0, cB1, cB2⟩, dB0, dB1, dB2⟩ := KB2.out.o3
    have P2_0 : True := trivial
    have P2_1 : True := trivial
    have P2_2 : True := trivial
    go_region_held3 (fun w' => (w'.cell? ⟨g_A, 0, none⟩ = some (.int .i64 m) ∧ w'.cell? ⟨g_A, 1, none⟩ = some (.int .i64 ip) ∧ w'.cell? ⟨g_A, 2, none⟩ = some (.slice a rs.length cap)) ∧ (w'.cell? ⟨g_B, 0, none⟩ = some (.int .i64 n) ∧ w'.cell? ⟨g_B, 1, none⟩ = some (.int .i64 jp) ∧ w'.cell? ⟨g_B, 2, none⟩ = some (.slice b ss.length dap)))
      (first | go_keep | (exact ⟨KA3.out.o3.1, KB3.out.o3.1⟩) | (exact ⟨KA4.out.o3.1, KB4.out.o3.1⟩) | (exact ⟨KA5.out.o3.1, KB5.out.o3.1⟩))
      (first | (have q := P2_0; go_at_call 8; clear q P2_0; refine (toLink_any m ip a cap rs _ ((HA.out.below B2.out.drew).mono B2.out.drew.size) hn.out).mono ?_; rintro e v3 ⟨g_p, rfl, ho_p, hb⟩; replace hb := (Below.refl _ v2).drew.trans hb; replace ho_p := own_down ho_p (show v2.heap.size ≤ v2.drew.heap.size from Nat.le_refl _); have n_A_p : g_A ≠ g_p := (by have h1 := KA2.out.lt; have h2 := (ho_p.lt g_p rfl).1; omega); have n_B_p : g_B ≠ g_p := (by have h1 := KB2.out.lt; have h2 := (ho_p.lt g_p rfl).1; omega); have l_p : w.heap.size ≤ g_p := Nat.le_trans B2.out.size (ho_p.lt g_p rfl).1; have B3 := Lib.hid (B2.out.trans (hb.mono B2.out.size)); have KA3 := Lib.hid (KA2.out.below hb); have KB3 := Lib.hid (KB2.out.below hb); have Op3 := Lib.hid (own_down ho_p (Nat.zero_le _)); clear hb B2 KA2 KB2 ho_p) | (have q := P2_1; go_at_call 8; clear q P2_1; refine (toLink_any n jp b dap ss _ ((HB.out.below B3.out).mono B3.out.size) hm.out).mono ?_; rintro e v4 ⟨g_q, rfl, ho_q, hb⟩; have n_A_q : g_A ≠ g_q := (by have h1 := KA3.out.lt; have h2 := (ho_q.lt g_q rfl).1; omega); have n_B_q : g_B ≠ g_q := (by have h1 := KB3.out.lt; have h2 := (ho_q.lt g_q rfl).1; omega); have n_p_q : g_p ≠ g_q := (by have h1 := (Op3.out.lt g_p rfl).2; have h2 := (ho_q.lt g_q rfl).1; omega); have l_q : w.heap.size ≤ g_q := Nat.le_trans B3.out.size (ho_q.lt g_q rfl).1; have B4 := Lib.hid (B3.out.trans (hb.mono B3.out.size)); have KA4 := Lib.hid (KA3.out.below hb); have KB4 := Lib.hid (KB3.out.below hb); have Op4 := Lib.hid (Op3.out.kept (below_any (row := none) hb) (.inr (by simp [Value.ownBlock]))); have Oq4 := Lib.hid (own_down ho_q (Nat.zero_le _)); clear hb B3 KA3 KB3 Op3 ho_q) | (have q := P2_2; go_at_call 13; clear q P2_2; refine (CS.out g_p g_q _ (Row.ownK Op4.out) (Row.ownK Oq4.out)).mono ?_; rintro e v5 ⟨rfl, hb⟩; have B5 := Lib.hid (B4.out.trans (hb.mono B4.out.size)); have KA5 := Lib.hid (KA4.out.below hb); have KB5 := Lib.hid (KB4.out.below hb); have Op5 := Lib.hid (Op4.out.kept (below_any (row := none) hb) (.inr (by simp [Value.ownBlock]))); have Oq5 := Lib.hid (Oq4.out.kept (below_any (row := none) hb) (.inr (by simp [Value.ownBlock]))); clear hb B4 KA4 KB4 Op4 Oq4))
    try clear cA0 cA1 cA2 dA0 dA1 dA2 cB0 cB1 cB2 dB0 dB1 dB2
    obtain ⟨⟨cA0, cA1, cA2⟩, dA0, dA1, dA2⟩ := KA5.out.o3
    obtain ⟨⟨cB0, cB1, cB2⟩, dB0, dB1, dB2⟩ := KB5.out.o3
    go_wp2_with fail
    clear cA0 cA1 cA2 dA0 dA1 dA2 cB0 cB1 cB2 dB0 dB1 dB2
    refine (toLink_any m ip a cap rs _ ((HA.out.below B5.out).mono B5.out.size) hn.out).mono ?_
    rintro e v6 ⟨g_x, rfl, ho_x, hb⟩
    have n_A_x : g_A ≠ g_x := by have h1 := KA5.out.lt; have h2 := (ho_x.lt g_x rfl).1; omega
    have n_B_x : g_B ≠ g_x := by have h1 := KB5.out.lt; have h2 := (ho_x.lt g_x rfl).1; omega
    have n_p_x : g_p ≠ g_x := by have h1 := (Op5.out.lt g_p rfl).2; have h2 := (ho_x.lt g_x rfl).1; omega
    have n_q_x : g_q ≠ g_x := by have h1 := (Oq5.out.lt g_q rfl).2; have h2 := (ho_x.lt g_x rfl).1; omega
    have l_x : w.heap.size ≤ g_x := Nat.le_trans B5.out.size (ho_x.lt g_x rfl).1
    have B6 := Lib.hid (B5.out.trans (hb.mono B5.out.size))
    have KA6 := Lib.hid (KA5.out.below hb)
    have KB6 := Lib.hid (KB5.out.below hb)
    have Op6 := Lib.hid (Op5.out.kept (below_any (row := none) hb) (.inr (by simp [Value.ownBlock])))
    have Oq6 := Lib.hid (Oq5.out.kept (below_any (row := none) hb) (.inr (by simp [Value.ownBlock])))
    have Ox6 := Lib.hid (own_down ho_x (Nat.zero_le _))
    clear hb B5 KA5 KB5 Op5 Oq5 ho_x
    have KXn := Lib.hid (Blk.new v6 [.int .i64 m, .int .i64 ip, .slice (some ⟨g_x, 0, none⟩) rs.length rs.length] 29)
    have l_X : w.heap.size ≤ v6.heap.size := B6.out.size
    have n_A_X : g_A ≠ v6.heap.size := by have h1 := KA6.out.lt; omega
    have n_B_X : g_B ≠ v6.heap.size := by have h1 := KB6.out.lt; omega
    have n_p_X : g_p ≠ v6.heap.size := by have h1 := (Op6.out.lt g_p rfl).2; omega
    have n_q_X : g_q ≠ v6.heap.size := by have h1 := (Oq6.out.lt g_q rfl).2; omega
    have n_x_X : g_x ≠ v6.heap.size := by have h1 := (Ox6.out.lt g_x rfl).2; omega
    have Bn := Lib.hid (B6.out.alloc B6.out.size (.cells #[.int .i64 m, .int .i64 ip, .slice (some ⟨g_x, 0, none⟩) rs.length rs.length] 29))
    have KAn := Lib.hid (KA6.out.alloc (.cells #[.int .i64 m, .int .i64 ip, .slice (some ⟨g_x, 0, none⟩) rs.length rs.length] 29))
    have KBn := Lib.hid (KB6.out.alloc (.cells #[.int .i64 m, .int .i64 ip, .slice (some ⟨g_x, 0, none⟩) rs.length rs.length] 29))
    have Opn := Lib.hid (Op6.out.alloc (.cells #[.int .i64 m, .int .i64 ip, .slice (some ⟨g_x, 0, none⟩) rs.length rs.length] 29))
    have Oqn := Lib.hid (Oq6.out.alloc (.cells #[.int .i64 m, .int .i64 ip, .slice (some ⟨g_x, 0, none⟩) rs.length rs.length] 29))
    have Oxn := Lib.hid (Ox6.out.alloc (.cells #[.int .i64 m, .int .i64 ip, .slice (some ⟨g_x, 0, none⟩) rs.length rs.length] 29))
    clear B6 KA6 KB6 Op6 Oq6 Ox6
    obtain ⟨⟨cA0, cA1, cA2⟩, dA0, dA1, dA2⟩ := KAn.out.o3
    obtain ⟨⟨cB0, cB1, cB2⟩, dB0, dB1, dB2⟩ := KBn.out.o3
    go_wp2_with fail
    clear cA0 cA1 cA2 dA0 dA1 dA2 cB0 cB1 cB2 dB0 dB1 dB2
    change Calls _ _ _ (v6.alloc (.cells #[.int .i64 m, .int .i64 ip, .slice (some ⟨g_x, 0, none⟩) rs.length rs.length] 29)) _
    generalize v6.alloc (.cells #[.int .i64 m, .int .i64 ip, .slice (some ⟨g_x, 0, none⟩) rs.length rs.length] 29) = v7 at KXn Bn KAn KBn Opn Oqn Oxn ⊢
    generalize v6.heap.size = g_X at KXn l_X n_A_X n_B_X n_p_X n_q_X n_x_X ⊢
    clear v6
    have KA7 := KAn
    clear KAn
    have KB7 := KBn
    clear KBn
    have KX7 := KXn
    clear KXn
    have Op7 := Opn
    clear Opn
    have Oq7 := Oqn
    clear Oqn
    have Ox7 := Oxn
    clear Oxn
    have B7 := Bn
    clear Bn
    refine (toLink_any n jp b dap ss _ ((HB.out.below B7.out).mono B7.out.size) hm.out).mono ?_
    rintro e v8 ⟨g_y, rfl, ho_y, hb⟩
    have n_A_y : g_A ≠ g_y := by have h1 := KA7.out.lt; have h2 := (ho_y.lt g_y rfl).1; omega
    have n_B_y : g_B ≠ g_y := by have h1 := KB7.out.lt; have h2 := (ho_y.lt g_y rfl).1; omega
    have n_X_y : g_X ≠ g_y := by have h1 := KX7.out.lt; have h2 := (ho_y.lt g_y rfl).1; omega
    have n_p_y : g_p ≠ g_y := by have h1 := (Op7.out.lt g_p rfl).2; have h2 := (ho_y.lt g_y rfl).1; omega
    have n_q_y : g_q ≠ g_y := by have h1 := (Oq7.out.lt g_q rfl).2; have h2 := (ho_y.lt g_y rfl).1; omega
    have n_x_y : g_x ≠ g_y := by have h1 := (Ox7.out.lt g_x rfl).2; have h2 := (ho_y.lt g_y rfl).1; omega
    have l_y : w.heap.size ≤ g_y := Nat.le_trans B7.out.size (ho_y.lt g_y rfl).1
    have B8 := Lib.hid (B7.out.trans (hb.mono B7.out.size))
    have KA8 := Lib.hid (KA7.out.below hb)
    have KB8 := Lib.hid (KB7.out.below hb)
    have KX8 := Lib.hid (KX7.out.below hb)
    have Op8 := Lib.hid (Op7.out.kept (below_any (row := none) hb) (.inr (by simp [Value.ownBlock])))
    have Oq8 := Lib.hid (Oq7.out.kept (below_any (row := none) hb) (.inr (by simp [Value.ownBlock])))
    have Ox8 := Lib.hid (Ox7.out.kept (below_any (row := none) hb) (.inr (by simp [Value.ownBlock])))
    have Oy8 := Lib.hid (own_down ho_y (Nat.zero_le _))
    clear hb B7 KA7 KB7 KX7 Op7 Oq7 Ox7 ho_y
    have KYn := Lib.hid (Blk.new v8 [.int .i64 n, .int .i64 jp, .slice (some ⟨g_y, 0, none⟩) ss.length ss.length] 29)
    have l_Y : w.heap.size ≤ v8.heap.size := B8.out.size
    have n_A_Y : g_A ≠ v8.heap.size := by have h1 := KA8.out.lt; omega
    have n_B_Y : g_B ≠ v8.heap.size := by have h1 := KB8.out.lt; omega
    have n_X_Y : g_X ≠ v8.heap.size := by have h1 := KX8.out.lt; omega
    have n_p_Y : g_p ≠ v8.heap.size := by have h1 := (Op8.out.lt g_p rfl).2; omega
    have n_q_Y : g_q ≠ v8.heap.size := by have h1 := (Oq8.out.lt g_q rfl).2; omega
    have n_x_Y : g_x ≠ v8.heap.size := by have h1 := (Ox8.out.lt g_x rfl).2; omega
    have n_y_Y : g_y ≠ v8.heap.size := by have h1 := (Oy8.out.lt g_y rfl).2; omega
    have Bn := Lib.hid (B8.out.alloc B8.out.size (.cells #[.int .i64 n, .int .i64 jp, .slice (some ⟨g_y, 0, none⟩) ss.length ss.length] 29))
    have KAn := Lib.hid (KA8.out.alloc (.cells #[.int .i64 n, .int .i64 jp, .slice (some ⟨g_y, 0, none⟩) ss.length ss.length] 29))
    have KBn := Lib.hid (KB8.out.alloc (.cells #[.int .i64 n, .int .i64 jp, .slice (some ⟨g_y, 0, none⟩) ss.length ss.length] 29))
    have KXn := Lib.hid (KX8.out.alloc (.cells #[.int .i64 n, .int .i64 jp, .slice (some ⟨g_y, 0, none⟩) ss.length ss.length] 29))
    have Opn := Lib.hid (Op8.out.alloc (.cells #[.int .i64 n, .int .i64 jp, .slice (some ⟨g_y, 0, none⟩) ss.length ss.length] 29))
    have Oqn := Lib.hid (Oq8.out.alloc (.cells #[.int .i64 n, .int .i64 jp, .slice (some ⟨g_y, 0, none⟩) ss.length ss.length] 29))
    have Oxn := Lib.hid (Ox8.out.alloc (.cells #[.int .i64 n, .int .i64 jp, .slice (some ⟨g_y, 0, none⟩) ss.length ss.length] 29))
    have Oyn := Lib.hid (Oy8.out.alloc (.cells #[.int .i64 n, .int .i64 jp, .slice (some ⟨g_y, 0, none⟩) ss.length ss.length] 29))
    clear B8 KA8 KB8 KX8 Op8 Oq8 Ox8 Oy8
    obtain ⟨⟨cA0, cA1, cA2⟩, dA0, dA1, dA2⟩ := KAn.out.o3
    obtain ⟨⟨cB0, cB1, cB2⟩, dB0, dB1, dB2⟩ := KBn.out.o3
    obtain ⟨⟨cX0, cX1, cX2⟩, dX0, dX1, dX2⟩ := KXn.out.o3
    go_wp2_with fail
    clear cA0 cA1 cA2 dA0 dA1 dA2 cB0 cB1 cB2 dB0 dB1 dB2 cX0 cX1 cX2 dX0 dX1 dX2
    change Calls _ _ _ (v8.alloc (.cells #[.int .i64 n, .int .i64 jp, .slice (some ⟨g_y, 0, none⟩) ss.length ss.length] 29)) _
    generalize v8.alloc (.cells #[.int .i64 n, .int .i64 jp, .slice (some ⟨g_y, 0, none⟩) ss.length ss.length] 29) = v9 at KYn Bn KAn KBn KXn Opn Oqn Oxn Oyn ⊢
    generalize v8.heap.size = g_Y at KYn l_Y n_A_Y n_B_Y n_X_Y n_p_Y n_q_Y n_x_Y n_y_Y ⊢
    clear v8
    have KA9 := KAn
    clear KAn
    have KB9 := KBn
    clear KBn
    have KX9 := KXn
    clear KXn
    have KY9 := KYn
    clear KYn
    have Op9 := Opn
    clear Opn
    have Oq9 := Oqn
    clear Oqn
    have Ox9 := Oxn
    clear Oxn
    have Oy9 := Oyn
    clear Oyn
    have B9 := Bn
    clear Bn
    refine (CI.out g_x g_y _ (Row.ownK Ox9.out) (Row.ownK Oy9.out)).mono ?_
    rintro e v10 ⟨rfl, hb⟩
    have B10 := Lib.hid (B9.out.trans (hb.mono B9.out.size))
    have KA10 := Lib.hid (KA9.out.below hb)
    have KB10 := Lib.hid (KB9.out.below hb)
    have KX10 := Lib.hid (KX9.out.below hb)
    have KY10 := Lib.hid (KY9.out.below hb)
    have Op10 := Lib.hid (Op9.out.kept (below_any (row := none) hb) (.inr (by simp [Value.ownBlock])))
    have Oq10 := Lib.hid (Oq9.out.kept (below_any (row := none) hb) (.inr (by simp [Value.ownBlock])))
    have Ox10 := Lib.hid (Ox9.out.kept (below_any (row := none) hb) (.inr (by simp [Value.ownBlock])))
    have Oy10 := Lib.hid (Oy9.out.kept (below_any (row := none) hb) (.inr (by simp [Value.ownBlock])))
    clear hb B9 KA9 KB9 KX9 KY9 Op9 Oq9 Ox9 Oy9
    obtain ⟨⟨cA0, cA1, cA2⟩, dA0, dA1, dA2⟩ := KA10.out.o3
    obtain ⟨⟨cB0, cB1, cB2⟩, dB0, dB1, dB2⟩ := KB10.out.o3
    obtain ⟨⟨cX0, cX1, cX2⟩, dX0, dX1, dX2⟩ := KX10.out.o3
    obtain ⟨⟨cY0, cY1, cY2⟩, dY0, dY1, dY2⟩ := KY10.out.o3
    go_wp2_with fail
    clear cA0 cA1 cA2 dA0 dA1 dA2 cB0 cB1 cB2 dB0 dB1 dB2 cX0 cX1 cX2 dX0 dX1 dX2 cY0 cY1 cY2 dY0 dY1 dY2
    obtain ⟨⟨cA0, cA1, cA2⟩, dA0, dA1, dA2⟩ := KA10.out.o3
    obtain ⟨⟨cX0, cX1, cX2⟩, dX0, dX1, dX2⟩ := KX10.out.o3
    have P10_0 : True := trivial
    have P10_1 : True := trivial
    go_region_held3 (fun w' => (w'.cell? ⟨g_X, 0, none⟩ = some (.int .i64 m) ∧ w'.cell? ⟨g_X, 1, none⟩ = some (.int .i64 ip) ∧ w'.cell? ⟨g_X, 2, none⟩ = some (.slice (some ⟨g_x, 0, none⟩) rs.length rs.length)) ∧ (w'.cell? ⟨g_A, 0, none⟩ = some (.int .i64 m) ∧ w'.cell? ⟨g_A, 1, none⟩ = some (.int .i64 ip) ∧ w'.cell? ⟨g_A, 2, none⟩ = some (.slice a rs.length cap)))
      (first | go_keep | (exact ⟨KX11.out.o3.1, KA11.out.o3.1⟩) | (exact ⟨KX12.out.o3.1, KA12.out.o3.1⟩))
      (first | (have q := P10_0; go_at_call 8; clear q P10_0; refine (toLink_any m ip a cap rs _ ((HA.out.below B10.out.drew).mono B10.out.drew.size) hn.out).mono ?_; rintro e v11 ⟨g_c, rfl, ho_c, hb⟩; replace hb := (Below.refl _ v10).drew.trans hb; replace ho_c := own_down ho_c (show v10.heap.size ≤ v10.drew.heap.size from Nat.le_refl _); have n_A_c : g_A ≠ g_c := (by have h1 := KA10.out.lt; have h2 := (ho_c.lt g_c rfl).1; omega); have n_B_c : g_B ≠ g_c := (by have h1 := KB10.out.lt; have h2 := (ho_c.lt g_c rfl).1; omega); have n_X_c : g_X ≠ g_c := (by have h1 := KX10.out.lt; have h2 := (ho_c.lt g_c rfl).1; omega); have n_Y_c : g_Y ≠ g_c := (by have h1 := KY10.out.lt; have h2 := (ho_c.lt g_c rfl).1; omega); have n_p_c : g_p ≠ g_c := (by have h1 := (Op10.out.lt g_p rfl).2; have h2 := (ho_c.lt g_c rfl).1; omega); have n_q_c : g_q ≠ g_c := (by have h1 := (Oq10.out.lt g_q rfl).2; have h2 := (ho_c.lt g_c rfl).1; omega); have n_x_c : g_x ≠ g_c := (by have h1 := (Ox10.out.lt g_x rfl).2; have h2 := (ho_c.lt g_c rfl).1; omega); have n_y_c : g_y ≠ g_c := (by have h1 := (Oy10.out.lt g_y rfl).2; have h2 := (ho_c.lt g_c rfl).1; omega); have l_c : w.heap.size ≤ g_c := Nat.le_trans B10.out.size (ho_c.lt g_c rfl).1; have B11 := Lib.hid (B10.out.trans (hb.mono B10.out.size)); have KA11 := Lib.hid (KA10.out.below hb); have KB11 := Lib.hid (KB10.out.below hb); have KX11 := Lib.hid (KX10.out.below hb); have KY11 := Lib.hid (KY10.out.below hb); have Op11 := Lib.hid (Op10.out.kept (below_any (row := none) hb) (.inr (by simp [Value.ownBlock]))); have Oq11 := Lib.hid (Oq10.out.kept (below_any (row := none) hb) (.inr (by simp [Value.ownBlock]))); have Ox11 := Lib.hid (Ox10.out.kept (below_any (row := none) hb) (.inr (by simp [Value.ownBlock]))); have Oy11 := Lib.hid (Oy10.out.kept (below_any (row := none) hb) (.inr (by simp [Value.ownBlock]))); have Oc11 := Lib.hid (own_down ho_c (Nat.zero_le _)); clear hb B10 KA10 KB10 KX10 KY10 Op10 Oq10 Ox10 Oy10 ho_c) | (have q := P10_1; go_at_call 10; clear q P10_1; refine (eqLink_self m ip (some ⟨g_x, 0, none⟩) (some ⟨g_c, 0, none⟩) rs.length rs.length rs.length rs _ rfl (Row.ownK Ox11.out) (Row.ownK Oc11.out) (Nat.le_succ_of_le hn.out)).mono ?_; rintro e v12 ⟨rfl, hb⟩; have B12 := Lib.hid (B11.out.trans (hb.mono B11.out.size)); have KA12 := Lib.hid (KA11.out.below hb); have KB12 := Lib.hid (KB11.out.below hb); have KX12 := Lib.hid (KX11.out.below hb); have KY12 := Lib.hid (KY11.out.below hb); have Op12 := Lib.hid (Op11.out.kept (below_any (row := none) hb) (.inr (by simp [Value.ownBlock]))); have Oq12 := Lib.hid (Oq11.out.kept (below_any (row := none) hb) (.inr (by simp [Value.ownBlock]))); have Ox12 := Lib.hid (Ox11.out.kept (below_any (row := none) hb) (.inr (by simp [Value.ownBlock]))); have Oy12 := Lib.hid (Oy11.out.kept (below_any (row := none) hb) (.inr (by simp [Value.ownBlock]))); have Oc12 := Lib.hid (Oc11.out.kept (below_any (row := none) hb) (.inr (by simp [Value.ownBlock]))); clear hb B11 KA11 KB11 KX11 KY11 Op11 Oq11 Ox11 Oy11 Oc11))
    try clear cA0 cA1 cA2 dA0 dA1 dA2 cX0 cX1 cX2 dX0 dX1 dX2
    obtain ⟨⟨cA0, cA1, cA2⟩, dA0, dA1, dA2⟩ := KA12.out.o3
    obtain ⟨⟨cB0, cB1, cB2⟩, dB0, dB1, dB2⟩ := KB12.out.o3
    obtain ⟨⟨cX0, cX1, cX2⟩, dX0, dX1, dX2⟩ := KX12.out.o3
    obtain ⟨⟨cY0, cY1, cY2⟩, dY0, dY1, dY2⟩ := KY12.out.o3
    go_wp2_with fail
    clear cA0 cA1 cA2 dA0 dA1 dA2 cB0 cB1 cB2 dB0 dB1 dB2 cX0 cX1 cX2 dX0 dX1 dX2 cY0 cY1 cY2 dY0 dY1 dY2
    obtain ⟨⟨cB0, cB1, cB2⟩, dB0, dB1, dB2⟩ := KB12.out.o3
    obtain ⟨⟨cY0, cY1, cY2⟩, dY0, dY1, dY2⟩ := KY12.out.o3
    have P12_0 : True := trivial
    have P12_1 : True := trivial
    go_region_held3 (fun w' => (w'.cell? ⟨g_Y, 0, none⟩ = some (.int .i64 n) ∧ w'.cell? ⟨g_Y, 1, none⟩ = some (.int .i64 jp) ∧ w'.cell? ⟨g_Y, 2, none⟩ = some (.slice (some ⟨g_y, 0, none⟩) ss.length ss.length)) ∧ (w'.cell? ⟨g_B, 0, none⟩ = some (.int .i64 n) ∧ w'.cell? ⟨g_B, 1, none⟩ = some (.int .i64 jp) ∧ w'.cell? ⟨g_B, 2, none⟩ = some (.slice b ss.length dap)))
      (first | go_keep | (exact ⟨KY13.out.o3.1, KB13.out.o3.1⟩) | (exact ⟨KY14.out.o3.1, KB14.out.o3.1⟩))
      (first | (have q := P12_0; go_at_call 8; clear q P12_0; refine (toLink_any n jp b dap ss _ ((HB.out.below B12.out.drew).mono B12.out.drew.size) hm.out).mono ?_; rintro e v13 ⟨g_d, rfl, ho_d, hb⟩; replace hb := (Below.refl _ v12).drew.trans hb; replace ho_d := own_down ho_d (show v12.heap.size ≤ v12.drew.heap.size from Nat.le_refl _); have n_A_d : g_A ≠ g_d := (by have h1 := KA12.out.lt; have h2 := (ho_d.lt g_d rfl).1; omega); have n_B_d : g_B ≠ g_d := (by have h1 := KB12.out.lt; have h2 := (ho_d.lt g_d rfl).1; omega); have n_X_d : g_X ≠ g_d := (by have h1 := KX12.out.lt; have h2 := (ho_d.lt g_d rfl).1; omega); have n_Y_d : g_Y ≠ g_d := (by have h1 := KY12.out.lt; have h2 := (ho_d.lt g_d rfl).1; omega); have n_p_d : g_p ≠ g_d := (by have h1 := (Op12.out.lt g_p rfl).2; have h2 := (ho_d.lt g_d rfl).1; omega); have n_q_d : g_q ≠ g_d := (by have h1 := (Oq12.out.lt g_q rfl).2; have h2 := (ho_d.lt g_d rfl).1; omega); have n_x_d : g_x ≠ g_d := (by have h1 := (Ox12.out.lt g_x rfl).2; have h2 := (ho_d.lt g_d rfl).1; omega); have n_y_d : g_y ≠ g_d := (by have h1 := (Oy12.out.lt g_y rfl).2; have h2 := (ho_d.lt g_d rfl).1; omega); have n_c_d : g_c ≠ g_d := (by have h1 := (Oc12.out.lt g_c rfl).2; have h2 := (ho_d.lt g_d rfl).1; omega); have l_d : w.heap.size ≤ g_d := Nat.le_trans B12.out.size (ho_d.lt g_d rfl).1; have B13 := Lib.hid (B12.out.trans (hb.mono B12.out.size)); have KA13 := Lib.hid (KA12.out.below hb); have KB13 := Lib.hid (KB12.out.below hb); have KX13 := Lib.hid (KX12.out.below hb); have KY13 := Lib.hid (KY12.out.below hb); have Op13 := Lib.hid (Op12.out.kept (below_any (row := none) hb) (.inr (by simp [Value.ownBlock]))); have Oq13 := Lib.hid (Oq12.out.kept (below_any (row := none) hb) (.inr (by simp [Value.ownBlock]))); have Ox13 := Lib.hid (Ox12.out.kept (below_any (row := none) hb) (.inr (by simp [Value.ownBlock]))); have Oy13 := Lib.hid (Oy12.out.kept (below_any (row := none) hb) (.inr (by simp [Value.ownBlock]))); have Oc13 := Lib.hid (Oc12.out.kept (below_any (row := none) hb) (.inr (by simp [Value.ownBlock]))); have Od13 := Lib.hid (own_down ho_d (Nat.zero_le _)); clear hb B12 KA12 KB12 KX12 KY12 Op12 Oq12 Ox12 Oy12 Oc12 ho_d) | (have q := P12_1; go_at_call 10; clear q P12_1; refine (eqLink_self n jp (some ⟨g_y, 0, none⟩) (some ⟨g_d, 0, none⟩) ss.length ss.length ss.length ss _ rfl (Row.ownK Oy13.out) (Row.ownK Od13.out) (Nat.le_succ_of_le hm.out)).mono ?_; rintro e v14 ⟨rfl, hb⟩; have B14 := Lib.hid (B13.out.trans (hb.mono B13.out.size)); have KA14 := Lib.hid (KA13.out.below hb); have KB14 := Lib.hid (KB13.out.below hb); have KX14 := Lib.hid (KX13.out.below hb); have KY14 := Lib.hid (KY13.out.below hb); have Op14 := Lib.hid (Op13.out.kept (below_any (row := none) hb) (.inr (by simp [Value.ownBlock]))); have Oq14 := Lib.hid (Oq13.out.kept (below_any (row := none) hb) (.inr (by simp [Value.ownBlock]))); have Ox14 := Lib.hid (Ox13.out.kept (below_any (row := none) hb) (.inr (by simp [Value.ownBlock]))); have Oy14 := Lib.hid (Oy13.out.kept (below_any (row := none) hb) (.inr (by simp [Value.ownBlock]))); have Oc14 := Lib.hid (Oc13.out.kept (below_any (row := none) hb) (.inr (by simp [Value.ownBlock]))); have Od14 := Lib.hid (Od13.out.kept (below_any (row := none) hb) (.inr (by simp [Value.ownBlock]))); clear hb B13 KA13 KB13 KX13 KY13 Op13 Oq13 Ox13 Oy13 Oc13 Od13))
    try clear cB0 cB1 cB2 dB0 dB1 dB2 cY0 cY1 cY2 dY0 dY1 dY2
    obtain ⟨⟨cA0, cA1, cA2⟩, dA0, dA1, dA2⟩ := KA14.out.o3
    obtain ⟨⟨cB0, cB1, cB2⟩, dB0, dB1, dB2⟩ := KB14.out.o3
    obtain ⟨⟨cX0, cX1, cX2⟩, dX0, dX1, dX2⟩ := KX14.out.o3
    obtain ⟨⟨cY0, cY1, cY2⟩, dY0, dY1, dY2⟩ := KY14.out.o3
    go_wp2_with fail
    go_ret
    exact ⟨rfl, B14.out⟩

theorem walk {w : World} (m ip : Int) (a : Option Addr) (len cap : Nat) (rs : List ER) (n jp : Int) (b : Option Addr) (len2 dap : Nat) (ss : List ER) (h : LawL w m ip a len cap rs) (h2 : LawL w n jp b len2 dap ss) : Calls Try.prog 5 #[.agg #[.int .i64 m, .int .i64 ip, .slice a len cap], .agg #[.int .i64 n, .int .i64 jp, .slice b len2 dap]] w (OkB w) := by
  obtain ⟨_, _, ⟨rfl, _, hm, _⟩, hrow⟩ := h
  obtain ⟨_, _, ⟨rfl, _, hm2, _⟩, hrow2⟩ := h2
  exact go m ip n jp a b cap dap rs ss w hrow (by omega) hrow2 (by omega)
theorem own : ownKnob Try.prog.godebug = none := by kernel_rfl
theorem laidOut : laidOutB Try.prog = true := by kernel_rfl

set_option maxRecDepth 100000 in
theorem lifted (os : Os) (started : os.Started) (H : Type) (enc : TypeId × Value → H) :
    ReturnsInHanded {} Try.checked os 5 .any (Rows.fnExactSameLinkSpec.pre6 enc Try.prog Try.f5 Rows.fnExactSameLinkRow.domain false) (Rows.fnExactSameLinkSpec.post enc Try.prog Try.f5 false true false false) := by
  refine returnsInHanded_of_change (C := Try.checked) own started (by kernel_rfl) Try.func5
    (ChangeSpec.witness6 (enc := enc) (C := Try.checked) false ⟨#[], #[.agg #[.int .i64 0, .int .i64 0, .slice none 0 0], .agg #[.int .i64 0, .int .i64 0, .slice none 0 0]], []⟩ 8 (by kernel_rfl) (by kernel_rfl) (by kernel_rfl) (by kernel_rfl)) ?_
  intro W base args ds gs before hval0 hW _ _
  have hval : ∀ (j : Nat) t v, Try.f5.params[j]? = some t → args[j]? = some v → Value.okWide Try.prog W .any base t v := hval0
  have hW' := hW
  obtain ⟨p, q, hA0, hV, rfl, _, _⟩ := hW
  have hA : DataW.TrodAll enc Try.prog W 0 (fun _ => true) true Try.f5.params.toList args.toList ds p := hA0
  rw [Try.params5] at hA hval
  obtain ⟨v0, vs0, d0, ds0, p0, q0, hargs, rfl, rfl, h0, r0⟩ := trodAll_cons hA
  obtain ⟨v1, vs1, d1, ds1, p1, q1, rfl, rfl, rfl, h1, r1⟩ := trodAll_cons r0
  obtain ⟨rfl, rfl, rfl⟩ := trodAll_nil r1
  obtain rfl : args = #[v0, v1] := by cases args; simp_all
  obtain ⟨rfl, rfl⟩ := trodVars_none hV
  have k0 := h0
  have lt0 : ∀ x ∈ p0, x.block < W.heap.size := by obtain ⟨m, hm⟩ := k0; exact DataW.trod_lt m _ _ _ hm
  obtain ⟨m0, ip0, a0, len0, cap0, s0, rfl, w0⟩ := argLink (hval 0 24 v0 rfl rfl) h0
  have k1 := h1
  have lt1 : ∀ x ∈ p1, x.block < W.heap.size := by obtain ⟨m, hm⟩ := k1; exact DataW.trod_lt m _ _ _ hm
  obtain ⟨m1, ip1, a1, len1, cap1, s1, rfl, w1⟩ := argLink (hval 1 24 v1 rfl rfl) h1
  clear hA0 hval0
  refine (walk m0 ip0 a0 len0 cap0 s0 m1 ip1 a1 len1 cap1 s1 w0 w1).mono fun e W' ⟨he, bel⟩ => ?_
  subst he
  exact ⟨_, rfl, _, _, _, [], _, [], hW', trodAll_mk1 (shut_bool Try.underlying4 _), (trodAll_cons_mk (Below.trod laidOut (by kernel_rfl) (of_decide_eq_true (by kernel_rfl)) k0 bel lt0) (trodAll_cons_mk (Below.trod laidOut (by kernel_rfl) (of_decide_eq_true (by kernel_rfl)) k1 bel lt1) trodAll_mk0)), rfl, bel.frame _, fun h => by cases h⟩

theorem over : Rows.fnExactSameLinkRow.holds Try.pinned (OpenSpec.ofChange Rows.fnExactSameLinkSpec) :=
  OpenClaim.holds_of_wide 5 Try.f5 rfl rfl rfl rfl rfl rfl rfl ⟨rfl, rfl, rfl, rfl, rfl⟩ rfl rfl rfl rfl rfl (by kernel_rfl) Try.func5 (by kernel_rfl)
    (of_decide_eq_true (by kernel_rfl)) (by unfold Func.isWrapper; first | (rw [if_pos (by decide +kernel)]; kernel_rfl) | (rw [if_neg (by decide +kernel)]; exact ⟨rfl, rfl⟩))
    (fun os started H enc _ => lifted os started H enc)

theorem proved : Rows.FnExactSameLinkSaid := over
#print axioms proved
end Go.Proofs.Ytkkimgjcefojdaa.fnExactSameLink
