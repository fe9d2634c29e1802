/- The law FnExactSameMac holds for any two Macs (up to the law's own measure of 1048576 rows and bytes in both; past it the law itself answers true): impl's SameMac answers as the model's and leaves its arguments. No condition. -/
import Derived.Test.YtkmflfmbmmpohaaRows
import Derived.Test.YtkmflfmbmmpohaaSameMac
import Derived.Test.YtkmflfmbmmpohaaArgMac
import Derived.Test.YtkmflfmbmmpohaaMacLaw2
import Derived.Test.YtkmflfmbmmpohaaOpenM
import Derived.Deep.RegionHeld3
import Derived.ProofKit
import Derived.OpenShut
import Derived.ShutString
import Derived.ChangeSame
namespace Go.Proofs.Ytkmflfmbmmpohaa.fnExactSameMac
open Go.ChangeShapes Go.WideShapes Go.ChangeAt Go.RowKit Go.Lib

/-- The law's word: true, and what lay before the call lies as it lay. -/
def OkB (w : World) (e : Ending) (w' : World) : Prop := e = .returned (.bool true) ∧ Below w.heap.size w w'

set_option maxRecDepth 100000 in
set_option maxHeartbeats 8000000 in
theorem go (uA uB : Bool) (kA lA kB lB : Int) (a b : Option Addr) (cA cB : Nat) (rs ss : List MR) (w : World) (hrow : Row w w.heap.size a (mrs rs)) (hrow2 : Row w w.heap.size b (mrs ss)) (hl : rs.length ≤ maxLen) (hl2 : ss.length ≤ maxLen) (hsz : ∀ r ∈ rs, r.s.size ≤ maxLen) (hsz2 : ∀ r ∈ ss, r.s.size ≤ maxLen) :
    Calls Try.prog 8 #[.agg #[.bool uA, .int .u64 kA, .int .u64 lA, .slice a rs.length cA], .agg #[.bool uB, .int .u64 kB, .int .u64 lB, .slice b ss.length cB]] w (OkB w) := by
  have HA := Lib.hid hrow
  have HB := Lib.hid hrow2
  have HL := Lib.hid hl
  have HL2 := Lib.hid hl2
  have HZ := Lib.hid hsz
  have HZ2 := Lib.hid hsz2
  clear hrow hl hsz hrow2 hl2 hsz2
  go_enter Try.func8, Try.ntmps8
  have B0 := Lib.hid (show Below w.heap.size w ((w.alloc (.cells #[.bool uA, .int .u64 kA, .int .u64 lA, .slice a rs.length cA] 38)).alloc (.cells #[.bool uB, .int .u64 kB, .int .u64 lB, .slice b ss.length cB] 38)) from (((Below.refl _ w).alloc (by simp) _).alloc (by simp) _))
  have KA0 := Lib.hid (show Blk ((w.alloc (.cells #[.bool uA, .int .u64 kA, .int .u64 lA, .slice a rs.length cA] 38)).alloc (.cells #[.bool uB, .int .u64 kB, .int .u64 lB, .slice b ss.length cB] 38)) (w.heap.size) [.bool uA, .int .u64 kA, .int .u64 lA, .slice a rs.length cA] from (Blk.new w [.bool uA, .int .u64 kA, .int .u64 lA, .slice a rs.length cA] 38).alloc _)
  have s1 : (w.alloc (.cells #[.bool uA, .int .u64 kA, .int .u64 lA, .slice a rs.length cA] 38)).heap.size = w.heap.size + 1 := by simp
  have KB0 := Lib.hid (show Blk ((w.alloc (.cells #[.bool uA, .int .u64 kA, .int .u64 lA, .slice a rs.length cA] 38)).alloc (.cells #[.bool uB, .int .u64 kB, .int .u64 lB, .slice b ss.length cB] 38)) (w.heap.size + 1) [.bool uB, .int .u64 kB, .int .u64 lB, .slice b ss.length cB] by have h0 := Blk.new (w.alloc (.cells #[.bool uA, .int .u64 kA, .int .u64 lA, .slice a rs.length cA] 38)) [.bool uB, .int .u64 kB, .int .u64 lB, .slice b ss.length cB] 38; rwa [s1] at h0)
  have n_A_B : w.heap.size ≠ w.heap.size + 1 := by omega
  clear s1
  go_wp2_with fail
  change Calls _ _ _ ((w.alloc (.cells #[.bool uA, .int .u64 kA, .int .u64 lA, .slice a rs.length cA] 38)).alloc (.cells #[.bool uB, .int .u64 kB, .int .u64 lB, .slice b ss.length cB] 38)) _
  generalize (w.alloc (.cells #[.bool uA, .int .u64 kA, .int .u64 lA, .slice a rs.length cA] 38)).alloc (.cells #[.bool uB, .int .u64 kB, .int .u64 lB, .slice b ss.length cB] 38) = v0 at B0 KA0 KB0 ⊢
  generalize w.heap.size + 1 = g_B at KB0 n_A_B ⊢
  generalize w.heap.size = g_A at KA0 n_A_B ⊢
  refine (szMac_any uA kA lA a cA rs 1048576 _ ((HA.out.below B0.out).mono B0.out.size) HL.out HZ.out (by decide) (by decide)).mono ?_
  rintro e v1 ⟨hb, r, rfl, hr1, hr2⟩
  have B1 := Lib.hid (B0.out.trans (hb.mono B0.out.size))
  have KA1 := Lib.hid (KA0.out.below hb)
  have KB1 := Lib.hid (KB0.out.below hb)
  clear hb B0 KA0 KB0
  have HR := Lib.hid hr2
  clear hr2
  obtain ⟨⟨cA0, cA1, cA2, cA3⟩, dA0, dA1, dA2, dA3⟩ := KA1.out.four
  obtain ⟨⟨cB0, cB1, cB2, cB3⟩, dB0, dB1, dB2, dB3⟩ := KB1.out.four
  by_cases hneg : r < 0
  · go_wp2_with fail
    go_ret
    exact ⟨rfl, B1.out⟩
  have hn := Lib.hid (show rs.length ≤ 1048576 by have := HR.out (by omega); omega)
  clear HR
  go_wp2_with fail
  clear cA0 cA1 cA2 cA3 dA0 dA1 dA2 dA3 cB0 cB1 cB2 cB3 dB0 dB1 dB2 dB3
  refine (szMac_any uB kB lB b cB ss r _ ((HB.out.below B1.out).mono B1.out.size) HL2.out HZ2.out (by omega) (by omega)).mono ?_
  rintro e v2 ⟨hb, q, rfl, hq1, hq2⟩
  have B2 := Lib.hid (B1.out.trans (hb.mono B1.out.size))
  have KA2 := Lib.hid (KA1.out.below hb)
  have KB2 := Lib.hid (KB1.out.below hb)
  clear hb B1 KA1 KB1
  have HR := Lib.hid hq2
  clear hq2
  obtain ⟨⟨cA0, cA1, cA2, cA3⟩, dA0, dA1, dA2, dA3⟩ := KA2.out.four
  obtain ⟨⟨cB0, cB1, cB2, cB3⟩, dB0, dB1, dB2, dB3⟩ := KB2.out.four
  by_cases hneg2 : q < 0
  · go_wp2_with fail
    go_ret
    exact ⟨rfl, B2.out⟩
  have hm := Lib.hid (show ss.length ≤ 1048576 by have := HR.out (by omega); omega)
  clear HR
  go_wp2_with fail
  clear hq1 hr1 hneg hneg2
  clear cA0 cA1 cA2 cA3 dA0 dA1 dA2 dA3 cB0 cB1 cB2 cB3 dB0 dB1 dB2 dB3
  obtain ⟨⟨cA0, cA1, cA2, cA3⟩, dA0, dA1, dA2, dA3⟩ := KA2.out.four
  obtain ⟨⟨cB0, cB1, cB2, cB3⟩, dB0, dB1, dB2, dB3⟩ := KB2.out.four
  have P2_0 : True := trivial
  have P2_1 : True := trivial
  have P2_2 : True := trivial
  go_region_held3 (fun w' => (w'.cell? ⟨g_A, 0, none⟩ = some (.bool uA) ∧ w'.cell? ⟨g_A, 1, none⟩ = some (.int .u64 kA) ∧ w'.cell? ⟨g_A, 2, none⟩ = some (.int .u64 lA) ∧ w'.cell? ⟨g_A, 3, none⟩ = some (.slice a rs.length cA)) ∧ (w'.cell? ⟨g_B, 0, none⟩ = some (.bool uB) ∧ w'.cell? ⟨g_B, 1, none⟩ = some (.int .u64 kB) ∧ w'.cell? ⟨g_B, 2, none⟩ = some (.int .u64 lB) ∧ w'.cell? ⟨g_B, 3, none⟩ = some (.slice b ss.length cB)))
    (first | go_keep | (exact ⟨KA3.out.four.1, KB3.out.four.1⟩) | (exact ⟨KA4.out.four.1, KB4.out.four.1⟩) | (exact ⟨KA5.out.four.1, KB5.out.four.1⟩))
    (first | (have q := P2_0; go_at_call 18; clear q P2_0; refine (toMac_any uA kA lA a cA rs _ ((HA.out.below B2.out.drew).mono B2.out.drew.size) hn.out).mono ?_; rintro e v3 ⟨g_p, rfl, ho_p, hb⟩; replace hb := (Below.refl _ v2).drew.trans hb; replace ho_p := own_down ho_p (show v2.heap.size ≤ v2.drew.heap.size from Nat.le_refl _); have n_A_p : g_A ≠ g_p := (by have h1 := KA2.out.lt; have h2 := (ho_p.lt g_p rfl).1; omega); have n_B_p : g_B ≠ g_p := (by have h1 := KB2.out.lt; have h2 := (ho_p.lt g_p rfl).1; omega); have l_p : w.heap.size ≤ g_p := Nat.le_trans B2.out.size (ho_p.lt g_p rfl).1; have B3 := Lib.hid (B2.out.trans (hb.mono B2.out.size)); have KA3 := Lib.hid (KA2.out.below hb); have KB3 := Lib.hid (KB2.out.below hb); have Op3 := Lib.hid (own_down ho_p (Nat.zero_le _)); clear hb B2 KA2 KB2 ho_p) | (have q := P2_1; go_at_call 18; clear q P2_1; refine (toMac_any uB kB lB b cB ss _ ((HB.out.below B3.out).mono B3.out.size) hm.out).mono ?_; rintro e v4 ⟨g_q, rfl, ho_q, hb⟩; have n_A_q : g_A ≠ g_q := (by have h1 := KA3.out.lt; have h2 := (ho_q.lt g_q rfl).1; omega); have n_B_q : g_B ≠ g_q := (by have h1 := KB3.out.lt; have h2 := (ho_q.lt g_q rfl).1; omega); have n_p_q : g_p ≠ g_q := (by have h1 := (Op3.out.lt g_p rfl).2; have h2 := (ho_q.lt g_q rfl).1; omega); have l_q : w.heap.size ≤ g_q := Nat.le_trans B3.out.size (ho_q.lt g_q rfl).1; have B4 := Lib.hid (B3.out.trans (hb.mono B3.out.size)); have KA4 := Lib.hid (KA3.out.below hb); have KB4 := Lib.hid (KB3.out.below hb); have Op4 := Lib.hid (Op3.out.kept (below_any (row := none) hb) (.inr (by simp [Value.ownBlock]))); have Oq4 := Lib.hid (own_down ho_q (Nat.zero_le _)); clear hb B3 KA3 KB3 Op3 ho_q) | (have q := P2_2; go_at_call 29; clear q P2_2; refine (sameMacS uA uB kA kB lA lB (some ⟨g_p, 0, none⟩) (some ⟨g_q, 0, none⟩) rs.length ss.length rs ss _ (Row.ownK Op4.out) (Row.ownK Oq4.out) (Nat.le_succ_of_le hn.out)).mono ?_; rintro e v5 ⟨rfl, hb⟩; have B5 := Lib.hid (B4.out.trans (hb.mono B4.out.size)); have KA5 := Lib.hid (KA4.out.below hb); have KB5 := Lib.hid (KB4.out.below hb); have Op5 := Lib.hid (Op4.out.kept (below_any (row := none) hb) (.inr (by simp [Value.ownBlock]))); have Oq5 := Lib.hid (Oq4.out.kept (below_any (row := none) hb) (.inr (by simp [Value.ownBlock]))); clear hb B4 KA4 KB4 Op4 Oq4))
  try clear cA0 cA1 cA2 cA3 dA0 dA1 dA2 dA3 cB0 cB1 cB2 cB3 dB0 dB1 dB2 dB3
  obtain ⟨⟨cA0, cA1, cA2, cA3⟩, dA0, dA1, dA2, dA3⟩ := KA5.out.four
  obtain ⟨⟨cB0, cB1, cB2, cB3⟩, dB0, dB1, dB2, dB3⟩ := KB5.out.four
  go_wp2_with fail
  clear cA0 cA1 cA2 cA3 dA0 dA1 dA2 dA3 cB0 cB1 cB2 cB3 dB0 dB1 dB2 dB3
  refine (toMac_any uA kA lA a cA rs _ ((HA.out.below B5.out).mono B5.out.size) hn.out).mono ?_
  rintro e v6 ⟨g_x, rfl, ho_x, hb⟩
  have n_A_x : g_A ≠ g_x := by have h1 := KA5.out.lt; have h2 := (ho_x.lt g_x rfl).1; omega
  have n_B_x : g_B ≠ g_x := by have h1 := KB5.out.lt; have h2 := (ho_x.lt g_x rfl).1; omega
  have n_p_x : g_p ≠ g_x := by have h1 := (Op5.out.lt g_p rfl).2; have h2 := (ho_x.lt g_x rfl).1; omega
  have n_q_x : g_q ≠ g_x := by have h1 := (Oq5.out.lt g_q rfl).2; have h2 := (ho_x.lt g_x rfl).1; omega
  have l_x : w.heap.size ≤ g_x := Nat.le_trans B5.out.size (ho_x.lt g_x rfl).1
  have B6 := Lib.hid (B5.out.trans (hb.mono B5.out.size))
  have KA6 := Lib.hid (KA5.out.below hb)
  have KB6 := Lib.hid (KB5.out.below hb)
  have Op6 := Lib.hid (Op5.out.kept (below_any (row := none) hb) (.inr (by simp [Value.ownBlock])))
  have Oq6 := Lib.hid (Oq5.out.kept (below_any (row := none) hb) (.inr (by simp [Value.ownBlock])))
  have Ox6 := Lib.hid (own_down ho_x (Nat.zero_le _))
  clear hb B5 KA5 KB5 Op5 Oq5 ho_x
  have KXn := Lib.hid (Blk.new v6 [.bool uA, .int .u64 kA, .int .u64 lA, .slice (some ⟨g_x, 0, none⟩) rs.length rs.length] 27)
  have n_A_X : g_A ≠ v6.heap.size := by have h1 := KA6.out.lt; omega
  have n_B_X : g_B ≠ v6.heap.size := by have h1 := KB6.out.lt; omega
  have n_p_X : g_p ≠ v6.heap.size := by have h1 := (Op6.out.lt g_p rfl).2; omega
  have n_q_X : g_q ≠ v6.heap.size := by have h1 := (Oq6.out.lt g_q rfl).2; omega
  have n_x_X : g_x ≠ v6.heap.size := by have h1 := (Ox6.out.lt g_x rfl).2; omega
  have Bn := Lib.hid (B6.out.alloc B6.out.size (.cells #[.bool uA, .int .u64 kA, .int .u64 lA, .slice (some ⟨g_x, 0, none⟩) rs.length rs.length] 27))
  have KAn := Lib.hid (KA6.out.alloc (.cells #[.bool uA, .int .u64 kA, .int .u64 lA, .slice (some ⟨g_x, 0, none⟩) rs.length rs.length] 27))
  have KBn := Lib.hid (KB6.out.alloc (.cells #[.bool uA, .int .u64 kA, .int .u64 lA, .slice (some ⟨g_x, 0, none⟩) rs.length rs.length] 27))
  have Opn := Lib.hid (Op6.out.alloc (.cells #[.bool uA, .int .u64 kA, .int .u64 lA, .slice (some ⟨g_x, 0, none⟩) rs.length rs.length] 27))
  have Oqn := Lib.hid (Oq6.out.alloc (.cells #[.bool uA, .int .u64 kA, .int .u64 lA, .slice (some ⟨g_x, 0, none⟩) rs.length rs.length] 27))
  have Oxn := Lib.hid (Ox6.out.alloc (.cells #[.bool uA, .int .u64 kA, .int .u64 lA, .slice (some ⟨g_x, 0, none⟩) rs.length rs.length] 27))
  clear B6 KA6 KB6 Op6 Oq6 Ox6
  obtain ⟨⟨cA0, cA1, cA2, cA3⟩, dA0, dA1, dA2, dA3⟩ := KAn.out.four
  obtain ⟨⟨cB0, cB1, cB2, cB3⟩, dB0, dB1, dB2, dB3⟩ := KBn.out.four
  go_wp2_with fail
  clear cA0 cA1 cA2 cA3 dA0 dA1 dA2 dA3 cB0 cB1 cB2 cB3 dB0 dB1 dB2 dB3
  change Calls _ _ _ (v6.alloc (.cells #[.bool uA, .int .u64 kA, .int .u64 lA, .slice (some ⟨g_x, 0, none⟩) rs.length rs.length] 27)) _
  generalize v6.alloc (.cells #[.bool uA, .int .u64 kA, .int .u64 lA, .slice (some ⟨g_x, 0, none⟩) rs.length rs.length] 27) = v7 at KXn Bn KAn KBn Opn Oqn Oxn ⊢
  generalize v6.heap.size = g_X at KXn n_A_X n_B_X n_p_X n_q_X n_x_X ⊢
  clear v6
  have KA7 := KAn
  clear KAn
  have KB7 := KBn
  clear KBn
  have KX7 := KXn
  clear KXn
  have Op7 := Opn
  clear Opn
  have Oq7 := Oqn
  clear Oqn
  have Ox7 := Oxn
  clear Oxn
  have B7 := Bn
  clear Bn
  refine (toMac_any uB kB lB b cB ss _ ((HB.out.below B7.out).mono B7.out.size) hm.out).mono ?_
  rintro e v8 ⟨g_y, rfl, ho_y, hb⟩
  have n_A_y : g_A ≠ g_y := by have h1 := KA7.out.lt; have h2 := (ho_y.lt g_y rfl).1; omega
  have n_B_y : g_B ≠ g_y := by have h1 := KB7.out.lt; have h2 := (ho_y.lt g_y rfl).1; omega
  have n_X_y : g_X ≠ g_y := by have h1 := KX7.out.lt; have h2 := (ho_y.lt g_y rfl).1; omega
  have n_p_y : g_p ≠ g_y := by have h1 := (Op7.out.lt g_p rfl).2; have h2 := (ho_y.lt g_y rfl).1; omega
  have n_q_y : g_q ≠ g_y := by have h1 := (Oq7.out.lt g_q rfl).2; have h2 := (ho_y.lt g_y rfl).1; omega
  have n_x_y : g_x ≠ g_y := by have h1 := (Ox7.out.lt g_x rfl).2; have h2 := (ho_y.lt g_y rfl).1; omega
  have l_y : w.heap.size ≤ g_y := Nat.le_trans B7.out.size (ho_y.lt g_y rfl).1
  have B8 := Lib.hid (B7.out.trans (hb.mono B7.out.size))
  have KA8 := Lib.hid (KA7.out.below hb)
  have KB8 := Lib.hid (KB7.out.below hb)
  have KX8 := Lib.hid (KX7.out.below hb)
  have Op8 := Lib.hid (Op7.out.kept (below_any (row := none) hb) (.inr (by simp [Value.ownBlock])))
  have Oq8 := Lib.hid (Oq7.out.kept (below_any (row := none) hb) (.inr (by simp [Value.ownBlock])))
  have Ox8 := Lib.hid (Ox7.out.kept (below_any (row := none) hb) (.inr (by simp [Value.ownBlock])))
  have Oy8 := Lib.hid (own_down ho_y (Nat.zero_le _))
  clear hb B7 KA7 KB7 KX7 Op7 Oq7 Ox7 ho_y
  have KYn := Lib.hid (Blk.new v8 [.bool uB, .int .u64 kB, .int .u64 lB, .slice (some ⟨g_y, 0, none⟩) ss.length ss.length] 27)
  have n_A_Y : g_A ≠ v8.heap.size := by have h1 := KA8.out.lt; omega
  have n_B_Y : g_B ≠ v8.heap.size := by have h1 := KB8.out.lt; omega
  have n_X_Y : g_X ≠ v8.heap.size := by have h1 := KX8.out.lt; omega
  have n_p_Y : g_p ≠ v8.heap.size := by have h1 := (Op8.out.lt g_p rfl).2; omega
  have n_q_Y : g_q ≠ v8.heap.size := by have h1 := (Oq8.out.lt g_q rfl).2; omega
  have n_x_Y : g_x ≠ v8.heap.size := by have h1 := (Ox8.out.lt g_x rfl).2; omega
  have n_y_Y : g_y ≠ v8.heap.size := by have h1 := (Oy8.out.lt g_y rfl).2; omega
  have Bn := Lib.hid (B8.out.alloc B8.out.size (.cells #[.bool uB, .int .u64 kB, .int .u64 lB, .slice (some ⟨g_y, 0, none⟩) ss.length ss.length] 27))
  have KAn := Lib.hid (KA8.out.alloc (.cells #[.bool uB, .int .u64 kB, .int .u64 lB, .slice (some ⟨g_y, 0, none⟩) ss.length ss.length] 27))
  have KBn := Lib.hid (KB8.out.alloc (.cells #[.bool uB, .int .u64 kB, .int .u64 lB, .slice (some ⟨g_y, 0, none⟩) ss.length ss.length] 27))
  have KXn := Lib.hid (KX8.out.alloc (.cells #[.bool uB, .int .u64 kB, .int .u64 lB, .slice (some ⟨g_y, 0, none⟩) ss.length ss.length] 27))
  have Opn := Lib.hid (Op8.out.alloc (.cells #[.bool uB, .int .u64 kB, .int .u64 lB, .slice (some ⟨g_y, 0, none⟩) ss.length ss.length] 27))
  have Oqn := Lib.hid (Oq8.out.alloc (.cells #[.bool uB, .int .u64 kB, .int .u64 lB, .slice (some ⟨g_y, 0, none⟩) ss.length ss.length] 27))
  have Oxn := Lib.hid (Ox8.out.alloc (.cells #[.bool uB, .int .u64 kB, .int .u64 lB, .slice (some ⟨g_y, 0, none⟩) ss.length ss.length] 27))
  have Oyn := Lib.hid (Oy8.out.alloc (.cells #[.bool uB, .int .u64 kB, .int .u64 lB, .slice (some ⟨g_y, 0, none⟩) ss.length ss.length] 27))
  clear B8 KA8 KB8 KX8 Op8 Oq8 Ox8 Oy8
  obtain ⟨⟨cA0, cA1, cA2, cA3⟩, dA0, dA1, dA2, dA3⟩ := KAn.out.four
  obtain ⟨⟨cB0, cB1, cB2, cB3⟩, dB0, dB1, dB2, dB3⟩ := KBn.out.four
  obtain ⟨⟨cX0, cX1, cX2, cX3⟩, dX0, dX1, dX2, dX3⟩ := KXn.out.four
  go_wp2_with fail
  clear cA0 cA1 cA2 cA3 dA0 dA1 dA2 dA3 cB0 cB1 cB2 cB3 dB0 dB1 dB2 dB3 cX0 cX1 cX2 cX3 dX0 dX1 dX2 dX3
  change Calls _ _ _ (v8.alloc (.cells #[.bool uB, .int .u64 kB, .int .u64 lB, .slice (some ⟨g_y, 0, none⟩) ss.length ss.length] 27)) _
  generalize v8.alloc (.cells #[.bool uB, .int .u64 kB, .int .u64 lB, .slice (some ⟨g_y, 0, none⟩) ss.length ss.length] 27) = v9 at KYn Bn KAn KBn KXn Opn Oqn Oxn Oyn ⊢
  generalize v8.heap.size = g_Y at KYn n_A_Y n_B_Y n_X_Y n_p_Y n_q_Y n_x_Y n_y_Y ⊢
  clear v8
  have KA9 := KAn
  clear KAn
  have KB9 := KBn
  clear KBn
  have KX9 := KXn
  clear KXn
  have KY9 := KYn
  clear KYn
  have Op9 := Opn
  clear Opn
  have Oq9 := Oqn
  clear Oqn
  have Ox9 := Oxn
  clear Oxn
  have Oy9 := Oyn
  clear Oyn
  have B9 := Bn
  clear Bn
  refine (sameMacI uA uB kA kB lA lB (some ⟨g_x, 0, none⟩) (some ⟨g_y, 0, none⟩) rs.length ss.length rs ss _ (Row.ownK Ox9.out) (Row.ownK Oy9.out) (Nat.le_succ_of_le hn.out)).mono ?_
  rintro e v10 ⟨rfl, hb⟩
  have B10 := Lib.hid (B9.out.trans (hb.mono B9.out.size))
  have KA10 := Lib.hid (KA9.out.below hb)
  have KB10 := Lib.hid (KB9.out.below hb)
  have KX10 := Lib.hid (KX9.out.below hb)
  have KY10 := Lib.hid (KY9.out.below hb)
  have Op10 := Lib.hid (Op9.out.kept (below_any (row := none) hb) (.inr (by simp [Value.ownBlock])))
  have Oq10 := Lib.hid (Oq9.out.kept (below_any (row := none) hb) (.inr (by simp [Value.ownBlock])))
  have Ox10 := Lib.hid (Ox9.out.kept (below_any (row := none) hb) (.inr (by simp [Value.ownBlock])))
  have Oy10 := Lib.hid (Oy9.out.kept (below_any (row := none) hb) (.inr (by simp [Value.ownBlock])))
  clear hb B9 KA9 KB9 KX9 KY9 Op9 Oq9 Ox9 Oy9
  obtain ⟨⟨cA0, cA1, cA2, cA3⟩, dA0, dA1, dA2, dA3⟩ := KA10.out.four
  obtain ⟨⟨cB0, cB1, cB2, cB3⟩, dB0, dB1, dB2, dB3⟩ := KB10.out.four
  obtain ⟨⟨cX0, cX1, cX2, cX3⟩, dX0, dX1, dX2, dX3⟩ := KX10.out.four
  obtain ⟨⟨cY0, cY1, cY2, cY3⟩, dY0, dY1, dY2, dY3⟩ := KY10.out.four
  go_wp2_with fail
  clear cA0 cA1 cA2 cA3 dA0 dA1 dA2 dA3 cB0 cB1 cB2 cB3 dB0 dB1 dB2 dB3 cX0 cX1 cX2 cX3 dX0 dX1 dX2 dX3 cY0 cY1 cY2 cY3 dY0 dY1 dY2 dY3
  obtain ⟨⟨cA0, cA1, cA2, cA3⟩, dA0, dA1, dA2, dA3⟩ := KA10.out.four
  obtain ⟨⟨cX0, cX1, cX2, cX3⟩, dX0, dX1, dX2, dX3⟩ := KX10.out.four
  have P10_0 : True := trivial
  have P10_1 : True := trivial
  go_region_held3 (fun w' => (w'.cell? ⟨g_X, 0, none⟩ = some (.bool uA) ∧ w'.cell? ⟨g_X, 1, none⟩ = some (.int .u64 kA) ∧ w'.cell? ⟨g_X, 2, none⟩ = some (.int .u64 lA) ∧ w'.cell? ⟨g_X, 3, none⟩ = some (.slice (some ⟨g_x, 0, none⟩) rs.length rs.length)) ∧ (w'.cell? ⟨g_A, 0, none⟩ = some (.bool uA) ∧ w'.cell? ⟨g_A, 1, none⟩ = some (.int .u64 kA) ∧ w'.cell? ⟨g_A, 2, none⟩ = some (.int .u64 lA) ∧ w'.cell? ⟨g_A, 3, none⟩ = some (.slice a rs.length cA)))
    (first | go_keep | (exact ⟨KX11.out.four.1, KA11.out.four.1⟩) | (exact ⟨KX12.out.four.1, KA12.out.four.1⟩))
    (first | (have q := P10_0; go_at_call 18; clear q P10_0; refine (toMac_any uA kA lA a cA rs _ ((HA.out.below B10.out.drew).mono B10.out.drew.size) hn.out).mono ?_; rintro e v11 ⟨g_c, rfl, ho_c, hb⟩; replace hb := (Below.refl _ v10).drew.trans hb; replace ho_c := own_down ho_c (show v10.heap.size ≤ v10.drew.heap.size from Nat.le_refl _); have n_A_c : g_A ≠ g_c := (by have h1 := KA10.out.lt; have h2 := (ho_c.lt g_c rfl).1; omega); have n_B_c : g_B ≠ g_c := (by have h1 := KB10.out.lt; have h2 := (ho_c.lt g_c rfl).1; omega); have n_X_c : g_X ≠ g_c := (by have h1 := KX10.out.lt; have h2 := (ho_c.lt g_c rfl).1; omega); have n_Y_c : g_Y ≠ g_c := (by have h1 := KY10.out.lt; have h2 := (ho_c.lt g_c rfl).1; omega); have n_p_c : g_p ≠ g_c := (by have h1 := (Op10.out.lt g_p rfl).2; have h2 := (ho_c.lt g_c rfl).1; omega); have n_q_c : g_q ≠ g_c := (by have h1 := (Oq10.out.lt g_q rfl).2; have h2 := (ho_c.lt g_c rfl).1; omega); have n_x_c : g_x ≠ g_c := (by have h1 := (Ox10.out.lt g_x rfl).2; have h2 := (ho_c.lt g_c rfl).1; omega); have n_y_c : g_y ≠ g_c := (by have h1 := (Oy10.out.lt g_y rfl).2; have h2 := (ho_c.lt g_c rfl).1; omega); have l_c : w.heap.size ≤ g_c := Nat.le_trans B10.out.size (ho_c.lt g_c rfl).1; have B11 := Lib.hid (B10.out.trans (hb.mono B10.out.size)); have KA11 := Lib.hid (KA10.out.below hb); have KB11 := Lib.hid (KB10.out.below hb); have KX11 := Lib.hid (KX10.out.below hb); have KY11 := Lib.hid (KY10.out.below hb); have Op11 := Lib.hid (Op10.out.kept (below_any (row := none) hb) (.inr (by simp [Value.ownBlock]))); have Oq11 := Lib.hid (Oq10.out.kept (below_any (row := none) hb) (.inr (by simp [Value.ownBlock]))); have Ox11 := Lib.hid (Ox10.out.kept (below_any (row := none) hb) (.inr (by simp [Value.ownBlock]))); have Oy11 := Lib.hid (Oy10.out.kept (below_any (row := none) hb) (.inr (by simp [Value.ownBlock]))); have Oc11 := Lib.hid (own_down ho_c (Nat.zero_le _)); clear hb B10 KA10 KB10 KX10 KY10 Op10 Oq10 Ox10 Oy10 ho_c) | (have q := P10_1; go_at_call 19; clear q P10_1; refine (eqMac_self uA kA lA (some ⟨g_x, 0, none⟩) (some ⟨g_c, 0, none⟩) rs.length rs.length rs _ (Row.ownK Ox11.out) (Row.ownK Oc11.out) hn.out).mono ?_; rintro e v12 ⟨rfl, hb⟩; have B12 := Lib.hid (B11.out.trans (hb.mono B11.out.size)); have KA12 := Lib.hid (KA11.out.below hb); have KB12 := Lib.hid (KB11.out.below hb); have KX12 := Lib.hid (KX11.out.below hb); have KY12 := Lib.hid (KY11.out.below hb); have Op12 := Lib.hid (Op11.out.kept (below_any (row := none) hb) (.inr (by simp [Value.ownBlock]))); have Oq12 := Lib.hid (Oq11.out.kept (below_any (row := none) hb) (.inr (by simp [Value.ownBlock]))); have Ox12 := Lib.hid (Ox11.out.kept (below_any (row := none) hb) (.inr (by simp [Value.ownBlock]))); have Oy12 := Lib.hid (Oy11.out.kept (below_any (row := none) hb) (.inr (by simp [Value.ownBlock]))); have Oc12 := Lib.hid (Oc11.out.kept (below_any (row := none) hb) (.inr (by simp [Value.ownBlock]))); clear hb B11 KA11 KB11 KX11 KY11 Op11 Oq11 Ox11 Oy11 Oc11))
  try clear cA0 cA1 cA2 cA3 dA0 dA1 dA2 dA3 cX0 cX1 cX2 cX3 dX0 dX1 dX2 dX3
  obtain ⟨⟨cA0, cA1, cA2, cA3⟩, dA0, dA1, dA2, dA3⟩ := KA12.out.four
  obtain ⟨⟨cB0, cB1, cB2, cB3⟩, dB0, dB1, dB2, dB3⟩ := KB12.out.four
  obtain ⟨⟨cX0, cX1, cX2, cX3⟩, dX0, dX1, dX2, dX3⟩ := KX12.out.four
  obtain ⟨⟨cY0, cY1, cY2, cY3⟩, dY0, dY1, dY2, dY3⟩ := KY12.out.four
  go_wp2_with fail
  clear cA0 cA1 cA2 cA3 dA0 dA1 dA2 dA3 cB0 cB1 cB2 cB3 dB0 dB1 dB2 dB3 cX0 cX1 cX2 cX3 dX0 dX1 dX2 dX3 cY0 cY1 cY2 cY3 dY0 dY1 dY2 dY3
  obtain ⟨⟨cB0, cB1, cB2, cB3⟩, dB0, dB1, dB2, dB3⟩ := KB12.out.four
  obtain ⟨⟨cY0, cY1, cY2, cY3⟩, dY0, dY1, dY2, dY3⟩ := KY12.out.four
  have P12_0 : True := trivial
  have P12_1 : True := trivial
  go_region_held3 (fun w' => (w'.cell? ⟨g_Y, 0, none⟩ = some (.bool uB) ∧ w'.cell? ⟨g_Y, 1, none⟩ = some (.int .u64 kB) ∧ w'.cell? ⟨g_Y, 2, none⟩ = some (.int .u64 lB) ∧ w'.cell? ⟨g_Y, 3, none⟩ = some (.slice (some ⟨g_y, 0, none⟩) ss.length ss.length)) ∧ (w'.cell? ⟨g_B, 0, none⟩ = some (.bool uB) ∧ w'.cell? ⟨g_B, 1, none⟩ = some (.int .u64 kB) ∧ w'.cell? ⟨g_B, 2, none⟩ = some (.int .u64 lB) ∧ w'.cell? ⟨g_B, 3, none⟩ = some (.slice b ss.length cB)))
    (first | go_keep | (exact ⟨KY13.out.four.1, KB13.out.four.1⟩) | (exact ⟨KY14.out.four.1, KB14.out.four.1⟩))
    (first | (have q := P12_0; go_at_call 18; clear q P12_0; refine (toMac_any uB kB lB b cB ss _ ((HB.out.below B12.out.drew).mono B12.out.drew.size) hm.out).mono ?_; rintro e v13 ⟨g_d, rfl, ho_d, hb⟩; replace hb := (Below.refl _ v12).drew.trans hb; replace ho_d := own_down ho_d (show v12.heap.size ≤ v12.drew.heap.size from Nat.le_refl _); have n_A_d : g_A ≠ g_d := (by have h1 := KA12.out.lt; have h2 := (ho_d.lt g_d rfl).1; omega); have n_B_d : g_B ≠ g_d := (by have h1 := KB12.out.lt; have h2 := (ho_d.lt g_d rfl).1; omega); have n_X_d : g_X ≠ g_d := (by have h1 := KX12.out.lt; have h2 := (ho_d.lt g_d rfl).1; omega); have n_Y_d : g_Y ≠ g_d := (by have h1 := KY12.out.lt; have h2 := (ho_d.lt g_d rfl).1; omega); have n_p_d : g_p ≠ g_d := (by have h1 := (Op12.out.lt g_p rfl).2; have h2 := (ho_d.lt g_d rfl).1; omega); have n_q_d : g_q ≠ g_d := (by have h1 := (Oq12.out.lt g_q rfl).2; have h2 := (ho_d.lt g_d rfl).1; omega); have n_x_d : g_x ≠ g_d := (by have h1 := (Ox12.out.lt g_x rfl).2; have h2 := (ho_d.lt g_d rfl).1; omega); have n_y_d : g_y ≠ g_d := (by have h1 := (Oy12.out.lt g_y rfl).2; have h2 := (ho_d.lt g_d rfl).1; omega); have n_c_d : g_c ≠ g_d := (by have h1 := (Oc12.out.lt g_c rfl).2; have h2 := (ho_d.lt g_d rfl).1; omega); have l_d : w.heap.size ≤ g_d := Nat.le_trans B12.out.size (ho_d.lt g_d rfl).1; have B13 := Lib.hid (B12.out.trans (hb.mono B12.out.size)); have KA13 := Lib.hid (KA12.out.below hb); have KB13 := Lib.hid (KB12.out.below hb); have KX13 := Lib.hid (KX12.out.below hb); have KY13 := Lib.hid (KY12.out.below hb); have Op13 := Lib.hid (Op12.out.kept (below_any (row := none) hb) (.inr (by simp [Value.ownBlock]))); have Oq13 := Lib.hid (Oq12.out.kept (below_any (row := none) hb) (.inr (by simp [Value.ownBlock]))); have Ox13 := Lib.hid (Ox12.out.kept (below_any (row := none) hb) (.inr (by simp [Value.ownBlock]))); have Oy13 := Lib.hid (Oy12.out.kept (below_any (row := none) hb) (.inr (by simp [Value.ownBlock]))); have Oc13 := Lib.hid (Oc12.out.kept (below_any (row := none) hb) (.inr (by simp [Value.ownBlock]))); have Od13 := Lib.hid (own_down ho_d (Nat.zero_le _)); clear hb B12 KA12 KB12 KX12 KY12 Op12 Oq12 Ox12 Oy12 Oc12 ho_d) | (have q := P12_1; go_at_call 19; clear q P12_1; refine (eqMac_self uB kB lB (some ⟨g_y, 0, none⟩) (some ⟨g_d, 0, none⟩) ss.length ss.length ss _ (Row.ownK Oy13.out) (Row.ownK Od13.out) hm.out).mono ?_; rintro e v14 ⟨rfl, hb⟩; have B14 := Lib.hid (B13.out.trans (hb.mono B13.out.size)); have KA14 := Lib.hid (KA13.out.below hb); have KB14 := Lib.hid (KB13.out.below hb); have KX14 := Lib.hid (KX13.out.below hb); have KY14 := Lib.hid (KY13.out.below hb); have Op14 := Lib.hid (Op13.out.kept (below_any (row := none) hb) (.inr (by simp [Value.ownBlock]))); have Oq14 := Lib.hid (Oq13.out.kept (below_any (row := none) hb) (.inr (by simp [Value.ownBlock]))); have Ox14 := Lib.hid (Ox13.out.kept (below_any (row := none) hb) (.inr (by simp [Value.ownBlock]))); have Oy14 := Lib.hid (Oy13.out.kept (below_any (row := none) hb) (.inr (by simp [Value.ownBlock]))); have Oc14 := Lib.hid (Oc13.out.kept (below_any (row := none) hb) (.inr (by simp [Value.ownBlock]))); have Od14 := Lib.hid (Od13.out.kept (below_any (row := none) hb) (.inr (by simp [Value.ownBlock]))); clear hb B13 KA13 KB13 KX13 KY13 Op13 Oq13 Ox13 Oy13 Oc13 Od13))
  try clear cB0 cB1 cB2 cB3 dB0 dB1 dB2 dB3 cY0 cY1 cY2 cY3 dY0 dY1 dY2 dY3
  obtain ⟨⟨cA0, cA1, cA2, cA3⟩, dA0, dA1, dA2, dA3⟩ := KA14.out.four
  obtain ⟨⟨cB0, cB1, cB2, cB3⟩, dB0, dB1, dB2, dB3⟩ := KB14.out.four
  obtain ⟨⟨cX0, cX1, cX2, cX3⟩, dX0, dX1, dX2, dX3⟩ := KX14.out.four
  obtain ⟨⟨cY0, cY1, cY2, cY3⟩, dY0, dY1, dY2, dY3⟩ := KY14.out.four
  go_wp2_with fail
  go_ret
  exact ⟨rfl, B14.out⟩

theorem walk {w : World} (u : Bool) (k l : Int) (a : Option Addr) (len cap : Nat) (rs : List MR) (u2 : Bool) (k2 l2 : Int) (a2 : Option Addr) (len2 cap2 : Nat) (ss : List MR) (h : (Lit.int .u64 k).wf = true ∧ (Lit.int .u64 l).wf = true ∧ IsM w a len cap rs) (h2 : (Lit.int .u64 k2).wf = true ∧ (Lit.int .u64 l2).wf = true ∧ IsM w a2 len2 cap2 ss) :
    Calls Try.prog 8 #[.agg #[.bool u, .int .u64 k, .int .u64 l, .slice a len cap], .agg #[.bool u2, .int .u64 k2, .int .u64 l2, .slice a2 len2 cap2]] w fun e w' => e = .returned (.bool true) ∧ Below w.heap.size w w' := by
  obtain ⟨_, _, ⟨rfl, _, hm, hz⟩, hrow⟩ := h
  obtain ⟨_, _, ⟨rfl, _, hm2, hz2⟩, hrow2⟩ := h2
  exact go u u2 k l k2 l2 a a2 cap cap2 rs ss w hrow hrow2 (by omega) (by omega) (fun r hr => (hz r hr).1) (fun r hr => (hz2 r hr).1)
theorem own : ownKnob Try.prog.godebug = none := by kernel_rfl
theorem laidOut : laidOutB Try.prog = true := by kernel_rfl

set_option maxRecDepth 100000 in
theorem lifted (os : Os) (started : os.Started) (H : Type) (enc : TypeId × Value → H) :
    ReturnsInHanded {} Try.checked os 8 .any (Rows.fnExactSameMacSpec.pre6 enc Try.prog Try.f8 Rows.fnExactSameMacRow.domain false) (Rows.fnExactSameMacSpec.post enc Try.prog Try.f8 false true false false) := by
  refine returnsInHanded_of_change (C := Try.checked) own started (by kernel_rfl) Try.func8
    (ChangeSpec.witness6 (enc := enc) (C := Try.checked) false ⟨#[], #[.agg #[.bool false, .int .u64 0, .int .u64 0, .slice none 0 0], .agg #[.bool false, .int .u64 0, .int .u64 0, .slice none 0 0]], []⟩ 8 (by kernel_rfl) (by kernel_rfl) (by kernel_rfl) (by kernel_rfl)) ?_
  intro W base args ds gs before hval0 hW _ _
  have hval : ∀ (j : Nat) t v, Try.f8.params[j]? = some t → args[j]? = some v → Value.okWide Try.prog W .any base t v := hval0
  have hW' := hW
  obtain ⟨p, q, hA0, hV, rfl, _, _⟩ := hW
  have hA : DataW.TrodAll enc Try.prog W 0 (fun _ => true) true Try.f8.params.toList args.toList ds p := hA0
  rw [Try.params8] at hA hval
  obtain ⟨v0, vs0, d0, ds0, p0, q0, hargs, rfl, rfl, h0, r0⟩ := trodAll_cons hA
  obtain ⟨v1, vs1, d1, ds1, p1, q1, rfl, rfl, rfl, h1, r1⟩ := trodAll_cons r0
  obtain ⟨rfl, rfl, rfl⟩ := trodAll_nil r1
  obtain rfl : args = #[v0, v1] := by cases args; simp_all
  obtain ⟨rfl, rfl⟩ := trodVars_none hV
  have k0 := h0
  have lt0 : ∀ x ∈ p0, x.block < W.heap.size := by obtain ⟨m, hm⟩ := k0; exact DataW.trod_lt m _ _ _ hm
  obtain ⟨u0, x0, y0, a0, len0, cap0, s0, rfl, w0⟩ := argMac (hval 0 38 v0 rfl rfl) h0
  have k1 := h1
  have lt1 : ∀ x ∈ p1, x.block < W.heap.size := by obtain ⟨m, hm⟩ := k1; exact DataW.trod_lt m _ _ _ hm
  obtain ⟨u1, x1, y1, a1, len1, cap1, s1, rfl, w1⟩ := argMac (hval 1 38 v1 rfl rfl) h1
  clear hA0 hval0
  refine (walk u0 x0 y0 a0 len0 cap0 s0 u1 x1 y1 a1 len1 cap1 s1 w0 w1).mono fun e W' ⟨he, bel⟩ => ?_
  subst he
  exact ⟨_, rfl, _, _, _, [], _, [], hW', trodAll_mk1 (shut_bool Try.underlying4 _), (trodAll_cons_mk (Below.trod laidOut (by kernel_rfl) (of_decide_eq_true (by kernel_rfl)) k0 bel lt0) (trodAll_cons_mk (Below.trod laidOut (by kernel_rfl) (of_decide_eq_true (by kernel_rfl)) k1 bel lt1) trodAll_mk0)), rfl, bel.frame _, fun h => by cases h⟩

theorem over : Rows.fnExactSameMacRow.holds Try.pinned (OpenSpec.ofChange Rows.fnExactSameMacSpec) :=
  OpenClaim.holds_of_wide 8 Try.f8 rfl rfl rfl rfl rfl rfl rfl ⟨rfl, rfl, rfl, rfl, rfl⟩ rfl rfl rfl rfl rfl (by kernel_rfl) Try.func8 (by kernel_rfl)
    (of_decide_eq_true (by kernel_rfl)) (by unfold Func.isWrapper; first | (rw [if_pos (by decide +kernel)]; kernel_rfl) | (rw [if_neg (by decide +kernel)]; exact ⟨rfl, rfl⟩))
    (fun os started H enc _ => lifted os started H enc)

theorem proved : Rows.FnExactSameMacSaid := over
#print axioms proved
end Go.Proofs.Ytkmflfmbmmpohaa.fnExactSameMac
