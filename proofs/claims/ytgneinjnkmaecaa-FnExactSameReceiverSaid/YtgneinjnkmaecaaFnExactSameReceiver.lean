/- The law FnExactSameReceiver holds for every argument (up to the law's own measure of 1048576 pieces and bytes; past it the law itself answers true): impl's SameReceiver answers as the model's and leaves its arguments. No condition. -/
import Derived.Test.YtgneinjnkmaecaaRows
import Derived.Test.YtgneinjnkmaecaaSameRcv
import Derived.Test.YtgneinjnkmaecaaRcvOk
import Derived.Test.YtgneinjnkmaecaaRcvLaw2
import Derived.Test.YtgneinjnkmaecaaArgRcv
import Derived.Deep.RegionHeld3
import Derived.ProofKit
import Derived.OpenShut
import Derived.ShutString
import Derived.ChangeSame
namespace Go.Proofs.Ytgneinjnkmaecaa.fnExactSameReceiver
open Go.ChangeShapes Go.WideShapes Go.ChangeAt Go.RowKit Go.Lib
open Go.ChangeMaps (open_string shut_string)

/-- The law's word: true, and what lay before the call lies as it lay. -/
def OkB (w : World) (e : Ending) (w' : World) : Prop := e = .returned (.bool true) ∧ Below w.heap.size w w'

set_option maxRecDepth 100000 in
set_option maxHeartbeats 16000000 in
theorem go (n f : Int) (z : Bool) (d : ByteArray) (a : Option Addr) (cap : Nat) (rs : List HP) (m gg : Int) (u : Bool) (y : ByteArray) (b : Option Addr) (dap : Nat) (ss : List HP) (w : World) (hrowA : Row w w.heap.size a (hps rs)) (hdA : d.size ≤ maxLen) (hmA : rs.length ≤ maxLen) (hgA : ∀ r ∈ rs, r.t.size ≤ maxLen) (hrowB : Row w w.heap.size b (hps ss)) (hdB : y.size ≤ maxLen) (hmB : ss.length ≤ maxLen) (hgB : ∀ r ∈ ss, r.t.size ≤ maxLen) :
    Calls Try.prog 11 #[.agg #[.int .i64 n, .string d, .slice a rs.length cap, .int .i64 f, .bool z], .agg #[.int .i64 m, .string y, .slice b ss.length dap, .int .i64 gg, .bool u]] w (OkB w) := by
  have HA := Lib.hid hrowA
  replace hdA := Lib.hid hdA
  replace hmA := Lib.hid hmA
  replace hgA := Lib.hid hgA
  clear hrowA
  have HB := Lib.hid hrowB
  replace hdB := Lib.hid hdB
  replace hmB := Lib.hid hmB
  replace hgB := Lib.hid hgB
  clear hrowB
  go_enter Try.func11, Try.ntmps11
  have B0 := Lib.hid (show Below w.heap.size w ((w.alloc (.cells #[.int .i64 n, .string d, .slice a rs.length cap, .int .i64 f, .bool z] 42)).alloc (.cells #[.int .i64 m, .string y, .slice b ss.length dap, .int .i64 gg, .bool u] 42)) from (((Below.refl _ w).alloc (by simp) _).alloc (by simp) _))
  have KA0 := Lib.hid (show Blk ((w.alloc (.cells #[.int .i64 n, .string d, .slice a rs.length cap, .int .i64 f, .bool z] 42)).alloc (.cells #[.int .i64 m, .string y, .slice b ss.length dap, .int .i64 gg, .bool u] 42)) (w.heap.size) [.int .i64 n, .string d, .slice a rs.length cap, .int .i64 f, .bool z] from (Blk.new w [.int .i64 n, .string d, .slice a rs.length cap, .int .i64 f, .bool z] 42).alloc (.cells #[.int .i64 m, .string y, .slice b ss.length dap, .int .i64 gg, .bool u] 42))
  have s1 : (w.alloc (.cells #[.int .i64 n, .string d, .slice a rs.length cap, .int .i64 f, .bool z] 42)).heap.size = w.heap.size + 1 := by simp
  have KB0 := Lib.hid (show Blk ((w.alloc (.cells #[.int .i64 n, .string d, .slice a rs.length cap, .int .i64 f, .bool z] 42)).alloc (.cells #[.int .i64 m, .string y, .slice b ss.length dap, .int .i64 gg, .bool u] 42)) (w.heap.size + 1) [.int .i64 m, .string y, .slice b ss.length dap, .int .i64 gg, .bool u] by have h0 := Blk.new (w.alloc (.cells #[.int .i64 n, .string d, .slice a rs.length cap, .int .i64 f, .bool z] 42)) [.int .i64 m, .string y, .slice b ss.length dap, .int .i64 gg, .bool u] 42; rwa [s1] at h0)
  have n_A_B : w.heap.size ≠ w.heap.size + 1 := by omega
  clear s1
  go_wp2_with fail
  change Calls _ _ _ ((w.alloc (.cells #[.int .i64 n, .string d, .slice a rs.length cap, .int .i64 f, .bool z] 42)).alloc (.cells #[.int .i64 m, .string y, .slice b ss.length dap, .int .i64 gg, .bool u] 42)) _
  generalize (w.alloc (.cells #[.int .i64 n, .string d, .slice a rs.length cap, .int .i64 f, .bool z] 42)).alloc (.cells #[.int .i64 m, .string y, .slice b ss.length dap, .int .i64 gg, .bool u] 42) = v0 at B0 KA0 KB0 ⊢
  generalize hh_B : w.heap.size + 1 = g_B at KB0 n_A_B ⊢
  generalize hh_A : w.heap.size = g_A at KA0 n_A_B ⊢
  have l_A : w.heap.size ≤ g_A := by omega
  have l_B : w.heap.size ≤ g_B := by omega
  clear hh_A hh_B
  refine (szReceiver_any n f z d a cap rs 1048576 _ ((HA.out.below B0.out).mono B0.out.size) hdA.out hmA.out hgA.out (by omega) (by omega)).mono ?_
  rintro e v1 ⟨hb, qA, rfl, hqA, hrA⟩
  have B1 := Lib.hid (B0.out.trans (hb.mono B0.out.size))
  have KA1 := Lib.hid (KA0.out.below hb)
  have KB1 := Lib.hid (KB0.out.below hb)
  clear hb B0 KA0 KB0
  replace hrA := Lib.hid hrA
  by_cases hzA : qA < 0
  case pos =>
    clear hrA
    obtain ⟨⟨cA0, cA1, cA2, cA3, cA4⟩, dA0, dA1, dA2, dA3, dA4⟩ := KA1.out.of5
    obtain ⟨⟨cB0, cB1, cB2, cB3, cB4⟩, dB0, dB1, dB2, dB3, dB4⟩ := KB1.out.of5
    go_wp2_with fail
    go_ret
    exact ⟨rfl, B1.out⟩
  have hsA := hrA.out (by omega)
  have HLA := Lib.hid (show rs.length ≤ 1048576 by omega)
  have HBA := Lib.hid (show RB d rs from ⟨by omega, by omega, fun r hr => by have := plens_mem rs r hr; omega⟩)
  replace hsA := Lib.hid hsA
  clear hrA
  obtain ⟨⟨cA0, cA1, cA2, cA3, cA4⟩, dA0, dA1, dA2, dA3, dA4⟩ := KA1.out.of5
  obtain ⟨⟨cB0, cB1, cB2, cB3, cB4⟩, dB0, dB1, dB2, dB3, dB4⟩ := KB1.out.of5
  go_wp2_with fail
  clear cA0 cA1 cA2 cA3 cA4 dA0 dA1 dA2 dA3 dA4 cB0 cB1 cB2 cB3 cB4 dB0 dB1 dB2 dB3 dB4
  refine (szReceiver_any m gg u y b dap ss qA _ ((HB.out.below B1.out).mono B1.out.size) hdB.out hmB.out hgB.out (by omega) (by omega)).mono ?_
  rintro e v2 ⟨hb, qB, rfl, hqB, hrB⟩
  have B2 := Lib.hid (B1.out.trans (hb.mono B1.out.size))
  have KA2 := Lib.hid (KA1.out.below hb)
  have KB2 := Lib.hid (KB1.out.below hb)
  clear hb B1 KA1 KB1
  replace hrB := Lib.hid hrB
  by_cases hzB : qB < 0
  case pos =>
    clear hrB
    obtain ⟨⟨cA0, cA1, cA2, cA3, cA4⟩, dA0, dA1, dA2, dA3, dA4⟩ := KA2.out.of5
    obtain ⟨⟨cB0, cB1, cB2, cB3, cB4⟩, dB0, dB1, dB2, dB3, dB4⟩ := KB2.out.of5
    go_wp2_with fail
    go_ret
    exact ⟨rfl, B2.out⟩
  have hsB := hrB.out (by omega)
  have HLB := Lib.hid (show ss.length ≤ 1048576 by omega)
  have HBB := Lib.hid (show RB y ss from ⟨by omega, by omega, fun r hr => by have := plens_mem ss r hr; omega⟩)
  replace hsB := Lib.hid hsB
  clear hrB
  have CS := (fun g h w k1 k2 => sameRcvS n m f gg d y z u (some ⟨g, 0, none⟩) (some ⟨h, 0, none⟩) rs.length ss.length rs ss w k1 k2 (Nat.le_succ_of_le HLA.out))
  have CI := (fun g h w k1 k2 => sameRcvI n m f gg d y z u (some ⟨g, 0, none⟩) (some ⟨h, 0, none⟩) rs.length ss.length rs ss w k1 k2 (Nat.le_succ_of_le HLA.out))
  generalize sameR ⟨n, d, rs, f, z⟩ ⟨m, y, ss, gg, u⟩ = k at CS CI
  replace CS := Lib.hid CS
  replace CI := Lib.hid CI
  cases k with
  | false =>
    obtain ⟨⟨cA0, cA1, cA2, cA3, cA4⟩, dA0, dA1, dA2, dA3, dA4⟩ := KA2.out.of5
    obtain ⟨⟨cB0, cB1, cB2, cB3, cB4⟩, dB0, dB1, dB2, dB3, dB4⟩ := KB2.out.of5
    go_wp2_with fail
    clear cA0 cA1 cA2 cA3 cA4 dA0 dA1 dA2 dA3 dA4 cB0 cB1 cB2 cB3 cB4 dB0 dB1 dB2 dB3 dB4
    obtain ⟨⟨cA0, cA1, cA2, cA3, cA4⟩, dA0, dA1, dA2, dA3, dA4⟩ := KA2.out.of5
    obtain ⟨⟨cB0, cB1, cB2, cB3, cB4⟩, dB0, dB1, dB2, dB3, dB4⟩ := KB2.out.of5
    have P2_0 : True := trivial
    have P2_1 : True := trivial
    have P2_2 : True := trivial
    go_region_held3 (fun w' => (w'.cell? ⟨g_A, 0, none⟩ = some (.int .i64 n) ∧ w'.cell? ⟨g_A, 1, none⟩ = some (.string d) ∧ w'.cell? ⟨g_A, 2, none⟩ = some (.slice a rs.length cap) ∧ w'.cell? ⟨g_A, 3, none⟩ = some (.int .i64 f) ∧ w'.cell? ⟨g_A, 4, none⟩ = some (.bool z)) ∧ (w'.cell? ⟨g_B, 0, none⟩ = some (.int .i64 m) ∧ w'.cell? ⟨g_B, 1, none⟩ = some (.string y) ∧ w'.cell? ⟨g_B, 2, none⟩ = some (.slice b ss.length dap) ∧ w'.cell? ⟨g_B, 3, none⟩ = some (.int .i64 gg) ∧ w'.cell? ⟨g_B, 4, none⟩ = some (.bool u)))
      (first | go_keep | (exact ⟨KA3.out.of5.1, KB3.out.of5.1⟩) | (exact ⟨KA4.out.of5.1, KB4.out.of5.1⟩) | (exact ⟨KA5.out.of5.1, KB5.out.of5.1⟩))
      (first | (have q := P2_0; go_at_call 29; clear q P2_0; refine (toReceiver_any n f z d a cap rs _ ((HA.out.below B2.out.drew).mono B2.out.drew.size) HLA.out).mono ?_; rintro e v3 ⟨g_p, rfl, ho_p, hb⟩; replace hb := (Below.refl _ v2).drew.trans hb; replace ho_p := own_down ho_p (show v2.heap.size ≤ v2.drew.heap.size from Nat.le_refl _); have n_A_p : g_A ≠ g_p := (by have h1 := KA2.out.lt; have h2 := (ho_p.lt g_p rfl).1; omega); have n_B_p : g_B ≠ g_p := (by have h1 := KB2.out.lt; have h2 := (ho_p.lt g_p rfl).1; omega); have l_p : w.heap.size ≤ g_p := Nat.le_trans B2.out.size (ho_p.lt g_p rfl).1; have B3 := Lib.hid (B2.out.trans (hb.mono B2.out.size)); have KA3 := Lib.hid (KA2.out.below hb); have KB3 := Lib.hid (KB2.out.below hb); have Op3 := Lib.hid (own_down ho_p (Nat.zero_le _)); clear hb B2 KA2 KB2 ho_p) | (have q := P2_1; go_at_call 29; clear q P2_1; refine (toReceiver_any m gg u y b dap ss _ ((HB.out.below B3.out).mono B3.out.size) HLB.out).mono ?_; rintro e v4 ⟨g_q, rfl, ho_q, hb⟩; have n_A_q : g_A ≠ g_q := (by have h1 := KA3.out.lt; have h2 := (ho_q.lt g_q rfl).1; omega); have n_B_q : g_B ≠ g_q := (by have h1 := KB3.out.lt; have h2 := (ho_q.lt g_q rfl).1; omega); have n_p_q : g_p ≠ g_q := (by have h1 := (Op3.out.lt g_p rfl).2; have h2 := (ho_q.lt g_q rfl).1; omega); have l_q : w.heap.size ≤ g_q := Nat.le_trans B3.out.size (ho_q.lt g_q rfl).1; have B4 := Lib.hid (B3.out.trans (hb.mono B3.out.size)); have KA4 := Lib.hid (KA3.out.below hb); have KB4 := Lib.hid (KB3.out.below hb); have Op4 := Lib.hid (Op3.out.kept (below_any (row := none) hb) (.inr (by simp [Value.ownBlock]))); have Oq4 := Lib.hid (own_down ho_q (Nat.zero_le _)); clear hb B3 KA3 KB3 Op3 ho_q) | (have q := P2_2; go_at_call 16; clear q P2_2; refine (CS.out g_p g_q _ (Row.ownK Op4.out) (Row.ownK Oq4.out)).mono ?_; rintro e v5 ⟨rfl, hb⟩; have B5 := Lib.hid (B4.out.trans (hb.mono B4.out.size)); have KA5 := Lib.hid (KA4.out.below hb); have KB5 := Lib.hid (KB4.out.below hb); have Op5 := Lib.hid (Op4.out.kept (below_any (row := none) hb) (.inr (by simp [Value.ownBlock]))); have Oq5 := Lib.hid (Oq4.out.kept (below_any (row := none) hb) (.inr (by simp [Value.ownBlock]))); clear hb B4 KA4 KB4 Op4 Oq4))
    try clear cA0 cA1 cA2 cA3 cA4 dA0 dA1 dA2 dA3 dA4 cB0 cB1 cB2 cB3 cB4 dB0 dB1 dB2 dB3 dB4
    obtain ⟨⟨cA0, cA1, cA2, cA3, cA4⟩, dA0, dA1, dA2, dA3, dA4⟩ := KA5.out.of5
    obtain ⟨⟨cB0, cB1, cB2, cB3, cB4⟩, dB0, dB1, dB2, dB3, dB4⟩ := KB5.out.of5
    go_wp2_with fail
    clear cA0 cA1 cA2 cA3 cA4 dA0 dA1 dA2 dA3 dA4 cB0 cB1 cB2 cB3 cB4 dB0 dB1 dB2 dB3 dB4
    refine (toReceiver_any n f z d a cap rs _ ((HA.out.below B5.out).mono B5.out.size) HLA.out).mono ?_
    rintro e v6 ⟨g_x, rfl, ho_x, hb⟩
    have n_A_x : g_A ≠ g_x := by have h1 := KA5.out.lt; have h2 := (ho_x.lt g_x rfl).1; omega
    have n_B_x : g_B ≠ g_x := by have h1 := KB5.out.lt; have h2 := (ho_x.lt g_x rfl).1; omega
    have n_p_x : g_p ≠ g_x := by have h1 := (Op5.out.lt g_p rfl).2; have h2 := (ho_x.lt g_x rfl).1; omega
    have n_q_x : g_q ≠ g_x := by have h1 := (Oq5.out.lt g_q rfl).2; have h2 := (ho_x.lt g_x rfl).1; omega
    have l_x : w.heap.size ≤ g_x := Nat.le_trans B5.out.size (ho_x.lt g_x rfl).1
    have B6 := Lib.hid (B5.out.trans (hb.mono B5.out.size))
    have KA6 := Lib.hid (KA5.out.below hb)
    have KB6 := Lib.hid (KB5.out.below hb)
    have Op6 := Lib.hid (Op5.out.kept (below_any (row := none) hb) (.inr (by simp [Value.ownBlock])))
    have Oq6 := Lib.hid (Oq5.out.kept (below_any (row := none) hb) (.inr (by simp [Value.ownBlock])))
    have Ox6 := Lib.hid (own_down ho_x (Nat.zero_le _))
    clear hb B5 KA5 KB5 Op5 Oq5 ho_x
    have KXn := Lib.hid (Blk.new v6 [.int .i64 n, .string d, .slice (some ⟨g_x, 0, none⟩) rs.length rs.length, .int .i64 f, .bool z] 26)
    have l_X : w.heap.size ≤ v6.heap.size := B6.out.size
    have n_A_X : g_A ≠ v6.heap.size := by have h1 := KA6.out.lt; omega
    have n_B_X : g_B ≠ v6.heap.size := by have h1 := KB6.out.lt; omega
    have n_p_X : g_p ≠ v6.heap.size := by have h1 := (Op6.out.lt g_p rfl).2; omega
    have n_q_X : g_q ≠ v6.heap.size := by have h1 := (Oq6.out.lt g_q rfl).2; omega
    have n_x_X : g_x ≠ v6.heap.size := by have h1 := (Ox6.out.lt g_x rfl).2; omega
    have Bn := Lib.hid (B6.out.alloc B6.out.size (.cells #[.int .i64 n, .string d, .slice (some ⟨g_x, 0, none⟩) rs.length rs.length, .int .i64 f, .bool z] 26))
    have KAn := Lib.hid (KA6.out.alloc (.cells #[.int .i64 n, .string d, .slice (some ⟨g_x, 0, none⟩) rs.length rs.length, .int .i64 f, .bool z] 26))
    have KBn := Lib.hid (KB6.out.alloc (.cells #[.int .i64 n, .string d, .slice (some ⟨g_x, 0, none⟩) rs.length rs.length, .int .i64 f, .bool z] 26))
    have Opn := Lib.hid (Op6.out.alloc (.cells #[.int .i64 n, .string d, .slice (some ⟨g_x, 0, none⟩) rs.length rs.length, .int .i64 f, .bool z] 26))
    have Oqn := Lib.hid (Oq6.out.alloc (.cells #[.int .i64 n, .string d, .slice (some ⟨g_x, 0, none⟩) rs.length rs.length, .int .i64 f, .bool z] 26))
    have Oxn := Lib.hid (Ox6.out.alloc (.cells #[.int .i64 n, .string d, .slice (some ⟨g_x, 0, none⟩) rs.length rs.length, .int .i64 f, .bool z] 26))
    clear B6 KA6 KB6 Op6 Oq6 Ox6
    obtain ⟨⟨cA0, cA1, cA2, cA3, cA4⟩, dA0, dA1, dA2, dA3, dA4⟩ := KAn.out.of5
    obtain ⟨⟨cB0, cB1, cB2, cB3, cB4⟩, dB0, dB1, dB2, dB3, dB4⟩ := KBn.out.of5
    go_wp2_with fail
    clear cA0 cA1 cA2 cA3 cA4 dA0 dA1 dA2 dA3 dA4 cB0 cB1 cB2 cB3 cB4 dB0 dB1 dB2 dB3 dB4
    change Calls _ _ _ (v6.alloc (.cells #[.int .i64 n, .string d, .slice (some ⟨g_x, 0, none⟩) rs.length rs.length, .int .i64 f, .bool z] 26)) _
    generalize v6.alloc (.cells #[.int .i64 n, .string d, .slice (some ⟨g_x, 0, none⟩) rs.length rs.length, .int .i64 f, .bool z] 26) = v7 at KXn Bn KAn KBn Opn Oqn Oxn ⊢
    generalize v6.heap.size = g_X at KXn l_X n_A_X n_B_X n_p_X n_q_X n_x_X ⊢
    clear v6
    have KA7 := KAn
    clear KAn
    have KB7 := KBn
    clear KBn
    have KX7 := KXn
    clear KXn
    have Op7 := Opn
    clear Opn
    have Oq7 := Oqn
    clear Oqn
    have Ox7 := Oxn
    clear Oxn
    have B7 := Bn
    clear Bn
    refine (toReceiver_any m gg u y b dap ss _ ((HB.out.below B7.out).mono B7.out.size) HLB.out).mono ?_
    rintro e v8 ⟨g_y, rfl, ho_y, hb⟩
    have n_A_y : g_A ≠ g_y := by have h1 := KA7.out.lt; have h2 := (ho_y.lt g_y rfl).1; omega
    have n_B_y : g_B ≠ g_y := by have h1 := KB7.out.lt; have h2 := (ho_y.lt g_y rfl).1; omega
    have n_X_y : g_X ≠ g_y := by have h1 := KX7.out.lt; have h2 := (ho_y.lt g_y rfl).1; omega
    have n_p_y : g_p ≠ g_y := by have h1 := (Op7.out.lt g_p rfl).2; have h2 := (ho_y.lt g_y rfl).1; omega
    have n_q_y : g_q ≠ g_y := by have h1 := (Oq7.out.lt g_q rfl).2; have h2 := (ho_y.lt g_y rfl).1; omega
    have n_x_y : g_x ≠ g_y := by have h1 := (Ox7.out.lt g_x rfl).2; have h2 := (ho_y.lt g_y rfl).1; omega
    have l_y : w.heap.size ≤ g_y := Nat.le_trans B7.out.size (ho_y.lt g_y rfl).1
    have B8 := Lib.hid (B7.out.trans (hb.mono B7.out.size))
    have KA8 := Lib.hid (KA7.out.below hb)
    have KB8 := Lib.hid (KB7.out.below hb)
    have KX8 := Lib.hid (KX7.out.below hb)
    have Op8 := Lib.hid (Op7.out.kept (below_any (row := none) hb) (.inr (by simp [Value.ownBlock])))
    have Oq8 := Lib.hid (Oq7.out.kept (below_any (row := none) hb) (.inr (by simp [Value.ownBlock])))
    have Ox8 := Lib.hid (Ox7.out.kept (below_any (row := none) hb) (.inr (by simp [Value.ownBlock])))
    have Oy8 := Lib.hid (own_down ho_y (Nat.zero_le _))
    clear hb B7 KA7 KB7 KX7 Op7 Oq7 Ox7 ho_y
    have KYn := Lib.hid (Blk.new v8 [.int .i64 m, .string y, .slice (some ⟨g_y, 0, none⟩) ss.length ss.length, .int .i64 gg, .bool u] 26)
    have l_Y : w.heap.size ≤ v8.heap.size := B8.out.size
    have n_A_Y : g_A ≠ v8.heap.size := by have h1 := KA8.out.lt; omega
    have n_B_Y : g_B ≠ v8.heap.size := by have h1 := KB8.out.lt; omega
    have n_X_Y : g_X ≠ v8.heap.size := by have h1 := KX8.out.lt; omega
    have n_p_Y : g_p ≠ v8.heap.size := by have h1 := (Op8.out.lt g_p rfl).2; omega
    have n_q_Y : g_q ≠ v8.heap.size := by have h1 := (Oq8.out.lt g_q rfl).2; omega
    have n_x_Y : g_x ≠ v8.heap.size := by have h1 := (Ox8.out.lt g_x rfl).2; omega
    have n_y_Y : g_y ≠ v8.heap.size := by have h1 := (Oy8.out.lt g_y rfl).2; omega
    have Bn := Lib.hid (B8.out.alloc B8.out.size (.cells #[.int .i64 m, .string y, .slice (some ⟨g_y, 0, none⟩) ss.length ss.length, .int .i64 gg, .bool u] 26))
    have KAn := Lib.hid (KA8.out.alloc (.cells #[.int .i64 m, .string y, .slice (some ⟨g_y, 0, none⟩) ss.length ss.length, .int .i64 gg, .bool u] 26))
    have KBn := Lib.hid (KB8.out.alloc (.cells #[.int .i64 m, .string y, .slice (some ⟨g_y, 0, none⟩) ss.length ss.length, .int .i64 gg, .bool u] 26))
    have KXn := Lib.hid (KX8.out.alloc (.cells #[.int .i64 m, .string y, .slice (some ⟨g_y, 0, none⟩) ss.length ss.length, .int .i64 gg, .bool u] 26))
    have Opn := Lib.hid (Op8.out.alloc (.cells #[.int .i64 m, .string y, .slice (some ⟨g_y, 0, none⟩) ss.length ss.length, .int .i64 gg, .bool u] 26))
    have Oqn := Lib.hid (Oq8.out.alloc (.cells #[.int .i64 m, .string y, .slice (some ⟨g_y, 0, none⟩) ss.length ss.length, .int .i64 gg, .bool u] 26))
    have Oxn := Lib.hid (Ox8.out.alloc (.cells #[.int .i64 m, .string y, .slice (some ⟨g_y, 0, none⟩) ss.length ss.length, .int .i64 gg, .bool u] 26))
    have Oyn := Lib.hid (Oy8.out.alloc (.cells #[.int .i64 m, .string y, .slice (some ⟨g_y, 0, none⟩) ss.length ss.length, .int .i64 gg, .bool u] 26))
    clear B8 KA8 KB8 KX8 Op8 Oq8 Ox8 Oy8
    obtain ⟨⟨cA0, cA1, cA2, cA3, cA4⟩, dA0, dA1, dA2, dA3, dA4⟩ := KAn.out.of5
    obtain ⟨⟨cB0, cB1, cB2, cB3, cB4⟩, dB0, dB1, dB2, dB3, dB4⟩ := KBn.out.of5
    obtain ⟨⟨cX0, cX1, cX2, cX3, cX4⟩, dX0, dX1, dX2, dX3, dX4⟩ := KXn.out.of5
    go_wp2_with fail
    clear cA0 cA1 cA2 cA3 cA4 dA0 dA1 dA2 dA3 dA4 cB0 cB1 cB2 cB3 cB4 dB0 dB1 dB2 dB3 dB4 cX0 cX1 cX2 cX3 cX4 dX0 dX1 dX2 dX3 dX4
    change Calls _ _ _ (v8.alloc (.cells #[.int .i64 m, .string y, .slice (some ⟨g_y, 0, none⟩) ss.length ss.length, .int .i64 gg, .bool u] 26)) _
    generalize v8.alloc (.cells #[.int .i64 m, .string y, .slice (some ⟨g_y, 0, none⟩) ss.length ss.length, .int .i64 gg, .bool u] 26) = v9 at KYn Bn KAn KBn KXn Opn Oqn Oxn Oyn ⊢
    generalize v8.heap.size = g_Y at KYn l_Y n_A_Y n_B_Y n_X_Y n_p_Y n_q_Y n_x_Y n_y_Y ⊢
    clear v8
    have KA9 := KAn
    clear KAn
    have KB9 := KBn
    clear KBn
    have KX9 := KXn
    clear KXn
    have KY9 := KYn
    clear KYn
    have Op9 := Opn
    clear Opn
    have Oq9 := Oqn
    clear Oqn
    have Ox9 := Oxn
    clear Oxn
    have Oy9 := Oyn
    clear Oyn
    have B9 := Bn
    clear Bn
    refine (CI.out g_x g_y _ (Row.ownK Ox9.out) (Row.ownK Oy9.out)).mono ?_
    rintro e v10 ⟨rfl, hb⟩
    have B10 := Lib.hid (B9.out.trans (hb.mono B9.out.size))
    have KA10 := Lib.hid (KA9.out.below hb)
    have KB10 := Lib.hid (KB9.out.below hb)
    have KX10 := Lib.hid (KX9.out.below hb)
    have KY10 := Lib.hid (KY9.out.below hb)
    have Op10 := Lib.hid (Op9.out.kept (below_any (row := none) hb) (.inr (by simp [Value.ownBlock])))
    have Oq10 := Lib.hid (Oq9.out.kept (below_any (row := none) hb) (.inr (by simp [Value.ownBlock])))
    have Ox10 := Lib.hid (Ox9.out.kept (below_any (row := none) hb) (.inr (by simp [Value.ownBlock])))
    have Oy10 := Lib.hid (Oy9.out.kept (below_any (row := none) hb) (.inr (by simp [Value.ownBlock])))
    clear hb B9 KA9 KB9 KX9 KY9 Op9 Oq9 Ox9 Oy9
    obtain ⟨⟨cA0, cA1, cA2, cA3, cA4⟩, dA0, dA1, dA2, dA3, dA4⟩ := KA10.out.of5
    obtain ⟨⟨cB0, cB1, cB2, cB3, cB4⟩, dB0, dB1, dB2, dB3, dB4⟩ := KB10.out.of5
    obtain ⟨⟨cX0, cX1, cX2, cX3, cX4⟩, dX0, dX1, dX2, dX3, dX4⟩ := KX10.out.of5
    obtain ⟨⟨cY0, cY1, cY2, cY3, cY4⟩, dY0, dY1, dY2, dY3, dY4⟩ := KY10.out.of5
    go_wp2_with fail
    clear cA0 cA1 cA2 cA3 cA4 dA0 dA1 dA2 dA3 dA4 cB0 cB1 cB2 cB3 cB4 dB0 dB1 dB2 dB3 dB4 cX0 cX1 cX2 cX3 cX4 dX0 dX1 dX2 dX3 dX4 cY0 cY1 cY2 cY3 cY4 dY0 dY1 dY2 dY3 dY4
    obtain ⟨⟨cA0, cA1, cA2, cA3, cA4⟩, dA0, dA1, dA2, dA3, dA4⟩ := KA10.out.of5
    obtain ⟨⟨cX0, cX1, cX2, cX3, cX4⟩, dX0, dX1, dX2, dX3, dX4⟩ := KX10.out.of5
    have P10_0 : True := trivial
    have P10_1 : True := trivial
    go_region_held3 (fun w' => (w'.cell? ⟨g_X, 0, none⟩ = some (.int .i64 n) ∧ w'.cell? ⟨g_X, 1, none⟩ = some (.string d) ∧ w'.cell? ⟨g_X, 2, none⟩ = some (.slice (some ⟨g_x, 0, none⟩) rs.length rs.length) ∧ w'.cell? ⟨g_X, 3, none⟩ = some (.int .i64 f) ∧ w'.cell? ⟨g_X, 4, none⟩ = some (.bool z)) ∧ (w'.cell? ⟨g_A, 0, none⟩ = some (.int .i64 n) ∧ w'.cell? ⟨g_A, 1, none⟩ = some (.string d) ∧ w'.cell? ⟨g_A, 2, none⟩ = some (.slice a rs.length cap) ∧ w'.cell? ⟨g_A, 3, none⟩ = some (.int .i64 f) ∧ w'.cell? ⟨g_A, 4, none⟩ = some (.bool z)))
      (first | go_keep | (exact ⟨KX11.out.of5.1, KA11.out.of5.1⟩) | (exact ⟨KX12.out.of5.1, KA12.out.of5.1⟩))
      (first | (have q := P10_0; go_at_call 29; clear q P10_0; refine (toReceiver_any n f z d a cap rs _ ((HA.out.below B10.out.drew).mono B10.out.drew.size) HLA.out).mono ?_; rintro e v11 ⟨g_c, rfl, ho_c, hb⟩; replace hb := (Below.refl _ v10).drew.trans hb; replace ho_c := own_down ho_c (show v10.heap.size ≤ v10.drew.heap.size from Nat.le_refl _); have n_A_c : g_A ≠ g_c := (by have h1 := KA10.out.lt; have h2 := (ho_c.lt g_c rfl).1; omega); have n_B_c : g_B ≠ g_c := (by have h1 := KB10.out.lt; have h2 := (ho_c.lt g_c rfl).1; omega); have n_X_c : g_X ≠ g_c := (by have h1 := KX10.out.lt; have h2 := (ho_c.lt g_c rfl).1; omega); have n_Y_c : g_Y ≠ g_c := (by have h1 := KY10.out.lt; have h2 := (ho_c.lt g_c rfl).1; omega); have n_p_c : g_p ≠ g_c := (by have h1 := (Op10.out.lt g_p rfl).2; have h2 := (ho_c.lt g_c rfl).1; omega); have n_q_c : g_q ≠ g_c := (by have h1 := (Oq10.out.lt g_q rfl).2; have h2 := (ho_c.lt g_c rfl).1; omega); have n_x_c : g_x ≠ g_c := (by have h1 := (Ox10.out.lt g_x rfl).2; have h2 := (ho_c.lt g_c rfl).1; omega); have n_y_c : g_y ≠ g_c := (by have h1 := (Oy10.out.lt g_y rfl).2; have h2 := (ho_c.lt g_c rfl).1; omega); have l_c : w.heap.size ≤ g_c := Nat.le_trans B10.out.size (ho_c.lt g_c rfl).1; have B11 := Lib.hid (B10.out.trans (hb.mono B10.out.size)); have KA11 := Lib.hid (KA10.out.below hb); have KB11 := Lib.hid (KB10.out.below hb); have KX11 := Lib.hid (KX10.out.below hb); have KY11 := Lib.hid (KY10.out.below hb); have Op11 := Lib.hid (Op10.out.kept (below_any (row := none) hb) (.inr (by simp [Value.ownBlock]))); have Oq11 := Lib.hid (Oq10.out.kept (below_any (row := none) hb) (.inr (by simp [Value.ownBlock]))); have Ox11 := Lib.hid (Ox10.out.kept (below_any (row := none) hb) (.inr (by simp [Value.ownBlock]))); have Oy11 := Lib.hid (Oy10.out.kept (below_any (row := none) hb) (.inr (by simp [Value.ownBlock]))); have Oc11 := Lib.hid (own_down ho_c (Nat.zero_le _)); clear hb B10 KA10 KB10 KX10 KY10 Op10 Oq10 Ox10 Oy10 ho_c) | (have q := P10_1; go_at_call 30; clear q P10_1; refine (eqReceiver_self n f z d (some ⟨g_x, 0, none⟩) (some ⟨g_c, 0, none⟩) rs.length rs.length rs _ (Row.ownK Ox11.out) (Row.ownK Oc11.out) HLA.out).mono ?_; rintro e v12 ⟨rfl, hb⟩; have B12 := Lib.hid (B11.out.trans (hb.mono B11.out.size)); have KA12 := Lib.hid (KA11.out.below hb); have KB12 := Lib.hid (KB11.out.below hb); have KX12 := Lib.hid (KX11.out.below hb); have KY12 := Lib.hid (KY11.out.below hb); have Op12 := Lib.hid (Op11.out.kept (below_any (row := none) hb) (.inr (by simp [Value.ownBlock]))); have Oq12 := Lib.hid (Oq11.out.kept (below_any (row := none) hb) (.inr (by simp [Value.ownBlock]))); have Ox12 := Lib.hid (Ox11.out.kept (below_any (row := none) hb) (.inr (by simp [Value.ownBlock]))); have Oy12 := Lib.hid (Oy11.out.kept (below_any (row := none) hb) (.inr (by simp [Value.ownBlock]))); have Oc12 := Lib.hid (Oc11.out.kept (below_any (row := none) hb) (.inr (by simp [Value.ownBlock]))); clear hb B11 KA11 KB11 KX11 KY11 Op11 Oq11 Ox11 Oy11 Oc11))
    try clear cA0 cA1 cA2 cA3 cA4 dA0 dA1 dA2 dA3 dA4 cX0 cX1 cX2 cX3 cX4 dX0 dX1 dX2 dX3 dX4
    obtain ⟨⟨cA0, cA1, cA2, cA3, cA4⟩, dA0, dA1, dA2, dA3, dA4⟩ := KA12.out.of5
    obtain ⟨⟨cB0, cB1, cB2, cB3, cB4⟩, dB0, dB1, dB2, dB3, dB4⟩ := KB12.out.of5
    obtain ⟨⟨cX0, cX1, cX2, cX3, cX4⟩, dX0, dX1, dX2, dX3, dX4⟩ := KX12.out.of5
    obtain ⟨⟨cY0, cY1, cY2, cY3, cY4⟩, dY0, dY1, dY2, dY3, dY4⟩ := KY12.out.of5
    go_wp2_with fail
    clear cA0 cA1 cA2 cA3 cA4 dA0 dA1 dA2 dA3 dA4 cB0 cB1 cB2 cB3 cB4 dB0 dB1 dB2 dB3 dB4 cX0 cX1 cX2 cX3 cX4 dX0 dX1 dX2 dX3 dX4 cY0 cY1 cY2 cY3 cY4 dY0 dY1 dY2 dY3 dY4
    obtain ⟨⟨cB0, cB1, cB2, cB3, cB4⟩, dB0, dB1, dB2, dB3, dB4⟩ := KB12.out.of5
    obtain ⟨⟨cY0, cY1, cY2, cY3, cY4⟩, dY0, dY1, dY2, dY3, dY4⟩ := KY12.out.of5
    have P12_0 : True := trivial
    have P12_1 : True := trivial
    go_region_held3 (fun w' => (w'.cell? ⟨g_Y, 0, none⟩ = some (.int .i64 m) ∧ w'.cell? ⟨g_Y, 1, none⟩ = some (.string y) ∧ w'.cell? ⟨g_Y, 2, none⟩ = some (.slice (some ⟨g_y, 0, none⟩) ss.length ss.length) ∧ w'.cell? ⟨g_Y, 3, none⟩ = some (.int .i64 gg) ∧ w'.cell? ⟨g_Y, 4, none⟩ = some (.bool u)) ∧ (w'.cell? ⟨g_B, 0, none⟩ = some (.int .i64 m) ∧ w'.cell? ⟨g_B, 1, none⟩ = some (.string y) ∧ w'.cell? ⟨g_B, 2, none⟩ = some (.slice b ss.length dap) ∧ w'.cell? ⟨g_B, 3, none⟩ = some (.int .i64 gg) ∧ w'.cell? ⟨g_B, 4, none⟩ = some (.bool u)))
      (first | go_keep | (exact ⟨KY13.out.of5.1, KB13.out.of5.1⟩) | (exact ⟨KY14.out.of5.1, KB14.out.of5.1⟩))
      (first | (have q := P12_0; go_at_call 29; clear q P12_0; refine (toReceiver_any m gg u y b dap ss _ ((HB.out.below B12.out.drew).mono B12.out.drew.size) HLB.out).mono ?_; rintro e v13 ⟨g_e, rfl, ho_e, hb⟩; replace hb := (Below.refl _ v12).drew.trans hb; replace ho_e := own_down ho_e (show v12.heap.size ≤ v12.drew.heap.size from Nat.le_refl _); have n_A_e : g_A ≠ g_e := (by have h1 := KA12.out.lt; have h2 := (ho_e.lt g_e rfl).1; omega); have n_B_e : g_B ≠ g_e := (by have h1 := KB12.out.lt; have h2 := (ho_e.lt g_e rfl).1; omega); have n_X_e : g_X ≠ g_e := (by have h1 := KX12.out.lt; have h2 := (ho_e.lt g_e rfl).1; omega); have n_Y_e : g_Y ≠ g_e := (by have h1 := KY12.out.lt; have h2 := (ho_e.lt g_e rfl).1; omega); have n_p_e : g_p ≠ g_e := (by have h1 := (Op12.out.lt g_p rfl).2; have h2 := (ho_e.lt g_e rfl).1; omega); have n_q_e : g_q ≠ g_e := (by have h1 := (Oq12.out.lt g_q rfl).2; have h2 := (ho_e.lt g_e rfl).1; omega); have n_x_e : g_x ≠ g_e := (by have h1 := (Ox12.out.lt g_x rfl).2; have h2 := (ho_e.lt g_e rfl).1; omega); have n_y_e : g_y ≠ g_e := (by have h1 := (Oy12.out.lt g_y rfl).2; have h2 := (ho_e.lt g_e rfl).1; omega); have n_c_e : g_c ≠ g_e := (by have h1 := (Oc12.out.lt g_c rfl).2; have h2 := (ho_e.lt g_e rfl).1; omega); have l_e : w.heap.size ≤ g_e := Nat.le_trans B12.out.size (ho_e.lt g_e rfl).1; have B13 := Lib.hid (B12.out.trans (hb.mono B12.out.size)); have KA13 := Lib.hid (KA12.out.below hb); have KB13 := Lib.hid (KB12.out.below hb); have KX13 := Lib.hid (KX12.out.below hb); have KY13 := Lib.hid (KY12.out.below hb); have Op13 := Lib.hid (Op12.out.kept (below_any (row := none) hb) (.inr (by simp [Value.ownBlock]))); have Oq13 := Lib.hid (Oq12.out.kept (below_any (row := none) hb) (.inr (by simp [Value.ownBlock]))); have Ox13 := Lib.hid (Ox12.out.kept (below_any (row := none) hb) (.inr (by simp [Value.ownBlock]))); have Oy13 := Lib.hid (Oy12.out.kept (below_any (row := none) hb) (.inr (by simp [Value.ownBlock]))); have Oc13 := Lib.hid (Oc12.out.kept (below_any (row := none) hb) (.inr (by simp [Value.ownBlock]))); have Oe13 := Lib.hid (own_down ho_e (Nat.zero_le _)); clear hb B12 KA12 KB12 KX12 KY12 Op12 Oq12 Ox12 Oy12 Oc12 ho_e) | (have q := P12_1; go_at_call 30; clear q P12_1; refine (eqReceiver_self m gg u y (some ⟨g_y, 0, none⟩) (some ⟨g_e, 0, none⟩) ss.length ss.length ss _ (Row.ownK Oy13.out) (Row.ownK Oe13.out) HLB.out).mono ?_; rintro e v14 ⟨rfl, hb⟩; have B14 := Lib.hid (B13.out.trans (hb.mono B13.out.size)); have KA14 := Lib.hid (KA13.out.below hb); have KB14 := Lib.hid (KB13.out.below hb); have KX14 := Lib.hid (KX13.out.below hb); have KY14 := Lib.hid (KY13.out.below hb); have Op14 := Lib.hid (Op13.out.kept (below_any (row := none) hb) (.inr (by simp [Value.ownBlock]))); have Oq14 := Lib.hid (Oq13.out.kept (below_any (row := none) hb) (.inr (by simp [Value.ownBlock]))); have Ox14 := Lib.hid (Ox13.out.kept (below_any (row := none) hb) (.inr (by simp [Value.ownBlock]))); have Oy14 := Lib.hid (Oy13.out.kept (below_any (row := none) hb) (.inr (by simp [Value.ownBlock]))); have Oc14 := Lib.hid (Oc13.out.kept (below_any (row := none) hb) (.inr (by simp [Value.ownBlock]))); have Oe14 := Lib.hid (Oe13.out.kept (below_any (row := none) hb) (.inr (by simp [Value.ownBlock]))); clear hb B13 KA13 KB13 KX13 KY13 Op13 Oq13 Ox13 Oy13 Oc13 Oe13))
    try clear cB0 cB1 cB2 cB3 cB4 dB0 dB1 dB2 dB3 dB4 cY0 cY1 cY2 cY3 cY4 dY0 dY1 dY2 dY3 dY4
    obtain ⟨⟨cA0, cA1, cA2, cA3, cA4⟩, dA0, dA1, dA2, dA3, dA4⟩ := KA14.out.of5
    obtain ⟨⟨cB0, cB1, cB2, cB3, cB4⟩, dB0, dB1, dB2, dB3, dB4⟩ := KB14.out.of5
    obtain ⟨⟨cX0, cX1, cX2, cX3, cX4⟩, dX0, dX1, dX2, dX3, dX4⟩ := KX14.out.of5
    obtain ⟨⟨cY0, cY1, cY2, cY3, cY4⟩, dY0, dY1, dY2, dY3, dY4⟩ := KY14.out.of5
    go_wp2_with fail
    go_ret
    exact ⟨rfl, B14.out⟩
  | true =>
    obtain ⟨⟨cA0, cA1, cA2, cA3, cA4⟩, dA0, dA1, dA2, dA3, dA4⟩ := KA2.out.of5
    obtain ⟨⟨cB0, cB1, cB2, cB3, cB4⟩, dB0, dB1, dB2, dB3, dB4⟩ := KB2.out.of5
    go_wp2_with fail
    clear cA0 cA1 cA2 cA3 cA4 dA0 dA1 dA2 dA3 dA4 cB0 cB1 cB2 cB3 cB4 dB0 dB1 dB2 dB3 dB4
    obtain ⟨⟨cA0, cA1, cA2, cA3, cA4⟩, dA0, dA1, dA2, dA3, dA4⟩ := KA2.out.of5
    obtain ⟨⟨cB0, cB1, cB2, cB3, cB4⟩, dB0, dB1, dB2, dB3, dB4⟩ := KB2.out.of5
    have P2_0 : True := trivial
    have P2_1 : True := trivial
    have P2_2 : True := trivial
    go_region_held3 (fun w' => (w'.cell? ⟨g_A, 0, none⟩ = some (.int .i64 n) ∧ w'.cell? ⟨g_A, 1, none⟩ = some (.string d) ∧ w'.cell? ⟨g_A, 2, none⟩ = some (.slice a rs.length cap) ∧ w'.cell? ⟨g_A, 3, none⟩ = some (.int .i64 f) ∧ w'.cell? ⟨g_A, 4, none⟩ = some (.bool z)) ∧ (w'.cell? ⟨g_B, 0, none⟩ = some (.int .i64 m) ∧ w'.cell? ⟨g_B, 1, none⟩ = some (.string y) ∧ w'.cell? ⟨g_B, 2, none⟩ = some (.slice b ss.length dap) ∧ w'.cell? ⟨g_B, 3, none⟩ = some (.int .i64 gg) ∧ w'.cell? ⟨g_B, 4, none⟩ = some (.bool u)))
      (first | go_keep | (exact ⟨KA3.out.of5.1, KB3.out.of5.1⟩) | (exact ⟨KA4.out.of5.1, KB4.out.of5.1⟩) | (exact ⟨KA5.out.of5.1, KB5.out.of5.1⟩))
      (first | (have q := P2_0; go_at_call 29; clear q P2_0; refine (toReceiver_any n f z d a cap rs _ ((HA.out.below B2.out.drew).mono B2.out.drew.size) HLA.out).mono ?_; rintro e v3 ⟨g_p, rfl, ho_p, hb⟩; replace hb := (Below.refl _ v2).drew.trans hb; replace ho_p := own_down ho_p (show v2.heap.size ≤ v2.drew.heap.size from Nat.le_refl _); have n_A_p : g_A ≠ g_p := (by have h1 := KA2.out.lt; have h2 := (ho_p.lt g_p rfl).1; omega); have n_B_p : g_B ≠ g_p := (by have h1 := KB2.out.lt; have h2 := (ho_p.lt g_p rfl).1; omega); have l_p : w.heap.size ≤ g_p := Nat.le_trans B2.out.size (ho_p.lt g_p rfl).1; have B3 := Lib.hid (B2.out.trans (hb.mono B2.out.size)); have KA3 := Lib.hid (KA2.out.below hb); have KB3 := Lib.hid (KB2.out.below hb); have Op3 := Lib.hid (own_down ho_p (Nat.zero_le _)); clear hb B2 KA2 KB2 ho_p) | (have q := P2_1; go_at_call 29; clear q P2_1; refine (toReceiver_any m gg u y b dap ss _ ((HB.out.below B3.out).mono B3.out.size) HLB.out).mono ?_; rintro e v4 ⟨g_q, rfl, ho_q, hb⟩; have n_A_q : g_A ≠ g_q := (by have h1 := KA3.out.lt; have h2 := (ho_q.lt g_q rfl).1; omega); have n_B_q : g_B ≠ g_q := (by have h1 := KB3.out.lt; have h2 := (ho_q.lt g_q rfl).1; omega); have n_p_q : g_p ≠ g_q := (by have h1 := (Op3.out.lt g_p rfl).2; have h2 := (ho_q.lt g_q rfl).1; omega); have l_q : w.heap.size ≤ g_q := Nat.le_trans B3.out.size (ho_q.lt g_q rfl).1; have B4 := Lib.hid (B3.out.trans (hb.mono B3.out.size)); have KA4 := Lib.hid (KA3.out.below hb); have KB4 := Lib.hid (KB3.out.below hb); have Op4 := Lib.hid (Op3.out.kept (below_any (row := none) hb) (.inr (by simp [Value.ownBlock]))); have Oq4 := Lib.hid (own_down ho_q (Nat.zero_le _)); clear hb B3 KA3 KB3 Op3 ho_q) | (have q := P2_2; go_at_call 16; clear q P2_2; refine (CS.out g_p g_q _ (Row.ownK Op4.out) (Row.ownK Oq4.out)).mono ?_; rintro e v5 ⟨rfl, hb⟩; have B5 := Lib.hid (B4.out.trans (hb.mono B4.out.size)); have KA5 := Lib.hid (KA4.out.below hb); have KB5 := Lib.hid (KB4.out.below hb); have Op5 := Lib.hid (Op4.out.kept (below_any (row := none) hb) (.inr (by simp [Value.ownBlock]))); have Oq5 := Lib.hid (Oq4.out.kept (below_any (row := none) hb) (.inr (by simp [Value.ownBlock]))); clear hb B4 KA4 KB4 Op4 Oq4))
    try clear cA0 cA1 cA2 cA3 cA4 dA0 dA1 dA2 dA3 dA4 cB0 cB1 cB2 cB3 cB4 dB0 dB1 dB2 dB3 dB4
    obtain ⟨⟨cA0, cA1, cA2, cA3, cA4⟩, dA0, dA1, dA2, dA3, dA4⟩ := KA5.out.of5
    obtain ⟨⟨cB0, cB1, cB2, cB3, cB4⟩, dB0, dB1, dB2, dB3, dB4⟩ := KB5.out.of5
    go_wp2_with fail
    clear cA0 cA1 cA2 cA3 cA4 dA0 dA1 dA2 dA3 dA4 cB0 cB1 cB2 cB3 cB4 dB0 dB1 dB2 dB3 dB4
    refine (toReceiver_any n f z d a cap rs _ ((HA.out.below B5.out).mono B5.out.size) HLA.out).mono ?_
    rintro e v6 ⟨g_x, rfl, ho_x, hb⟩
    have n_A_x : g_A ≠ g_x := by have h1 := KA5.out.lt; have h2 := (ho_x.lt g_x rfl).1; omega
    have n_B_x : g_B ≠ g_x := by have h1 := KB5.out.lt; have h2 := (ho_x.lt g_x rfl).1; omega
    have n_p_x : g_p ≠ g_x := by have h1 := (Op5.out.lt g_p rfl).2; have h2 := (ho_x.lt g_x rfl).1; omega
    have n_q_x : g_q ≠ g_x := by have h1 := (Oq5.out.lt g_q rfl).2; have h2 := (ho_x.lt g_x rfl).1; omega
    have l_x : w.heap.size ≤ g_x := Nat.le_trans B5.out.size (ho_x.lt g_x rfl).1
    have B6 := Lib.hid (B5.out.trans (hb.mono B5.out.size))
    have KA6 := Lib.hid (KA5.out.below hb)
    have KB6 := Lib.hid (KB5.out.below hb)
    have Op6 := Lib.hid (Op5.out.kept (below_any (row := none) hb) (.inr (by simp [Value.ownBlock])))
    have Oq6 := Lib.hid (Oq5.out.kept (below_any (row := none) hb) (.inr (by simp [Value.ownBlock])))
    have Ox6 := Lib.hid (own_down ho_x (Nat.zero_le _))
    clear hb B5 KA5 KB5 Op5 Oq5 ho_x
    have KXn := Lib.hid (Blk.new v6 [.int .i64 n, .string d, .slice (some ⟨g_x, 0, none⟩) rs.length rs.length, .int .i64 f, .bool z] 26)
    have l_X : w.heap.size ≤ v6.heap.size := B6.out.size
    have n_A_X : g_A ≠ v6.heap.size := by have h1 := KA6.out.lt; omega
    have n_B_X : g_B ≠ v6.heap.size := by have h1 := KB6.out.lt; omega
    have n_p_X : g_p ≠ v6.heap.size := by have h1 := (Op6.out.lt g_p rfl).2; omega
    have n_q_X : g_q ≠ v6.heap.size := by have h1 := (Oq6.out.lt g_q rfl).2; omega
    have n_x_X : g_x ≠ v6.heap.size := by have h1 := (Ox6.out.lt g_x rfl).2; omega
    have Bn := Lib.hid (B6.out.alloc B6.out.size (.cells #[.int .i64 n, .string d, .slice (some ⟨g_x, 0, none⟩) rs.length rs.length, .int .i64 f, .bool z] 26))
    have KAn := Lib.hid (KA6.out.alloc (.cells #[.int .i64 n, .string d, .slice (some ⟨g_x, 0, none⟩) rs.length rs.length, .int .i64 f, .bool z] 26))
    have KBn := Lib.hid (KB6.out.alloc (.cells #[.int .i64 n, .string d, .slice (some ⟨g_x, 0, none⟩) rs.length rs.length, .int .i64 f, .bool z] 26))
    have Opn := Lib.hid (Op6.out.alloc (.cells #[.int .i64 n, .string d, .slice (some ⟨g_x, 0, none⟩) rs.length rs.length, .int .i64 f, .bool z] 26))
    have Oqn := Lib.hid (Oq6.out.alloc (.cells #[.int .i64 n, .string d, .slice (some ⟨g_x, 0, none⟩) rs.length rs.length, .int .i64 f, .bool z] 26))
    have Oxn := Lib.hid (Ox6.out.alloc (.cells #[.int .i64 n, .string d, .slice (some ⟨g_x, 0, none⟩) rs.length rs.length, .int .i64 f, .bool z] 26))
    clear B6 KA6 KB6 Op6 Oq6 Ox6
    obtain ⟨⟨cA0, cA1, cA2, cA3, cA4⟩, dA0, dA1, dA2, dA3, dA4⟩ := KAn.out.of5
    obtain ⟨⟨cB0, cB1, cB2, cB3, cB4⟩, dB0, dB1, dB2, dB3, dB4⟩ := KBn.out.of5
    go_wp2_with fail
    clear cA0 cA1 cA2 cA3 cA4 dA0 dA1 dA2 dA3 dA4 cB0 cB1 cB2 cB3 cB4 dB0 dB1 dB2 dB3 dB4
    change Calls _ _ _ (v6.alloc (.cells #[.int .i64 n, .string d, .slice (some ⟨g_x, 0, none⟩) rs.length rs.length, .int .i64 f, .bool z] 26)) _
    generalize v6.alloc (.cells #[.int .i64 n, .string d, .slice (some ⟨g_x, 0, none⟩) rs.length rs.length, .int .i64 f, .bool z] 26) = v7 at KXn Bn KAn KBn Opn Oqn Oxn ⊢
    generalize v6.heap.size = g_X at KXn l_X n_A_X n_B_X n_p_X n_q_X n_x_X ⊢
    clear v6
    have KA7 := KAn
    clear KAn
    have KB7 := KBn
    clear KBn
    have KX7 := KXn
    clear KXn
    have Op7 := Opn
    clear Opn
    have Oq7 := Oqn
    clear Oqn
    have Ox7 := Oxn
    clear Oxn
    have B7 := Bn
    clear Bn
    refine (toReceiver_any m gg u y b dap ss _ ((HB.out.below B7.out).mono B7.out.size) HLB.out).mono ?_
    rintro e v8 ⟨g_y, rfl, ho_y, hb⟩
    have n_A_y : g_A ≠ g_y := by have h1 := KA7.out.lt; have h2 := (ho_y.lt g_y rfl).1; omega
    have n_B_y : g_B ≠ g_y := by have h1 := KB7.out.lt; have h2 := (ho_y.lt g_y rfl).1; omega
    have n_X_y : g_X ≠ g_y := by have h1 := KX7.out.lt; have h2 := (ho_y.lt g_y rfl).1; omega
    have n_p_y : g_p ≠ g_y := by have h1 := (Op7.out.lt g_p rfl).2; have h2 := (ho_y.lt g_y rfl).1; omega
    have n_q_y : g_q ≠ g_y := by have h1 := (Oq7.out.lt g_q rfl).2; have h2 := (ho_y.lt g_y rfl).1; omega
    have n_x_y : g_x ≠ g_y := by have h1 := (Ox7.out.lt g_x rfl).2; have h2 := (ho_y.lt g_y rfl).1; omega
    have l_y : w.heap.size ≤ g_y := Nat.le_trans B7.out.size (ho_y.lt g_y rfl).1
    have B8 := Lib.hid (B7.out.trans (hb.mono B7.out.size))
    have KA8 := Lib.hid (KA7.out.below hb)
    have KB8 := Lib.hid (KB7.out.below hb)
    have KX8 := Lib.hid (KX7.out.below hb)
    have Op8 := Lib.hid (Op7.out.kept (below_any (row := none) hb) (.inr (by simp [Value.ownBlock])))
    have Oq8 := Lib.hid (Oq7.out.kept (below_any (row := none) hb) (.inr (by simp [Value.ownBlock])))
    have Ox8 := Lib.hid (Ox7.out.kept (below_any (row := none) hb) (.inr (by simp [Value.ownBlock])))
    have Oy8 := Lib.hid (own_down ho_y (Nat.zero_le _))
    clear hb B7 KA7 KB7 KX7 Op7 Oq7 Ox7 ho_y
    have KYn := Lib.hid (Blk.new v8 [.int .i64 m, .string y, .slice (some ⟨g_y, 0, none⟩) ss.length ss.length, .int .i64 gg, .bool u] 26)
    have l_Y : w.heap.size ≤ v8.heap.size := B8.out.size
    have n_A_Y : g_A ≠ v8.heap.size := by have h1 := KA8.out.lt; omega
    have n_B_Y : g_B ≠ v8.heap.size := by have h1 := KB8.out.lt; omega
    have n_X_Y : g_X ≠ v8.heap.size := by have h1 := KX8.out.lt; omega
    have n_p_Y : g_p ≠ v8.heap.size := by have h1 := (Op8.out.lt g_p rfl).2; omega
    have n_q_Y : g_q ≠ v8.heap.size := by have h1 := (Oq8.out.lt g_q rfl).2; omega
    have n_x_Y : g_x ≠ v8.heap.size := by have h1 := (Ox8.out.lt g_x rfl).2; omega
    have n_y_Y : g_y ≠ v8.heap.size := by have h1 := (Oy8.out.lt g_y rfl).2; omega
    have Bn := Lib.hid (B8.out.alloc B8.out.size (.cells #[.int .i64 m, .string y, .slice (some ⟨g_y, 0, none⟩) ss.length ss.length, .int .i64 gg, .bool u] 26))
    have KAn := Lib.hid (KA8.out.alloc (.cells #[.int .i64 m, .string y, .slice (some ⟨g_y, 0, none⟩) ss.length ss.length, .int .i64 gg, .bool u] 26))
    have KBn := Lib.hid (KB8.out.alloc (.cells #[.int .i64 m, .string y, .slice (some ⟨g_y, 0, none⟩) ss.length ss.length, .int .i64 gg, .bool u] 26))
    have KXn := Lib.hid (KX8.out.alloc (.cells #[.int .i64 m, .string y, .slice (some ⟨g_y, 0, none⟩) ss.length ss.length, .int .i64 gg, .bool u] 26))
    have Opn := Lib.hid (Op8.out.alloc (.cells #[.int .i64 m, .string y, .slice (some ⟨g_y, 0, none⟩) ss.length ss.length, .int .i64 gg, .bool u] 26))
    have Oqn := Lib.hid (Oq8.out.alloc (.cells #[.int .i64 m, .string y, .slice (some ⟨g_y, 0, none⟩) ss.length ss.length, .int .i64 gg, .bool u] 26))
    have Oxn := Lib.hid (Ox8.out.alloc (.cells #[.int .i64 m, .string y, .slice (some ⟨g_y, 0, none⟩) ss.length ss.length, .int .i64 gg, .bool u] 26))
    have Oyn := Lib.hid (Oy8.out.alloc (.cells #[.int .i64 m, .string y, .slice (some ⟨g_y, 0, none⟩) ss.length ss.length, .int .i64 gg, .bool u] 26))
    clear B8 KA8 KB8 KX8 Op8 Oq8 Ox8 Oy8
    obtain ⟨⟨cA0, cA1, cA2, cA3, cA4⟩, dA0, dA1, dA2, dA3, dA4⟩ := KAn.out.of5
    obtain ⟨⟨cB0, cB1, cB2, cB3, cB4⟩, dB0, dB1, dB2, dB3, dB4⟩ := KBn.out.of5
    obtain ⟨⟨cX0, cX1, cX2, cX3, cX4⟩, dX0, dX1, dX2, dX3, dX4⟩ := KXn.out.of5
    go_wp2_with fail
    clear cA0 cA1 cA2 cA3 cA4 dA0 dA1 dA2 dA3 dA4 cB0 cB1 cB2 cB3 cB4 dB0 dB1 dB2 dB3 dB4 cX0 cX1 cX2 cX3 cX4 dX0 dX1 dX2 dX3 dX4
    change Calls _ _ _ (v8.alloc (.cells #[.int .i64 m, .string y, .slice (some ⟨g_y, 0, none⟩) ss.length ss.length, .int .i64 gg, .bool u] 26)) _
    generalize v8.alloc (.cells #[.int .i64 m, .string y, .slice (some ⟨g_y, 0, none⟩) ss.length ss.length, .int .i64 gg, .bool u] 26) = v9 at KYn Bn KAn KBn KXn Opn Oqn Oxn Oyn ⊢
    generalize v8.heap.size = g_Y at KYn l_Y n_A_Y n_B_Y n_X_Y n_p_Y n_q_Y n_x_Y n_y_Y ⊢
    clear v8
    have KA9 := KAn
    clear KAn
    have KB9 := KBn
    clear KBn
    have KX9 := KXn
    clear KXn
    have KY9 := KYn
    clear KYn
    have Op9 := Opn
    clear Opn
    have Oq9 := Oqn
    clear Oqn
    have Ox9 := Oxn
    clear Oxn
    have Oy9 := Oyn
    clear Oyn
    have B9 := Bn
    clear Bn
    refine (CI.out g_x g_y _ (Row.ownK Ox9.out) (Row.ownK Oy9.out)).mono ?_
    rintro e v10 ⟨rfl, hb⟩
    have B10 := Lib.hid (B9.out.trans (hb.mono B9.out.size))
    have KA10 := Lib.hid (KA9.out.below hb)
    have KB10 := Lib.hid (KB9.out.below hb)
    have KX10 := Lib.hid (KX9.out.below hb)
    have KY10 := Lib.hid (KY9.out.below hb)
    have Op10 := Lib.hid (Op9.out.kept (below_any (row := none) hb) (.inr (by simp [Value.ownBlock])))
    have Oq10 := Lib.hid (Oq9.out.kept (below_any (row := none) hb) (.inr (by simp [Value.ownBlock])))
    have Ox10 := Lib.hid (Ox9.out.kept (below_any (row := none) hb) (.inr (by simp [Value.ownBlock])))
    have Oy10 := Lib.hid (Oy9.out.kept (below_any (row := none) hb) (.inr (by simp [Value.ownBlock])))
    clear hb B9 KA9 KB9 KX9 KY9 Op9 Oq9 Ox9 Oy9
    obtain ⟨⟨cA0, cA1, cA2, cA3, cA4⟩, dA0, dA1, dA2, dA3, dA4⟩ := KA10.out.of5
    obtain ⟨⟨cB0, cB1, cB2, cB3, cB4⟩, dB0, dB1, dB2, dB3, dB4⟩ := KB10.out.of5
    obtain ⟨⟨cX0, cX1, cX2, cX3, cX4⟩, dX0, dX1, dX2, dX3, dX4⟩ := KX10.out.of5
    obtain ⟨⟨cY0, cY1, cY2, cY3, cY4⟩, dY0, dY1, dY2, dY3, dY4⟩ := KY10.out.of5
    go_wp2_with fail
    clear cA0 cA1 cA2 cA3 cA4 dA0 dA1 dA2 dA3 dA4 cB0 cB1 cB2 cB3 cB4 dB0 dB1 dB2 dB3 dB4 cX0 cX1 cX2 cX3 cX4 dX0 dX1 dX2 dX3 dX4 cY0 cY1 cY2 cY3 cY4 dY0 dY1 dY2 dY3 dY4
    obtain ⟨⟨cA0, cA1, cA2, cA3, cA4⟩, dA0, dA1, dA2, dA3, dA4⟩ := KA10.out.of5
    obtain ⟨⟨cX0, cX1, cX2, cX3, cX4⟩, dX0, dX1, dX2, dX3, dX4⟩ := KX10.out.of5
    have P10_0 : True := trivial
    have P10_1 : True := trivial
    go_region_held3 (fun w' => (w'.cell? ⟨g_X, 0, none⟩ = some (.int .i64 n) ∧ w'.cell? ⟨g_X, 1, none⟩ = some (.string d) ∧ w'.cell? ⟨g_X, 2, none⟩ = some (.slice (some ⟨g_x, 0, none⟩) rs.length rs.length) ∧ w'.cell? ⟨g_X, 3, none⟩ = some (.int .i64 f) ∧ w'.cell? ⟨g_X, 4, none⟩ = some (.bool z)) ∧ (w'.cell? ⟨g_A, 0, none⟩ = some (.int .i64 n) ∧ w'.cell? ⟨g_A, 1, none⟩ = some (.string d) ∧ w'.cell? ⟨g_A, 2, none⟩ = some (.slice a rs.length cap) ∧ w'.cell? ⟨g_A, 3, none⟩ = some (.int .i64 f) ∧ w'.cell? ⟨g_A, 4, none⟩ = some (.bool z)))
      (first | go_keep | (exact ⟨KX11.out.of5.1, KA11.out.of5.1⟩) | (exact ⟨KX12.out.of5.1, KA12.out.of5.1⟩))
      (first | (have q := P10_0; go_at_call 29; clear q P10_0; refine (toReceiver_any n f z d a cap rs _ ((HA.out.below B10.out.drew).mono B10.out.drew.size) HLA.out).mono ?_; rintro e v11 ⟨g_c, rfl, ho_c, hb⟩; replace hb := (Below.refl _ v10).drew.trans hb; replace ho_c := own_down ho_c (show v10.heap.size ≤ v10.drew.heap.size from Nat.le_refl _); have n_A_c : g_A ≠ g_c := (by have h1 := KA10.out.lt; have h2 := (ho_c.lt g_c rfl).1; omega); have n_B_c : g_B ≠ g_c := (by have h1 := KB10.out.lt; have h2 := (ho_c.lt g_c rfl).1; omega); have n_X_c : g_X ≠ g_c := (by have h1 := KX10.out.lt; have h2 := (ho_c.lt g_c rfl).1; omega); have n_Y_c : g_Y ≠ g_c := (by have h1 := KY10.out.lt; have h2 := (ho_c.lt g_c rfl).1; omega); have n_p_c : g_p ≠ g_c := (by have h1 := (Op10.out.lt g_p rfl).2; have h2 := (ho_c.lt g_c rfl).1; omega); have n_q_c : g_q ≠ g_c := (by have h1 := (Oq10.out.lt g_q rfl).2; have h2 := (ho_c.lt g_c rfl).1; omega); have n_x_c : g_x ≠ g_c := (by have h1 := (Ox10.out.lt g_x rfl).2; have h2 := (ho_c.lt g_c rfl).1; omega); have n_y_c : g_y ≠ g_c := (by have h1 := (Oy10.out.lt g_y rfl).2; have h2 := (ho_c.lt g_c rfl).1; omega); have l_c : w.heap.size ≤ g_c := Nat.le_trans B10.out.size (ho_c.lt g_c rfl).1; have B11 := Lib.hid (B10.out.trans (hb.mono B10.out.size)); have KA11 := Lib.hid (KA10.out.below hb); have KB11 := Lib.hid (KB10.out.below hb); have KX11 := Lib.hid (KX10.out.below hb); have KY11 := Lib.hid (KY10.out.below hb); have Op11 := Lib.hid (Op10.out.kept (below_any (row := none) hb) (.inr (by simp [Value.ownBlock]))); have Oq11 := Lib.hid (Oq10.out.kept (below_any (row := none) hb) (.inr (by simp [Value.ownBlock]))); have Ox11 := Lib.hid (Ox10.out.kept (below_any (row := none) hb) (.inr (by simp [Value.ownBlock]))); have Oy11 := Lib.hid (Oy10.out.kept (below_any (row := none) hb) (.inr (by simp [Value.ownBlock]))); have Oc11 := Lib.hid (own_down ho_c (Nat.zero_le _)); clear hb B10 KA10 KB10 KX10 KY10 Op10 Oq10 Ox10 Oy10 ho_c) | (have q := P10_1; go_at_call 30; clear q P10_1; refine (eqReceiver_self n f z d (some ⟨g_x, 0, none⟩) (some ⟨g_c, 0, none⟩) rs.length rs.length rs _ (Row.ownK Ox11.out) (Row.ownK Oc11.out) HLA.out).mono ?_; rintro e v12 ⟨rfl, hb⟩; have B12 := Lib.hid (B11.out.trans (hb.mono B11.out.size)); have KA12 := Lib.hid (KA11.out.below hb); have KB12 := Lib.hid (KB11.out.below hb); have KX12 := Lib.hid (KX11.out.below hb); have KY12 := Lib.hid (KY11.out.below hb); have Op12 := Lib.hid (Op11.out.kept (below_any (row := none) hb) (.inr (by simp [Value.ownBlock]))); have Oq12 := Lib.hid (Oq11.out.kept (below_any (row := none) hb) (.inr (by simp [Value.ownBlock]))); have Ox12 := Lib.hid (Ox11.out.kept (below_any (row := none) hb) (.inr (by simp [Value.ownBlock]))); have Oy12 := Lib.hid (Oy11.out.kept (below_any (row := none) hb) (.inr (by simp [Value.ownBlock]))); have Oc12 := Lib.hid (Oc11.out.kept (below_any (row := none) hb) (.inr (by simp [Value.ownBlock]))); clear hb B11 KA11 KB11 KX11 KY11 Op11 Oq11 Ox11 Oy11 Oc11))
    try clear cA0 cA1 cA2 cA3 cA4 dA0 dA1 dA2 dA3 dA4 cX0 cX1 cX2 cX3 cX4 dX0 dX1 dX2 dX3 dX4
    obtain ⟨⟨cA0, cA1, cA2, cA3, cA4⟩, dA0, dA1, dA2, dA3, dA4⟩ := KA12.out.of5
    obtain ⟨⟨cB0, cB1, cB2, cB3, cB4⟩, dB0, dB1, dB2, dB3, dB4⟩ := KB12.out.of5
    obtain ⟨⟨cX0, cX1, cX2, cX3, cX4⟩, dX0, dX1, dX2, dX3, dX4⟩ := KX12.out.of5
    obtain ⟨⟨cY0, cY1, cY2, cY3, cY4⟩, dY0, dY1, dY2, dY3, dY4⟩ := KY12.out.of5
    go_wp2_with fail
    clear cA0 cA1 cA2 cA3 cA4 dA0 dA1 dA2 dA3 dA4 cB0 cB1 cB2 cB3 cB4 dB0 dB1 dB2 dB3 dB4 cX0 cX1 cX2 cX3 cX4 dX0 dX1 dX2 dX3 dX4 cY0 cY1 cY2 cY3 cY4 dY0 dY1 dY2 dY3 dY4
    obtain ⟨⟨cB0, cB1, cB2, cB3, cB4⟩, dB0, dB1, dB2, dB3, dB4⟩ := KB12.out.of5
    obtain ⟨⟨cY0, cY1, cY2, cY3, cY4⟩, dY0, dY1, dY2, dY3, dY4⟩ := KY12.out.of5
    have P12_0 : True := trivial
    have P12_1 : True := trivial
    go_region_held3 (fun w' => (w'.cell? ⟨g_Y, 0, none⟩ = some (.int .i64 m) ∧ w'.cell? ⟨g_Y, 1, none⟩ = some (.string y) ∧ w'.cell? ⟨g_Y, 2, none⟩ = some (.slice (some ⟨g_y, 0, none⟩) ss.length ss.length) ∧ w'.cell? ⟨g_Y, 3, none⟩ = some (.int .i64 gg) ∧ w'.cell? ⟨g_Y, 4, none⟩ = some (.bool u)) ∧ (w'.cell? ⟨g_B, 0, none⟩ = some (.int .i64 m) ∧ w'.cell? ⟨g_B, 1, none⟩ = some (.string y) ∧ w'.cell? ⟨g_B, 2, none⟩ = some (.slice b ss.length dap) ∧ w'.cell? ⟨g_B, 3, none⟩ = some (.int .i64 gg) ∧ w'.cell? ⟨g_B, 4, none⟩ = some (.bool u)))
      (first | go_keep | (exact ⟨KY13.out.of5.1, KB13.out.of5.1⟩) | (exact ⟨KY14.out.of5.1, KB14.out.of5.1⟩))
      (first | (have q := P12_0; go_at_call 29; clear q P12_0; refine (toReceiver_any m gg u y b dap ss _ ((HB.out.below B12.out.drew).mono B12.out.drew.size) HLB.out).mono ?_; rintro e v13 ⟨g_e, rfl, ho_e, hb⟩; replace hb := (Below.refl _ v12).drew.trans hb; replace ho_e := own_down ho_e (show v12.heap.size ≤ v12.drew.heap.size from Nat.le_refl _); have n_A_e : g_A ≠ g_e := (by have h1 := KA12.out.lt; have h2 := (ho_e.lt g_e rfl).1; omega); have n_B_e : g_B ≠ g_e := (by have h1 := KB12.out.lt; have h2 := (ho_e.lt g_e rfl).1; omega); have n_X_e : g_X ≠ g_e := (by have h1 := KX12.out.lt; have h2 := (ho_e.lt g_e rfl).1; omega); have n_Y_e : g_Y ≠ g_e := (by have h1 := KY12.out.lt; have h2 := (ho_e.lt g_e rfl).1; omega); have n_p_e : g_p ≠ g_e := (by have h1 := (Op12.out.lt g_p rfl).2; have h2 := (ho_e.lt g_e rfl).1; omega); have n_q_e : g_q ≠ g_e := (by have h1 := (Oq12.out.lt g_q rfl).2; have h2 := (ho_e.lt g_e rfl).1; omega); have n_x_e : g_x ≠ g_e := (by have h1 := (Ox12.out.lt g_x rfl).2; have h2 := (ho_e.lt g_e rfl).1; omega); have n_y_e : g_y ≠ g_e := (by have h1 := (Oy12.out.lt g_y rfl).2; have h2 := (ho_e.lt g_e rfl).1; omega); have n_c_e : g_c ≠ g_e := (by have h1 := (Oc12.out.lt g_c rfl).2; have h2 := (ho_e.lt g_e rfl).1; omega); have l_e : w.heap.size ≤ g_e := Nat.le_trans B12.out.size (ho_e.lt g_e rfl).1; have B13 := Lib.hid (B12.out.trans (hb.mono B12.out.size)); have KA13 := Lib.hid (KA12.out.below hb); have KB13 := Lib.hid (KB12.out.below hb); have KX13 := Lib.hid (KX12.out.below hb); have KY13 := Lib.hid (KY12.out.below hb); have Op13 := Lib.hid (Op12.out.kept (below_any (row := none) hb) (.inr (by simp [Value.ownBlock]))); have Oq13 := Lib.hid (Oq12.out.kept (below_any (row := none) hb) (.inr (by simp [Value.ownBlock]))); have Ox13 := Lib.hid (Ox12.out.kept (below_any (row := none) hb) (.inr (by simp [Value.ownBlock]))); have Oy13 := Lib.hid (Oy12.out.kept (below_any (row := none) hb) (.inr (by simp [Value.ownBlock]))); have Oc13 := Lib.hid (Oc12.out.kept (below_any (row := none) hb) (.inr (by simp [Value.ownBlock]))); have Oe13 := Lib.hid (own_down ho_e (Nat.zero_le _)); clear hb B12 KA12 KB12 KX12 KY12 Op12 Oq12 Ox12 Oy12 Oc12 ho_e) | (have q := P12_1; go_at_call 30; clear q P12_1; refine (eqReceiver_self m gg u y (some ⟨g_y, 0, none⟩) (some ⟨g_e, 0, none⟩) ss.length ss.length ss _ (Row.ownK Oy13.out) (Row.ownK Oe13.out) HLB.out).mono ?_; rintro e v14 ⟨rfl, hb⟩; have B14 := Lib.hid (B13.out.trans (hb.mono B13.out.size)); have KA14 := Lib.hid (KA13.out.below hb); have KB14 := Lib.hid (KB13.out.below hb); have KX14 := Lib.hid (KX13.out.below hb); have KY14 := Lib.hid (KY13.out.below hb); have Op14 := Lib.hid (Op13.out.kept (below_any (row := none) hb) (.inr (by simp [Value.ownBlock]))); have Oq14 := Lib.hid (Oq13.out.kept (below_any (row := none) hb) (.inr (by simp [Value.ownBlock]))); have Ox14 := Lib.hid (Ox13.out.kept (below_any (row := none) hb) (.inr (by simp [Value.ownBlock]))); have Oy14 := Lib.hid (Oy13.out.kept (below_any (row := none) hb) (.inr (by simp [Value.ownBlock]))); have Oc14 := Lib.hid (Oc13.out.kept (below_any (row := none) hb) (.inr (by simp [Value.ownBlock]))); have Oe14 := Lib.hid (Oe13.out.kept (below_any (row := none) hb) (.inr (by simp [Value.ownBlock]))); clear hb B13 KA13 KB13 KX13 KY13 Op13 Oq13 Ox13 Oy13 Oc13 Oe13))
    try clear cB0 cB1 cB2 cB3 cB4 dB0 dB1 dB2 dB3 dB4 cY0 cY1 cY2 cY3 cY4 dY0 dY1 dY2 dY3 dY4
    obtain ⟨⟨cA0, cA1, cA2, cA3, cA4⟩, dA0, dA1, dA2, dA3, dA4⟩ := KA14.out.of5
    obtain ⟨⟨cB0, cB1, cB2, cB3, cB4⟩, dB0, dB1, dB2, dB3, dB4⟩ := KB14.out.of5
    obtain ⟨⟨cX0, cX1, cX2, cX3, cX4⟩, dX0, dX1, dX2, dX3, dX4⟩ := KX14.out.of5
    obtain ⟨⟨cY0, cY1, cY2, cY3, cY4⟩, dY0, dY1, dY2, dY3, dY4⟩ := KY14.out.of5
    go_wp2_with fail
    go_ret
    exact ⟨rfl, B14.out⟩

theorem walk {w : World} (n : Int) (d : ByteArray) (a : Option Addr) (len cap : Nat) (rs : List HP) (f : Int) (z : Bool) (m : Int) (y : ByteArray) (b : Option Addr) (len2 dap : Nat) (ss : List HP) (gg : Int) (u : Bool) (h : LawR w n d a len cap rs f z) (h2 : LawR w m y b len2 dap ss gg u) : Calls Try.prog 11 #[.agg #[.int .i64 n, .string d, .slice a len cap, .int .i64 f, .bool z], .agg #[.int .i64 m, .string y, .slice b len2 dap, .int .i64 gg, .bool u]] w (OkB w) := by
  obtain ⟨⟨_, hd, _, _⟩, ⟨rfl, h1, h2', h3⟩, hrow⟩ := h
  obtain ⟨⟨_, hd2, _, _⟩, ⟨rfl, k1, k2, k3⟩, hrow2⟩ := h2
  exact go n f z d a cap rs m gg u y b dap ss w hrow hd (Nat.le_trans h1 h2') (fun r hr => (h3 r hr).2) hrow2 hd2 (Nat.le_trans k1 k2) (fun r hr => (k3 r hr).2)
theorem own : ownKnob Try.prog.godebug = none := by kernel_rfl
theorem laidOut : laidOutB Try.prog = true := by kernel_rfl

set_option maxRecDepth 100000 in
theorem lifted (os : Os) (started : os.Started) (H : Type) (enc : TypeId × Value → H) :
    ReturnsInHanded {} Try.checked os 11 .any (Rows.fnExactSameReceiverSpec.pre6 enc Try.prog Try.f11 Rows.fnExactSameReceiverRow.domain false) (Rows.fnExactSameReceiverSpec.post enc Try.prog Try.f11 false true false false) := by
  refine returnsInHanded_of_change (C := Try.checked) own started (by kernel_rfl) Try.func11
    (ChangeSpec.witness6 (enc := enc) (C := Try.checked) false ⟨#[], #[.agg #[.int .i64 0, .string ByteArray.empty, .slice none 0 0, .int .i64 0, .bool false], .agg #[.int .i64 0, .string ByteArray.empty, .slice none 0 0, .int .i64 0, .bool false]], []⟩ 8 (by kernel_rfl) (by kernel_rfl) (by kernel_rfl) (by kernel_rfl)) ?_
  intro W base args ds gs before hval0 hW _ _
  have hval : ∀ (j : Nat) t v, Try.f11.params[j]? = some t → args[j]? = some v → Value.okWide Try.prog W .any base t v := hval0
  have hW' := hW
  obtain ⟨p, q, hA0, hV, rfl, _, _⟩ := hW
  have hA : DataW.TrodAll enc Try.prog W 0 (fun _ => true) true Try.f11.params.toList args.toList ds p := hA0
  rw [Try.params11] at hA hval
  obtain ⟨v0, vs0, d0, ds0, p0, q0, hargs, rfl, rfl, h0, r0⟩ := trodAll_cons hA
  obtain ⟨v1, vs1, d1, ds1, p1, q1, rfl, rfl, rfl, h1, r1⟩ := trodAll_cons r0
  obtain ⟨rfl, rfl, rfl⟩ := trodAll_nil r1
  obtain rfl : args = #[v0, v1] := by cases args; simp_all
  obtain ⟨rfl, rfl⟩ := trodVars_none hV
  have k0 := h0
  have lt0 : ∀ x ∈ p0, x.block < W.heap.size := by obtain ⟨m, hm⟩ := k0; exact DataW.trod_lt m _ _ _ hm
  obtain ⟨n0, d0, a0, len0, cap0, s0, f0, z0, rfl, w0⟩ := argRcv (hval 0 42 v0 rfl rfl) h0
  have k1 := h1
  have lt1 : ∀ x ∈ p1, x.block < W.heap.size := by obtain ⟨m, hm⟩ := k1; exact DataW.trod_lt m _ _ _ hm
  obtain ⟨n1, d1, a1, len1, cap1, s1, f1, z1, rfl, w1⟩ := argRcv (hval 1 42 v1 rfl rfl) h1
  clear hA0 hval0
  refine (walk n0 d0 a0 len0 cap0 s0 f0 z0 n1 d1 a1 len1 cap1 s1 f1 z1 w0 w1).mono fun e W' ⟨he, bel⟩ => ?_
  subst he
  exact ⟨_, rfl, _, _, _, [], _, [], hW', trodAll_mk1 (shut_bool Try.underlying4 _), (trodAll_cons_mk (Below.trod laidOut (by kernel_rfl) (of_decide_eq_true (by kernel_rfl)) k0 bel lt0) (trodAll_cons_mk (Below.trod laidOut (by kernel_rfl) (of_decide_eq_true (by kernel_rfl)) k1 bel lt1) trodAll_mk0)), rfl, bel.frame _, fun h => by cases h⟩

theorem over : Rows.fnExactSameReceiverRow.holds Try.pinned (OpenSpec.ofChange Rows.fnExactSameReceiverSpec) :=
  OpenClaim.holds_of_wide 11 Try.f11 rfl rfl rfl rfl rfl rfl rfl ⟨rfl, rfl, rfl, rfl, rfl⟩ rfl rfl rfl rfl rfl (by kernel_rfl) Try.func11 (by kernel_rfl)
    (of_decide_eq_true (by kernel_rfl)) (by unfold Func.isWrapper; first | (rw [if_pos (by decide +kernel)]; kernel_rfl) | (rw [if_neg (by decide +kernel)]; exact ⟨rfl, rfl⟩))
    (fun os started H enc _ => lifted os started H enc)

theorem proved : Rows.FnExactSameReceiverSaid := over
#print axioms proved
end Go.Proofs.Ytgneinjnkmaecaa.fnExactSameReceiver
