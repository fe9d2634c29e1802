/- The law FnExactWindowOf holds for every argument (up to the law's own measure of 1048576 pieces and bytes; past it the law itself answers true): impl's WindowOf answers as the model's and leaves its argument. No condition. -/
import Derived.Test.YtgneinjnkmaecaaRows
import Derived.Test.YtgneinjnkmaecaaRcvOkI
import Derived.Test.YtgneinjnkmaecaaRcvOkS
import Derived.Test.YtgneinjnkmaecaaRcvLaw2
import Derived.Test.YtgneinjnkmaecaaArgRcv
import Derived.Deep.RegionHeld3
import Derived.ProofKit
import Derived.OpenShut
import Derived.ShutString
import Derived.ChangeSame
namespace Go.Proofs.Ytgneinjnkmaecaa.fnExactWindowOf
open Go.ChangeShapes Go.WideShapes Go.ChangeAt Go.RowKit Go.Lib
open Go.ChangeMaps (open_string shut_string)

/-- The law's word: true, and what lay before the call lies as it lay. -/
def OkB (w : World) (e : Ending) (w' : World) : Prop := e = .returned (.bool true) ∧ Below w.heap.size w w'

set_option maxRecDepth 100000 in
set_option maxHeartbeats 8000000 in
theorem go (n f : Int) (z : Bool) (d : ByteArray) (a : Option Addr) (cap : Nat) (rs : List HP) (w : World) (hrowA : Row w w.heap.size a (hps rs)) (hdA : d.size ≤ maxLen) (hmA : rs.length ≤ maxLen) (hgA : ∀ r ∈ rs, r.t.size ≤ maxLen) :
    Calls Try.prog 8 #[.agg #[.int .i64 n, .string d, .slice a rs.length cap, .int .i64 f, .bool z]] w (OkB w) := by
  have HA := Lib.hid hrowA
  replace hdA := Lib.hid hdA
  replace hmA := Lib.hid hmA
  replace hgA := Lib.hid hgA
  clear hrowA
  go_enter Try.func8, Try.ntmps8
  have B0 := Lib.hid (show Below w.heap.size w (w.alloc (.cells #[.int .i64 n, .string d, .slice a rs.length cap, .int .i64 f, .bool z] 42)) from ((Below.refl _ w).alloc (by simp) _))
  have KA0 := Lib.hid (show Blk (w.alloc (.cells #[.int .i64 n, .string d, .slice a rs.length cap, .int .i64 f, .bool z] 42)) (w.heap.size) [.int .i64 n, .string d, .slice a rs.length cap, .int .i64 f, .bool z] from Blk.new w [.int .i64 n, .string d, .slice a rs.length cap, .int .i64 f, .bool z] 42)
  go_wp2_with fail
  change Calls _ _ _ (w.alloc (.cells #[.int .i64 n, .string d, .slice a rs.length cap, .int .i64 f, .bool z] 42)) _
  generalize w.alloc (.cells #[.int .i64 n, .string d, .slice a rs.length cap, .int .i64 f, .bool z] 42) = v0 at B0 KA0 ⊢
  generalize hh_A : w.heap.size = g_A at KA0 ⊢
  have l_A : w.heap.size ≤ g_A := by omega
  clear hh_A
  refine (szReceiver_any n f z d a cap rs 1048576 _ ((HA.out.below B0.out).mono B0.out.size) hdA.out hmA.out hgA.out (by omega) (by omega)).mono ?_
  rintro e v1 ⟨hb, qA, rfl, hqA, hrA⟩
  have B1 := Lib.hid (B0.out.trans (hb.mono B0.out.size))
  have KA1 := Lib.hid (KA0.out.below hb)
  clear hb B0 KA0
  replace hrA := Lib.hid hrA
  by_cases hzA : qA < 0
  case pos =>
    clear hrA
    obtain ⟨⟨cA0, cA1, cA2, cA3, cA4⟩, dA0, dA1, dA2, dA3, dA4⟩ := KA1.out.of5
    go_wp2_with fail
    go_ret
    exact ⟨rfl, B1.out⟩
  have hsA := hrA.out (by omega)
  have HLA := Lib.hid (show rs.length ≤ 1048576 by omega)
  have HBA := Lib.hid (show RB d rs from ⟨by omega, by omega, fun r hr => by have := plens_mem rs r hr; omega⟩)
  replace hsA := Lib.hid hsA
  clear hrA
  obtain ⟨⟨cA0, cA1, cA2, cA3, cA4⟩, dA0, dA1, dA2, dA3, dA4⟩ := KA1.out.of5
  go_wp2_with fail
  clear cA0 cA1 cA2 cA3 cA4 dA0 dA1 dA2 dA3 dA4
  refine (toReceiver_any n f z d a cap rs _ ((HA.out.below B1.out).mono B1.out.size) HLA.out).mono ?_
  rintro e v2 ⟨g_t, rfl, ho_t, hb⟩
  have n_A_t : g_A ≠ g_t := by have h1 := KA1.out.lt; have h2 := (ho_t.lt g_t rfl).1; omega
  have l_t : w.heap.size ≤ g_t := Nat.le_trans B1.out.size (ho_t.lt g_t rfl).1
  have B2 := Lib.hid (B1.out.trans (hb.mono B1.out.size))
  have KA2 := Lib.hid (KA1.out.below hb)
  have Ot2 := Lib.hid (own_down ho_t (Nat.zero_le _))
  clear hb B1 KA1 ho_t
  obtain ⟨⟨cA0, cA1, cA2, cA3, cA4⟩, dA0, dA1, dA2, dA3, dA4⟩ := KA2.out.of5
  go_wp2_with fail
  clear cA0 cA1 cA2 cA3 cA4 dA0 dA1 dA2 dA3 dA4
  refine (windowS n f z d (some ⟨g_t, 0, none⟩) rs.length rs HBA.out.1 _).mono ?_
  rintro e v3 ⟨rfl, hb⟩
  have B3 := Lib.hid (B2.out.trans (hb.mono B2.out.size))
  have KA3 := Lib.hid (KA2.out.below hb)
  have Ot3 := Lib.hid (Ot2.out.kept (below_any (row := none) hb) (.inr (by simp [Value.ownBlock])))
  clear hb B2 KA2 Ot2
  obtain ⟨⟨cA0, cA1, cA2, cA3, cA4⟩, dA0, dA1, dA2, dA3, dA4⟩ := KA3.out.of5
  go_wp2_with fail
  clear cA0 cA1 cA2 cA3 cA4 dA0 dA1 dA2 dA3 dA4
  refine (toReceiver_any n f z d a cap rs _ ((HA.out.below B3.out).mono B3.out.size) HLA.out).mono ?_
  rintro e v4 ⟨g_x, rfl, ho_x, hb⟩
  have n_A_x : g_A ≠ g_x := by have h1 := KA3.out.lt; have h2 := (ho_x.lt g_x rfl).1; omega
  have n_t_x : g_t ≠ g_x := by have h1 := (Ot3.out.lt g_t rfl).2; have h2 := (ho_x.lt g_x rfl).1; omega
  have l_x : w.heap.size ≤ g_x := Nat.le_trans B3.out.size (ho_x.lt g_x rfl).1
  have B4 := Lib.hid (B3.out.trans (hb.mono B3.out.size))
  have KA4 := Lib.hid (KA3.out.below hb)
  have Ot4 := Lib.hid (Ot3.out.kept (below_any (row := none) hb) (.inr (by simp [Value.ownBlock])))
  have Ox4 := Lib.hid (own_down ho_x (Nat.zero_le _))
  clear hb B3 KA3 Ot3 ho_x
  have KXn := Lib.hid (Blk.new v4 [.int .i64 n, .string d, .slice (some ⟨g_x, 0, none⟩) rs.length rs.length, .int .i64 f, .bool z] 26)
  have l_X : w.heap.size ≤ v4.heap.size := B4.out.size
  have n_A_X : g_A ≠ v4.heap.size := by have h1 := KA4.out.lt; omega
  have n_t_X : g_t ≠ v4.heap.size := by have h1 := (Ot4.out.lt g_t rfl).2; omega
  have n_x_X : g_x ≠ v4.heap.size := by have h1 := (Ox4.out.lt g_x rfl).2; omega
  have Bn := Lib.hid (B4.out.alloc B4.out.size (.cells #[.int .i64 n, .string d, .slice (some ⟨g_x, 0, none⟩) rs.length rs.length, .int .i64 f, .bool z] 26))
  have KAn := Lib.hid (KA4.out.alloc (.cells #[.int .i64 n, .string d, .slice (some ⟨g_x, 0, none⟩) rs.length rs.length, .int .i64 f, .bool z] 26))
  have Otn := Lib.hid (Ot4.out.alloc (.cells #[.int .i64 n, .string d, .slice (some ⟨g_x, 0, none⟩) rs.length rs.length, .int .i64 f, .bool z] 26))
  have Oxn := Lib.hid (Ox4.out.alloc (.cells #[.int .i64 n, .string d, .slice (some ⟨g_x, 0, none⟩) rs.length rs.length, .int .i64 f, .bool z] 26))
  clear B4 KA4 Ot4 Ox4
  obtain ⟨⟨cA0, cA1, cA2, cA3, cA4⟩, dA0, dA1, dA2, dA3, dA4⟩ := KAn.out.of5
  go_wp2_with fail
  clear cA0 cA1 cA2 cA3 cA4 dA0 dA1 dA2 dA3 dA4
  change Calls _ _ _ (v4.alloc (.cells #[.int .i64 n, .string d, .slice (some ⟨g_x, 0, none⟩) rs.length rs.length, .int .i64 f, .bool z] 26)) _
  generalize v4.alloc (.cells #[.int .i64 n, .string d, .slice (some ⟨g_x, 0, none⟩) rs.length rs.length, .int .i64 f, .bool z] 26) = v5 at KXn Bn KAn Otn Oxn ⊢
  generalize v4.heap.size = g_X at KXn l_X n_A_X n_t_X n_x_X ⊢
  clear v4
  have KA5 := KAn
  clear KAn
  have KX5 := KXn
  clear KXn
  have Ot5 := Otn
  clear Otn
  have Ox5 := Oxn
  clear Oxn
  have B5 := Bn
  clear Bn
  refine (windowI n f z d (some ⟨g_x, 0, none⟩) rs.length rs HBA.out.1 _).mono ?_
  rintro e v6 ⟨rfl, hb⟩
  have B6 := Lib.hid (B5.out.trans (hb.mono B5.out.size))
  have KA6 := Lib.hid (KA5.out.below hb)
  have KX6 := Lib.hid (KX5.out.below hb)
  have Ot6 := Lib.hid (Ot5.out.kept (below_any (row := none) hb) (.inr (by simp [Value.ownBlock])))
  have Ox6 := Lib.hid (Ox5.out.kept (below_any (row := none) hb) (.inr (by simp [Value.ownBlock])))
  clear hb B5 KA5 KX5 Ot5 Ox5
  obtain ⟨⟨cA0, cA1, cA2, cA3, cA4⟩, dA0, dA1, dA2, dA3, dA4⟩ := KA6.out.of5
  obtain ⟨⟨cX0, cX1, cX2, cX3, cX4⟩, dX0, dX1, dX2, dX3, dX4⟩ := KX6.out.of5
  go_wp2_with fail
  clear cA0 cA1 cA2 cA3 cA4 dA0 dA1 dA2 dA3 dA4 cX0 cX1 cX2 cX3 cX4 dX0 dX1 dX2 dX3 dX4
  obtain ⟨⟨cA0, cA1, cA2, cA3, cA4⟩, dA0, dA1, dA2, dA3, dA4⟩ := KA6.out.of5
  obtain ⟨⟨cX0, cX1, cX2, cX3, cX4⟩, dX0, dX1, dX2, dX3, dX4⟩ := KX6.out.of5
  have P6_0 : True := trivial
  have P6_1 : True := trivial
  go_region_held3 (fun w' => (w'.cell? ⟨g_X, 0, none⟩ = some (.int .i64 n) ∧ w'.cell? ⟨g_X, 1, none⟩ = some (.string d) ∧ w'.cell? ⟨g_X, 2, none⟩ = some (.slice (some ⟨g_x, 0, none⟩) rs.length rs.length) ∧ w'.cell? ⟨g_X, 3, none⟩ = some (.int .i64 f) ∧ w'.cell? ⟨g_X, 4, none⟩ = some (.bool z)) ∧ (w'.cell? ⟨g_A, 0, none⟩ = some (.int .i64 n) ∧ w'.cell? ⟨g_A, 1, none⟩ = some (.string d) ∧ w'.cell? ⟨g_A, 2, none⟩ = some (.slice a rs.length cap) ∧ w'.cell? ⟨g_A, 3, none⟩ = some (.int .i64 f) ∧ w'.cell? ⟨g_A, 4, none⟩ = some (.bool z)))
    (first | go_keep | (exact ⟨KX7.out.of5.1, KA7.out.of5.1⟩) | (exact ⟨KX8.out.of5.1, KA8.out.of5.1⟩))
    (first | (have q := P6_0; go_at_call 29; clear q P6_0; refine (toReceiver_any n f z d a cap rs _ ((HA.out.below B6.out.drew).mono B6.out.drew.size) HLA.out).mono ?_; rintro e v7 ⟨g_zz, rfl, ho_zz, hb⟩; replace hb := (Below.refl _ v6).drew.trans hb; replace ho_zz := own_down ho_zz (show v6.heap.size ≤ v6.drew.heap.size from Nat.le_refl _); have n_A_zz : g_A ≠ g_zz := (by have h1 := KA6.out.lt; have h2 := (ho_zz.lt g_zz rfl).1; omega); have n_X_zz : g_X ≠ g_zz := (by have h1 := KX6.out.lt; have h2 := (ho_zz.lt g_zz rfl).1; omega); have n_t_zz : g_t ≠ g_zz := (by have h1 := (Ot6.out.lt g_t rfl).2; have h2 := (ho_zz.lt g_zz rfl).1; omega); have n_x_zz : g_x ≠ g_zz := (by have h1 := (Ox6.out.lt g_x rfl).2; have h2 := (ho_zz.lt g_zz rfl).1; omega); have l_zz : w.heap.size ≤ g_zz := Nat.le_trans B6.out.size (ho_zz.lt g_zz rfl).1; have B7 := Lib.hid (B6.out.trans (hb.mono B6.out.size)); have KA7 := Lib.hid (KA6.out.below hb); have KX7 := Lib.hid (KX6.out.below hb); have Ot7 := Lib.hid (Ot6.out.kept (below_any (row := none) hb) (.inr (by simp [Value.ownBlock]))); have Ox7 := Lib.hid (Ox6.out.kept (below_any (row := none) hb) (.inr (by simp [Value.ownBlock]))); have Ozz7 := Lib.hid (own_down ho_zz (Nat.zero_le _)); clear hb B6 KA6 KX6 Ot6 Ox6 ho_zz) | (have q := P6_1; go_at_call 30; clear q P6_1; refine (eqReceiver_self n f z d (some ⟨g_x, 0, none⟩) (some ⟨g_zz, 0, none⟩) rs.length rs.length rs _ (Row.ownK Ox7.out) (Row.ownK Ozz7.out) HLA.out).mono ?_; rintro e v8 ⟨rfl, hb⟩; have B8 := Lib.hid (B7.out.trans (hb.mono B7.out.size)); have KA8 := Lib.hid (KA7.out.below hb); have KX8 := Lib.hid (KX7.out.below hb); have Ot8 := Lib.hid (Ot7.out.kept (below_any (row := none) hb) (.inr (by simp [Value.ownBlock]))); have Ox8 := Lib.hid (Ox7.out.kept (below_any (row := none) hb) (.inr (by simp [Value.ownBlock]))); have Ozz8 := Lib.hid (Ozz7.out.kept (below_any (row := none) hb) (.inr (by simp [Value.ownBlock]))); clear hb B7 KA7 KX7 Ot7 Ox7 Ozz7))
  try clear cA0 cA1 cA2 cA3 cA4 dA0 dA1 dA2 dA3 dA4 cX0 cX1 cX2 cX3 cX4 dX0 dX1 dX2 dX3 dX4
  obtain ⟨⟨cA0, cA1, cA2, cA3, cA4⟩, dA0, dA1, dA2, dA3, dA4⟩ := KA8.out.of5
  obtain ⟨⟨cX0, cX1, cX2, cX3, cX4⟩, dX0, dX1, dX2, dX3, dX4⟩ := KX8.out.of5
  go_wp2_with fail
  go_ret
  exact ⟨rfl, B8.out⟩

theorem walk {w : World} (n : Int) (d : ByteArray) (a : Option Addr) (len cap : Nat) (rs : List HP) (f : Int) (z : Bool) (h : LawR w n d a len cap rs f z) : Calls Try.prog 8 #[.agg #[.int .i64 n, .string d, .slice a len cap, .int .i64 f, .bool z]] w (OkB w) := by
  obtain ⟨⟨_, hd, _, _⟩, ⟨rfl, h1, h2, h3⟩, hrow⟩ := h
  exact go n f z d a cap rs w hrow hd (Nat.le_trans h1 h2) (fun r hr => (h3 r hr).2)
theorem own : ownKnob Try.prog.godebug = none := by kernel_rfl
theorem laidOut : laidOutB Try.prog = true := by kernel_rfl

set_option maxRecDepth 100000 in
theorem lifted (os : Os) (started : os.Started) (H : Type) (enc : TypeId × Value → H) :
    ReturnsInHanded {} Try.checked os 8 .any (Rows.fnExactWindowOfSpec.pre6 enc Try.prog Try.f8 Rows.fnExactWindowOfRow.domain false) (Rows.fnExactWindowOfSpec.post enc Try.prog Try.f8 false true false false) := by
  refine returnsInHanded_of_change (C := Try.checked) own started (by kernel_rfl) Try.func8
    (ChangeSpec.witness6 (enc := enc) (C := Try.checked) false ⟨#[], #[.agg #[.int .i64 0, .string ByteArray.empty, .slice none 0 0, .int .i64 0, .bool false]], []⟩ 8 (by kernel_rfl) (by kernel_rfl) (by kernel_rfl) (by kernel_rfl)) ?_
  intro W base args ds gs before hval0 hW _ _
  have hval : ∀ (j : Nat) t v, Try.f8.params[j]? = some t → args[j]? = some v → Value.okWide Try.prog W .any base t v := hval0
  have hW' := hW
  obtain ⟨p, q, hA0, hV, rfl, _, _⟩ := hW
  have hA : DataW.TrodAll enc Try.prog W 0 (fun _ => true) true Try.f8.params.toList args.toList ds p := hA0
  rw [Try.params8] at hA hval
  obtain ⟨v0, vs0, d0, ds0, p0, q0, hargs, rfl, rfl, h0, r0⟩ := trodAll_cons hA
  obtain ⟨rfl, rfl, rfl⟩ := trodAll_nil r0
  obtain rfl : args = #[v0] := by cases args; simp_all
  obtain ⟨rfl, rfl⟩ := trodVars_none hV
  have k0 := h0
  have lt0 : ∀ x ∈ p0, x.block < W.heap.size := by obtain ⟨m, hm⟩ := k0; exact DataW.trod_lt m _ _ _ hm
  obtain ⟨n0, d0, a0, len0, cap0, s0, f0, z0, rfl, w0⟩ := argRcv (hval 0 42 v0 rfl rfl) h0
  clear hA0 hval0
  refine (walk n0 d0 a0 len0 cap0 s0 f0 z0 w0).mono fun e W' ⟨he, bel⟩ => ?_
  subst he
  exact ⟨_, rfl, _, _, _, [], _, [], hW', trodAll_mk1 (shut_bool Try.underlying4 _), (trodAll_cons_mk (Below.trod laidOut (by kernel_rfl) (of_decide_eq_true (by kernel_rfl)) k0 bel lt0) trodAll_mk0), rfl, bel.frame _, fun h => by cases h⟩

theorem over : Rows.fnExactWindowOfRow.holds Try.pinned (OpenSpec.ofChange Rows.fnExactWindowOfSpec) :=
  OpenClaim.holds_of_wide 8 Try.f8 rfl rfl rfl rfl rfl rfl rfl ⟨rfl, rfl, rfl, rfl, rfl⟩ rfl rfl rfl rfl rfl (by kernel_rfl) Try.func8 (by kernel_rfl)
    (of_decide_eq_true (by kernel_rfl)) (by unfold Func.isWrapper; first | (rw [if_pos (by decide +kernel)]; kernel_rfl) | (rw [if_neg (by decide +kernel)]; exact ⟨rfl, rfl⟩))
    (fun os started H enc _ => lifted os started H enc)

theorem proved : Rows.FnExactWindowOfSaid := over
#print axioms proved
end Go.Proofs.Ytgneinjnkmaecaa.fnExactWindowOf
