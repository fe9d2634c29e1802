/- The law FnExactMacOk holds for every Mac (up to the law's own measure of 1048576 rows and bytes; past it the law itself answers true): impl's MacOk answers as the model's and leaves its arguments. No condition. -/
import Derived.Test.YtkmflfmbmmpohaaRows
import Derived.Test.YtkmflfmbmmpohaaMacOkS
import Derived.Test.YtkmflfmbmmpohaaArgMac
import Derived.Test.YtkmflfmbmmpohaaMacLaw2
import Derived.Test.YtkmflfmbmmpohaaOpenM
import Derived.Deep.RegionHeld3
import Derived.ProofKit
import Derived.OpenShut
import Derived.ShutString
import Derived.ChangeSame
namespace Go.Proofs.Ytkmflfmbmmpohaa.fnExactMacOk
open Go.ChangeShapes Go.WideShapes Go.ChangeAt Go.RowKit Go.Lib

/-- The law's word: true, and what lay before the call lies as it lay. -/
def OkB (w : World) (e : Ending) (w' : World) : Prop := e = .returned (.bool true) ∧ Below w.heap.size w w'

set_option maxRecDepth 100000 in
set_option maxHeartbeats 8000000 in
theorem go (uA : Bool) (kA lA : Int) (a : Option Addr) (cA : Nat) (rs : List MR) (w : World) (hrow : Row w w.heap.size a (mrs rs)) (hl : rs.length ≤ maxLen) (hg : ∀ r ∈ rs, goodM r) :
    Calls Try.prog 4 #[.agg #[.bool uA, .int .u64 kA, .int .u64 lA, .slice a rs.length cA]] w (OkB w) := by
  have HA := Lib.hid hrow
  have HL := Lib.hid hl
  have HG := Lib.hid hg
  have HZ := Lib.hid (fun r hr => (hg r hr).1)
  clear hrow hl hg
  go_enter Try.func4, Try.ntmps4
  have B0 := Lib.hid (show Below w.heap.size w (w.alloc (.cells #[.bool uA, .int .u64 kA, .int .u64 lA, .slice a rs.length cA] 38)) from ((Below.refl _ w).alloc (by simp) _))
  have KA0 := Lib.hid (show Blk (w.alloc (.cells #[.bool uA, .int .u64 kA, .int .u64 lA, .slice a rs.length cA] 38)) (w.heap.size) [.bool uA, .int .u64 kA, .int .u64 lA, .slice a rs.length cA] from Blk.new w [.bool uA, .int .u64 kA, .int .u64 lA, .slice a rs.length cA] 38)
  go_wp2_with fail
  change Calls _ _ _ (w.alloc (.cells #[.bool uA, .int .u64 kA, .int .u64 lA, .slice a rs.length cA] 38)) _
  generalize w.alloc (.cells #[.bool uA, .int .u64 kA, .int .u64 lA, .slice a rs.length cA] 38) = v0 at B0 KA0 ⊢
  generalize w.heap.size = g_A at KA0 ⊢
  refine (szMac_any uA kA lA a cA rs 1048576 _ ((HA.out.below B0.out).mono B0.out.size) HL.out HZ.out (by decide) (by decide)).mono ?_
  rintro e v1 ⟨hb, r, rfl, hr1, hr2⟩
  have B1 := Lib.hid (B0.out.trans (hb.mono B0.out.size))
  have KA1 := Lib.hid (KA0.out.below hb)
  clear hb B0 KA0
  have HR := Lib.hid hr2
  clear hr2
  obtain ⟨⟨cA0, cA1, cA2, cA3⟩, dA0, dA1, dA2, dA3⟩ := KA1.out.four
  by_cases hneg : r < 0
  · go_wp2_with fail
    go_ret
    exact ⟨rfl, B1.out⟩
  have hn := Lib.hid (show rs.length ≤ 1048576 by have := HR.out (by omega); omega)
  clear HR
  go_wp2_with fail
  clear hr1 hneg
  clear cA0 cA1 cA2 cA3 dA0 dA1 dA2 dA3
  obtain ⟨m, hm⟩ : ∃ m, Hid (macOk uA kA lA rs = m) := ⟨_, rfl⟩
  refine (toMac_any uA kA lA a cA rs _ ((HA.out.below B1.out).mono B1.out.size) hn.out).mono ?_
  rintro e v2 ⟨g_p, rfl, ho_p, hb⟩
  have n_A_p : g_A ≠ g_p := by have h1 := KA1.out.lt; have h2 := (ho_p.lt g_p rfl).1; omega
  have l_p : w.heap.size ≤ g_p := Nat.le_trans B1.out.size (ho_p.lt g_p rfl).1
  have B2 := Lib.hid (B1.out.trans (hb.mono B1.out.size))
  have KA2 := Lib.hid (KA1.out.below hb)
  have Op2 := Lib.hid (own_down ho_p (Nat.zero_le _))
  clear hb B1 KA1 ho_p
  obtain ⟨⟨cA0, cA1, cA2, cA3⟩, dA0, dA1, dA2, dA3⟩ := KA2.out.four
  go_wp2_with fail
  clear cA0 cA1 cA2 cA3 dA0 dA1 dA2 dA3
  refine (macOkS uA kA lA (some ⟨g_p, 0, none⟩) rs.length rs (Nat.le_succ_of_le hn.out) _ (Row.ownK Op2.out)).mono ?_
  rintro e v3 ⟨rfl, hb⟩
  have B3 := Lib.hid (B2.out.trans (hb.mono B2.out.size))
  have KA3 := Lib.hid (KA2.out.below hb)
  have Op3 := Lib.hid (Op2.out.kept (below_any (row := none) hb) (.inr (by simp [Value.ownBlock])))
  clear hb B2 KA2 Op2
  rw [hm.out]
  obtain ⟨⟨cA0, cA1, cA2, cA3⟩, dA0, dA1, dA2, dA3⟩ := KA3.out.four
  go_wp2_with fail
  clear cA0 cA1 cA2 cA3 dA0 dA1 dA2 dA3
  refine (toMac_any uA kA lA a cA rs _ ((HA.out.below B3.out).mono B3.out.size) hn.out).mono ?_
  rintro e v4 ⟨g_x, rfl, ho_x, hb⟩
  have n_A_x : g_A ≠ g_x := by have h1 := KA3.out.lt; have h2 := (ho_x.lt g_x rfl).1; omega
  have n_p_x : g_p ≠ g_x := by have h1 := (Op3.out.lt g_p rfl).2; have h2 := (ho_x.lt g_x rfl).1; omega
  have l_x : w.heap.size ≤ g_x := Nat.le_trans B3.out.size (ho_x.lt g_x rfl).1
  have B4 := Lib.hid (B3.out.trans (hb.mono B3.out.size))
  have KA4 := Lib.hid (KA3.out.below hb)
  have Op4 := Lib.hid (Op3.out.kept (below_any (row := none) hb) (.inr (by simp [Value.ownBlock])))
  have Ox4 := Lib.hid (own_down ho_x (Nat.zero_le _))
  clear hb B3 KA3 Op3 ho_x
  have KXn := Lib.hid (Blk.new v4 [.bool uA, .int .u64 kA, .int .u64 lA, .slice (some ⟨g_x, 0, none⟩) rs.length rs.length] 27)
  have n_A_X : g_A ≠ v4.heap.size := by have h1 := KA4.out.lt; omega
  have n_p_X : g_p ≠ v4.heap.size := by have h1 := (Op4.out.lt g_p rfl).2; omega
  have n_x_X : g_x ≠ v4.heap.size := by have h1 := (Ox4.out.lt g_x rfl).2; omega
  have Bn := Lib.hid (B4.out.alloc B4.out.size (.cells #[.bool uA, .int .u64 kA, .int .u64 lA, .slice (some ⟨g_x, 0, none⟩) rs.length rs.length] 27))
  have KAn := Lib.hid (KA4.out.alloc (.cells #[.bool uA, .int .u64 kA, .int .u64 lA, .slice (some ⟨g_x, 0, none⟩) rs.length rs.length] 27))
  have Opn := Lib.hid (Op4.out.alloc (.cells #[.bool uA, .int .u64 kA, .int .u64 lA, .slice (some ⟨g_x, 0, none⟩) rs.length rs.length] 27))
  have Oxn := Lib.hid (Ox4.out.alloc (.cells #[.bool uA, .int .u64 kA, .int .u64 lA, .slice (some ⟨g_x, 0, none⟩) rs.length rs.length] 27))
  clear B4 KA4 Op4 Ox4
  obtain ⟨⟨cA0, cA1, cA2, cA3⟩, dA0, dA1, dA2, dA3⟩ := KAn.out.four
  go_wp2_with fail
  clear cA0 cA1 cA2 cA3 dA0 dA1 dA2 dA3
  change Calls _ _ _ (v4.alloc (.cells #[.bool uA, .int .u64 kA, .int .u64 lA, .slice (some ⟨g_x, 0, none⟩) rs.length rs.length] 27)) _
  generalize v4.alloc (.cells #[.bool uA, .int .u64 kA, .int .u64 lA, .slice (some ⟨g_x, 0, none⟩) rs.length rs.length] 27) = v5 at KXn Bn KAn Opn Oxn ⊢
  generalize v4.heap.size = g_X at KXn n_A_X n_p_X n_x_X ⊢
  clear v4
  have KA5 := KAn
  clear KAn
  have KX5 := KXn
  clear KXn
  have Op5 := Opn
  clear Opn
  have Ox5 := Oxn
  clear Oxn
  have B5 := Bn
  clear Bn
  refine (macOkI uA kA lA (some ⟨g_x, 0, none⟩) rs.length rs (Nat.le_succ_of_le hn.out) HG.out _ (Row.ownK Ox5.out)).mono ?_
  rintro e v6 ⟨rfl, hb⟩
  have B6 := Lib.hid (B5.out.trans (hb.mono B5.out.size))
  have KA6 := Lib.hid (KA5.out.below hb)
  have KX6 := Lib.hid (KX5.out.below hb)
  have Op6 := Lib.hid (Op5.out.kept (below_any (row := none) hb) (.inr (by simp [Value.ownBlock])))
  have Ox6 := Lib.hid (Ox5.out.kept (below_any (row := none) hb) (.inr (by simp [Value.ownBlock])))
  clear hb B5 KA5 KX5 Op5 Ox5
  rw [hm.out]
  obtain ⟨⟨cA0, cA1, cA2, cA3⟩, dA0, dA1, dA2, dA3⟩ := KA6.out.four
  obtain ⟨⟨cX0, cX1, cX2, cX3⟩, dX0, dX1, dX2, dX3⟩ := KX6.out.four
  go_wp2_with fail
  clear cA0 cA1 cA2 cA3 dA0 dA1 dA2 dA3 cX0 cX1 cX2 cX3 dX0 dX1 dX2 dX3
  obtain ⟨⟨cA0, cA1, cA2, cA3⟩, dA0, dA1, dA2, dA3⟩ := KA6.out.four
  obtain ⟨⟨cX0, cX1, cX2, cX3⟩, dX0, dX1, dX2, dX3⟩ := KX6.out.four
  have P6_0 : True := trivial
  have P6_1 : True := trivial
  go_region_held3 (fun w' => (w'.cell? ⟨g_X, 0, none⟩ = some (.bool uA) ∧ w'.cell? ⟨g_X, 1, none⟩ = some (.int .u64 kA) ∧ w'.cell? ⟨g_X, 2, none⟩ = some (.int .u64 lA) ∧ w'.cell? ⟨g_X, 3, none⟩ = some (.slice (some ⟨g_x, 0, none⟩) rs.length rs.length)) ∧ (w'.cell? ⟨g_A, 0, none⟩ = some (.bool uA) ∧ w'.cell? ⟨g_A, 1, none⟩ = some (.int .u64 kA) ∧ w'.cell? ⟨g_A, 2, none⟩ = some (.int .u64 lA) ∧ w'.cell? ⟨g_A, 3, none⟩ = some (.slice a rs.length cA)))
    (first | go_keep | (exact ⟨KX7.out.four.1, KA7.out.four.1⟩) | (exact ⟨KX8.out.four.1, KA8.out.four.1⟩))
    (first | (have q := P6_0; go_at_call 18; clear q P6_0; refine (toMac_any uA kA lA a cA rs _ ((HA.out.below B6.out.drew).mono B6.out.drew.size) hn.out).mono ?_; rintro e v7 ⟨g_c, rfl, ho_c, hb⟩; replace hb := (Below.refl _ v6).drew.trans hb; replace ho_c := own_down ho_c (show v6.heap.size ≤ v6.drew.heap.size from Nat.le_refl _); have n_A_c : g_A ≠ g_c := (by have h1 := KA6.out.lt; have h2 := (ho_c.lt g_c rfl).1; omega); have n_X_c : g_X ≠ g_c := (by have h1 := KX6.out.lt; have h2 := (ho_c.lt g_c rfl).1; omega); have n_p_c : g_p ≠ g_c := (by have h1 := (Op6.out.lt g_p rfl).2; have h2 := (ho_c.lt g_c rfl).1; omega); have n_x_c : g_x ≠ g_c := (by have h1 := (Ox6.out.lt g_x rfl).2; have h2 := (ho_c.lt g_c rfl).1; omega); have l_c : w.heap.size ≤ g_c := Nat.le_trans B6.out.size (ho_c.lt g_c rfl).1; have B7 := Lib.hid (B6.out.trans (hb.mono B6.out.size)); have KA7 := Lib.hid (KA6.out.below hb); have KX7 := Lib.hid (KX6.out.below hb); have Op7 := Lib.hid (Op6.out.kept (below_any (row := none) hb) (.inr (by simp [Value.ownBlock]))); have Ox7 := Lib.hid (Ox6.out.kept (below_any (row := none) hb) (.inr (by simp [Value.ownBlock]))); have Oc7 := Lib.hid (own_down ho_c (Nat.zero_le _)); clear hb B6 KA6 KX6 Op6 Ox6 ho_c) | (have q := P6_1; go_at_call 19; clear q P6_1; refine (eqMac_self uA kA lA (some ⟨g_x, 0, none⟩) (some ⟨g_c, 0, none⟩) rs.length rs.length rs _ (Row.ownK Ox7.out) (Row.ownK Oc7.out) hn.out).mono ?_; rintro e v8 ⟨rfl, hb⟩; have B8 := Lib.hid (B7.out.trans (hb.mono B7.out.size)); have KA8 := Lib.hid (KA7.out.below hb); have KX8 := Lib.hid (KX7.out.below hb); have Op8 := Lib.hid (Op7.out.kept (below_any (row := none) hb) (.inr (by simp [Value.ownBlock]))); have Ox8 := Lib.hid (Ox7.out.kept (below_any (row := none) hb) (.inr (by simp [Value.ownBlock]))); have Oc8 := Lib.hid (Oc7.out.kept (below_any (row := none) hb) (.inr (by simp [Value.ownBlock]))); clear hb B7 KA7 KX7 Op7 Ox7 Oc7))
  try clear cA0 cA1 cA2 cA3 dA0 dA1 dA2 dA3 cX0 cX1 cX2 cX3 dX0 dX1 dX2 dX3
  obtain ⟨⟨cA0, cA1, cA2, cA3⟩, dA0, dA1, dA2, dA3⟩ := KA8.out.four
  obtain ⟨⟨cX0, cX1, cX2, cX3⟩, dX0, dX1, dX2, dX3⟩ := KX8.out.four
  go_wp2_with fail
  go_ret
  exact ⟨rfl, B8.out⟩

theorem walk {w : World} (u : Bool) (k l : Int) (a : Option Addr) (len cap : Nat) (rs : List MR) (h : (Lit.int .u64 k).wf = true ∧ (Lit.int .u64 l).wf = true ∧ IsM w a len cap rs) :
    Calls Try.prog 4 #[.agg #[.bool u, .int .u64 k, .int .u64 l, .slice a len cap]] w fun e w' => e = .returned (.bool true) ∧ Below w.heap.size w w' := by
  obtain ⟨_, _, ⟨rfl, _, hm, hz⟩, hrow⟩ := h
  exact go u k l a cap rs w hrow (by omega) hz
theorem own : ownKnob Try.prog.godebug = none := by kernel_rfl
theorem laidOut : laidOutB Try.prog = true := by kernel_rfl

set_option maxRecDepth 100000 in
theorem lifted (os : Os) (started : os.Started) (H : Type) (enc : TypeId × Value → H) :
    ReturnsInHanded {} Try.checked os 4 .any (Rows.fnExactMacOkSpec.pre6 enc Try.prog Try.f4 Rows.fnExactMacOkRow.domain false) (Rows.fnExactMacOkSpec.post enc Try.prog Try.f4 false true false false) := by
  refine returnsInHanded_of_change (C := Try.checked) own started (by kernel_rfl) Try.func4
    (ChangeSpec.witness6 (enc := enc) (C := Try.checked) false ⟨#[], #[.agg #[.bool false, .int .u64 0, .int .u64 0, .slice none 0 0]], []⟩ 8 (by kernel_rfl) (by kernel_rfl) (by kernel_rfl) (by kernel_rfl)) ?_
  intro W base args ds gs before hval0 hW _ _
  have hval : ∀ (j : Nat) t v, Try.f4.params[j]? = some t → args[j]? = some v → Value.okWide Try.prog W .any base t v := hval0
  have hW' := hW
  obtain ⟨p, q, hA0, hV, rfl, _, _⟩ := hW
  have hA : DataW.TrodAll enc Try.prog W 0 (fun _ => true) true Try.f4.params.toList args.toList ds p := hA0
  rw [Try.params4] at hA hval
  obtain ⟨v0, vs0, d0, ds0, p0, q0, hargs, rfl, rfl, h0, r0⟩ := trodAll_cons hA
  obtain ⟨rfl, rfl, rfl⟩ := trodAll_nil r0
  obtain rfl : args = #[v0] := by cases args; simp_all
  obtain ⟨rfl, rfl⟩ := trodVars_none hV
  have k0 := h0
  have lt0 : ∀ x ∈ p0, x.block < W.heap.size := by obtain ⟨m, hm⟩ := k0; exact DataW.trod_lt m _ _ _ hm
  obtain ⟨u0, x0, y0, a0, len0, cap0, s0, rfl, w0⟩ := argMac (hval 0 38 v0 rfl rfl) h0
  clear hA0 hval0
  refine (walk u0 x0 y0 a0 len0 cap0 s0 w0).mono fun e W' ⟨he, bel⟩ => ?_
  subst he
  exact ⟨_, rfl, _, _, _, [], _, [], hW', trodAll_mk1 (shut_bool Try.underlying4 _), (trodAll_cons_mk (Below.trod laidOut (by kernel_rfl) (of_decide_eq_true (by kernel_rfl)) k0 bel lt0) trodAll_mk0), rfl, bel.frame _, fun h => by cases h⟩

theorem over : Rows.fnExactMacOkRow.holds Try.pinned (OpenSpec.ofChange Rows.fnExactMacOkSpec) :=
  OpenClaim.holds_of_wide 4 Try.f4 rfl rfl rfl rfl rfl rfl rfl ⟨rfl, rfl, rfl, rfl, rfl⟩ rfl rfl rfl rfl rfl (by kernel_rfl) Try.func4 (by kernel_rfl)
    (of_decide_eq_true (by kernel_rfl)) (by unfold Func.isWrapper; first | (rw [if_pos (by decide +kernel)]; kernel_rfl) | (rw [if_neg (by decide +kernel)]; exact ⟨rfl, rfl⟩))
    (fun os started H enc _ => lifted os started H enc)

theorem proved : Rows.FnExactMacOkSaid := over
#print axioms proved
end Go.Proofs.Ytkmflfmbmmpohaa.fnExactMacOk
