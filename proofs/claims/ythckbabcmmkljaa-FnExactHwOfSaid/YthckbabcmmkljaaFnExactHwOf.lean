/- The law FnExactHwOf holds for every argument (up to the law's own measure of 1048576 entries; past it the law itself answers true): impl's HwOf answers as the model's, both results, and leaves its argument. No condition. -/
import Derived.Test.YthckbabcmmkljaaRows
import Derived.Test.YthckbabcmmkljaaEntA
import Derived.Test.YthckbabcmmkljaaArgEnt
import Derived.Test.YthckbabcmmkljaaEntLaw
import Derived.ProofKit
import Derived.OpenShut
import Derived.ShutString
import Derived.ChangeSame
namespace Go.Proofs.Ythckbabcmmkljaa.fnExactHwOf
open Go.ChangeShapes Go.WideShapes Go.ChangeAt Go.RowKit Go.Lib

/-- The law's word: true, and what lay before the call lies as it lay. -/
def OkB (w : World) (e : Ending) (w' : World) : Prop := e = .returned (.bool true) ∧ Below w.heap.size w w'

set_option maxRecDepth 100000 in
set_option maxHeartbeats 8000000 in
theorem go (a : Option Addr) (cap : Nat) (rs : List ER) (ip : Int) (w : World) (hrow : Row w w.heap.size a (ers rs)) (hl : rs.length ≤ maxLen) (hg : ∀ r ∈ rs, goodE r) :
    Calls Try.prog 6 #[.slice a rs.length cap, .int .i64 ip] w (OkB w) := by
  have HA := Lib.hid hrow
  have HG := Lib.hid hg
  have SZ := szEntryS_any a rs.length cap w hl
  clear hrow hg hl
  by_cases hs : rs.length ≤ 1048576
  case neg =>
    rw [if_neg hs] at SZ
    have HZ := Lib.hid SZ
    clear SZ
    go_enter Try.func6, Try.ntmps6
    go_wp2_with fail
    refine HZ.out.mono ?_
    rintro e w' ⟨rfl, hw'⟩
    rw [hw']
    go_wp2_with fail
    go_ret
    exact ⟨rfl, Below.refl _ _⟩
  rw [if_pos hs] at SZ
  have HZ := Lib.hid SZ
  clear SZ
  have hn := Lib.hid hs
  have B0 := Lib.hid (Below.refl w.heap.size w)
  have CS := Lib.hid (fun b w h => hwOfS (some ⟨b, 0, none⟩) rs.length rs ip w h (Nat.le_succ_of_le hs))
  have CI := Lib.hid (fun b w h => hwOfI (some ⟨b, 0, none⟩) rs.length rs ip w h (Nat.le_succ_of_le hs))
  clear hs
  unfold HwEnd at CS CI
  obtain ⟨x, hx⟩ : ∃ x, hasE rs ip = x := ⟨_, rfl⟩
  rw [hx] at CS CI
  clear hx
  obtain ⟨z, hz⟩ : ∃ z, hwE rs ip = z := ⟨_, rfl⟩
  rw [hz] at CS CI
  clear hz
  cases x with
  | false =>
    go_enter Try.func6, Try.ntmps6
    go_wp2_with fail
    refine HZ.out.mono ?_
    rintro e w' ⟨rfl, hw'⟩
    rw [hw']
    clear hw' HZ w'
    have hs := hn.out
    go_wp2_with fail
    clear hs
    refine (toEntryS_any a cap rs _ ((HA.out.below B0.out).mono B0.out.size) hn.out).mono ?_
    rintro e v1 ⟨g_t, rfl, ho_t, hb⟩
    have l_t : w.heap.size ≤ g_t := Nat.le_trans B0.out.size (ho_t.lt g_t rfl).1
    have B1 := Lib.hid (B0.out.trans (hb.mono B0.out.size))
    have Ot1 := Lib.hid (own_down ho_t (Nat.zero_le _))
    clear hb B0 ho_t
    go_wp2_with fail
    refine (CS.out g_t _ (Row.ownK Ot1.out)).mono ?_
    rintro e v2 ⟨rfl, hb⟩
    have B2 := Lib.hid (B1.out.trans (hb.mono B1.out.size))
    have Ot2 := Lib.hid (Ot1.out.kept (below_any (row := none) hb) (.inr (by simp [Value.ownBlock])))
    clear hb B1 Ot1
    go_wp2_with fail
    refine (toEntryS_any a cap rs _ ((HA.out.below B2.out).mono B2.out.size) hn.out).mono ?_
    rintro e v3 ⟨g_x, rfl, ho_x, hb⟩
    have n_t_x : g_t ≠ g_x := by have h1 := (Ot2.out.lt g_t rfl).2; have h2 := (ho_x.lt g_x rfl).1; omega
    have l_x : w.heap.size ≤ g_x := Nat.le_trans B2.out.size (ho_x.lt g_x rfl).1
    have B3 := Lib.hid (B2.out.trans (hb.mono B2.out.size))
    have Ot3 := Lib.hid (Ot2.out.kept (below_any (row := none) hb) (.inr (by simp [Value.ownBlock])))
    have Ox3 := Lib.hid (own_down ho_x (Nat.zero_le _))
    clear hb B2 Ot2 ho_x
    go_wp2_with fail
    refine (CI.out g_x _ (Row.ownK Ox3.out)).mono ?_
    rintro e v4 ⟨rfl, hb⟩
    have B4 := Lib.hid (B3.out.trans (hb.mono B3.out.size))
    have Ot4 := Lib.hid (Ot3.out.kept (below_any (row := none) hb) (.inr (by simp [Value.ownBlock])))
    have Ox4 := Lib.hid (Ox3.out.kept (below_any (row := none) hb) (.inr (by simp [Value.ownBlock])))
    clear hb B3 Ot3 Ox3
    go_wp2_with fail
    refine (toEntryS_any a cap rs _ ((HA.out.below B4.out).mono B4.out.size) hn.out).mono ?_
    rintro e v5 ⟨g_y, rfl, ho_y, hb⟩
    have n_t_y : g_t ≠ g_y := by have h1 := (Ot4.out.lt g_t rfl).2; have h2 := (ho_y.lt g_y rfl).1; omega
    have n_x_y : g_x ≠ g_y := by have h1 := (Ox4.out.lt g_x rfl).2; have h2 := (ho_y.lt g_y rfl).1; omega
    have l_y : w.heap.size ≤ g_y := Nat.le_trans B4.out.size (ho_y.lt g_y rfl).1
    have B5 := Lib.hid (B4.out.trans (hb.mono B4.out.size))
    have Ot5 := Lib.hid (Ot4.out.kept (below_any (row := none) hb) (.inr (by simp [Value.ownBlock])))
    have Ox5 := Lib.hid (Ox4.out.kept (below_any (row := none) hb) (.inr (by simp [Value.ownBlock])))
    have Oy5 := Lib.hid (own_down ho_y (Nat.zero_le _))
    clear hb B4 Ot4 Ox4 ho_y
    go_wp2_with fail
    refine (eqEntryS_self (some ⟨g_x, 0, none⟩) (some ⟨g_y, 0, none⟩) _ _ _ rs _ rfl (Row.ownK Ox5.out) (Row.ownK Oy5.out) (Nat.le_succ_of_le hn.out)).mono ?_
    rintro e v6 ⟨rfl, hb⟩
    have B6 := Lib.hid (B5.out.trans (hb.mono B5.out.size))
    have Ot6 := Lib.hid (Ot5.out.kept (below_any (row := none) hb) (.inr (by simp [Value.ownBlock])))
    have Ox6 := Lib.hid (Ox5.out.kept (below_any (row := none) hb) (.inr (by simp [Value.ownBlock])))
    have Oy6 := Lib.hid (Oy5.out.kept (below_any (row := none) hb) (.inr (by simp [Value.ownBlock])))
    clear hb B5 Ot5 Ox5 Oy5
    go_wp2_with fail
    go_ret
    exact ⟨rfl, B6.out⟩
  | true =>
    go_enter Try.func6, Try.ntmps6
    go_wp2_with fail
    refine HZ.out.mono ?_
    rintro e w' ⟨rfl, hw'⟩
    rw [hw']
    clear hw' HZ w'
    have hs := hn.out
    go_wp2_with fail
    clear hs
    refine (toEntryS_any a cap rs _ ((HA.out.below B0.out).mono B0.out.size) hn.out).mono ?_
    rintro e v1 ⟨g_t, rfl, ho_t, hb⟩
    have l_t : w.heap.size ≤ g_t := Nat.le_trans B0.out.size (ho_t.lt g_t rfl).1
    have B1 := Lib.hid (B0.out.trans (hb.mono B0.out.size))
    have Ot1 := Lib.hid (own_down ho_t (Nat.zero_le _))
    clear hb B0 ho_t
    go_wp2_with fail
    refine (CS.out g_t _ (Row.ownK Ot1.out)).mono ?_
    rintro e v2 ⟨rfl, hb⟩
    have B2 := Lib.hid (B1.out.trans (hb.mono B1.out.size))
    have Ot2 := Lib.hid (Ot1.out.kept (below_any (row := none) hb) (.inr (by simp [Value.ownBlock])))
    clear hb B1 Ot1
    go_wp2_with fail
    refine (toEntryS_any a cap rs _ ((HA.out.below B2.out).mono B2.out.size) hn.out).mono ?_
    rintro e v3 ⟨g_x, rfl, ho_x, hb⟩
    have n_t_x : g_t ≠ g_x := by have h1 := (Ot2.out.lt g_t rfl).2; have h2 := (ho_x.lt g_x rfl).1; omega
    have l_x : w.heap.size ≤ g_x := Nat.le_trans B2.out.size (ho_x.lt g_x rfl).1
    have B3 := Lib.hid (B2.out.trans (hb.mono B2.out.size))
    have Ot3 := Lib.hid (Ot2.out.kept (below_any (row := none) hb) (.inr (by simp [Value.ownBlock])))
    have Ox3 := Lib.hid (own_down ho_x (Nat.zero_le _))
    clear hb B2 Ot2 ho_x
    go_wp2_with fail
    refine (CI.out g_x _ (Row.ownK Ox3.out)).mono ?_
    rintro e v4 ⟨rfl, hb⟩
    have B4 := Lib.hid (B3.out.trans (hb.mono B3.out.size))
    have Ot4 := Lib.hid (Ot3.out.kept (below_any (row := none) hb) (.inr (by simp [Value.ownBlock])))
    have Ox4 := Lib.hid (Ox3.out.kept (below_any (row := none) hb) (.inr (by simp [Value.ownBlock])))
    clear hb B3 Ot3 Ox3
    go_wp2_with fail
    refine (toEntryS_any a cap rs _ ((HA.out.below B4.out).mono B4.out.size) hn.out).mono ?_
    rintro e v5 ⟨g_y, rfl, ho_y, hb⟩
    have n_t_y : g_t ≠ g_y := by have h1 := (Ot4.out.lt g_t rfl).2; have h2 := (ho_y.lt g_y rfl).1; omega
    have n_x_y : g_x ≠ g_y := by have h1 := (Ox4.out.lt g_x rfl).2; have h2 := (ho_y.lt g_y rfl).1; omega
    have l_y : w.heap.size ≤ g_y := Nat.le_trans B4.out.size (ho_y.lt g_y rfl).1
    have B5 := Lib.hid (B4.out.trans (hb.mono B4.out.size))
    have Ot5 := Lib.hid (Ot4.out.kept (below_any (row := none) hb) (.inr (by simp [Value.ownBlock])))
    have Ox5 := Lib.hid (Ox4.out.kept (below_any (row := none) hb) (.inr (by simp [Value.ownBlock])))
    have Oy5 := Lib.hid (own_down ho_y (Nat.zero_le _))
    clear hb B4 Ot4 Ox4 ho_y
    go_wp2_with fail
    refine (eqEntryS_self (some ⟨g_x, 0, none⟩) (some ⟨g_y, 0, none⟩) _ _ _ rs _ rfl (Row.ownK Ox5.out) (Row.ownK Oy5.out) (Nat.le_succ_of_le hn.out)).mono ?_
    rintro e v6 ⟨rfl, hb⟩
    have B6 := Lib.hid (B5.out.trans (hb.mono B5.out.size))
    have Ot6 := Lib.hid (Ot5.out.kept (below_any (row := none) hb) (.inr (by simp [Value.ownBlock])))
    have Ox6 := Lib.hid (Ox5.out.kept (below_any (row := none) hb) (.inr (by simp [Value.ownBlock])))
    have Oy6 := Lib.hid (Oy5.out.kept (below_any (row := none) hb) (.inr (by simp [Value.ownBlock])))
    clear hb B5 Ot5 Ox5 Oy5
    go_wp2_with fail
    go_ret
    exact ⟨rfl, B6.out⟩

theorem walk {w : World} (a : Option Addr) (len cap : Nat) (rs : List ER) (ip : Int) (h : IsE w a len cap rs) (_ : (Lit.int .i64 ip).wf = true) : Calls Try.prog 6 #[.slice a len cap, .int .i64 ip] w (OkB w) := by
  obtain ⟨⟨rfl, _, hm, hg⟩, hrow⟩ := h
  exact go a cap rs ip w hrow (by omega) hg
theorem own : ownKnob Try.prog.godebug = none := by kernel_rfl
theorem laidOut : laidOutB Try.prog = true := by kernel_rfl

set_option maxRecDepth 100000 in
theorem lifted (os : Os) (started : os.Started) (H : Type) (enc : TypeId × Value → H) :
    ReturnsInHanded {} Try.checked os 6 .any (Rows.fnExactHwOfSpec.pre6 enc Try.prog Try.f6 Rows.fnExactHwOfRow.domain false) (Rows.fnExactHwOfSpec.post enc Try.prog Try.f6 false true false false) := by
  refine returnsInHanded_of_change (C := Try.checked) own started (by kernel_rfl) Try.func6
    (ChangeSpec.witness6 (enc := enc) (C := Try.checked) false ⟨#[], #[.slice none 0 0, .int .i64 0], []⟩ 8 (by kernel_rfl) (by kernel_rfl) (by kernel_rfl) (by kernel_rfl)) ?_
  intro W base args ds gs before hval0 hW _ _
  have hval : ∀ (j : Nat) t v, Try.f6.params[j]? = some t → args[j]? = some v → Value.okWide Try.prog W .any base t v := hval0
  have hW' := hW
  obtain ⟨p, q, hA0, hV, rfl, _, _⟩ := hW
  have hA : DataW.TrodAll enc Try.prog W 0 (fun _ => true) true Try.f6.params.toList args.toList ds p := hA0
  rw [Try.params6] at hA hval
  obtain ⟨v0, vs0, d0, ds0, p0, q0, hargs, rfl, rfl, h0, r0⟩ := trodAll_cons hA
  obtain ⟨v1, vs1, d1, ds1, p1, q1, rfl, rfl, rfl, h1, r1⟩ := trodAll_cons r0
  obtain ⟨rfl, rfl, rfl⟩ := trodAll_nil r1
  obtain rfl : args = #[v0, v1] := by cases args; simp_all
  obtain ⟨rfl, rfl⟩ := trodVars_none hV
  have k0 := h0
  have lt0 : ∀ x ∈ p0, x.block < W.heap.size := by obtain ⟨m, hm⟩ := k0; exact DataW.trod_lt m _ _ _ hm
  obtain ⟨a0, len0, cap0, s0, rfl, w0⟩ := argEntryS (hval 0 35 v0 rfl rfl) h0
  obtain ⟨a1, rfl, rfl, rfl, w1⟩ := open_int Try.underlying3 (hval 1 3 v1 rfl rfl) h1
  clear hA0 hval0
  refine (walk a0 len0 cap0 s0 a1 w0 w1).mono fun e W' ⟨he, bel⟩ => ?_
  subst he
  exact ⟨_, rfl, _, _, _, [], _, [], hW', trodAll_mk1 (shut_bool Try.underlying4 _), (trodAll_cons_mk (Below.trod laidOut (by kernel_rfl) (of_decide_eq_true (by kernel_rfl)) k0 bel lt0) (trodAll_cons_mk (shut_int Try.underlying3 w1) trodAll_mk0)), rfl, bel.frame _, fun h => by cases h⟩

theorem over : Rows.fnExactHwOfRow.holds Try.pinned (OpenSpec.ofChange Rows.fnExactHwOfSpec) :=
  OpenClaim.holds_of_wide 6 Try.f6 rfl rfl rfl rfl rfl rfl rfl ⟨rfl, rfl, rfl, rfl, rfl⟩ rfl rfl rfl rfl rfl (by kernel_rfl) Try.func6 (by kernel_rfl)
    (of_decide_eq_true (by kernel_rfl)) (by unfold Func.isWrapper; first | (rw [if_pos (by decide +kernel)]; kernel_rfl) | (rw [if_neg (by decide +kernel)]; exact ⟨rfl, rfl⟩))
    (fun os started H enc _ => lifted os started H enc)

theorem proved : Rows.FnExactHwOfSaid := over
#print axioms proved
end Go.Proofs.Ythckbabcmmkljaa.fnExactHwOf
