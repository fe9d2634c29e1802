/- Proved here: for every code of at most 1048576 bytes, with the two connections and numbers that are drawn from it and from it without its first byte: impl.MacInput answers as the model's; where both inputs are not empty they have 17 bytes, and they are the same exactly where all that was put into them is the same (a longer code is not asked); the call returns true for every argument, without condition. -/
import Derived.Test.YteciihlmoehejaaRows
import Derived.Test.YteciihlmoehejaaDraw12
import Derived.Test.YteciihlmoehejaaMacIn
import Derived.Test.YteciihlmoehejaaTail
import Derived.Test.YteciihlmoehejaaBig
import Derived.Test.YteciihlmoehejaaOpenC
import Derived.ProofKit
import Derived.OpenShut
import Derived.ShutString
import Derived.ChangeOld
import Derived.Below
namespace Go.Proofs.Yteciihlmoehejaa.fnMacInput
open Go.ChangeShapes Go.WideShapes Go.ChangeAt Go.RowKit

/-- The law's word: true, and what lay before the call lies as it lay. -/
def OkB (w : World) (e : Ending) (w' : World) : Prop := e = .returned (.bool true) ∧ Below w.heap.size w w'
theorem str_ne {x y : ByteArray} (h : x ≠ y) : (x.toList == y.toList) = false := by
  rw [beq_eq_false_iff_ne]
  exact fun e => h (by rw [ByteArray.toList_eq, ByteArray.toList_eq] at e; exact ByteArray.ext (Array.toList_inj.1 e))
theorem no_empty {t : ByteArray} (h : t ≠ ⟨#[]⟩) : t.toList.isEmpty = false := by
  rw [ByteArray.toList_eq]
  cases hl : t.data.toList with
  | nil => exact absurd (by apply ByteArray.ext; apply Array.toList_inj.1; exact hl) h
  | cons _ _ => rfl

set_option maxRecDepth 100000 in
set_option maxHeartbeats 8000000 in
theorem walk (a0 : Option Addr) (len0 cap0 : Nat) (s0 : List UInt8) {w : World} (w0 : IsBytesC w a0 len0 cap0 s0) :
    Calls Try.prog 3 #[.slice a0 len0 cap0] w fun e w' => e = .returned (.bool true) ∧ Below w.heap.size w w' := by
  change Calls _ _ _ _ (OkB w)
  obtain ⟨⟨⟨rfl, hm0⟩, hrow⟩, hc, hm⟩ := w0
  unfold maxLen at hm
  have HR := Lib.hid hrow
  clear hrow
  by_cases hs : s0.length ≤ 1048576
  case neg =>
    clear HR
    go_enter Try.func3, Try.ntmps3
    go_wp2_with fail
    refine (big_yes _ _ _ _ (by omega) (by omega)).mono ?_
    rintro e w' ⟨rfl, rfl⟩
    go_wp2_with fail
    go_ret
    exact ⟨rfl, Below.refl _ _⟩
  go_enter Try.func3, Try.ntmps3
  go_wp2_with fail
  refine (big_no _ _ _ _ hs).mono ?_
  rintro e w' ⟨rfl, rfl⟩
  go_wp2_with fail
  refine (drawMacInput a0 s0 cap0 w HR.out hs).mono ?_
  rintro e w1 ⟨p, q, r, s, t, i, rfl, _, hb⟩
  have B1 := Lib.hid (hb.alloc hb.size (.cells #[.int .i64 p, .int .i64 q, .int .i64 r] 25))
  have K1 := Lib.hid (Blk.new w1 [.int .i64 p, .int .i64 q, .int .i64 r] 25)
  clear hb
  go_wp2_with fail
  generalize w1.alloc (.cells #[.int .i64 p, .int .i64 q, .int .i64 r] 25) = w2 at B1 K1 ⊢
  generalize w1.heap.size = g1 at K1 ⊢
  refine (tail_any a0 s0 cap0 hc hm w2.heap.size w2 ((HR.out.below B1.out).mono B1.out.size) hs).mono ?_
  rintro e wt ⟨a1, s1, cap1, rfl, hrow1, hs1, rfl⟩
  have HR1 := Lib.hid hrow1
  clear hrow1
  go_wp2_with fail
  refine (drawMacInput a1 s1 cap1 w2 HR1.out (by omega)).mono ?_
  rintro e w3 ⟨p', q', r', s', t', i', rfl, _, hb⟩
  have K3 := Lib.hid ((K1.out.below hb).alloc (.cells #[.int .i64 p', .int .i64 q', .int .i64 r'] 25))
  have J3 := Lib.hid (Blk.new w3 [.int .i64 p', .int .i64 q', .int .i64 r'] 25)
  have B3 := Lib.hid ((B1.out.trans (hb.mono B1.out.size)).alloc (B1.out.trans (hb.mono B1.out.size)).size (.cells #[.int .i64 p', .int .i64 q', .int .i64 r'] 25))
  have hlt := (K1.out.below hb).lt
  clear hb K1 B1 HR HR1 hs1 hs hm hc
  obtain ⟨⟨c0, c1, c2⟩, _⟩ := K3.out.of3
  have hne : ¬ w3.heap.size = g1 := by omega
  have hne2 : ¬ g1 = w3.heap.size := by omega
  go_wp2_with fail
  clear c0 c1 c2
  generalize w3.alloc (.cells #[.int .i64 p', .int .i64 q', .int .i64 r'] 25) = w4 at K3 J3 B3 ⊢
  generalize w3.heap.size = g2 at J3 hne hne2 hlt ⊢
  refine (macInI p q r s t i w4).mono ?_
  rintro e w5 ⟨rfl, hb⟩
  have B5 := Lib.hid (B3.out.trans (hb.mono B3.out.size))
  have K5 := Lib.hid (K3.out.below hb)
  have J5 := Lib.hid (J3.out.below hb)
  clear hb B3 K3 J3
  obtain ⟨⟨c0, c1, c2⟩, _⟩ := K5.out.of3
  obtain ⟨⟨d0, d1, d2⟩, _⟩ := J5.out.of3
  obtain ⟨x, hx⟩ : ∃ x, Hid (macIn p q r s t i = x) := ⟨_, rfl⟩
  rw [hx.out]
  go_wp2_with fail
  clear c0 c1 c2 d0 d1 d2
  refine (macInI p' q' r' s' t' i' w5).mono ?_
  rintro e w6 ⟨rfl, hb⟩
  have B6 := Lib.hid (B5.out.trans (hb.mono B5.out.size))
  have K6 := Lib.hid (K5.out.below hb)
  have J6 := Lib.hid (J5.out.below hb)
  clear hb B5 K5 J5
  obtain ⟨⟨c0, c1, c2⟩, _⟩ := K6.out.of3
  obtain ⟨⟨d0, d1, d2⟩, _⟩ := J6.out.of3
  obtain ⟨y, hy⟩ : ∃ y, Hid (macIn p' q' r' s' t' i' = y) := ⟨_, rfl⟩
  rw [hy.out]
  go_wp2_with fail
  clear c0 c1 c2 d0 d1 d2
  refine (macInS p q r s t i w6).mono ?_
  rintro e w7 ⟨rfl, hb⟩
  rw [hx.out]
  have B7 := Lib.hid (B6.out.trans (hb.mono B6.out.size))
  have K7 := Lib.hid (K6.out.below hb)
  have J7 := Lib.hid (J6.out.below hb)
  clear hb B6 K6 J6
  obtain ⟨⟨c0, c1, c2⟩, _⟩ := K7.out.of3
  obtain ⟨⟨d0, d1, d2⟩, _⟩ := J7.out.of3
  cases h1 : macArg p q r s t i
  · obtain rfl : x = ⟨#[]⟩ := hx.out.symm.trans (macIn_no h1)
    go_wp2_with fail
    refine (macInS p q r s t i w7).mono ?_
    rintro e w8 ⟨rfl, hb⟩
    have B8 := Lib.hid (B7.out.trans (hb.mono B7.out.size))
    rw [hx.out]
    go_wp2_with fail
    go_ret
    exact ⟨ret_bool (by simp), B8.out⟩
  have z1 : x.size = 17 := by rw [← hx.out]; exact macIn_size h1
  have x0 := no_empty (show x ≠ ⟨#[]⟩ by intro e; rw [e] at z1; exact absurd z1 (by decide))
  cases h2 : macArg p' q' r' s' t' i'
  · obtain rfl : y = ⟨#[]⟩ := hy.out.symm.trans (macIn_no h2)
    go_wp2_with fail
    refine (macInS p q r s t i w7).mono ?_
    rintro e w8 ⟨rfl, hb⟩
    have B8 := Lib.hid (B7.out.trans (hb.mono B7.out.size))
    rw [hx.out]
    go_wp2_with fail
    go_ret
    exact ⟨ret_bool (by simp), B8.out⟩
  have z2 : y.size = 17 := by rw [← hy.out]; exact macIn_size h2
  have y0 := no_empty (show y ≠ ⟨#[]⟩ by intro e; rw [e] at z2; exact absurd z2 (by decide))
  have zi : (x.size : Int) = 17 := by rw [z1]; rfl
  by_cases hxy : x = y
  · obtain ⟨rfl, rfl, rfl, rfl, rfl, rfl⟩ := macIn_inj h1 h2 (hx.out.trans (hxy.trans hy.out.symm))
    subst hxy
    go_wp2_with fail
    go_ret
    exact ⟨ret_bool (by simp), B7.out⟩
  have xy := str_ne hxy
  have hd : ¬ (p = p' ∧ q = q' ∧ r = r' ∧ s = s' ∧ t = t' ∧ i = i') := by rintro ⟨rfl, rfl, rfl, rfl, rfl, rfl⟩; exact hxy (hx.out.symm.trans hy.out)
  clear hxy h1 h2 hx hy z1 z2
  by_cases hp : p = p'
  case neg =>
    have np : (p == p') = false := by simpa using hp
    clear hd hp
    go_wp2_with fail
    go_ret
    exact ⟨ret_bool (by simp), B7.out⟩
  subst hp
  by_cases hq : q = q'
  case neg =>
    have nq : (q == q') = false := by simpa using hq
    clear hd hq
    go_wp2_with fail
    go_ret
    exact ⟨ret_bool (by simp), B7.out⟩
  subst hq
  by_cases hr : r = r'
  case neg =>
    have nr : (r == r') = false := by simpa using hr
    clear hd hr
    go_wp2_with fail
    go_ret
    exact ⟨ret_bool (by simp), B7.out⟩
  subst hr
  by_cases hs : s = s'
  case neg =>
    have ns : (s == s') = false := by simpa using hs
    clear hd hs
    go_wp2_with fail
    go_ret
    exact ⟨ret_bool (by simp), B7.out⟩
  subst hs
  by_cases ht : t = t'
  case neg =>
    have nt : (t == t') = false := by simpa using ht
    clear hd ht
    go_wp2_with fail
    go_ret
    exact ⟨ret_bool (by simp), B7.out⟩
  subst ht
  by_cases hi : i = i'
  case neg =>
    have ni : (i == i') = false := by simpa using hi
    clear hd hi
    go_wp2_with fail
    go_ret
    exact ⟨ret_bool (by simp), B7.out⟩
  subst hi
  exact absurd ⟨rfl, rfl, rfl, rfl, rfl, rfl⟩ hd
theorem own : ownKnob Try.prog.godebug = none := by kernel_rfl
theorem laidOut : laidOutB Try.prog = true := by kernel_rfl

set_option maxRecDepth 100000 in
theorem lifted (os : Os) (started : os.Started) (H : Type) (enc : TypeId × Value → H) :
    ReturnsInHanded {} Try.checked os 3 .any (Rows.fnMacInputSpec.pre6 enc Try.prog Try.f3 Rows.fnMacInputRow.domain false) (Rows.fnMacInputSpec.post enc Try.prog Try.f3 false true false false) := by
  refine returnsInHanded_of_change (C := Try.checked) own started (by kernel_rfl) Try.func3
    (ChangeSpec.witness6 (enc := enc) (C := Try.checked) false ⟨#[], #[.slice none 0 0], []⟩ 8 (by kernel_rfl) (by kernel_rfl) (by kernel_rfl) (by kernel_rfl)) ?_
  intro W base args ds gs before hval0 hW _ _
  have hval : ∀ (j : Nat) t v, Try.f3.params[j]? = some t → args[j]? = some v → Value.okWide Try.prog W .any base t v := hval0
  have hW' := hW
  obtain ⟨p, q, hA0, hV, rfl, _, _⟩ := hW
  have hA : DataW.TrodAll enc Try.prog W 0 (fun _ => true) true Try.f3.params.toList args.toList ds p := hA0
  rw [Try.params3] at hA hval
  obtain ⟨v0, vs0, d0, ds0, p0, q0, hargs, rfl, rfl, h0, r0⟩ := trodAll_cons hA
  obtain ⟨rfl, rfl, rfl⟩ := trodAll_nil r0
  obtain rfl : args = #[v0] := by cases args; simp_all
  obtain ⟨rfl, rfl⟩ := trodVars_none hV
  obtain ⟨a0, len0, cap0, rfl⟩ := okWide_slice Try.underlying22 (hval 0 22 v0 rfl rfl)
  have k0 := h0
  have lt0 : ∀ x ∈ p0, x.block < W.heap.size := by obtain ⟨m, hm⟩ := k0; exact DataW.trod_lt m _ _ _ hm
  obtain ⟨s0, w0⟩ : ∃ bs : List UInt8, IsBytesC W a0 len0 cap0 bs := by obtain ⟨fuel, hf⟩ := h0; exact openBytesC Try.underlying22 Try.underlying5 (by kernel_rfl) hf
  clear hA0 hval0
  refine (walk a0 len0 cap0 s0 w0).mono fun e W' ⟨he, bel⟩ => ?_
  subst he
  exact ⟨_, rfl, _, _, _, [], _, [], hW', trodAll_mk1 (shut_bool Try.underlying4 _), (trodAll_cons_mk (Below.trod laidOut (by kernel_rfl) (of_decide_eq_true (by kernel_rfl)) k0 bel lt0) trodAll_mk0), rfl, bel.frame _, fun h => by cases h⟩

theorem over : Rows.fnMacInputRow.holds Try.pinned (OpenSpec.ofChange Rows.fnMacInputSpec) :=
  OpenClaim.holds_of_wide 3 Try.f3 rfl rfl rfl rfl rfl rfl rfl ⟨rfl, rfl, rfl, rfl, rfl⟩ rfl rfl rfl rfl rfl (by kernel_rfl) Try.func3 (by kernel_rfl)
    (of_decide_eq_true (by kernel_rfl)) (by unfold Func.isWrapper; first | (rw [if_pos (by decide +kernel)]; kernel_rfl) | (rw [if_neg (by decide +kernel)]; exact ⟨rfl, rfl⟩))
    (fun os started H enc _ => lifted os started H enc)

theorem proved : Rows.FnMacInputSaid := over
#print axioms proved
end Go.Proofs.Yteciihlmoehejaa.fnMacInput
