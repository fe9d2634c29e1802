/- Proved here: for every code of at most 1048576 bytes, with the run and the window that are drawn from it, impl.Overlaps and impl.InWindow answer what the model answers; a run overlaps a window exactly if one of its places lies in it, a window of at least one place has its first, and the place before it is none of its own unless it has all (a longer code is not asked); the call returns true for every argument, without condition. -/
import Derived.Test.YtfhdjefdbjnccaaRows
import Derived.Test.YtfhdjefdbjnccaaDrawSeq
import Derived.Test.YtfhdjefdbjnccaaOver
import Derived.Test.YtfhdjefdbjnccaaBig
import Derived.Test.YtfhdjefdbjnccaaOpen
import Derived.ShutString
import Derived.ChangeOld
import Derived.Below
namespace Go.Proofs.Ytfhdjefdbjnccaa.fnWindow
open Go.ChangeShapes Go.WideShapes Go.ChangeAt Go.RowKit

set_option maxRecDepth 100000 in
set_option maxHeartbeats 4000000 in
theorem walk (a0 : Option Addr) (len0 cap0 : Nat) (s0 : List UInt8) {w : World} (w0 : IsBytes w a0 len0 s0) :
    Calls Try.prog 5 #[.slice a0 len0 cap0] w fun e w' => e = .returned (.bool true) ∧ Below w.heap.size w w' := by
  obtain ⟨⟨rfl, hm⟩, hrow⟩ := w0
  unfold maxLen at hm
  have HR := Lib.hid hrow
  clear hrow
  by_cases hs : s0.length ≤ 1048576
  · go_enter Try.func5, Try.ntmps5
    go_wp2_with fail
    refine (big_no _ _ _ _ hs).mono ?_
    rintro e w' ⟨rfl, rfl⟩
    go_wp2_with fail
    refine (drawOverlaps a0 s0 cap0 w HR.out hs).mono ?_
    rintro e w1 ⟨x, n, f, s, rfl, ⟨n0, n1⟩, ⟨_, _, ⟨_, hsz⟩⟩, hb1⟩
    have B1 := Lib.hid hb1
    clear hb1 HR
    have C1 := Lib.hid (overI x n f s)
    have C1' := Lib.hid (overS x n f s)
    have C2 := Lib.hid (inWindowI x f s)
    have C2' := Lib.hid (inWindowS x f s)
    obtain ⟨u, hu⟩ : ∃ u, ov x n f s = u := ⟨_, rfl⟩
    obtain ⟨v, hv⟩ : ∃ v, inW x f s = v := ⟨_, rfl⟩
    have U := Lib.hid hu
    rw [hu] at C1 C1'
    rw [hv] at C2 C2'
    clear hu hv
    go_wp2_with fail
    refine (C1.out _).mono ?_
    rintro e w2 ⟨rfl, rfl⟩
    go_wp2_with fail
    refine (C1'.out _).mono ?_
    rintro e w2 ⟨rfl, rfl⟩
    have uu : (u == u) = true := by simp
    have vv : (v == v) = true := by simp
    go_wp2_with fail
    refine (C2.out _).mono ?_
    rintro e w2 ⟨rfl, rfl⟩
    go_wp2_with fail
    refine (C2'.out _).mono ?_
    rintro e w2 ⟨rfl, rfl⟩
    go_wp2_with fail
    go_loop [8, 9] (fun m i => ∃ (k : Nat) (b : Bool), ((k : Int) ≤ n ∨ k = 0) ∧ i = .int .i64 k ∧ m = .bool b ∧ Hid (ov x k f s = b)) (fun _ i => 40 - (RowKit.intOf i).toNat)
    case atStart => exact ⟨0, false, Or.inr rfl, rfl, rfl, Lib.hid (ov_none x 0 f s (by omega))⟩
    case round =>
      obtain ⟨k, b, hk, rfl, rfl, hb⟩ := hrel
      by_cases hlt : (k : Int) < n
      · have NX := Lib.hid (ov_next x f s k (by omega) (by omega))
        cases b with
        | true =>
          have E : Hid (ov x ((k + 1 : Nat) : Int) f s = true) := Lib.hid (by rw [show ((k + 1 : Nat) : Int) = k + 1 by omega, NX.out, hb.out, Bool.true_or])
          clear NX hb
          go_wp2_with fail
          go_round
          case rel => exact ⟨k + 1, true, Or.inl (by omega), by go_num, rfl, E⟩
          case measure => simp [RowKit.intOf]; omega
        | false =>
          have E : Hid (ov x ((k + 1 : Nat) : Int) f s = inW (pl (x + k)) f s) := Lib.hid (by rw [show ((k + 1 : Nat) : Int) = k + 1 by omega, NX.out, hb.out, Bool.false_or])
          have C := Lib.hid (inWindowI (pl (x + k)) f s)
          obtain ⟨z, hz⟩ : ∃ z, inW (pl (x + k)) f s = z := ⟨_, rfl⟩
          rw [hz] at C E
          clear NX hb hz
          go_wp2_with fail
          refine (seqAddI x k _).mono ?_
          rintro e w2 ⟨rfl, rfl⟩
          go_wp2_with fail
          refine (C.out _).mono ?_
          rintro e w2 ⟨rfl, rfl⟩
          go_wp2_with fail
          go_round
          case rel => exact ⟨k + 1, z, Or.inl (by omega), by go_num, rfl, E⟩
          case measure => simp [RowKit.intOf]; omega
      · have hbu : b = u := by
          rw [← hb.out, ← U.out]
          by_cases hz : n ≤ 0
          · rw [ov_none x k f s (by omega), ov_none x n f s hz]
          · rw [show (k : Int) = n by omega]
        subst hbu
        clear hb U C1 C1' C2 C2'
        have D1 := Lib.hid (inWindowI f f s)
        have D2 := Lib.hid (inWindowI (pl (f + -1)) f s)
        by_cases h1 : s < 1
        · rw [show inW (pl (f + -1)) f s = false by rw [inW_pl, inW_not]; omega] at D2
          go_wp2_with fail
          refine (seqAddI f (-1) _).mono ?_
          rintro e w2 ⟨rfl, rfl⟩
          go_wp2_with fail
          refine (D2.out _).mono ?_
          rintro e w2 ⟨rfl, rfl⟩
          go_wp2_with fail
          go_ret
          exact ⟨rfl, B1.out⟩
        · rw [show inW f f s = true by rw [inW_iff]; omega] at D1
          by_cases h2 : 4294967295 < s
          · skip
            go_wp2_with fail
            refine (D1.out _).mono ?_
            rintro e w2 ⟨rfl, rfl⟩
            go_wp2_with fail
            go_ret
            exact ⟨rfl, B1.out⟩
          · rw [show inW (pl (f + -1)) f s = false by rw [inW_pl, inW_not]; omega] at D2
            go_wp2_with fail
            refine (D1.out _).mono ?_
            rintro e w2 ⟨rfl, rfl⟩
            go_wp2_with fail
            refine (seqAddI f (-1) _).mono ?_
            rintro e w2 ⟨rfl, rfl⟩
            go_wp2_with fail
            refine (D2.out _).mono ?_
            rintro e w2 ⟨rfl, rfl⟩
            go_wp2_with fail
            go_ret
            exact ⟨rfl, B1.out⟩
  · have h1 : 1048576 < s0.length := by omega
    go_enter Try.func5, Try.ntmps5
    go_wp2_with fail
    refine (big_yes _ _ _ _ h1 hm).mono ?_
    rintro e w' ⟨rfl, rfl⟩
    go_wp2_with fail
    go_ret
    exact ⟨rfl, Below.refl _ _⟩

theorem own : ownKnob Try.prog.godebug = none := by kernel_rfl
theorem laidOut : laidOutB Try.prog = true := by kernel_rfl

set_option maxRecDepth 100000 in
theorem lifted (os : Os) (started : os.Started) (H : Type) (enc : TypeId × Value → H) :
    ReturnsInHanded {} Try.checked os 5 .any (Rows.fnWindowSpec.pre6 enc Try.prog Try.f5 Rows.fnWindowRow.domain false) (Rows.fnWindowSpec.post enc Try.prog Try.f5 false true false false) := by
  refine returnsInHanded_of_change (C := Try.checked) own started (by kernel_rfl) Try.func5
    (ChangeSpec.witness6 (enc := enc) (C := Try.checked) false ⟨#[], #[.slice none 0 0], []⟩ 8 (by kernel_rfl) (by kernel_rfl) (by kernel_rfl) (by kernel_rfl)) ?_
  intro W base args ds gs before hval0 hW _ _
  have hval : ∀ (j : Nat) t v, Try.f5.params[j]? = some t → args[j]? = some v → Value.okWide Try.prog W .any base t v := hval0
  have hW' := hW
  obtain ⟨p, q, hA0, hV, rfl, _, _⟩ := hW
  have hA : DataW.TrodAll enc Try.prog W 0 (fun _ => true) true Try.f5.params.toList args.toList ds p := hA0
  rw [Try.params5] at hA hval
  obtain ⟨v0, vs0, d0, ds0, p0, q0, hargs, rfl, rfl, h0, r0⟩ := trodAll_cons hA
  obtain ⟨rfl, rfl, rfl⟩ := trodAll_nil r0
  obtain rfl : args = #[v0] := by cases args; simp_all
  obtain ⟨rfl, rfl⟩ := trodVars_none hV
  obtain ⟨a0, len0, cap0, rfl⟩ := okWide_slice Try.underlying22 (hval 0 22 v0 rfl rfl)
  have k0 := h0
  have lt0 : ∀ x ∈ p0, x.block < W.heap.size := by obtain ⟨m, hm⟩ := k0; exact DataW.trod_lt m _ _ _ hm
  obtain ⟨s0, w0⟩ : ∃ bs : List UInt8, IsBytes W a0 len0 bs := by obtain ⟨fuel, hf⟩ := h0; exact openBytes Try.underlying22 Try.underlying5 (by kernel_rfl) hf
  clear hA0 hval0
  refine (walk a0 len0 cap0 s0 w0).mono fun e W' ⟨he, bel⟩ => ?_
  subst he
  exact ⟨_, rfl, _, _, _, [], _, [], hW', trodAll_mk1 (shut_bool Try.underlying4 _), (trodAll_cons_mk (Below.trod laidOut (by kernel_rfl) (of_decide_eq_true (by kernel_rfl)) k0 bel lt0) trodAll_mk0), rfl, bel.frame _, fun h => by cases h⟩

theorem over : Rows.fnWindowRow.holds Try.pinned (OpenSpec.ofChange Rows.fnWindowSpec) :=
  OpenClaim.holds_of_wide 5 Try.f5 rfl rfl rfl rfl rfl rfl rfl ⟨rfl, rfl, rfl, rfl, rfl⟩ rfl rfl rfl rfl rfl (by kernel_rfl) Try.func5 (by kernel_rfl)
    (of_decide_eq_true (by kernel_rfl)) (by unfold Func.isWrapper; first | (rw [if_pos (by decide +kernel)]; kernel_rfl) | (rw [if_neg (by decide +kernel)]; exact ⟨rfl, rfl⟩))
    (fun os started H enc _ => lifted os started H enc)

theorem proved : Rows.FnWindowSaid := over
#print axioms proved
end Go.Proofs.Ytfhdjefdbjnccaa.fnWindow
