/- ForMe, of the model and of the program. -/
import Derived.Test.YtjldfmifccjniaaArrEq
import Derived.Test.YtjldfmifccjniaaFrameKit
import Derived.Deep.RegionHeld3
namespace Go.Proofs.Ytjldfmifccjniaa
open Go.RowKit Go.Lib

/-- What ForMe answers. -/
def forMe (d m : Int) : Bool := decide (d = m) || decide (d = 281474976710655)

set_option maxHeartbeats 1000000 in
theorem forMeS (d s t m : Int) (b : ByteArray) (w : World) :
    Calls Try.prog 20 #[.agg #[.int .i64 d, .int .i64 s, .int .i64 t, .string b], .int .i64 m] w fun e w' => e = .returned (.bool (forMe d m)) ∧ Below w.heap.size w w' := by
  by_cases h : d = m
  · subst h
    have D : Hid (forMe d d = true) := by show _ = _; simp [forMe]
    go_enter Try.func20, Try.ntmps20
    go_wp2
    go_ret
    exact ⟨ret_bool D.out.symm, (Below.refl _ _).alloc (Nat.le_refl _) _⟩
  · have hb : (d == m) = false := by simpa using h
    have D : Hid (forMe d m = decide (d = 281474976710655)) := by show _ = _; simp [forMe, h]
    clear h
    go_enter Try.func20, Try.ntmps20
    go_wp2
    go_ret
    exact ⟨ret_bool (by rw [D.out, Bool.eq_iff_iff]; simp), (Below.refl _ _).alloc (Nat.le_refl _) _⟩

theorem hw_parts (n : Int) : ∃ x0 x1 x2 x3 x4 x5 x6 x7 : Int, hw n = #[.int .u8 x0, .int .u8 x1, .int .u8 x2, .int .u8 x3, .int .u8 x4, .int .u8 x5, .int .u8 x6, .int .u8 x7] := ⟨_, _, _, _, _, _, _, _, rfl⟩

/-- The eight cells of an array, kept over a call that makes memory of its own. -/
def Has8 (w : World) (g : Nat) (x0 x1 x2 x3 x4 x5 x6 x7 : Int) : Prop := g < w.heap.size ∧ w.cell? ⟨g, 0, none⟩ = some (.int .u8 x0) ∧ w.cell? ⟨g, 1, none⟩ = some (.int .u8 x1) ∧ w.cell? ⟨g, 2, none⟩ = some (.int .u8 x2) ∧ w.cell? ⟨g, 3, none⟩ = some (.int .u8 x3) ∧ w.cell? ⟨g, 4, none⟩ = some (.int .u8 x4) ∧ w.cell? ⟨g, 5, none⟩ = some (.int .u8 x5) ∧ w.cell? ⟨g, 6, none⟩ = some (.int .u8 x6) ∧ w.cell? ⟨g, 7, none⟩ = some (.int .u8 x7)
theorem keep8 {w w' : World} {g : Nat} {x0 x1 x2 x3 x4 x5 x6 x7 : Int} (h : Has8 w g x0 x1 x2 x3 x4 x5 x6 x7) (hb : Below w.heap.size w w') : Has8 w' g x0 x1 x2 x3 x4 x5 x6 x7 := by
  obtain ⟨h, c0, c1, c2, c3, c4, c5, c6, c7⟩ := h
  exact ⟨Nat.lt_of_lt_of_le h hb.size, (hb.cell (p := ⟨g, 0, none⟩) h).trans c0, (hb.cell (p := ⟨g, 1, none⟩) h).trans c1, (hb.cell (p := ⟨g, 2, none⟩) h).trans c2, (hb.cell (p := ⟨g, 3, none⟩) h).trans c3, (hb.cell (p := ⟨g, 4, none⟩) h).trans c4, (hb.cell (p := ⟨g, 5, none⟩) h).trans c5, (hb.cell (p := ⟨g, 6, none⟩) h).trans c6, (hb.cell (p := ⟨g, 7, none⟩) h).trans c7⟩

set_option maxRecDepth 100000 in
set_option maxHeartbeats 2000000 in
theorem forMeI (d s t m : Int) (b : ByteArray) (w : World) (hd : -9223372036854775808 ≤ d ∧ d ≤ 9223372036854775807) (hm : -9223372036854775808 ≤ m ∧ m ≤ 9223372036854775807) :
    Calls Try.prog 21 #[.agg #[.int .i64 d, .int .i64 s, .int .i64 t, .string b], .int .i64 m] w fun e w' => e = .returned (.bool (forMe d m)) ∧ Below w.heap.size w w' := by
  have H1 := Lib.hid (hardwareOf_any d)
  have H2 := Lib.hid (hardwareOf_any m)
  have H3 := Lib.hid (hardwareOf_any 281474976710655)
  have E1 := hw_eq d m hd hm
  have E2 := hw_eq d 281474976710655 hd (by decide)
  have D : Hid (forMe d m = (decide (d = m) || decide (d = 281474976710655))) := rfl
  obtain ⟨x0, x1, x2, x3, x4, x5, x6, x7, hx⟩ := hw_parts d
  rw [hx] at H1 E1 E2
  obtain ⟨p, hp⟩ : ∃ p, decide (d = m) = p := ⟨_, rfl⟩
  obtain ⟨q, hq⟩ : ∃ q, decide (d = 281474976710655) = q := ⟨_, rfl⟩
  obtain ⟨y, hy⟩ : ∃ y, hw m = y := ⟨_, rfl⟩
  obtain ⟨z, hz⟩ : ∃ z, hw 281474976710655 = z := ⟨_, rfl⟩
  rw [hp] at E1 D
  rw [hq] at E2 D
  rw [hy] at H2 E1
  rw [hz] at H3 E2
  rw [D.out]
  clear hx hp hq hy hz D hd hm
  have X1 := Lib.hid E1
  have X2 := Lib.hid E2
  clear E1 E2
  cases p with
  | false =>
    go_enter Try.func21, Try.ntmps21
    go_wp2_with fail
    refine (H1.out _).mono ?_
    rintro e w1 ⟨rfl, hb1⟩
    have B1 := Lib.hid (((Below.refl w.heap.size w).alloc (Nat.le_refl _) _).trans (hb1.mono (by simp)))
    clear hb1
    go_wp2_with fail
    obtain ⟨w2, hw2⟩ : ∃ w2, w1.alloc (.cells #[.int .u8 x0, .int .u8 x1, .int .u8 x2, .int .u8 x3, .int .u8 x4, .int .u8 x5, .int .u8 x6, .int .u8 x7] 51) = w2 := ⟨_, rfl⟩
    have K := HasC.new w1 #[.int .u8 x0, .int .u8 x1, .int .u8 x2, .int .u8 x3, .int .u8 x4, .int .u8 x5, .int .u8 x6, .int .u8 x7] 51
    have B2 := Lib.hid (B1.out.alloc B1.out.size (.cells #[.int .u8 x0, .int .u8 x1, .int .u8 x2, .int .u8 x3, .int .u8 x4, .int .u8 x5, .int .u8 x6, .int .u8 x7] 51))
    rw [hw2] at K B2
    rw [hw2]
    clear hw2 B1
    generalize w1.heap.size = g at K ⊢
    have hg := K.1
    have c0 := K.2 0 _ rfl
    have c1 := K.2 1 _ rfl
    have c2 := K.2 2 _ rfl
    have c3 := K.2 3 _ rfl
    have c4 := K.2 4 _ rfl
    have c5 := K.2 5 _ rfl
    have c6 := K.2 6 _ rfl
    have c7 := K.2 7 _ rfl
    clear K
    have E1 := X1.out
    have E2 := X2.out
    clear X1 X2
    go_region_held3 (fun w' => g < w'.heap.size ∧ w'.cell? ⟨g, 0, none⟩ = some (.int .u8 x0) ∧ w'.cell? ⟨g, 1, none⟩ = some (.int .u8 x1) ∧ w'.cell? ⟨g, 2, none⟩ = some (.int .u8 x2) ∧ w'.cell? ⟨g, 3, none⟩ = some (.int .u8 x3) ∧ w'.cell? ⟨g, 4, none⟩ = some (.int .u8 x4) ∧ w'.cell? ⟨g, 5, none⟩ = some (.int .u8 x5) ∧ w'.cell? ⟨g, 6, none⟩ = some (.int .u8 x6) ∧ w'.cell? ⟨g, 7, none⟩ = some (.int .u8 x7))
      (first | (exact keep8 (by assumption) hb4) | (exact keep8 (by assumption) hb3) | go_keep)
      ((go_at_call 32; first | ((with_reducible refine (H2.out _).mono ?_); rintro e w3 ⟨rfl, hb3⟩) | ((with_reducible refine (H3.out _).mono ?_); rintro e w4 ⟨rfl, hb4⟩)))
    have B3 := Lib.hid (B2.out.drew.trans (hb3.mono B2.out.size))
    have B4 := Lib.hid (B3.out.trans (hb4.mono B3.out.size))
    clear hb3 hb4 c0 c1 c2 c3 c4 c5 c6 c7 E1 E2
    go_wp2_with fail
    go_ret
    exact ⟨rfl, B4.out⟩
  | true =>
    go_enter Try.func21, Try.ntmps21
    go_wp2_with fail
    refine (H1.out _).mono ?_
    rintro e w1 ⟨rfl, hb1⟩
    have B1 := Lib.hid (((Below.refl w.heap.size w).alloc (Nat.le_refl _) _).trans (hb1.mono (by simp)))
    clear hb1
    go_wp2_with fail
    obtain ⟨w2, hw2⟩ : ∃ w2, w1.alloc (.cells #[.int .u8 x0, .int .u8 x1, .int .u8 x2, .int .u8 x3, .int .u8 x4, .int .u8 x5, .int .u8 x6, .int .u8 x7] 51) = w2 := ⟨_, rfl⟩
    have K := HasC.new w1 #[.int .u8 x0, .int .u8 x1, .int .u8 x2, .int .u8 x3, .int .u8 x4, .int .u8 x5, .int .u8 x6, .int .u8 x7] 51
    have B2 := Lib.hid (B1.out.alloc B1.out.size (.cells #[.int .u8 x0, .int .u8 x1, .int .u8 x2, .int .u8 x3, .int .u8 x4, .int .u8 x5, .int .u8 x6, .int .u8 x7] 51))
    rw [hw2] at K B2
    rw [hw2]
    clear hw2 B1
    replace K : Has8 w2 w1.heap.size x0 x1 x2 x3 x4 x5 x6 x7 := ⟨K.1, K.2 0 _ rfl, K.2 1 _ rfl, K.2 2 _ rfl, K.2 3 _ rfl, K.2 4 _ rfl, K.2 5 _ rfl, K.2 6 _ rfl, K.2 7 _ rfl⟩
    generalize w1.heap.size = g at K ⊢
    refine wp_region_noPanic ?_
    refine wp_region_held_drew (S := fun w' => Has8 w' g x0 x1 x2 x3 x4 x5 x6 x7) (by kernel_rfl) (keep8 K (Below.refl _ _).drew) (fun _ => ?_)
    refine wpAnyH_take (i := 0) (v := Value.agg #[.int .u8 x0, .int .u8 x1, .int .u8 x2, .int .u8 x3, .int .u8 x4, .int .u8 x5, .int .u8 x6, .int .u8 x7]) rfl (by kernel_rfl) (by kernel_rfl) (by kernel_rfl) (fun _ _ _ h => h) (Or.inl ⟨rfl, by intro w h; obtain ⟨_, c0, c1, c2, c3, c4, c5, c6, c7⟩ := h; go_simp⟩) (keep8 K (Below.refl _ _).drew) ?_
    change wpAnyH _ _ _ _ _ _ _ { tmps := #[Value.agg #[.int .i64 d, .int .i64 s, .int .i64 t, .string b], Value.int IntKind.i64 m, Value.pointer (some { block := w.heap.size, off := 0 }), undef, Value.bool false, Value.pointer (some { block := g, off := 0 }), Value.pointer (some { block := w.heap.size, off := 0 }), Value.int IntKind.i64 d, Value.agg #[.int .u8 x0, .int .u8 x1, .int .u8 x2, .int .u8 x3, .int .u8 x4, .int .u8 x5, .int .u8 x6, .int .u8 x7], Value.agg #[.int .u8 x0, .int .u8 x1, .int .u8 x2, .int .u8 x3, .int .u8 x4, .int .u8 x5, .int .u8 x6, .int .u8 x7], undef, undef, undef, undef, undef, undef, undef, undef], defers := [] } _
    refine wpAnyH_take (i := 1) (v := Value.int IntKind.i64 m) rfl (by kernel_rfl) (by kernel_rfl) (by kernel_rfl) (fun _ _ _ h => h) (Or.inl ⟨rfl, fun _ _ => rfl⟩) (keep8 K (Below.refl _ _).drew) ?_
    change wpAnyH _ _ _ _ _ _ _ { tmps := #[Value.agg #[.int .i64 d, .int .i64 s, .int .i64 t, .string b], Value.int IntKind.i64 m, Value.pointer (some { block := w.heap.size, off := 0 }), undef, Value.bool false, Value.pointer (some { block := g, off := 0 }), Value.pointer (some { block := w.heap.size, off := 0 }), Value.int IntKind.i64 d, Value.agg #[.int .u8 x0, .int .u8 x1, .int .u8 x2, .int .u8 x3, .int .u8 x4, .int .u8 x5, .int .u8 x6, .int .u8 x7], Value.agg #[.int .u8 x0, .int .u8 x1, .int .u8 x2, .int .u8 x3, .int .u8 x4, .int .u8 x5, .int .u8 x6, .int .u8 x7], Value.int IntKind.i64 m, undef, undef, undef, undef, undef, undef, undef], defers := [] } _
    refine wpAnyH_ready (rs := [2]) (by kernel_rfl) (by simp) ?_
    refine AllReadyH.cons (i := 2) rfl (fun K' hK => ?zct1) AllReadyH.nil
    rw [if_pos (by rfl)]
    go_simp
    refine (H2.out _).mono ?_
    rintro e w3 ⟨rfl, hb3⟩
    have K3 := keep8 (keep8 K (Below.refl _ _).drew) hb3
    have B3 : Hid (Below w.heap.size w w3) := B2.out.drew.trans (hb3.mono B2.out.size)
    clear hb3
    refine hK.out _ _ K3 (fun _ => ?_)
    clear hK K'
    change wpAnyH _ _ _ _ _ _ _ { tmps := #[Value.agg #[.int .i64 d, .int .i64 s, .int .i64 t, .string b], Value.int IntKind.i64 m, Value.pointer (some { block := w.heap.size, off := 0 }), undef, Value.bool false, Value.pointer (some { block := g, off := 0 }), Value.pointer (some { block := w.heap.size, off := 0 }), Value.int IntKind.i64 d, Value.agg #[.int .u8 x0, .int .u8 x1, .int .u8 x2, .int .u8 x3, .int .u8 x4, .int .u8 x5, .int .u8 x6, .int .u8 x7], Value.agg #[.int .u8 x0, .int .u8 x1, .int .u8 x2, .int .u8 x3, .int .u8 x4, .int .u8 x5, .int .u8 x6, .int .u8 x7], Value.int IntKind.i64 m, Value.agg y, undef, undef, undef, undef, undef, undef], defers := [] } _
    refine wpAnyH_take (i := 3) (v := Value.bool true) rfl (by kernel_rfl) (by kernel_rfl) (by kernel_rfl) (fun _ _ _ h => h) (Or.inl ⟨rfl, by intro w h; go_simp; rw [X1.out]; go_simp⟩) K3 ?_
    change wpAnyH _ _ _ _ _ _ _ { tmps := #[Value.agg #[.int .i64 d, .int .i64 s, .int .i64 t, .string b], Value.int IntKind.i64 m, Value.pointer (some { block := w.heap.size, off := 0 }), undef, Value.bool false, Value.pointer (some { block := g, off := 0 }), Value.pointer (some { block := w.heap.size, off := 0 }), Value.int IntKind.i64 d, Value.agg #[.int .u8 x0, .int .u8 x1, .int .u8 x2, .int .u8 x3, .int .u8 x4, .int .u8 x5, .int .u8 x6, .int .u8 x7], Value.agg #[.int .u8 x0, .int .u8 x1, .int .u8 x2, .int .u8 x3, .int .u8 x4, .int .u8 x5, .int .u8 x6, .int .u8 x7], Value.int IntKind.i64 m, Value.agg y, Value.bool true, undef, undef, undef, undef, undef], defers := [] } _
    refine wpAnyH_take (i := 4) (v := Value.bool true) rfl (by kernel_rfl) (by kernel_rfl) (by kernel_rfl) (fun _ _ _ h => h) (Or.inl ⟨rfl, fun _ _ => rfl⟩) K3 ?_
    change wpAnyH _ _ _ _ _ _ _ { tmps := #[Value.agg #[.int .i64 d, .int .i64 s, .int .i64 t, .string b], Value.int IntKind.i64 m, Value.pointer (some { block := w.heap.size, off := 0 }), undef, Value.bool false, Value.pointer (some { block := g, off := 0 }), Value.pointer (some { block := w.heap.size, off := 0 }), Value.int IntKind.i64 d, Value.agg #[.int .u8 x0, .int .u8 x1, .int .u8 x2, .int .u8 x3, .int .u8 x4, .int .u8 x5, .int .u8 x6, .int .u8 x7], Value.agg #[.int .u8 x0, .int .u8 x1, .int .u8 x2, .int .u8 x3, .int .u8 x4, .int .u8 x5, .int .u8 x6, .int .u8 x7], Value.int IntKind.i64 m, Value.agg y, Value.bool true, Value.bool true, undef, undef, undef, undef], defers := [] } _
    refine wpAnyH_take (i := 5) (v := undef) rfl (by kernel_rfl) (by kernel_rfl) (by kernel_rfl) (fun _ _ _ h => h) (Or.inr ⟨rfl, rfl⟩) K3 ?_
    change wpAnyH _ _ _ _ _ _ _ { tmps := #[Value.agg #[.int .i64 d, .int .i64 s, .int .i64 t, .string b], Value.int IntKind.i64 m, Value.pointer (some { block := w.heap.size, off := 0 }), undef, Value.bool false, Value.pointer (some { block := g, off := 0 }), Value.pointer (some { block := w.heap.size, off := 0 }), Value.int IntKind.i64 d, Value.agg #[.int .u8 x0, .int .u8 x1, .int .u8 x2, .int .u8 x3, .int .u8 x4, .int .u8 x5, .int .u8 x6, .int .u8 x7], Value.agg #[.int .u8 x0, .int .u8 x1, .int .u8 x2, .int .u8 x3, .int .u8 x4, .int .u8 x5, .int .u8 x6, .int .u8 x7], Value.int IntKind.i64 m, Value.agg y, Value.bool true, Value.bool true, undef, undef, undef, undef], defers := [] } _
    refine wpAnyH_take (i := 6) (v := undef) rfl (by kernel_rfl) (by kernel_rfl) (by kernel_rfl) (fun _ _ _ h => h) (Or.inr ⟨rfl, rfl⟩) K3 ?_
    change wpAnyH _ _ _ _ _ _ _ { tmps := #[Value.agg #[.int .i64 d, .int .i64 s, .int .i64 t, .string b], Value.int IntKind.i64 m, Value.pointer (some { block := w.heap.size, off := 0 }), undef, Value.bool false, Value.pointer (some { block := g, off := 0 }), Value.pointer (some { block := w.heap.size, off := 0 }), Value.int IntKind.i64 d, Value.agg #[.int .u8 x0, .int .u8 x1, .int .u8 x2, .int .u8 x3, .int .u8 x4, .int .u8 x5, .int .u8 x6, .int .u8 x7], Value.agg #[.int .u8 x0, .int .u8 x1, .int .u8 x2, .int .u8 x3, .int .u8 x4, .int .u8 x5, .int .u8 x6, .int .u8 x7], Value.int IntKind.i64 m, Value.agg y, Value.bool true, Value.bool true, undef, undef, undef, undef], defers := [] } _
    refine wpAnyH_take (i := 7) (v := undef) rfl (by kernel_rfl) (by kernel_rfl) (by kernel_rfl) (fun _ _ _ h => h) (Or.inr ⟨rfl, rfl⟩) K3 ?_
    change wpAnyH _ _ _ _ _ _ _ { tmps := #[Value.agg #[.int .i64 d, .int .i64 s, .int .i64 t, .string b], Value.int IntKind.i64 m, Value.pointer (some { block := w.heap.size, off := 0 }), undef, Value.bool false, Value.pointer (some { block := g, off := 0 }), Value.pointer (some { block := w.heap.size, off := 0 }), Value.int IntKind.i64 d, Value.agg #[.int .u8 x0, .int .u8 x1, .int .u8 x2, .int .u8 x3, .int .u8 x4, .int .u8 x5, .int .u8 x6, .int .u8 x7], Value.agg #[.int .u8 x0, .int .u8 x1, .int .u8 x2, .int .u8 x3, .int .u8 x4, .int .u8 x5, .int .u8 x6, .int .u8 x7], Value.int IntKind.i64 m, Value.agg y, Value.bool true, Value.bool true, undef, undef, undef, undef], defers := [] } _
    refine wpAnyH_take (i := 8) (v := Value.bool true) rfl (by kernel_rfl) (by kernel_rfl) (by kernel_rfl) (fun _ _ _ h => h) (Or.inl ⟨rfl, fun _ _ => rfl⟩) K3 ?_
    change wpAnyH _ _ _ _ _ _ _ { tmps := #[Value.agg #[.int .i64 d, .int .i64 s, .int .i64 t, .string b], Value.int IntKind.i64 m, Value.pointer (some { block := w.heap.size, off := 0 }), undef, Value.bool false, Value.pointer (some { block := g, off := 0 }), Value.pointer (some { block := w.heap.size, off := 0 }), Value.int IntKind.i64 d, Value.agg #[.int .u8 x0, .int .u8 x1, .int .u8 x2, .int .u8 x3, .int .u8 x4, .int .u8 x5, .int .u8 x6, .int .u8 x7], Value.agg #[.int .u8 x0, .int .u8 x1, .int .u8 x2, .int .u8 x3, .int .u8 x4, .int .u8 x5, .int .u8 x6, .int .u8 x7], Value.int IntKind.i64 m, Value.agg y, Value.bool true, Value.bool true, undef, undef, undef, Value.bool true], defers := [] } _
    refine wpAnyH_take (i := 9) (v := Value.bool true) rfl (by kernel_rfl) (by kernel_rfl) (by kernel_rfl) (fun _ _ _ h => h) (Or.inl ⟨rfl, fun _ _ => rfl⟩) K3 ?_
    change wpAnyH _ _ _ _ _ _ _ { tmps := #[Value.agg #[.int .i64 d, .int .i64 s, .int .i64 t, .string b], Value.int IntKind.i64 m, Value.pointer (some { block := w.heap.size, off := 0 }), undef, Value.bool true, Value.pointer (some { block := g, off := 0 }), Value.pointer (some { block := w.heap.size, off := 0 }), Value.int IntKind.i64 d, Value.agg #[.int .u8 x0, .int .u8 x1, .int .u8 x2, .int .u8 x3, .int .u8 x4, .int .u8 x5, .int .u8 x6, .int .u8 x7], Value.agg #[.int .u8 x0, .int .u8 x1, .int .u8 x2, .int .u8 x3, .int .u8 x4, .int .u8 x5, .int .u8 x6, .int .u8 x7], Value.int IntKind.i64 m, Value.agg y, Value.bool true, Value.bool true, undef, undef, undef, Value.bool true], defers := [] } _
    refine wpAnyH_done (by kernel_rfl) ?_ _
    refine NoPanic.normal ?_
    go_wp2_with fail
    go_ret
    exact ⟨rfl, B3.out⟩
end Go.Proofs.Ytjldfmifccjniaa
