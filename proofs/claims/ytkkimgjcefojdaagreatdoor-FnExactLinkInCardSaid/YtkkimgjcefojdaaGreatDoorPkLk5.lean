/- Texts of a proof that belong together, joined. Nothing here is a claim. -/
import Derived.Deep.DeepCutAuto
import Derived.Handy
import Derived.Test.YtkkimgjcefojdaaGreatDoorPkLk4
namespace Go.Proofs.YtkkimgjcefojdaaGreatDoor
open Go.RowKit Go.Lib

/-- What ForMe answers. -/
def forMe (d m : Int) : Bool := decide (d = m) || decide (d = 281474976710655)

theorem hw_parts (n : Int) : ∃ x0 x1 x2 x3 x4 x5 x6 x7 : Int, hw n = #[.int .u8 x0, .int .u8 x1, .int .u8 x2, .int .u8 x3, .int .u8 x4, .int .u8 x5, .int .u8 x6, .int .u8 x7] := ⟨_, _, _, _, _, _, _, _, rfl⟩

/-- The eight cells of an array, kept over a call that makes memory of its own. -/
def Has8 (w : World) (g : Nat) (x0 x1 x2 x3 x4 x5 x6 x7 : Int) : Prop := g < w.heap.size ∧ w.cell? ⟨g, 0, none⟩ = some (.int .u8 x0) ∧ w.cell? ⟨g, 1, none⟩ = some (.int .u8 x1) ∧ w.cell? ⟨g, 2, none⟩ = some (.int .u8 x2) ∧ w.cell? ⟨g, 3, none⟩ = some (.int .u8 x3) ∧ w.cell? ⟨g, 4, none⟩ = some (.int .u8 x4) ∧ w.cell? ⟨g, 5, none⟩ = some (.int .u8 x5) ∧ w.cell? ⟨g, 6, none⟩ = some (.int .u8 x6) ∧ w.cell? ⟨g, 7, none⟩ = some (.int .u8 x7)
theorem keep8 {w w' : World} {g : Nat} {x0 x1 x2 x3 x4 x5 x6 x7 : Int} (h : Has8 w g x0 x1 x2 x3 x4 x5 x6 x7) (hb : Below w.heap.size w w') : Has8 w' g x0 x1 x2 x3 x4 x5 x6 x7 := by
 obtain ⟨h, c0, c1, c2, c3, c4, c5, c6, c7⟩ := h
 exact ⟨Nat.lt_of_lt_of_le h hb.size, (hb.cell (p := ⟨g, 0, none⟩) h).trans c0, (hb.cell (p := ⟨g, 1, none⟩) h).trans c1, (hb.cell (p := ⟨g, 2, none⟩) h).trans c2, (hb.cell (p := ⟨g, 3, none⟩) h).trans c3, (hb.cell (p := ⟨g, 4, none⟩) h).trans c4, (hb.cell (p := ⟨g, 5, none⟩) h).trans c5, (hb.cell (p := ⟨g, 6, none⟩) h).trans c6, (hb.cell (p := ⟨g, 7, none⟩) h).trans c7⟩

set_option maxRecDepth 100000 in
set_option maxHeartbeats 2000000 in
theorem forMeI (d s t m : Int) (b : ByteArray) (w : World) (hd : -9223372036854775808 ≤ d ∧ d ≤ 9223372036854775807) (hm : -9223372036854775808 ≤ m ∧ m ≤ 9223372036854775807) :
  Calls Tryz.prog 70 #[.agg #[.int .i64 d, .int .i64 s, .int .i64 t, .string b], .int .i64 m] w fun e w' => e = .returned (.bool (forMe d m)) ∧ Below w.heap.size w w' := by
 have H1 := Lib.hid (hardwareOf_any d)
 have H2 := Lib.hid (hardwareOf_any m)
 have H3 := Lib.hid (hardwareOf_any 281474976710655)
 have E1 := hw_eq d m hd hm
 have E2 := hw_eq d 281474976710655 hd (by decide)
 have D : Hid (forMe d m = (decide (d = m) || decide (d = 281474976710655))) := rfl
 obtain ⟨x0, x1, x2, x3, x4, x5, x6, x7, hx⟩ := hw_parts d
 rw [hx] at H1 E1 E2
 obtain ⟨p, hp⟩ : ∃ p, decide (d = m) = p := ⟨_, rfl⟩
 obtain ⟨q, hq⟩ : ∃ q, decide (d = 281474976710655) = q := ⟨_, rfl⟩
 obtain ⟨y, hy⟩ : ∃ y, hw m = y := ⟨_, rfl⟩
 obtain ⟨z, hz⟩ : ∃ z, hw 281474976710655 = z := ⟨_, rfl⟩
 rw [hp] at E1 D
 rw [hq] at E2 D
 rw [hy] at H2 E1
 rw [hz] at H3 E2
 rw [D.out]
 clear hx hp hq hy hz D hd hm
 have X1 := Lib.hid E1
 have X2 := Lib.hid E2
 clear E1 E2
 cases p with
 | false =>
  go_enter Tryz.func70, Tryz.ntmps70
  go_wp2_with fail
  refine (H1.out _).mono ?_
  rintro e w1 ⟨rfl, hb1⟩
  have B1 := Lib.hid (((Below.refl w.heap.size w).alloc (Nat.le_refl _) _).trans (hb1.mono (by simp)))
  clear hb1
  go_wp2_with fail
  obtain ⟨w2, hw2⟩ : ∃ w2, w1.alloc (.cells #[.int .u8 x0, .int .u8 x1, .int .u8 x2, .int .u8 x3, .int .u8 x4, .int .u8 x5, .int .u8 x6, .int .u8 x7] 129) = w2 := ⟨_, rfl⟩
  have K := HasC.new w1 #[.int .u8 x0, .int .u8 x1, .int .u8 x2, .int .u8 x3, .int .u8 x4, .int .u8 x5, .int .u8 x6, .int .u8 x7] 129
  have B2 := Lib.hid (B1.out.alloc B1.out.size (.cells #[.int .u8 x0, .int .u8 x1, .int .u8 x2, .int .u8 x3, .int .u8 x4, .int .u8 x5, .int .u8 x6, .int .u8 x7] 129))
  rw [hw2] at K B2
  rw [hw2]
  clear hw2 B1
  generalize w1.heap.size = g at K ⊢
  have hg := K.1
  have c0 := K.2 0 _ rfl
  have c1 := K.2 1 _ rfl
  have c2 := K.2 2 _ rfl
  have c3 := K.2 3 _ rfl
  have c4 := K.2 4 _ rfl
  have c5 := K.2 5 _ rfl
  have c6 := K.2 6 _ rfl
  have c7 := K.2 7 _ rfl
  clear K
  have E1 := X1.out
  have E2 := X2.out
  clear X1 X2
  go_region_held3 (fun w' => g < w'.heap.size ∧ w'.cell? ⟨g, 0, none⟩ = some (.int .u8 x0) ∧ w'.cell? ⟨g, 1, none⟩ = some (.int .u8 x1) ∧ w'.cell? ⟨g, 2, none⟩ = some (.int .u8 x2) ∧ w'.cell? ⟨g, 3, none⟩ = some (.int .u8 x3) ∧ w'.cell? ⟨g, 4, none⟩ = some (.int .u8 x4) ∧ w'.cell? ⟨g, 5, none⟩ = some (.int .u8 x5) ∧ w'.cell? ⟨g, 6, none⟩ = some (.int .u8 x6) ∧ w'.cell? ⟨g, 7, none⟩ = some (.int .u8 x7))
   (first | (exact keep8 (by assumption) hb4) | (exact keep8 (by assumption) hb3) | go_keep)
   ((go_at_call 104; first | ((with_reducible refine (H2.out _).mono ?_); rintro e w3 ⟨rfl, hb3⟩) | ((with_reducible refine (H3.out _).mono ?_); rintro e w4 ⟨rfl, hb4⟩)))
  have B3 := Lib.hid (B2.out.drew.trans (hb3.mono B2.out.size))
  have B4 := Lib.hid (B3.out.trans (hb4.mono B3.out.size))
  clear hb3 hb4 c0 c1 c2 c3 c4 c5 c6 c7 E1 E2
  go_wp2_with fail
  go_ret
  exact ⟨rfl, B4.out⟩
 | true =>
  go_enter Tryz.func70, Tryz.ntmps70
  go_wp2_with fail
  refine (H1.out _).mono ?_
  rintro e w1 ⟨rfl, hb1⟩
  have B1 := Lib.hid (((Below.refl w.heap.size w).alloc (Nat.le_refl _) _).trans (hb1.mono (by simp)))
  clear hb1
  go_wp2_with fail
  obtain ⟨w2, hw2⟩ : ∃ w2, w1.alloc (.cells #[.int .u8 x0, .int .u8 x1, .int .u8 x2, .int .u8 x3, .int .u8 x4, .int .u8 x5, .int .u8 x6, .int .u8 x7] 129) = w2 := ⟨_, rfl⟩
  have K := HasC.new w1 #[.int .u8 x0, .int .u8 x1, .int .u8 x2, .int .u8 x3, .int .u8 x4, .int .u8 x5, .int .u8 x6, .int .u8 x7] 129
  have B2 := Lib.hid (B1.out.alloc B1.out.size (.cells #[.int .u8 x0, .int .u8 x1, .int .u8 x2, .int .u8 x3, .int .u8 x4, .int .u8 x5, .int .u8 x6, .int .u8 x7] 129))
  rw [hw2] at K B2
  rw [hw2]
  clear hw2 B1
  replace K : Has8 w2 w1.heap.size x0 x1 x2 x3 x4 x5 x6 x7 := ⟨K.1, K.2 0 _ rfl, K.2 1 _ rfl, K.2 2 _ rfl, K.2 3 _ rfl, K.2 4 _ rfl, K.2 5 _ rfl, K.2 6 _ rfl, K.2 7 _ rfl⟩
  generalize w1.heap.size = g at K ⊢
  refine wp_region_noPanic ?_
  refine wp_region_held_drew (S := fun w' => Has8 w' g x0 x1 x2 x3 x4 x5 x6 x7) (by kernel_rfl) (keep8 K (Below.refl _ _).drew) (fun _ => ?_)
  refine wpAnyH_take (i := 0) (v := Value.agg #[.int .u8 x0, .int .u8 x1, .int .u8 x2, .int .u8 x3, .int .u8 x4, .int .u8 x5, .int .u8 x6, .int .u8 x7]) rfl (by kernel_rfl) (by kernel_rfl) (by kernel_rfl) (fun _ _ _ h => h) (Or.inl ⟨rfl, by intro w h; obtain ⟨_, c0, c1, c2, c3, c4, c5, c6, c7⟩ := h; go_simp⟩) (keep8 K (Below.refl _ _).drew) ?_
  change wpAnyH _ _ _ _ _ _ _ { tmps := #[Value.agg #[.int .i64 d, .int .i64 s, .int .i64 t, .string b], Value.int IntKind.i64 m, Value.pointer (some { block := w.heap.size, off := 0 }), undef, Value.bool false, Value.pointer (some { block := g, off := 0 }), Value.pointer (some { block := w.heap.size, off := 0 }), Value.int IntKind.i64 d, Value.agg #[.int .u8 x0, .int .u8 x1, .int .u8 x2, .int .u8 x3, .int .u8 x4, .int .u8 x5, .int .u8 x6, .int .u8 x7], Value.agg #[.int .u8 x0, .int .u8 x1, .int .u8 x2, .int .u8 x3, .int .u8 x4, .int .u8 x5, .int .u8 x6, .int .u8 x7], undef, undef, undef, undef, undef, undef, undef, undef], defers := [] } _
  refine wpAnyH_take (i := 1) (v := Value.int IntKind.i64 m) rfl (by kernel_rfl) (by kernel_rfl) (by kernel_rfl) (fun _ _ _ h => h) (Or.inl ⟨rfl, fun _ _ => rfl⟩) (keep8 K (Below.refl _ _).drew) ?_
  change wpAnyH _ _ _ _ _ _ _ { tmps := #[Value.agg #[.int .i64 d, .int .i64 s, .int .i64 t, .string b], Value.int IntKind.i64 m, Value.pointer (some { block := w.heap.size, off := 0 }), undef, Value.bool false, Value.pointer (some { block := g, off := 0 }), Value.pointer (some { block := w.heap.size, off := 0 }), Value.int IntKind.i64 d, Value.agg #[.int .u8 x0, .int .u8 x1, .int .u8 x2, .int .u8 x3, .int .u8 x4, .int .u8 x5, .int .u8 x6, .int .u8 x7], Value.agg #[.int .u8 x0, .int .u8 x1, .int .u8 x2, .int .u8 x3, .int .u8 x4, .int .u8 x5, .int .u8 x6, .int .u8 x7], Value.int IntKind.i64 m, undef, undef, undef, undef, undef, undef, undef], defers := [] } _
  refine wpAnyH_ready (rs := [2]) (by kernel_rfl) (by simp) ?_
  refine AllReadyH.cons (i := 2) rfl (fun K' hK => ?zct1) AllReadyH.nil
  rw [if_pos (by rfl)]
  go_simp
  refine (H2.out _).mono ?_
  rintro e w3 ⟨rfl, hb3⟩
  have K3 := keep8 (keep8 K (Below.refl _ _).drew) hb3
  have B3 : Hid (Below w.heap.size w w3) := B2.out.drew.trans (hb3.mono B2.out.size)
  clear hb3
  refine hK.out _ _ K3 (fun _ => ?_)
  clear hK K'
  change wpAnyH _ _ _ _ _ _ _ { tmps := #[Value.agg #[.int .i64 d, .int .i64 s, .int .i64 t, .string b], Value.int IntKind.i64 m, Value.pointer (some { block := w.heap.size, off := 0 }), undef, Value.bool false, Value.pointer (some { block := g, off := 0 }), Value.pointer (some { block := w.heap.size, off := 0 }), Value.int IntKind.i64 d, Value.agg #[.int .u8 x0, .int .u8 x1, .int .u8 x2, .int .u8 x3, .int .u8 x4, .int .u8 x5, .int .u8 x6, .int .u8 x7], Value.agg #[.int .u8 x0, .int .u8 x1, .int .u8 x2, .int .u8 x3, .int .u8 x4, .int .u8 x5, .int .u8 x6, .int .u8 x7], Value.int IntKind.i64 m, Value.agg y, undef, undef, undef, undef, undef, undef], defers := [] } _
  refine wpAnyH_take (i := 3) (v := Value.bool true) rfl (by kernel_rfl) (by kernel_rfl) (by kernel_rfl) (fun _ _ _ h => h) (Or.inl ⟨rfl, by intro w h; go_simp; rw [X1.out]; go_simp⟩) K3 ?_
  change wpAnyH _ _ _ _ _ _ _ { tmps := #[Value.agg #[.int .i64 d, .int .i64 s, .int .i64 t, .string b], Value.int IntKind.i64 m, Value.pointer (some { block := w.heap.size, off := 0 }), undef, Value.bool false, Value.pointer (some { block := g, off := 0 }), Value.pointer (some { block := w.heap.size, off := 0 }), Value.int IntKind.i64 d, Value.agg #[.int .u8 x0, .int .u8 x1, .int .u8 x2, .int .u8 x3, .int .u8 x4, .int .u8 x5, .int .u8 x6, .int .u8 x7], Value.agg #[.int .u8 x0, .int .u8 x1, .int .u8 x2, .int .u8 x3, .int .u8 x4, .int .u8 x5, .int .u8 x6, .int .u8 x7], Value.int IntKind.i64 m, Value.agg y, Value.bool true, undef, undef, undef, undef, undef], defers := [] } _
  refine wpAnyH_take (i := 4) (v := Value.bool true) rfl (by kernel_rfl) (by kernel_rfl) (by kernel_rfl) (fun _ _ _ h => h) (Or.inl ⟨rfl, fun _ _ => rfl⟩) K3 ?_
  change wpAnyH _ _ _ _ _ _ _ { tmps := #[Value.agg #[.int .i64 d, .int .i64 s, .int .i64 t, .string b], Value.int IntKind.i64 m, Value.pointer (some { block := w.heap.size, off := 0 }), undef, Value.bool false, Value.pointer (some { block := g, off := 0 }), Value.pointer (some { block := w.heap.size, off := 0 }), Value.int IntKind.i64 d, Value.agg #[.int .u8 x0, .int .u8 x1, .int .u8 x2, .int .u8 x3, .int .u8 x4, .int .u8 x5, .int .u8 x6, .int .u8 x7], Value.agg #[.int .u8 x0, .int .u8 x1, .int .u8 x2, .int .u8 x3, .int .u8 x4, .int .u8 x5, .int .u8 x6, .int .u8 x7], Value.int IntKind.i64 m, Value.agg y, Value.bool true, Value.bool true, undef, undef, undef, undef], defers := [] } _
  refine wpAnyH_take (i := 5) (v := undef) rfl (by kernel_rfl) (by kernel_rfl) (by kernel_rfl) (fun _ _ _ h => h) (Or.inr ⟨rfl, rfl⟩) K3 ?_
  change wpAnyH _ _ _ _ _ _ _ { tmps := #[Value.agg #[.int .i64 d, .int .i64 s, .int .i64 t, .string b], Value.int IntKind.i64 m, Value.pointer (some { block := w.heap.size, off := 0 }), undef, Value.bool false, Value.pointer (some { block := g, off := 0 }), Value.pointer (some { block := w.heap.size, off := 0 }), Value.int IntKind.i64 d, Value.agg #[.int .u8 x0, .int .u8 x1, .int .u8 x2, .int .u8 x3, .int .u8 x4, .int .u8 x5, .int .u8 x6, .int .u8 x7], Value.agg #[.int .u8 x0, .int .u8 x1, .int .u8 x2, .int .u8 x3, .int .u8 x4, .int .u8 x5, .int .u8 x6, .int .u8 x7], Value.int IntKind.i64 m, Value.agg y, Value.bool true, Value.bool true, undef, undef, undef, undef], defers := [] } _
  refine wpAnyH_take (i := 6) (v := undef) rfl (by kernel_rfl) (by kernel_rfl) (by kernel_rfl) (fun _ _ _ h => h) (Or.inr ⟨rfl, rfl⟩) K3 ?_
  change wpAnyH _ _ _ _ _ _ _ { tmps := #[Value.agg #[.int .i64 d, .int .i64 s, .int .i64 t, .string b], Value.int IntKind.i64 m, Value.pointer (some { block := w.heap.size, off := 0 }), undef, Value.bool false, Value.pointer (some { block := g, off := 0 }), Value.pointer (some { block := w.heap.size, off := 0 }), Value.int IntKind.i64 d, Value.agg #[.int .u8 x0, .int .u8 x1, .int .u8 x2, .int .u8 x3, .int .u8 x4, .int .u8 x5, .int .u8 x6, .int .u8 x7], Value.agg #[.int .u8 x0, .int .u8 x1, .int .u8 x2, .int .u8 x3, .int .u8 x4, .int .u8 x5, .int .u8 x6, .int .u8 x7], Value.int IntKind.i64 m, Value.agg y, Value.bool true, Value.bool true, undef, undef, undef, undef], defers := [] } _
  refine wpAnyH_take (i := 7) (v := undef) rfl (by kernel_rfl) (by kernel_rfl) (by kernel_rfl) (fun _ _ _ h => h) (Or.inr ⟨rfl, rfl⟩) K3 ?_
  change wpAnyH _ _ _ _ _ _ _ { tmps := #[Value.agg #[.int .i64 d, .int .i64 s, .int .i64 t, .string b], Value.int IntKind.i64 m, Value.pointer (some { block := w.heap.size, off := 0 }), undef, Value.bool false, Value.pointer (some { block := g, off := 0 }), Value.pointer (some { block := w.heap.size, off := 0 }), Value.int IntKind.i64 d, Value.agg #[.int .u8 x0, .int .u8 x1, .int .u8 x2, .int .u8 x3, .int .u8 x4, .int .u8 x5, .int .u8 x6, .int .u8 x7], Value.agg #[.int .u8 x0, .int .u8 x1, .int .u8 x2, .int .u8 x3, .int .u8 x4, .int .u8 x5, .int .u8 x6, .int .u8 x7], Value.int IntKind.i64 m, Value.agg y, Value.bool true, Value.bool true, undef, undef, undef, undef], defers := [] } _
  refine wpAnyH_take (i := 8) (v := Value.bool true) rfl (by kernel_rfl) (by kernel_rfl) (by kernel_rfl) (fun _ _ _ h => h) (Or.inl ⟨rfl, fun _ _ => rfl⟩) K3 ?_
  change wpAnyH _ _ _ _ _ _ _ { tmps := #[Value.agg #[.int .i64 d, .int .i64 s, .int .i64 t, .string b], Value.int IntKind.i64 m, Value.pointer (some { block := w.heap.size, off := 0 }), undef, Value.bool false, Value.pointer (some { block := g, off := 0 }), Value.pointer (some { block := w.heap.size, off := 0 }), Value.int IntKind.i64 d, Value.agg #[.int .u8 x0, .int .u8 x1, .int .u8 x2, .int .u8 x3, .int .u8 x4, .int .u8 x5, .int .u8 x6, .int .u8 x7], Value.agg #[.int .u8 x0, .int .u8 x1, .int .u8 x2, .int .u8 x3, .int .u8 x4, .int .u8 x5, .int .u8 x6, .int .u8 x7], Value.int IntKind.i64 m, Value.agg y, Value.bool true, Value.bool true, undef, undef, undef, Value.bool true], defers := [] } _
  refine wpAnyH_take (i := 9) (v := Value.bool true) rfl (by kernel_rfl) (by kernel_rfl) (by kernel_rfl) (fun _ _ _ h => h) (Or.inl ⟨rfl, fun _ _ => rfl⟩) K3 ?_
  change wpAnyH _ _ _ _ _ _ _ { tmps := #[Value.agg #[.int .i64 d, .int .i64 s, .int .i64 t, .string b], Value.int IntKind.i64 m, Value.pointer (some { block := w.heap.size, off := 0 }), undef, Value.bool true, Value.pointer (some { block := g, off := 0 }), Value.pointer (some { block := w.heap.size, off := 0 }), Value.int IntKind.i64 d, Value.agg #[.int .u8 x0, .int .u8 x1, .int .u8 x2, .int .u8 x3, .int .u8 x4, .int .u8 x5, .int .u8 x6, .int .u8 x7], Value.agg #[.int .u8 x0, .int .u8 x1, .int .u8 x2, .int .u8 x3, .int .u8 x4, .int .u8 x5, .int .u8 x6, .int .u8 x7], Value.int IntKind.i64 m, Value.agg y, Value.bool true, Value.bool true, undef, undef, undef, Value.bool true], defers := [] } _
  refine wpAnyH_done (by kernel_rfl) ?_ _
  refine NoPanic.normal ?_
  go_wp2_with fail
  go_ret
  exact ⟨rfl, B3.out⟩
end Go.Proofs.YtkkimgjcefojdaaGreatDoor
namespace Go.Proofs.YtkkimgjcefojdaaGreatDoor
open Go.RowKit Go.Lib

/-- Whether a link is valid. -/
noncomputable def linkOk (m ip : Int) (rs : List ER) : Bool := wordOk m 48 && (decide (m ≠ 281474976710655) && (wordOk ip 32 && cacheOk rs))
/-- What a frame brings: where its sender is found, what there is to do, the packet, the text to send. -/
structure Arr where
 ip : Int
 hw : Int
 kind : Int
 s : Int
 d : Int
 t : Int
 p : Int
 i : Int
 b : ByteArray
 ans : ByteArray
def Arr.zero : Arr := ⟨0, 0, 0, 0, 0, 0, 0, 0, ⟨#[]⟩, ⟨#[]⟩⟩
/-- What an ARP message brings. -/
def arpMsg (m ip : Int) (ok : Bool) (k sh si di : Int) : Option Arr :=
 if ok then
  if di = ip then
   some (if rpOk k sh si di m ip then ⟨si, sh, 1, 0, 0, 0, 0, 0, ⟨#[]⟩, frameText sh m 2054 (arpText 2 m ip sh si)⟩ else ⟨si, sh, 0, 0, 0, 0, 0, 0, ⟨#[]⟩, ⟨#[]⟩⟩)
  else none
 else none
def arpIn (m ip : Int) (b : ByteArray) : Option Arr := arpMsg m ip (raOk b) (raF b 6 2) (raF b 8 6) (raF b 14 4) (raF b 24 4)
/-- What a packet brings, in a frame from this address. -/
def pkMsg (ip src : Int) (why : Nat) (s d t p i : Int) (b : ByteArray) : Option Arr :=
 if why = 0 then if d = ip then if p = 6 then if s = ip then none else some ⟨s, src, 2, s, d, t, p, i, b, ⟨#[]⟩⟩ else none else none else none
def pkIn (ip src : Int) (b : ByteArray) : Option Arr := pkMsg ip src (pkWhy b) (rkS b) (rkD b) (rkT b) (rkP b) (rkI b) (rkB b)
/-- What a frame brings. -/
def frmIn (m ip : Int) (s t : Int) (b : ByteArray) : Option Arr := if t = 2054 then arpIn m ip b else if t = 2048 then pkIn ip s b else none
/-- What a text brings to a link. -/
noncomputable def arrOf (m ip : Int) (rs : List ER) (s : ByteArray) : Option Arr :=
 if linkOk m ip rs then if rfOk s then if forMe (rfD s) m then frmIn m ip (rfS s) (rfT s) (rfB s) else none else none else none
/-- The cache behind a text. -/
noncomputable def linkRs (o : Option Arr) (rs : List ER) : List ER := match o with
 | some a => learnE rs a.ip a.hw
 | none => rs
end Go.Proofs.YtkkimgjcefojdaaGreatDoor
namespace Go.Proofs.YtkkimgjcefojdaaGreatDoor
open Go.RowKit Go.Lib

theorem Blk.o3 {w : World} {g : Nat} {v0 v1 v2 : Value} (h : Blk w g [v0, v1, v2]) : (w.cell? ⟨g, 0, none⟩ = some v0 ∧ w.cell? ⟨g, 1, none⟩ = some v1 ∧ w.cell? ⟨g, 2, none⟩ = some v2) ∧ w.frozen? ⟨g, 0, none⟩ = false ∧ w.frozen? ⟨g, 1, none⟩ = false ∧ w.frozen? ⟨g, 2, none⟩ = false :=
 ⟨⟨h.cell 0 _ rfl, h.cell 1 _ rfl, h.cell 2 _ rfl⟩, h.open 0, h.open 1, h.open 2⟩
theorem Blk.of10 {w : World} {g : Nat} {v0 v1 v2 v3 v4 v5 v6 v7 v8 v9 : Value} (h : Blk w g [v0, v1, v2, v3, v4, v5, v6, v7, v8, v9]) : (w.cell? ⟨g, 0, none⟩ = some v0 ∧ w.cell? ⟨g, 1, none⟩ = some v1 ∧ w.cell? ⟨g, 2, none⟩ = some v2 ∧ w.cell? ⟨g, 3, none⟩ = some v3 ∧ w.cell? ⟨g, 4, none⟩ = some v4 ∧ w.cell? ⟨g, 5, none⟩ = some v5 ∧ w.cell? ⟨g, 6, none⟩ = some v6 ∧ w.cell? ⟨g, 7, none⟩ = some v7 ∧ w.cell? ⟨g, 8, none⟩ = some v8 ∧ w.cell? ⟨g, 9, none⟩ = some v9) ∧ w.frozen? ⟨g, 0, none⟩ = false ∧ w.frozen? ⟨g, 1, none⟩ = false ∧ w.frozen? ⟨g, 2, none⟩ = false ∧ w.frozen? ⟨g, 3, none⟩ = false ∧ w.frozen? ⟨g, 4, none⟩ = false ∧ w.frozen? ⟨g, 5, none⟩ = false ∧ w.frozen? ⟨g, 6, none⟩ = false ∧ w.frozen? ⟨g, 7, none⟩ = false ∧ w.frozen? ⟨g, 8, none⟩ = false ∧ w.frozen? ⟨g, 9, none⟩ = false :=
 ⟨⟨h.cell 0 _ rfl, h.cell 1 _ rfl, h.cell 2 _ rfl, h.cell 3 _ rfl, h.cell 4 _ rfl, h.cell 5 _ rfl, h.cell 6 _ rfl, h.cell 7 _ rfl, h.cell 8 _ rfl, h.cell 9 _ rfl⟩, h.open 0, h.open 1, h.open 2, h.open 3, h.open 4, h.open 5, h.open 6, h.open 7, h.open 8, h.open 9⟩
end Go.Proofs.YtkkimgjcefojdaaGreatDoor
namespace Go.Proofs.YtkkimgjcefojdaaGreatDoor
open Go.RowKit Go.Lib

theorem ageI (r : ER) (w : World) : Calls Tryz.prog 147 #[.agg #[.int .i64 r.ip, .int .i64 r.hw, .int .i64 r.age]] w (IntE r.age w) := by
 go_enter Tryz.func147, Tryz.ntmps147
 go_wp2_with fail
 go_ret
 exact ⟨rfl, (Below.refl _ _).alloc (Nat.le_refl _) _⟩
theorem keyI (r : ER) (w : World) : Calls Tryz.prog 148 #[.agg #[.int .i64 r.ip, .int .i64 r.hw, .int .i64 r.age]] w (IntE r.ip w) := by
 go_enter Tryz.func148, Tryz.ntmps148
 go_wp2_with fail
 go_ret
 exact ⟨rfl, (Below.refl _ _).alloc (Nat.le_refl _) _⟩
set_option maxHeartbeats 1000000 in
theorem validI (r : ER) (w : World) : Calls Tryz.prog 76 #[.agg #[.int .i64 r.ip, .int .i64 r.hw, .int .i64 r.age]] w (BoolE (wordOk r.ip 32 && wordOk r.hw 48) w) := by
 have C1 := Lib.hid (fun w => wordOkI r.ip 32 w)
 have C2 := Lib.hid (fun w => wordOkI r.hw 48 w)
 obtain ⟨x1, hx1⟩ : ∃ x, wordOk r.ip 32 = x := ⟨_, rfl⟩
 rw [hx1] at C1 ⊢
 clear hx1
 obtain ⟨x2, hx2⟩ : ∃ x, wordOk r.hw 48 = x := ⟨_, rfl⟩
 rw [hx2] at C2 ⊢
 clear hx2
 cases x1
 ·go_enter Tryz.func76, Tryz.ntmps76
  go_wp2_with fail
  refine (C1.out _).mono ?_
  rintro e w1 ⟨rfl, rfl⟩
  go_wp2_with fail
  go_ret
  exact ⟨rfl, (Below.refl _ _).alloc (Nat.le_refl _) _⟩
 ·go_enter Tryz.func76, Tryz.ntmps76
  go_wp2_with fail
  refine (C1.out _).mono ?_
  rintro e w1 ⟨rfl, rfl⟩
  go_wp2_with fail
  refine (C2.out _).mono ?_
  rintro e w1 ⟨rfl, rfl⟩
  go_wp2_with fail
  go_ret
  exact ⟨rfl, (Below.refl _ _).alloc (Nat.le_refl _) _⟩
theorem findF (r : ER) (ip : Int) (h : Nat) (w : World) (hc : w.cell? ⟨h, 0, none⟩ = some (.int .i64 ip)) (hlt : h < w.heap.size) :
  Calls Tryz.prog 84 #[.agg #[.int .i64 r.ip, .int .i64 r.hw, .int .i64 r.age], .pointer (some ⟨h, 0, none⟩)] w (BoolE (decide (r.ip = ip)) w) := by
 have K0 := Lib.hid (Blk.new w [.int .i64 r.ip, .int .i64 r.hw, .int .i64 r.age] 71)
 have B0 := Lib.hid (show Below w.heap.size w (w.alloc (.cells #[.int .i64 r.ip, .int .i64 r.hw, .int .i64 r.age] 71)) from (Below.refl _ _).alloc (Nat.le_refl _) _)
 have H0 := Lib.hid (show (w.alloc (.cells #[.int .i64 r.ip, .int .i64 r.hw, .int .i64 r.age] 71)).cell? ⟨h, 0, none⟩ = some (.int .i64 ip) from (B0.out.cell hlt).trans hc)
 go_enter Tryz.func84, Tryz.ntmps84
 go_upto_region 1 with fail
 generalize w.alloc (.cells #[.int .i64 r.ip, .int .i64 r.hw, .int .i64 r.age] 71) = w0 at B0 H0 K0 ⊢
 have hs := B0.out.size
 obtain ⟨⟨c0, c1, c2⟩, _⟩ := K0.out.o3
 have hh := H0.out
 generalize hg : w.heap.size = g at *
 have C := fun w => keyI r w
 go_region_held3 (fun w' => (w'.cell? ⟨g, 0, none⟩ = some (.int .i64 r.ip) ∧ w'.cell? ⟨g, 1, none⟩ = some (.int .i64 r.hw) ∧ w'.cell? ⟨g, 2, none⟩ = some (.int .i64 r.age)) ∧ w'.cell? ⟨h, 0, none⟩ = some (.int .i64 ip))
  (first | go_keep | (exact ⟨(K0.out.drew.below hb1).o3.1, (hb1.cell (p := ⟨h, 0, none⟩) (by simp; omega)).trans hh⟩))
  ((go_at_call 148; refine (C _).mono ?_; rintro e w1 ⟨rfl, hb1⟩))
 go_wp2_with fail
 go_ret
 exact ⟨ret_bool rfl, by rw [hg]; exact B0.out.trans ((Below.refl _ _).drew.trans (hb1.mono hs))⟩
end Go.Proofs.YtkkimgjcefojdaaGreatDoor
namespace Go.Proofs.YtkkimgjcefojdaaGreatDoor
open Go.RowKit Go.Lib

/-- Up to k, no entry has this address. -/
def NoneE (rs : List ER) (ip : Int) (k : Nat) : Prop := ∀ j (h : j < rs.length), j < k → rs[j].ip ≠ ip
theorem NoneE.zero (rs : List ER) (ip : Int) : NoneE rs ip 0 := fun _ _ h => by omega
theorem NoneE.next {rs : List ER} {ip : Int} {k : Nat} (h : NoneE rs ip k) (h1 : k < rs.length) (he : rs[k].ip ≠ ip) : NoneE rs ip (k + 1) := fun j a hj => by
 rcases Nat.lt_or_ge j k with h3 | h3
 ·exact h j a h3
 ·obtain rfl : j = k := by omega
  exact he
theorem NoneE.hit {rs : List ER} {ip : Int} {k : Nat} (h : NoneE rs ip k) (h1 : k < rs.length) (he : rs[k].ip = ip) : placeE rs ip = k := by
 have := atE_eq h1 he h
 rw [placeE_yes (by omega), this]
theorem NoneE.all {rs : List ER} {ip : Int} (h : NoneE rs ip rs.length) : placeE rs ip = -1 := placeE_no (by rw [atE_none h]; omega)

set_option maxHeartbeats 1000000 in
theorem indexFuncI (a : Option Addr) (cap : Nat) (rs : List ER) (ip : Int) (h : Nat) (w : World) (hrow : Row w w.heap.size a (ers rs)) (hc : Blk w h [.int .i64 ip]) (hl : rs.length ≤ 1048577) :
  Calls Tryz.prog 83 #[.slice a rs.length cap, .func (.func 84) #[] #[.pointer (some ⟨h, 0, none⟩)]] w (IntE (placeE rs ip) w) := by
 have R := Lib.hid hrow
 have H := Lib.hid hc
 clear hrow hc
 go_enter Tryz.func83, Tryz.ntmps83
 go_wp2_with fail
 go_loopw [8] (fun i wr => ∃ k : Nat, k ≤ rs.length ∧ i = .int .i64 k ∧ Hid (NoneE rs ip k) ∧ Hid (Below w.heap.size w wr)) (fun i _ => rs.length - (RowKit.intOf i).toNat)
 case atStart => exact ⟨0, Nat.zero_le _, rfl, NoneE.zero _ _, Below.refl _ _⟩
 case round =>
  obtain ⟨k, hk, rfl, hno, hb⟩ := hrel
  by_cases hlt : k < rs.length
  ·obtain ⟨b, off, rfl, hbb, hcs⟩ := (R.out.below hb.out).er hlt
   obtain ⟨hc0, hc1, hc2⟩ := hcs k hlt
   have hk0 : (0 : Int) ≤ (k : Int) := Int.natCast_nonneg _
   have hk1 : (k : Int) < (rs.length : Int) := by omega
   have HC := H.out.below hb.out
   have C := Lib.hid (findF rs[k] ip h wr (HC.cell 0 _ rfl) HC.lt)
   clear hcs HC
   by_cases he : rs[k].ip = ip
   ·have HE := Lib.hid he
    rw [decide_eq_true he] at C
    clear he
    go_wp2_with fail
    refine C.out.mono ?_
    rintro e w1 ⟨rfl, hb1⟩
    have HB1 := Lib.hid (hb.out.trans (hb1.mono hb.out.size))
    clear hb1
    go_wp2_with fail
    go_ret
    exact ⟨by rw [hno.out.hit hlt HE.out]; rfl, HB1.out⟩
   ·have HE := Lib.hid he
    rw [decide_eq_false he] at C
    clear he
    go_wp2_with fail
    refine C.out.mono ?_
    rintro e w1 ⟨rfl, hb1⟩
    have HB1 := Lib.hid (hb.out.trans (hb1.mono hb.out.size))
    clear hb1
    go_wp2_with fail
    go_roundw
    case rel => exact ⟨k + 1, by omega, by go_num, hno.out.next hlt HE.out, HB1.out⟩
    case measure => simp [RowKit.intOf]; omega
  ·obtain rfl : k = rs.length := by omega
   go_wp2_with fail
   go_ret
   exact ⟨by rw [hno.out.all]; rfl, hb.out⟩

set_option maxHeartbeats 1000000 in
theorem findI (a : Option Addr) (cap : Nat) (rs : List ER) (x y ip : Int) (w : World) (hrow : Row w w.heap.size a (ers rs)) (hl : rs.length ≤ 1048577) :
  Calls Tryz.prog 40 #[.agg #[.slice a rs.length cap, .int .i64 x, .int .i64 y], .int .i64 ip] w (IntE (placeE rs ip) w) := by
 have hmf : ∀ (fn : Fn) (first cap : Array Value) (w : World), (Instr.makeFunc fn first cap).run Tryz.prog w = .ok (.func fn first cap) w := fun _ _ _ _ => rfl
 have B2 := Lib.hid (show Below w.heap.size w ((w.alloc (.cells #[.slice a rs.length cap, .int .i64 x, .int .i64 y] 74)).alloc (.cells #[.int .i64 ip] 3)) from ((Below.refl _ w).alloc (Nat.le_refl _) _).alloc (by simp) _)
 have H2 := Lib.hid (show Blk ((w.alloc (.cells #[.slice a rs.length cap, .int .i64 x, .int .i64 y] 74)).alloc (.cells #[.int .i64 ip] 3)) (w.heap.size + 1) [.int .i64 ip] by
  have h0 := Blk.new (w.alloc (.cells #[.slice a rs.length cap, .int .i64 x, .int .i64 y] 74)) [.int .i64 ip] 3
  rwa [show (w.alloc (.cells #[.slice a rs.length cap, .int .i64 x, .int .i64 y] 74)).heap.size = w.heap.size + 1 by simp] at h0)
 have R := Lib.hid ((hrow.below B2.out).mono B2.out.size)
 clear hrow
 go_enter Tryz.func40, Tryz.ntmps40
 go_wp2_with fail
 refine (indexFuncI a cap rs ip (w.heap.size + 1) _ R.out H2.out hl).mono ?_
 rintro e w1 ⟨rfl, hb1⟩
 have HB1 := Lib.hid (B2.out.trans (hb1.mono B2.out.size))
 clear hb1 H2 R B2
 go_wp2_with fail
 go_ret
 exact ⟨rfl, HB1.out⟩
end Go.Proofs.YtkkimgjcefojdaaGreatDoor
