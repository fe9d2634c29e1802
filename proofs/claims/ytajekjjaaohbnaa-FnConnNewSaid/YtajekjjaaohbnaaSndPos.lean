/- Places of a sender, of both sides. Nothing here is a claim. -/
import Derived.Test.YtajekjjaaohbnaaSndKit
import Derived.Test.YtajekjjaaohbnaaSeqKit
import Derived.Test.YtajekjjaaohbnaaCurA
import Derived.Deep.RegionHeld3
import Derived.Deep.QuietTactic
import Derived.Deep.DeepCutAuto
import Derived.BigQuiet
namespace Go.Proofs.Ytajekjjaaohbnaa
open Go.RowKit Go.Lib

theorem seqAddI_s (a n : Int) (w : World) : Calls Try.prog 43 #[.int .i64 a, .int .i64 n] w (SndI (pl (a + n)) w) := (seqAddI a n w).mono fun _ _ h => ⟨h.1, by rw [← h.2]; exact Below.refl _ _⟩
theorem seqAddS_s (a n : Int) (w : World) : Calls Try.prog 18 #[.int .i64 a, .int .i64 n] w (SndI (pl (a + n)) w) := (seqAddS a n w).mono fun _ _ h => ⟨h.1, by rw [← h.2]; exact Below.refl _ _⟩
theorem below_drewN {B : Nat} {a b : World} (h : Below B a b) (n : Nat) : Below B a (b.drewN n) := ⟨h.os, h.tape, h.output, h.size, h.block⟩

set_option maxRecDepth 100000 in
set_option maxHeartbeats 1000000 in
theorem positionI (u : Int) (d : ByteArray) (t : Int) (f g h : Bool) (w : World) : Calls Try.prog 85 #[.agg #[.int .i64 u, .string d, .int .i64 t, .bool f, .bool g, .bool h]] w fun e w' => e = .returned (.agg #[.int .i64 u, .int .i64 (fl t g)]) ∧ Below w.heap.size w w' := by
  unfold fl
  cases g
  · rw [cond_false]
    go_enter Try.func85, Try.ntmps85
    go_wp2
    exact bodyPost_ret (v := .agg #[.int .i64 u, .int .i64 (t)]) (by simp [results, Try.results85, go_sem]) rfl ⟨rfl, (((Below.refl _ _).alloc (Nat.le_refl _) _).alloc (by simp) _).alloc (by simp; omega) _⟩
  · rw [cond_true]
    go_enter Try.func85, Try.ntmps85
    go_wp2
    exact bodyPost_ret (v := .agg #[.int .i64 u, .int .i64 (wrap64 (t + 1))]) (by simp [results, Try.results85, go_sem]) rfl ⟨rfl, (((Below.refl _ _).alloc (Nat.le_refl _) _).alloc (by simp) _).alloc (by simp; omega) _⟩

theorem nextI (a b : Int) (w : World) : Calls Try.prog 86 #[.agg #[.int .i64 a, .int .i64 b]] w (SndI (pl (a + b)) w) := by
  go_enter Try.func86, Try.ntmps86
  go_wp2_with fail
  refine (seqAddI _ _ _).mono ?_
  rintro e w1 ⟨rfl, rfl⟩
  go_wp2_with fail
  go_ret
  exact ⟨rfl, (Below.refl _ _).alloc (Nat.le_refl _) _⟩

theorem nextOfI (u : Int) (d : ByteArray) (t : Int) (f g h : Bool) (w : World) : Calls Try.prog 52 #[.agg #[.int .i64 u, .string d, .int .i64 t, .bool f, .bool g, .bool h]] w (SndI (nxt u t g) w) := by
  have P := Lib.hid (positionI u d t f g h)
  have N := Lib.hid (nextI u (fl t g))
  unfold nxt
  generalize pl (u + fl t g) = z at N ⊢
  generalize fl t g = p at P N
  go_enter Try.func52, Try.ntmps52
  go_wp2_with fail
  refine (P.out _).mono ?_
  rintro e w1 ⟨rfl, hb⟩
  have B1 := Lib.hid (((Below.refl w.heap.size w).alloc (Nat.le_refl _) _).trans (hb.mono (by simp)))
  clear hb
  go_wp2_with fail
  refine (N.out _).mono ?_
  rintro e w2 ⟨rfl, hb⟩
  have B2 := Lib.hid (B1.out.trans (hb.mono B1.out.size))
  clear hb B1
  go_wp2_with fail
  go_ret
  exact ⟨rfl, B2.out⟩

theorem flownS (u : Int) (d : ByteArray) (t : Int) (f g h : Bool) (w : World) : Calls Try.prog 95 #[.agg #[.int .i64 u, .string d, .int .i64 t, .bool f, .bool g, .bool h]] w (SndI (fl t g) w) := by
  unfold fl
  cases g
  · rw [cond_false]
    go_enter Try.func95, Try.ntmps95
    go_wp2
    go_ret
    exact ⟨rfl, (Below.refl _ _).alloc (Nat.le_refl _) _⟩
  · rw [cond_true]
    go_enter Try.func95, Try.ntmps95
    go_wp2
    go_ret
    exact ⟨rfl, (Below.refl _ _).alloc (Nat.le_refl _) _⟩

theorem nextOfS (u : Int) (d : ByteArray) (t : Int) (f g h : Bool) (w : World) : Calls Try.prog 75 #[.agg #[.int .i64 u, .string d, .int .i64 t, .bool f, .bool g, .bool h]] w (SndI (nxt u t g) w) := by
  have P := Lib.hid (flownS u d t f g h)
  have N := Lib.hid (seqAddS_s u (fl t g))
  unfold nxt
  generalize pl (u + fl t g) = z at N ⊢
  generalize fl t g = p at P N
  go_enter Try.func75, Try.ntmps75
  have B0 := Lib.hid (show Below w.heap.size w (w.alloc (.cells #[.int .i64 u, .string d, .int .i64 t, .bool f, .bool g, .bool h] 31)) from ((Below.refl _ w).alloc (by simp) _))
  have Ks0 := Lib.hid (show Blk (w.alloc (.cells #[.int .i64 u, .string d, .int .i64 t, .bool f, .bool g, .bool h] 31)) (w.heap.size) [.int .i64 u, .string d, .int .i64 t, .bool f, .bool g, .bool h] from Blk.new w [.int .i64 u, .string d, .int .i64 t, .bool f, .bool g, .bool h] 31)
  go_upto_region 1 with fail
  generalize w.alloc (.cells #[.int .i64 u, .string d, .int .i64 t, .bool f, .bool g, .bool h] 31) = v0 at B0 Ks0 ⊢
  generalize w.heap.size = g_s at Ks0 ⊢
  obtain ⟨⟨cs0, cs1, cs2, cs3, cs4, cs5⟩, ds0, ds1, ds2, ds3, ds4, ds5⟩ := Ks0.out.of6
  have P0_0 : True := trivial
  have P0_1 : True := trivial
  go_region_held3 (fun w' => (w'.cell? ⟨g_s, 0, none⟩ = some (.int .i64 u) ∧ w'.cell? ⟨g_s, 1, none⟩ = some (.string d) ∧ w'.cell? ⟨g_s, 2, none⟩ = some (.int .i64 t) ∧ w'.cell? ⟨g_s, 3, none⟩ = some (.bool f) ∧ w'.cell? ⟨g_s, 4, none⟩ = some (.bool g) ∧ w'.cell? ⟨g_s, 5, none⟩ = some (.bool h)))
    (first | go_keep | (exact Ks1.out.of6.1) | (exact Ks2.out.of6.1))
    (first | (have q := P0_0; go_at_call 95; clear q P0_0; refine (P.out _).mono ?_; rintro e v1 ⟨rfl, hb⟩; replace hb := (Below.refl _ v0).drew.trans hb; have B1 := Lib.hid (B0.out.trans (hb.mono B0.out.size)); have Ks1 := Lib.hid (Ks0.out.below hb); clear hb B0 Ks0) | (have q := P0_1; go_at_call 18; clear q P0_1; refine (N.out _).mono ?_; rintro e v2 ⟨rfl, hb⟩; have B2 := Lib.hid (B1.out.trans (hb.mono B1.out.size)); have Ks2 := Lib.hid (Ks1.out.below hb); clear hb B1 Ks1))
  try clear cs0 cs1 cs2 cs3 cs4 cs5 ds0 ds1 ds2 ds3 ds4 ds5
  go_wp2_with fail
  go_ret
  exact ⟨rfl, B2.out⟩
end Go.Proofs.Ytajekjjaaohbnaa
