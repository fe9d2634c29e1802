/- The methods of an entry; the place of an address. Nothing here is a claim. -/
import Derived.Test.YtkkimgjcefojdaaBase
import Derived.Test.YtkkimgjcefojdaaEntKit
import Derived.Test.YtkkimgjcefojdaaCurA
import Derived.Test.YtkkimgjcefojdaaWordA
import Derived.Test.YtkkimgjcefojdaaBlk10
import Derived.Deep.RegionHeld3
import Derived.Deep.DeepCutAuto
import Derived.Handy
namespace Go.Proofs.Ytkkimgjcefojdaa
open Go.RowKit Go.Lib

theorem ageI (r : ER) (w : World) : Calls Try.prog 67 #[.agg #[.int .i64 r.ip, .int .i64 r.hw, .int .i64 r.age]] w (IntE r.age w) := by
  go_enter Try.func67, Try.ntmps67
  go_wp2_with fail
  go_ret
  exact ⟨rfl, (Below.refl _ _).alloc (Nat.le_refl _) _⟩
theorem keyI (r : ER) (w : World) : Calls Try.prog 68 #[.agg #[.int .i64 r.ip, .int .i64 r.hw, .int .i64 r.age]] w (IntE r.ip w) := by
  go_enter Try.func68, Try.ntmps68
  go_wp2_with fail
  go_ret
  exact ⟨rfl, (Below.refl _ _).alloc (Nat.le_refl _) _⟩
set_option maxHeartbeats 1000000 in
theorem validI (r : ER) (w : World) : Calls Try.prog 69 #[.agg #[.int .i64 r.ip, .int .i64 r.hw, .int .i64 r.age]] w (BoolE (wordOk r.ip 32 && wordOk r.hw 48) w) := by
  have C1 := Lib.hid (fun w => wordOkI r.ip 32 w)
  have C2 := Lib.hid (fun w => wordOkI r.hw 48 w)
  obtain ⟨x1, hx1⟩ : ∃ x, wordOk r.ip 32 = x := ⟨_, rfl⟩
  rw [hx1] at C1 ⊢
  clear hx1
  obtain ⟨x2, hx2⟩ : ∃ x, wordOk r.hw 48 = x := ⟨_, rfl⟩
  rw [hx2] at C2 ⊢
  clear hx2
  cases x1
  · go_enter Try.func69, Try.ntmps69
    go_wp2_with fail
    refine (C1.out _).mono ?_
    rintro e w1 ⟨rfl, rfl⟩
    go_wp2_with fail
    go_ret
    exact ⟨rfl, (Below.refl _ _).alloc (Nat.le_refl _) _⟩
  · go_enter Try.func69, Try.ntmps69
    go_wp2_with fail
    refine (C1.out _).mono ?_
    rintro e w1 ⟨rfl, rfl⟩
    go_wp2_with fail
    refine (C2.out _).mono ?_
    rintro e w1 ⟨rfl, rfl⟩
    go_wp2_with fail
    go_ret
    exact ⟨rfl, (Below.refl _ _).alloc (Nat.le_refl _) _⟩
theorem findF (r : ER) (ip : Int) (h : Nat) (w : World) (hc : w.cell? ⟨h, 0, none⟩ = some (.int .i64 ip)) (hlt : h < w.heap.size) :
    Calls Try.prog 47 #[.agg #[.int .i64 r.ip, .int .i64 r.hw, .int .i64 r.age], .pointer (some ⟨h, 0, none⟩)] w (BoolE (decide (r.ip = ip)) w) := by
  have K0 := Lib.hid (Blk.new w [.int .i64 r.ip, .int .i64 r.hw, .int .i64 r.age] 51)
  have B0 := Lib.hid (show Below w.heap.size w (w.alloc (.cells #[.int .i64 r.ip, .int .i64 r.hw, .int .i64 r.age] 51)) from (Below.refl _ _).alloc (Nat.le_refl _) _)
  have H0 := Lib.hid (show (w.alloc (.cells #[.int .i64 r.ip, .int .i64 r.hw, .int .i64 r.age] 51)).cell? ⟨h, 0, none⟩ = some (.int .i64 ip) from (B0.out.cell hlt).trans hc)
  go_enter Try.func47, Try.ntmps47
  go_upto_region 1 with fail
  generalize w.alloc (.cells #[.int .i64 r.ip, .int .i64 r.hw, .int .i64 r.age] 51) = w0 at B0 H0 K0 ⊢
  have hs := B0.out.size
  obtain ⟨⟨c0, c1, c2⟩, _⟩ := K0.out.o3
  have hh := H0.out
  generalize hg : w.heap.size = g at *
  have C := fun w => keyI r w
  go_region_held3 (fun w' => (w'.cell? ⟨g, 0, none⟩ = some (.int .i64 r.ip) ∧ w'.cell? ⟨g, 1, none⟩ = some (.int .i64 r.hw) ∧ w'.cell? ⟨g, 2, none⟩ = some (.int .i64 r.age)) ∧ w'.cell? ⟨h, 0, none⟩ = some (.int .i64 ip))
    (first | go_keep | (exact ⟨(K0.out.drew.below hb1).o3.1, (hb1.cell (p := ⟨h, 0, none⟩) (by simp; omega)).trans hh⟩))
    ((go_at_call 68; refine (C _).mono ?_; rintro e w1 ⟨rfl, hb1⟩))
  go_wp2_with fail
  go_ret
  exact ⟨ret_bool rfl, by rw [hg]; exact B0.out.trans ((Below.refl _ _).drew.trans (hb1.mono hs))⟩
end Go.Proofs.Ytkkimgjcefojdaa
