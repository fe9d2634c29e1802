/- Has and SegmentLen, of the model and of the program. Nothing here is a claim. -/
import Derived.Test.YtlfbcfhekfmkfaaBase
import Derived.Test.YtlfbcfhekfmkfaaKit
namespace Go.Proofs.Ytlfbcfhekfmkfaa
open Go.RowKit Go.Lib

/-- Whether the flags hold all bits of x. -/
def hasF (g x : Int) : Bool := bits .and .i64 g x == x
/-- What SegmentLen answers. -/
def segLen (g : Int) (b : ByteArray) : Int := b.size + (bif hasF g 2 then 1 else 0) + (bif hasF g 1 then 1 else 0)

set_option maxHeartbeats 1000000 in
theorem hasS (p d q a g n : Int) (m c : Int) (k t : Bool) (v u : Int) (b : ByteArray) (x : Int) (w : World) :
    Calls Try.prog 26 #[.agg #[.int .i64 p, .int .i64 d, .int .i64 q, .int .i64 a, .int .i64 g, .int .i64 n, .int .i64 m, .int .i64 c, .bool k, .bool t, .int .i64 v, .int .i64 u, .string b], .int .i64 x] w fun e w' => e = .returned (.bool (hasF g x)) ∧ Below w.heap.size w w' := by
  obtain ⟨r, hr⟩ : ∃ r, bits .and .i64 g x = r := ⟨_, rfl⟩
  have D : hasF g x = (r == x) := by unfold hasF; rw [hr]
  rw [D]
  clear D
  go_enter Try.func26, Try.ntmps26
  go_wp2_with fail
  go_ret
  exact ⟨rfl, (Below.refl _ _).alloc (Nat.le_refl _) _⟩

set_option maxRecDepth 100000 in
set_option maxHeartbeats 4000000 in
theorem segLenS (p d q a g n : Int) (m c : Int) (k t : Bool) (v u : Int) (b : ByteArray) (hb : b.size ≤ 1048576) (w : World) :
    Calls Try.prog 21 #[.agg #[.int .i64 p, .int .i64 d, .int .i64 q, .int .i64 a, .int .i64 g, .int .i64 n, .int .i64 m, .int .i64 c, .bool k, .bool t, .int .i64 v, .int .i64 u, .string b]] w fun e w' => e = .returned (.int .i64 (segLen g b)) ∧ Below w.heap.size w w' := by
  have q1 : IntKind.i64.wrap ((b.size : Int) + 1) = b.size + 1 := by rw [IntKind.wrap_i64]; omega
  have q2 : IntKind.i64.wrap ((b.size : Int) + 1 + 1) = b.size + 1 + 1 := by rw [IntKind.wrap_i64]; omega
  have C1 := Lib.hid (hasS p d q a g n m c k t v u b 2)
  have C2 := Lib.hid (hasS p d q a g n m c k t v u b 1)
  have D : Hid (segLen g b = b.size + (bif hasF g 2 then 1 else 0) + (bif hasF g 1 then 1 else 0)) := rfl
  generalize hasF g 2 = h2 at C1 D
  generalize hasF g 1 = h1 at C2 D
  rw [D.out]
  clear D
  cases h2 with
  | false =>
    cases h1 with
    | false =>
      go_enter Try.func21, Try.ntmps21
      go_wp2_with fail
      refine (C1.out _).mono ?_
      rintro e w1 ⟨rfl, hb1⟩
      have B1 := Lib.hid (((Below.refl w.heap.size w).alloc (Nat.le_refl _) _).trans (hb1.mono (by simp)))
      have K1 := Lib.hid ((HasC.new w #[.int .i64 p, .int .i64 d, .int .i64 q, .int .i64 a, .int .i64 g, .int .i64 n, .int .i64 m, .int .i64 c, .bool k, .bool t, .int .i64 v, .int .i64 u, .string b] 27).keep hb1)
      clear hb1
      have c0 := K1.out.at 0 rfl
      have c1 := K1.out.at 1 rfl
      have c2 := K1.out.at 2 rfl
      have c3 := K1.out.at 3 rfl
      have c4 := K1.out.at 4 rfl
      have c5 := K1.out.at 5 rfl
      have c6 := K1.out.at 6 rfl
      have c7 := K1.out.at 7 rfl
      have c8 := K1.out.at 8 rfl
      have c9 := K1.out.at 9 rfl
      have c10 := K1.out.at 10 rfl
      have c11 := K1.out.at 11 rfl
      have c12 := K1.out.at 12 rfl
      have hgK := K1.out.1
      go_wp2_with fail
      refine (C2.out _).mono ?_
      rintro e w2 ⟨rfl, hb2⟩
      have B2 := Lib.hid (B1.out.trans (hb2.mono B1.out.size))
      clear hb2 B1 K1 c0 c1 c2 c3 c4 c5 c6 c7 c8 c9 c10 c11 c12 hgK
      go_wp2_with fail
      go_ret
      exact ⟨by simp, B2.out⟩
    | true =>
      go_enter Try.func21, Try.ntmps21
      go_wp2_with fail
      refine (C1.out _).mono ?_
      rintro e w1 ⟨rfl, hb1⟩
      have B1 := Lib.hid (((Below.refl w.heap.size w).alloc (Nat.le_refl _) _).trans (hb1.mono (by simp)))
      have K1 := Lib.hid ((HasC.new w #[.int .i64 p, .int .i64 d, .int .i64 q, .int .i64 a, .int .i64 g, .int .i64 n, .int .i64 m, .int .i64 c, .bool k, .bool t, .int .i64 v, .int .i64 u, .string b] 27).keep hb1)
      clear hb1
      have c0 := K1.out.at 0 rfl
      have c1 := K1.out.at 1 rfl
      have c2 := K1.out.at 2 rfl
      have c3 := K1.out.at 3 rfl
      have c4 := K1.out.at 4 rfl
      have c5 := K1.out.at 5 rfl
      have c6 := K1.out.at 6 rfl
      have c7 := K1.out.at 7 rfl
      have c8 := K1.out.at 8 rfl
      have c9 := K1.out.at 9 rfl
      have c10 := K1.out.at 10 rfl
      have c11 := K1.out.at 11 rfl
      have c12 := K1.out.at 12 rfl
      have hgK := K1.out.1
      go_wp2_with fail
      refine (C2.out _).mono ?_
      rintro e w2 ⟨rfl, hb2⟩
      have B2 := Lib.hid (B1.out.trans (hb2.mono B1.out.size))
      clear hb2 B1 K1 c0 c1 c2 c3 c4 c5 c6 c7 c8 c9 c10 c11 c12 hgK
      go_wp2_with fail
      go_ret
      exact ⟨by simp, B2.out⟩
  | true =>
    cases h1 with
    | false =>
      go_enter Try.func21, Try.ntmps21
      go_wp2_with fail
      refine (C1.out _).mono ?_
      rintro e w1 ⟨rfl, hb1⟩
      have B1 := Lib.hid (((Below.refl w.heap.size w).alloc (Nat.le_refl _) _).trans (hb1.mono (by simp)))
      have K1 := Lib.hid ((HasC.new w #[.int .i64 p, .int .i64 d, .int .i64 q, .int .i64 a, .int .i64 g, .int .i64 n, .int .i64 m, .int .i64 c, .bool k, .bool t, .int .i64 v, .int .i64 u, .string b] 27).keep hb1)
      clear hb1
      have c0 := K1.out.at 0 rfl
      have c1 := K1.out.at 1 rfl
      have c2 := K1.out.at 2 rfl
      have c3 := K1.out.at 3 rfl
      have c4 := K1.out.at 4 rfl
      have c5 := K1.out.at 5 rfl
      have c6 := K1.out.at 6 rfl
      have c7 := K1.out.at 7 rfl
      have c8 := K1.out.at 8 rfl
      have c9 := K1.out.at 9 rfl
      have c10 := K1.out.at 10 rfl
      have c11 := K1.out.at 11 rfl
      have c12 := K1.out.at 12 rfl
      have hgK := K1.out.1
      go_wp2_with fail
      refine (C2.out _).mono ?_
      rintro e w2 ⟨rfl, hb2⟩
      have B2 := Lib.hid (B1.out.trans (hb2.mono B1.out.size))
      clear hb2 B1 K1 c0 c1 c2 c3 c4 c5 c6 c7 c8 c9 c10 c11 c12 hgK
      go_wp2_with fail
      go_ret
      exact ⟨by simp, B2.out⟩
    | true =>
      go_enter Try.func21, Try.ntmps21
      go_wp2_with fail
      refine (C1.out _).mono ?_
      rintro e w1 ⟨rfl, hb1⟩
      have B1 := Lib.hid (((Below.refl w.heap.size w).alloc (Nat.le_refl _) _).trans (hb1.mono (by simp)))
      have K1 := Lib.hid ((HasC.new w #[.int .i64 p, .int .i64 d, .int .i64 q, .int .i64 a, .int .i64 g, .int .i64 n, .int .i64 m, .int .i64 c, .bool k, .bool t, .int .i64 v, .int .i64 u, .string b] 27).keep hb1)
      clear hb1
      have c0 := K1.out.at 0 rfl
      have c1 := K1.out.at 1 rfl
      have c2 := K1.out.at 2 rfl
      have c3 := K1.out.at 3 rfl
      have c4 := K1.out.at 4 rfl
      have c5 := K1.out.at 5 rfl
      have c6 := K1.out.at 6 rfl
      have c7 := K1.out.at 7 rfl
      have c8 := K1.out.at 8 rfl
      have c9 := K1.out.at 9 rfl
      have c10 := K1.out.at 10 rfl
      have c11 := K1.out.at 11 rfl
      have c12 := K1.out.at 12 rfl
      have hgK := K1.out.1
      go_wp2_with fail
      refine (C2.out _).mono ?_
      rintro e w2 ⟨rfl, hb2⟩
      have B2 := Lib.hid (B1.out.trans (hb2.mono B1.out.size))
      clear hb2 B1 K1 c0 c1 c2 c3 c4 c5 c6 c7 c8 c9 c10 c11 c12 hgK
      go_wp2_with fail
      go_ret
      exact ⟨by simp, B2.out⟩

set_option maxHeartbeats 1000000 in
theorem hasI (p d q a g n : Int) (m c : Int) (k t : Bool) (v u : Int) (b : ByteArray) (x : Int) (w : World) :
    Calls Try.prog 27 #[.agg #[.int .i64 p, .int .i64 d, .int .i64 q, .int .i64 a, .int .i64 g, .int .i64 n, .int .i64 m, .int .i64 c, .bool k, .bool t, .int .i64 v, .int .i64 u, .string b], .int .i64 x] w fun e w' => e = .returned (.bool (hasF g x)) ∧ Below w.heap.size w w' := by
  obtain ⟨r, hr⟩ : ∃ r, bits .and .i64 g x = r := ⟨_, rfl⟩
  have D : hasF g x = (r == x) := by unfold hasF; rw [hr]
  rw [D]
  clear D
  go_enter Try.func27, Try.ntmps27
  go_wp2_with fail
  go_ret
  exact ⟨rfl, (Below.refl _ _).alloc (Nat.le_refl _) _⟩

set_option maxRecDepth 100000 in
set_option maxHeartbeats 4000000 in
theorem segLenI (p d q a g n : Int) (m c : Int) (k t : Bool) (v u : Int) (b : ByteArray) (hb : b.size ≤ 1048576) (w : World) :
    Calls Try.prog 20 #[.agg #[.int .i64 p, .int .i64 d, .int .i64 q, .int .i64 a, .int .i64 g, .int .i64 n, .int .i64 m, .int .i64 c, .bool k, .bool t, .int .i64 v, .int .i64 u, .string b]] w fun e w' => e = .returned (.int .i64 (segLen g b)) ∧ Below w.heap.size w w' := by
  have q1 : IntKind.i64.wrap ((b.size : Int) + 1) = b.size + 1 := by rw [IntKind.wrap_i64]; omega
  have q2 : IntKind.i64.wrap ((b.size : Int) + 1 + 1) = b.size + 1 + 1 := by rw [IntKind.wrap_i64]; omega
  have C1 := Lib.hid (hasI p d q a g n m c k t v u b 2)
  have C2 := Lib.hid (hasI p d q a g n m c k t v u b 1)
  have D : Hid (segLen g b = b.size + (bif hasF g 2 then 1 else 0) + (bif hasF g 1 then 1 else 0)) := rfl
  generalize hasF g 2 = h2 at C1 D
  generalize hasF g 1 = h1 at C2 D
  rw [D.out]
  clear D
  cases h2 with
  | false =>
    cases h1 with
    | false =>
      go_enter Try.func20, Try.ntmps20
      go_wp2_with fail
      refine (C1.out _).mono ?_
      rintro e w1 ⟨rfl, hb1⟩
      have B1 := Lib.hid (((Below.refl w.heap.size w).alloc (Nat.le_refl _) _).trans (hb1.mono (by simp)))
      have K1 := Lib.hid ((HasC.new w #[.int .i64 p, .int .i64 d, .int .i64 q, .int .i64 a, .int .i64 g, .int .i64 n, .int .i64 m, .int .i64 c, .bool k, .bool t, .int .i64 v, .int .i64 u, .string b] 27).keep hb1)
      clear hb1
      have c0 := K1.out.at 0 rfl
      have c1 := K1.out.at 1 rfl
      have c2 := K1.out.at 2 rfl
      have c3 := K1.out.at 3 rfl
      have c4 := K1.out.at 4 rfl
      have c5 := K1.out.at 5 rfl
      have c6 := K1.out.at 6 rfl
      have c7 := K1.out.at 7 rfl
      have c8 := K1.out.at 8 rfl
      have c9 := K1.out.at 9 rfl
      have c10 := K1.out.at 10 rfl
      have c11 := K1.out.at 11 rfl
      have c12 := K1.out.at 12 rfl
      have hgK := K1.out.1
      go_wp2_with fail
      refine (C2.out _).mono ?_
      rintro e w2 ⟨rfl, hb2⟩
      have B2 := Lib.hid (B1.out.trans (hb2.mono B1.out.size))
      clear hb2 B1 K1 c0 c1 c2 c3 c4 c5 c6 c7 c8 c9 c10 c11 c12 hgK
      go_wp2_with fail
      go_ret
      exact ⟨by simp, B2.out⟩
    | true =>
      go_enter Try.func20, Try.ntmps20
      go_wp2_with fail
      refine (C1.out _).mono ?_
      rintro e w1 ⟨rfl, hb1⟩
      have B1 := Lib.hid (((Below.refl w.heap.size w).alloc (Nat.le_refl _) _).trans (hb1.mono (by simp)))
      have K1 := Lib.hid ((HasC.new w #[.int .i64 p, .int .i64 d, .int .i64 q, .int .i64 a, .int .i64 g, .int .i64 n, .int .i64 m, .int .i64 c, .bool k, .bool t, .int .i64 v, .int .i64 u, .string b] 27).keep hb1)
      clear hb1
      have c0 := K1.out.at 0 rfl
      have c1 := K1.out.at 1 rfl
      have c2 := K1.out.at 2 rfl
      have c3 := K1.out.at 3 rfl
      have c4 := K1.out.at 4 rfl
      have c5 := K1.out.at 5 rfl
      have c6 := K1.out.at 6 rfl
      have c7 := K1.out.at 7 rfl
      have c8 := K1.out.at 8 rfl
      have c9 := K1.out.at 9 rfl
      have c10 := K1.out.at 10 rfl
      have c11 := K1.out.at 11 rfl
      have c12 := K1.out.at 12 rfl
      have hgK := K1.out.1
      go_wp2_with fail
      refine (C2.out _).mono ?_
      rintro e w2 ⟨rfl, hb2⟩
      have B2 := Lib.hid (B1.out.trans (hb2.mono B1.out.size))
      clear hb2 B1 K1 c0 c1 c2 c3 c4 c5 c6 c7 c8 c9 c10 c11 c12 hgK
      go_wp2_with fail
      go_ret
      exact ⟨by simp, B2.out⟩
  | true =>
    cases h1 with
    | false =>
      go_enter Try.func20, Try.ntmps20
      go_wp2_with fail
      refine (C1.out _).mono ?_
      rintro e w1 ⟨rfl, hb1⟩
      have B1 := Lib.hid (((Below.refl w.heap.size w).alloc (Nat.le_refl _) _).trans (hb1.mono (by simp)))
      have K1 := Lib.hid ((HasC.new w #[.int .i64 p, .int .i64 d, .int .i64 q, .int .i64 a, .int .i64 g, .int .i64 n, .int .i64 m, .int .i64 c, .bool k, .bool t, .int .i64 v, .int .i64 u, .string b] 27).keep hb1)
      clear hb1
      have c0 := K1.out.at 0 rfl
      have c1 := K1.out.at 1 rfl
      have c2 := K1.out.at 2 rfl
      have c3 := K1.out.at 3 rfl
      have c4 := K1.out.at 4 rfl
      have c5 := K1.out.at 5 rfl
      have c6 := K1.out.at 6 rfl
      have c7 := K1.out.at 7 rfl
      have c8 := K1.out.at 8 rfl
      have c9 := K1.out.at 9 rfl
      have c10 := K1.out.at 10 rfl
      have c11 := K1.out.at 11 rfl
      have c12 := K1.out.at 12 rfl
      have hgK := K1.out.1
      go_wp2_with fail
      refine (C2.out _).mono ?_
      rintro e w2 ⟨rfl, hb2⟩
      have B2 := Lib.hid (B1.out.trans (hb2.mono B1.out.size))
      clear hb2 B1 K1 c0 c1 c2 c3 c4 c5 c6 c7 c8 c9 c10 c11 c12 hgK
      go_wp2_with fail
      go_ret
      exact ⟨by simp, B2.out⟩
    | true =>
      go_enter Try.func20, Try.ntmps20
      go_wp2_with fail
      refine (C1.out _).mono ?_
      rintro e w1 ⟨rfl, hb1⟩
      have B1 := Lib.hid (((Below.refl w.heap.size w).alloc (Nat.le_refl _) _).trans (hb1.mono (by simp)))
      have K1 := Lib.hid ((HasC.new w #[.int .i64 p, .int .i64 d, .int .i64 q, .int .i64 a, .int .i64 g, .int .i64 n, .int .i64 m, .int .i64 c, .bool k, .bool t, .int .i64 v, .int .i64 u, .string b] 27).keep hb1)
      clear hb1
      have c0 := K1.out.at 0 rfl
      have c1 := K1.out.at 1 rfl
      have c2 := K1.out.at 2 rfl
      have c3 := K1.out.at 3 rfl
      have c4 := K1.out.at 4 rfl
      have c5 := K1.out.at 5 rfl
      have c6 := K1.out.at 6 rfl
      have c7 := K1.out.at 7 rfl
      have c8 := K1.out.at 8 rfl
      have c9 := K1.out.at 9 rfl
      have c10 := K1.out.at 10 rfl
      have c11 := K1.out.at 11 rfl
      have c12 := K1.out.at 12 rfl
      have hgK := K1.out.1
      go_wp2_with fail
      refine (C2.out _).mono ?_
      rintro e w2 ⟨rfl, hb2⟩
      have B2 := Lib.hid (B1.out.trans (hb2.mono B1.out.size))
      clear hb2 B1 K1 c0 c1 c2 c3 c4 c5 c6 c7 c8 c9 c10 c11 c12 hgK
      go_wp2_with fail
      go_ret
      exact ⟨by simp, B2.out⟩

end Go.Proofs.Ytlfbcfhekfmkfaa
