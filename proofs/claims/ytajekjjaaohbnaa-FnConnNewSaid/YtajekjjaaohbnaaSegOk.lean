/- SegmentOk, of the model and of the program. Nothing here is a claim. -/
import Derived.Test.YtajekjjaaohbnaaOptOk
import Derived.Test.YtajekjjaaohbnaaKit
namespace Go.Proofs.Ytajekjjaaohbnaa
open Go.RowKit Go.Lib

set_option maxRecDepth 100000 in
set_option maxHeartbeats 8000000 in
theorem segOkS (p d q a g n : Int) (m c : Int) (k t : Bool) (v u : Int) (b : ByteArray) (w : World) :
    Calls Try.prog 19 #[.agg #[.int .i64 p, .int .i64 d, .int .i64 q, .int .i64 a, .int .i64 g, .int .i64 n, .int .i64 m, .int .i64 c, .bool k, .bool t, .int .i64 v, .int .i64 u, .string b]] w fun e w' => e = .returned (.bool (segOk ⟨p, d, q, a, g, n, ⟨m, c, k, t, v, u⟩, b⟩)) ∧ Below w.heap.size w w' := by
  have D : Hid (segOk ⟨p, d, q, a, g, n, ⟨m, c, k, t, v, u⟩, b⟩ = (wordOk p 16 && (wordOk d 16 && (wordOk n 16 && (wordOk q 32 && (wordOk a 32 && (wordOk g 6 && (optOk ⟨m, c, k, t, v, u⟩ && decide (b.size ≤ 1420)))))))) ) := rfl
  have Cp := Lib.hid (fun w => wordOkS p 16 w)
  obtain ⟨xp, hxp⟩ : ∃ x, wordOk p 16 = x := ⟨_, rfl⟩
  rw [hxp] at Cp D
  clear hxp
  have Cd := Lib.hid (fun w => wordOkS d 16 w)
  obtain ⟨xd, hxd⟩ : ∃ x, wordOk d 16 = x := ⟨_, rfl⟩
  rw [hxd] at Cd D
  clear hxd
  have Cn := Lib.hid (fun w => wordOkS n 16 w)
  obtain ⟨xn, hxn⟩ : ∃ x, wordOk n 16 = x := ⟨_, rfl⟩
  rw [hxn] at Cn D
  clear hxn
  have Cq := Lib.hid (fun w => wordOkS q 32 w)
  obtain ⟨xq, hxq⟩ : ∃ x, wordOk q 32 = x := ⟨_, rfl⟩
  rw [hxq] at Cq D
  clear hxq
  have Ca := Lib.hid (fun w => wordOkS a 32 w)
  obtain ⟨xa, hxa⟩ : ∃ x, wordOk a 32 = x := ⟨_, rfl⟩
  rw [hxa] at Ca D
  clear hxa
  have Cg := Lib.hid (fun w => wordOkS g 6 w)
  obtain ⟨xg, hxg⟩ : ∃ x, wordOk g 6 = x := ⟨_, rfl⟩
  rw [hxg] at Cg D
  clear hxg
  have CO := Lib.hid (optionsOkS m c k t v u)
  obtain ⟨z, hz⟩ : ∃ x, optOk ⟨m, c, k, t, v, u⟩ = x := ⟨_, rfl⟩
  rw [hz] at CO D
  clear hz
  rw [D.out]
  clear D
  cases xp with
  | false =>
    go_enter Try.func19, Try.ntmps19
    go_wp2_with fail
    refine (Cp.out _).mono ?_
    rintro e w1 ⟨rfl, rfl⟩
    go_wp2_with fail
    go_ret
    exact ⟨ret_bool (by simp), (Below.refl _ _).alloc (Nat.le_refl _) _⟩
  | true =>
    cases xd with
    | false =>
      go_enter Try.func19, Try.ntmps19
      go_wp2_with fail
      refine (Cp.out _).mono ?_
      rintro e w1 ⟨rfl, rfl⟩
      go_wp2_with fail
      refine (Cd.out _).mono ?_
      rintro e w1 ⟨rfl, rfl⟩
      go_wp2_with fail
      go_ret
      exact ⟨ret_bool (by simp), (Below.refl _ _).alloc (Nat.le_refl _) _⟩
    | true =>
      cases xn with
      | false =>
        go_enter Try.func19, Try.ntmps19
        go_wp2_with fail
        refine (Cp.out _).mono ?_
        rintro e w1 ⟨rfl, rfl⟩
        go_wp2_with fail
        refine (Cd.out _).mono ?_
        rintro e w1 ⟨rfl, rfl⟩
        go_wp2_with fail
        refine (Cn.out _).mono ?_
        rintro e w1 ⟨rfl, rfl⟩
        go_wp2_with fail
        go_ret
        exact ⟨ret_bool (by simp), (Below.refl _ _).alloc (Nat.le_refl _) _⟩
      | true =>
        cases xq with
        | false =>
          go_enter Try.func19, Try.ntmps19
          go_wp2_with fail
          refine (Cp.out _).mono ?_
          rintro e w1 ⟨rfl, rfl⟩
          go_wp2_with fail
          refine (Cd.out _).mono ?_
          rintro e w1 ⟨rfl, rfl⟩
          go_wp2_with fail
          refine (Cn.out _).mono ?_
          rintro e w1 ⟨rfl, rfl⟩
          go_wp2_with fail
          refine (Cq.out _).mono ?_
          rintro e w1 ⟨rfl, rfl⟩
          go_wp2_with fail
          go_ret
          exact ⟨ret_bool (by simp), (Below.refl _ _).alloc (Nat.le_refl _) _⟩
        | true =>
          cases xa with
          | false =>
            go_enter Try.func19, Try.ntmps19
            go_wp2_with fail
            refine (Cp.out _).mono ?_
            rintro e w1 ⟨rfl, rfl⟩
            go_wp2_with fail
            refine (Cd.out _).mono ?_
            rintro e w1 ⟨rfl, rfl⟩
            go_wp2_with fail
            refine (Cn.out _).mono ?_
            rintro e w1 ⟨rfl, rfl⟩
            go_wp2_with fail
            refine (Cq.out _).mono ?_
            rintro e w1 ⟨rfl, rfl⟩
            go_wp2_with fail
            refine (Ca.out _).mono ?_
            rintro e w1 ⟨rfl, rfl⟩
            go_wp2_with fail
            go_ret
            exact ⟨ret_bool (by simp), (Below.refl _ _).alloc (Nat.le_refl _) _⟩
          | true =>
            cases xg with
            | false =>
              go_enter Try.func19, Try.ntmps19
              go_wp2_with fail
              refine (Cp.out _).mono ?_
              rintro e w1 ⟨rfl, rfl⟩
              go_wp2_with fail
              refine (Cd.out _).mono ?_
              rintro e w1 ⟨rfl, rfl⟩
              go_wp2_with fail
              refine (Cn.out _).mono ?_
              rintro e w1 ⟨rfl, rfl⟩
              go_wp2_with fail
              refine (Cq.out _).mono ?_
              rintro e w1 ⟨rfl, rfl⟩
              go_wp2_with fail
              refine (Ca.out _).mono ?_
              rintro e w1 ⟨rfl, rfl⟩
              go_wp2_with fail
              refine (Cg.out _).mono ?_
              rintro e w1 ⟨rfl, rfl⟩
              go_wp2_with fail
              go_ret
              exact ⟨ret_bool (by simp), (Below.refl _ _).alloc (Nat.le_refl _) _⟩
            | true =>
              go_enter Try.func19, Try.ntmps19
              go_wp2_with fail
              refine (Cp.out _).mono ?_
              rintro e w1 ⟨rfl, rfl⟩
              go_wp2_with fail
              refine (Cd.out _).mono ?_
              rintro e w1 ⟨rfl, rfl⟩
              go_wp2_with fail
              refine (Cn.out _).mono ?_
              rintro e w1 ⟨rfl, rfl⟩
              go_wp2_with fail
              refine (Cq.out _).mono ?_
              rintro e w1 ⟨rfl, rfl⟩
              go_wp2_with fail
              refine (Ca.out _).mono ?_
              rintro e w1 ⟨rfl, rfl⟩
              go_wp2_with fail
              refine (Cg.out _).mono ?_
              rintro e w1 ⟨rfl, rfl⟩
              go_wp2_with fail
              refine (CO.out _).mono ?_
              rintro e w1 ⟨rfl, hb1⟩
              have K := Lib.hid ((HasC.new w #[.int .i64 p, .int .i64 d, .int .i64 q, .int .i64 a, .int .i64 g, .int .i64 n, .int .i64 m, .int .i64 c, .bool k, .bool t, .int .i64 v, .int .i64 u, .string b] 40).keep hb1)
              have B1 := Lib.hid (((Below.refl w.heap.size w).alloc (Nat.le_refl _) _).trans (hb1.mono (by simp)))
              have c12 := K.out.at 12 rfl
              have hg := K.out.1
              clear hb1 K
              cases z with
              | false =>
                go_wp2_with fail
                go_ret
                exact ⟨ret_bool (by simp), B1.out⟩
              | true =>
                go_wp2_with fail
                go_ret
                exact ⟨ret_bool (by simp only [Bool.true_and]; rw [decide_eq_decide]; omega), B1.out⟩

end Go.Proofs.Ytajekjjaaohbnaa
