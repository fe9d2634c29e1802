/- CookieParts, of the model and of the program (chapter 13 of the document). Nothing here is a claim. -/
import Derived.Test.YtobfgkiccmhgdaaWordA
namespace Go.Proofs.Ytobfgkiccmhgdaa
open Go.RowKit Go.Lib

/-- The three parts of a cookie; -1 each where it is no 32-bit word. -/
def cpE (x : Int) : Int := if wordOk x 32 = true then x / 134217728 else -1
def cpI (x : Int) : Int := if wordOk x 32 = true then x / 16777216 % 8 else -1
def cpT (x : Int) : Int := if wordOk x 32 = true then x % 16777216 else -1
theorem word32_iff (x : Int) : wordOk x 32 = true ↔ 0 ≤ x ∧ x < 4294967296 := by unfold wordOk; rw [decide_eq_true_iff]; simp; 
theorem cp_yes {x : Int} (h : wordOk x 32 = true) : cpE x = x / 134217728 ∧ cpI x = x / 16777216 % 8 ∧ cpT x = x % 16777216 := by
  unfold cpE cpI cpT
  rw [if_pos h, if_pos h, if_pos h]
  exact ⟨rfl, rfl, rfl⟩
theorem cp_no {x : Int} (h : wordOk x 32 = false) : cpE x = -1 ∧ cpI x = -1 ∧ cpT x = -1 := by
  have h' : ¬ wordOk x 32 = true := by rw [h]; simp
  unfold cpE cpI cpT
  rw [if_neg h', if_neg h', if_neg h']
  exact ⟨rfl, rfl, rfl⟩
theorem cp_bd {x : Int} (h : wordOk x 32 = true) : 0 ≤ cpE x ∧ cpE x < 32 ∧ 0 ≤ cpI x ∧ cpI x < 8 ∧ 0 ≤ cpT x ∧ cpT x < 16777216 ∧ cpE x * 134217728 + cpI x * 16777216 + cpT x = x := by
  obtain ⟨e1, e2, e3⟩ := cp_yes h
  have h2 := (word32_iff x).1 h
  rw [e1, e2, e3]
  omega
theorem cpI_small (x : Int) : -1 ≤ cpI x ∧ cpI x ≤ 7 := by
  cases h : wordOk x 32 with
  | true => have := cp_bd h; omega
  | false => have := (cp_no h).2.1; omega

set_option maxHeartbeats 1000000 in
theorem cookPS (x : Int) (w : World) :
    Calls Try.prog 39 #[.int .i64 x] w fun e w' => e = .returned (.tuple #[.int .i64 (cpE x), .int .i64 (cpI x), .int .i64 (cpT x)]) ∧ w' = w := by
  have C := Lib.hid (fun w => wordOkS x 32 w)
  cases hw : wordOk x 32 with
  | false =>
    obtain ⟨e1, e2, e3⟩ := cp_no hw
    rw [hw] at C
    rw [e1, e2, e3]
    clear e1 e2 e3 hw
    go_enter Try.func39, Try.ntmps39
    go_wp2_with fail
    refine (C.out _).mono ?_
    rintro e w1 ⟨rfl, rfl⟩
    go_wp2_with fail
    exact bodyPost_ret (v := .tuple #[.int .i64 (-1), .int .i64 (-1), .int .i64 (-1)]) (by simp [results, Try.results39, go_sem]) rfl ⟨rfl, rfl⟩
  | true =>
    obtain ⟨e1, e2, e3⟩ := cp_yes hw
    have hb := (word32_iff x).1 hw
    rw [hw] at C
    rw [e1, e2, e3]
    clear e1 e2 e3 hw
    obtain ⟨h0, h1⟩ := hb
    have q1 : x.tdiv 134217728 = x / 134217728 := Int.tdiv_eq_ediv_of_nonneg h0
    have q2 : x.tdiv 16777216 = x / 16777216 := Int.tdiv_eq_ediv_of_nonneg h0
    have q3 : (x / 16777216).tmod 8 = x / 16777216 % 8 := Int.tmod_eq_emod_of_nonneg (by omega)
    have q4 : x.tmod 16777216 = x % 16777216 := Int.tmod_eq_emod_of_nonneg h0
    go_enter Try.func39, Try.ntmps39
    go_wp2_with fail
    refine (C.out _).mono ?_
    rintro e w1 ⟨rfl, rfl⟩
    go_wp2_with fail
    exact bodyPost_ret (v := .tuple #[.int .i64 (x / 134217728), .int .i64 (x / 16777216 % 8), .int .i64 (x % 16777216)]) (by simp [results, Try.results39, go_sem]) rfl ⟨rfl, rfl⟩
set_option maxHeartbeats 1000000 in
theorem cookPI (x : Int) (w : World) :
    Calls Try.prog 25 #[.int .i64 x] w fun e w' => e = .returned (.tuple #[.int .i64 (cpE x), .int .i64 (cpI x), .int .i64 (cpT x)]) ∧ w' = w := by
  have C := Lib.hid (fun w => wordOkI x 32 w)
  cases hw : wordOk x 32 with
  | false =>
    obtain ⟨e1, e2, e3⟩ := cp_no hw
    rw [hw] at C
    rw [e1, e2, e3]
    clear e1 e2 e3 hw
    go_enter Try.func25, Try.ntmps25
    go_wp2_with fail
    refine (C.out _).mono ?_
    rintro e w1 ⟨rfl, rfl⟩
    go_wp2_with fail
    exact bodyPost_ret (v := .tuple #[.int .i64 (-1), .int .i64 (-1), .int .i64 (-1)]) (by simp [results, Try.results25, go_sem]) rfl ⟨rfl, rfl⟩
  | true =>
    obtain ⟨e1, e2, e3⟩ := cp_yes hw
    have hb := (word32_iff x).1 hw
    rw [hw] at C
    rw [e1, e2, e3]
    clear e1 e2 e3 hw
    obtain ⟨h0, h1⟩ := hb
    have q1 : x.tdiv 134217728 = x / 134217728 := Int.tdiv_eq_ediv_of_nonneg h0
    have q2 : x.tdiv 16777216 = x / 16777216 := Int.tdiv_eq_ediv_of_nonneg h0
    have q3 : (x / 16777216).tmod 8 = x / 16777216 % 8 := Int.tmod_eq_emod_of_nonneg (by omega)
    have q4 : x.tmod 16777216 = x % 16777216 := Int.tmod_eq_emod_of_nonneg h0
    go_enter Try.func25, Try.ntmps25
    go_wp2_with fail
    refine (C.out _).mono ?_
    rintro e w1 ⟨rfl, rfl⟩
    go_wp2_with fail
    exact bodyPost_ret (v := .tuple #[.int .i64 (x / 134217728), .int .i64 (x / 16777216 % 8), .int .i64 (x % 16777216)]) (by simp [results, Try.results25, go_sem]) rfl ⟨rfl, rfl⟩
end Go.Proofs.Ytobfgkiccmhgdaa
