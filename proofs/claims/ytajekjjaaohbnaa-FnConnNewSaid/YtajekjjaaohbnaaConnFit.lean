/- stateFits, longestTimer, l19Fin. Nothing here is a claim. -/
import Derived.Test.YtajekjjaaohbnaaConnKit
import Derived.Laws.StructEq
import Derived.Test.YtajekjjaaohbnaaCurA
namespace Go.Proofs.Ytajekjjaaohbnaa
open Go.RowKit Go.Lib

theorem longestI (st : Int) (w : World) : Calls Try.prog 57 #[.int .i64 st] w (fun e w' => e = .returned (.int .i64 (cnTop st)) ∧ w' = w) := by
  by_cases h : st = 7
  · subst h
    go_enter Try.func57, Try.ntmps57
    go_wp2_with fail
    go_ret
    exact ⟨rfl, rfl⟩
  · rw [show cnTop st = 3 from if_neg h]
    go_enter Try.func57, Try.ntmps57
    go_wp2_with fail
    go_ret
    exact ⟨rfl, rfl⟩
theorem longestI_b (st : Int) (w : World) : Calls Try.prog 57 #[.int .i64 st] w (SndI (cnTop st) w) := (longestI st w).mono fun _ _ h => ⟨h.1, by rw [h.2]; exact Below.refl _ _⟩

def finS (st : Int) : Bool := decide (st ≠ 1 ∧ st ≠ 4)
theorem l19Fin_s (st : Int) (w : World) : Calls Try.prog 71 #[.int .i64 st] w (fun e w' => e = .returned (.bool (finS st)) ∧ w' = w) := by
  unfold finS
  by_cases h1 : st = 1
  · rw [decide_eq_false (by omega)]
    subst h1
    go_enter Try.func71, Try.ntmps71
    go_wp2_with fail
    go_ret
    exact ⟨rfl, rfl⟩
  have k1 : (st != 1) = true := by simp [h1]
  by_cases h4 : st = 4
  · rw [decide_eq_false (by omega)]
    subst h4
    go_enter Try.func71, Try.ntmps71
    go_wp2_with fail
    go_ret
    exact ⟨rfl, rfl⟩
  have k4 : (st != 4) = true := by simp [h4]
  rw [decide_eq_true ⟨h1, h4⟩]
  go_enter Try.func71, Try.ntmps71
  go_wp2_with fail
  go_ret
  exact ⟨rfl, rfl⟩

set_option maxRecDepth 100000 in
theorem eqEnds (a b c a2 b2 c2 : Bool) (w : World) : (Op.equalIn 10000 107 (.agg #[.bool a, .bool b, .bool c]) (.agg #[.bool a2, .bool b2, .bool c2])).run Try.prog w = .ok (a == a2 && (b == b2 && c == c2)) w := by
  have u4 := Try.underlying4
  have a4 := Try.isAgg4
  have z4 := Try.sizeOf4
  have hS : Try.prog.underlying 107 = some (.struct (Try.prog.fieldsOf 107)) := by kernel_rfl
  have hp : Try.prog.stoodInHeld 107 = false := by kernel_rfl
  rw [show (10000 : Nat) = 9999 + 1 from rfl, run_equalIn_agg w 9999 107 _ _ hS hp]
  simp only [Program.fieldsOf, Try.underlying107]
  cases a <;> cases a2 <;> cases b <;> cases b2 <;> go_simp <;> (first | done | rfl | (cases c <;> cases c2 <;> rfl))

set_option maxRecDepth 100000 in
set_option maxHeartbeats 16000000 in
theorem fitsI (p q r st u : Int) (d : ByteArray) (t : Int) (f g h : Bool) (n : Int) (y : ByteArray) (a : Option Addr) (cap : Nat) (rs : List HP) (fi : Int) (z : Bool) (wi mo m c : Int) (k s : Bool) (v x ti tr : Int) (w : World) :
    Calls Try.prog 58 #[.agg #[.int .i64 p, .int .i64 q, .int .i64 r, .int .i64 st, .int .i64 u, .string d, .int .i64 t, .bool f, .bool g, .bool h, .int .i64 n, .string y, .slice a rs.length cap, .int .i64 fi, .bool z, .int .i64 wi, .int .i64 mo, .int .i64 m, .int .i64 c, .bool k, .bool s, .int .i64 v, .int .i64 x, .int .i64 ti, .int .i64 tr]] w (SndB (cnFits st f h z) w) := by
  by_cases h1 : st = 1
  · subst h1
    have E := eqEnds f h z false false false
    have hD : cnFits 1 f h z = (f == false && (h == false && z == false)) := by cases f <;> cases h <;> cases z <;> rfl
    rw [hD]
    generalize (f == false && (h == false && z == false)) = bb at E ⊢
    clear hD
    go_enter Try.func58, Try.ntmps58
    go_wp2_with fail
    go_ret
    exact ⟨rfl, ((Below.refl _ _).alloc (Nat.le_refl _) _).alloc (by simp) _⟩
  by_cases h2 : st = 2
  · subst h2
    have E := eqEnds f h z true false false
    have hD : cnFits 2 f h z = (f == true && (h == false && z == false)) := by cases f <;> cases h <;> cases z <;> rfl
    rw [hD]
    generalize (f == true && (h == false && z == false)) = bb at E ⊢
    clear hD
    go_enter Try.func58, Try.ntmps58
    go_wp2_with fail
    go_ret
    exact ⟨rfl, ((Below.refl _ _).alloc (Nat.le_refl _) _).alloc (by simp) _⟩
  by_cases h3 : st = 3
  · subst h3
    have E := eqEnds f h z true true false
    have hD : cnFits 3 f h z = (f == true && (h == true && z == false)) := by cases f <;> cases h <;> cases z <;> rfl
    rw [hD]
    generalize (f == true && (h == true && z == false)) = bb at E ⊢
    clear hD
    go_enter Try.func58, Try.ntmps58
    go_wp2_with fail
    go_ret
    exact ⟨rfl, ((Below.refl _ _).alloc (Nat.le_refl _) _).alloc (by simp) _⟩
  by_cases h4 : st = 4
  · subst h4
    have E := eqEnds f h z false false true
    have hD : cnFits 4 f h z = (f == false && (h == false && z == true)) := by cases f <;> cases h <;> cases z <;> rfl
    rw [hD]
    generalize (f == false && (h == false && z == true)) = bb at E ⊢
    clear hD
    go_enter Try.func58, Try.ntmps58
    go_wp2_with fail
    go_ret
    exact ⟨rfl, ((Below.refl _ _).alloc (Nat.le_refl _) _).alloc (by simp) _⟩
  by_cases h5 : st = 5
  · subst h5
    have E := eqEnds f h z true false true
    have hD : cnFits 5 f h z = (f == true && (h == false && z == true)) := by cases f <;> cases h <;> cases z <;> rfl
    rw [hD]
    generalize (f == true && (h == false && z == true)) = bb at E ⊢
    clear hD
    go_enter Try.func58, Try.ntmps58
    go_wp2_with fail
    go_ret
    exact ⟨rfl, ((Below.refl _ _).alloc (Nat.le_refl _) _).alloc (by simp) _⟩
  by_cases h6 : st = 6
  · subst h6
    have E := eqEnds f h z true false true
    have hD : cnFits 6 f h z = (f == true && (h == false && z == true)) := by cases f <;> cases h <;> cases z <;> rfl
    rw [hD]
    generalize (f == true && (h == false && z == true)) = bb at E ⊢
    clear hD
    go_enter Try.func58, Try.ntmps58
    go_wp2_with fail
    go_ret
    exact ⟨rfl, ((Below.refl _ _).alloc (Nat.le_refl _) _).alloc (by simp) _⟩
  by_cases h7 : st = 7
  · subst h7
    have E := eqEnds f h z true true true
    have hD : cnFits 7 f h z = (f == true && (h == true && z == true)) := by cases f <;> cases h <;> cases z <;> rfl
    rw [hD]
    generalize (f == true && (h == true && z == true)) = bb at E ⊢
    clear hD
    go_enter Try.func58, Try.ntmps58
    go_wp2_with fail
    go_ret
    exact ⟨rfl, ((Below.refl _ _).alloc (Nat.le_refl _) _).alloc (by simp) _⟩
  by_cases h8 : st = 8
  · subst h8
    rw [show cnFits 8 f h z = true from rfl]
    go_enter Try.func58, Try.ntmps58
    go_wp2_with fail
    go_ret
    exact ⟨rfl, ((Below.refl _ _).alloc (Nat.le_refl _) _).alloc (by simp) _⟩
  rw [show cnFits st f h z = false from cnFits_out (by omega)]
  have e8 : (st == 8) = false := by simp [h8]
  go_enter Try.func58, Try.ntmps58
  go_wp2_with fail
  go_ret
  exact ⟨rfl, ((Below.refl _ _).alloc (Nat.le_refl _) _).alloc (by simp) _⟩
end Go.Proofs.Ytajekjjaaohbnaa
