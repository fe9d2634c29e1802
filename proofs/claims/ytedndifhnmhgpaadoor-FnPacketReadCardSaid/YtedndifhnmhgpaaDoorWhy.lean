/- WhyWord, of the model and of the program. Nothing here is a claim. -/
import Derived.Test.YtedndifhnmhgpaaDoorWordA
import Derived.Below
namespace Go.Proofs.YtedndifhnmhgpaaDoor
open Go.RowKit Go.Lib

/-- What WhyWord answers. -/
def whyB (n : Int) : ByteArray := if n = 0 then ⟨#[111, 107]⟩ else if n = 1 then ⟨#[115, 104, 111, 114, 116]⟩ else if n = 2 then ⟨#[118, 101, 114, 115, 105, 111, 110]⟩ else if n = 3 then ⟨#[115, 117, 109]⟩ else if n = 4 then ⟨#[108, 101, 110, 103, 116, 104]⟩ else if n = 5 then ⟨#[102, 114, 97, 103, 109, 101, 110, 116]⟩ else if n = 6 then ⟨#[116, 116, 108]⟩ else ⟨#[63]⟩
theorem whyB_no (n : Int) (h0 : ¬ n = 0) (h1 : ¬ n = 1) (h2 : ¬ n = 2) (h3 : ¬ n = 3) (h4 : ¬ n = 4) (h5 : ¬ n = 5) (h6 : ¬ n = 6) : whyB n = ⟨#[63]⟩ := by
  unfold whyB; rw [if_neg h0, if_neg h1, if_neg h2, if_neg h3, if_neg h4, if_neg h5, if_neg h6]

set_option maxRecDepth 100000 in
set_option maxHeartbeats 2000000 in
theorem whyWordI (n : Int) (w : World) :
    Calls Tryd.prog 15 #[.int .i64 n] w fun e w' => e = .returned (.string (whyB n)) ∧ w = w' := by
  by_cases h0 : n = 0
  · subst h0; go_enter Tryd.func15, Tryd.ntmps15; go_wp2; go_ret; exact ⟨rfl, rfl⟩
  by_cases h1 : n = 1
  · subst h1; go_enter Tryd.func15, Tryd.ntmps15; go_wp2; go_ret; exact ⟨rfl, rfl⟩
  by_cases h2 : n = 2
  · subst h2; go_enter Tryd.func15, Tryd.ntmps15; go_wp2; go_ret; exact ⟨rfl, rfl⟩
  by_cases h3 : n = 3
  · subst h3; go_enter Tryd.func15, Tryd.ntmps15; go_wp2; go_ret; exact ⟨rfl, rfl⟩
  by_cases h4 : n = 4
  · subst h4; go_enter Tryd.func15, Tryd.ntmps15; go_wp2; go_ret; exact ⟨rfl, rfl⟩
  by_cases h5 : n = 5
  · subst h5; go_enter Tryd.func15, Tryd.ntmps15; go_wp2; go_ret; exact ⟨rfl, rfl⟩
  by_cases h6 : n = 6
  · subst h6; go_enter Tryd.func15, Tryd.ntmps15; go_wp2; go_ret; exact ⟨rfl, rfl⟩
  rw [whyB_no n h0 h1 h2 h3 h4 h5 h6]
  go_enter Tryd.func15, Tryd.ntmps15
  go_wp2
  go_ret
  exact ⟨rfl, rfl⟩

set_option maxRecDepth 100000 in
set_option maxHeartbeats 2000000 in
theorem whyWordS (n : Int) (w : World) :
    Calls Tryd.prog 16 #[.int .i64 n] w fun e w' => e = .returned (.string (whyB n)) ∧ Below w.heap.size w w' := by
  by_cases h : 0 ≤ n ∧ n ≤ 6
  · have C := Lib.hid (fun w => l1In_yes n 0 6 w h.1 h.2)
    have hc : n = 0 ∨ n = 1 ∨ n = 2 ∨ n = 3 ∨ n = 4 ∨ n = 5 ∨ n = 6 := by omega
    clear h
    rcases hc with rfl | rfl | rfl | rfl | rfl | rfl | rfl
    all_goals
      go_enter Tryd.func16, Tryd.ntmps16
      go_wp2_with fail
      refine (C.out _).mono ?_
      rintro e w1 ⟨rfl, rfl⟩
      go_wp2
      go_ret
      exact ⟨rfl, (Below.refl _ _).alloc (Nat.le_refl _) _⟩
  · have C := Lib.hid (fun w => l1In_no n 0 6 w h)
    have e : whyB n = ⟨#[63]⟩ := whyB_no n (by omega) (by omega) (by omega) (by omega) (by omega) (by omega) (by omega)
    rw [e]
    clear e h
    go_enter Tryd.func16, Tryd.ntmps16
    go_wp2_with fail
    refine (C.out _).mono ?_
    rintro e w1 ⟨rfl, rfl⟩
    go_wp2
    go_ret
    exact ⟨rfl, Below.refl _ _⟩
end Go.Proofs.YtedndifhnmhgpaaDoor
