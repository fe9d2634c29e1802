/- SumRight, of the model and of the program. -/
import Derived.Test.YtedndifhnmhgpaaDoorSum2
namespace Go.Proofs.YtedndifhnmhgpaaDoor
open Go.RowKit Go.Lib

set_option maxHeartbeats 400000 in
theorem sumRightS (s : ByteArray) (hs : s.size ≤ 1048592) (w : World) :
    Calls Tryd.prog 32 #[.string s] w fun e w' => e = .returned (.bool (sumRight s)) ∧ w = w' := by
  have C1 := Lib.hid (sumOfS s hs)
  have E : Hid (sumRight s = (sumOf s == 0)) := rfl
  obtain ⟨f, hf'⟩ : ∃ f, sumOf s = f := ⟨_, rfl⟩
  rw [hf'] at C1 E
  clear hf'
  rw [E.out]
  go_enter Tryd.func32, Tryd.ntmps32
  go_wp2_with fail
  refine (C1.out _).mono ?_
  rintro e w1 ⟨rfl, rfl⟩
  go_wp2_with fail
  go_ret
  exact ⟨rfl, rfl⟩

set_option maxHeartbeats 400000 in
theorem sumRightI (s : ByteArray) (hs : s.size ≤ 1048592) (w : World) :
    Calls Tryd.prog 52 #[.string s] w fun e w' => e = .returned (.bool (sumRight s)) ∧ Below w.heap.size w w' := by
  have C1 := Lib.hid (sumOfI s hs)
  have E : Hid (sumRight s = (sumOf s == 0)) := rfl
  obtain ⟨f, hf'⟩ : ∃ f, sumOf s = f := ⟨_, rfl⟩
  rw [hf'] at C1 E
  clear hf'
  rw [E.out]
  go_enter Tryd.func52, Tryd.ntmps52
  go_wp2_with fail
  refine (C1.out _).mono ?_
  rintro e w1 ⟨rfl, hb1⟩
  go_wp2_with fail
  go_ret
  exact ⟨rfl, hb1⟩
end Go.Proofs.YtedndifhnmhgpaaDoor
