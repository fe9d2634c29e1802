/- impl.WordSum, SumOf. -/
import Derived.Test.YtedndifhnmhgpaaDoorSum
import Derived.Test.YtedndifhnmhgpaaDoorJoinKit
namespace Go.Proofs.YtedndifhnmhgpaaDoor
open Go.RowKit Go.Lib

set_option maxHeartbeats 400000 in
theorem wordSumI (s : ByteArray) (hs : s.size ≤ 1048592) (w : World) :
    Calls Tryd.prog 44 #[.string s] w fun e w' => e = .returned (.int .i64 (wsum s)) ∧ Below w.heap.size w w' := by
  go_enter Tryd.func44, Tryd.ntmps44
  go_wp2_with fail
  refine (joinedSumI s hs w.heap.size 1 (w.alloc (.cells #[.string s] 9)) (row_at (heap_alloc_new w _) (by simp))).mono ?_
  rintro e w1 ⟨rfl, rfl⟩
  go_wp2_with fail
  go_ret
  exact ⟨rfl, (Below.refl _ _).alloc (Nat.le_refl _) _⟩

theorem wsum_i64 (s : ByteArray) (hs : s.size ≤ 1048592) : (wsum s : Int) ≤ 68452085760 := by
  have := wsum_bd s; omega

set_option maxHeartbeats 400000 in
theorem sumOfS (s : ByteArray) (hs : s.size ≤ 1048592) (w : World) :
    Calls Tryd.prog 24 #[.string s] w fun e w' => e = .returned (.int .i64 (sumOf s)) ∧ w = w' := by
  have C1 := Lib.hid (wordSumS s hs)
  have C2 := Lib.hid (foldedS (wsum s) (by have := wsum_i64 s hs; omega))
  have hf := foldI_bd (wsum s)
  have E : Hid (sumOf s = 65535 - foldI (wsum s)) := rfl
  obtain ⟨f, hf'⟩ : ∃ f, foldI (wsum s) = f := ⟨_, rfl⟩
  rw [hf'] at C2 E hf
  clear hf'
  rw [E.out]
  go_enter Tryd.func24, Tryd.ntmps24
  go_wp2_with fail
  refine (C1.out _).mono ?_
  rintro e w1 ⟨rfl, rfl⟩
  go_wp2_with fail
  refine (C2.out _).mono ?_
  rintro e w1 ⟨rfl, rfl⟩
  go_wp2_with fail
  go_ret
  exact ⟨rfl, rfl⟩

set_option maxHeartbeats 400000 in
theorem sumOfI (s : ByteArray) (hs : s.size ≤ 1048592) (w : World) :
    Calls Tryd.prog 21 #[.string s] w fun e w' => e = .returned (.int .i64 (sumOf s)) ∧ Below w.heap.size w w' := by
  have C1 := Lib.hid (wordSumI s hs)
  have C2 := Lib.hid (foldedI (wsum s) (by have := wsum_i64 s hs; omega))
  have hf := foldI_bd (wsum s)
  have E : Hid (sumOf s = 65535 - foldI (wsum s)) := rfl
  obtain ⟨f, hf'⟩ : ∃ f, foldI (wsum s) = f := ⟨_, rfl⟩
  rw [hf'] at C2 E hf
  clear hf'
  rw [E.out]
  go_enter Tryd.func21, Tryd.ntmps21
  go_wp2_with fail
  refine (C1.out _).mono ?_
  rintro e w1 ⟨rfl, hb1⟩
  go_wp2_with fail
  refine (C2.out _).mono ?_
  rintro e w2 ⟨rfl, rfl⟩
  go_wp2_with fail
  go_ret
  exact ⟨rfl, hb1⟩

end Go.Proofs.YtedndifhnmhgpaaDoor
