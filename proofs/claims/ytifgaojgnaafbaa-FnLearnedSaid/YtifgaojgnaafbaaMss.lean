/- segmentSizes, MssOf and MssIndex, of the program and of the model. Nothing here is a claim. -/
import Derived.Test.YtifgaojgnaafbaaMssKit
import Derived.Test.YtifgaojgnaafbaaL1In
namespace Go.Proofs.Ytifgaojgnaafbaa
open Go.RowKit Go.Lib Go.Maps

/-- What segmentSizes hands back: a new map of all the sizes. -/
def SizesEnd (w : World) (e : Ending) (w' : World) : Prop := e = .returned (.map (some w.heap.size)) ∧ Ent w w' 8 sizesD

set_option maxRecDepth 100000 in
set_option maxHeartbeats 4000000 in
theorem sizesI (w : World) : Calls Try.prog 50 #[] w (SizesEnd w) := by
  have hmm := @run_makeMap Try.prog
  have O0 := Ent.made w
  go_enter Try.func50, Try.ntmps50
  go_wp2_with (first | (refine insertI (w0 := w) rfl _ _ _ _ _ rfl rfl (by assumption) (by decide) (by decide) (by decide) ?_; intro w1 o1) | go_in)
  go_ret
  exact ⟨rfl, o1⟩

theorem zeroI (w : World) : (zeroValue 3).run Try.prog w = .ok (.int .i64 0) w := by kernel_rfl
theorem size_of {i c : Int} (h : sizesD.atKey (ki i) (.lit (.int .i64 0)) = .lit (.int .i64 c)) : c = mssAt i := by
  have h2 := sizesD_at i
  unfold vi at h2
  rw [h2] at h
  injection h with h
  injection h with _ h
  exact h.symm

set_option maxRecDepth 100000 in
set_option maxHeartbeats 4000000 in
theorem mssOfI (i : Int) (hi : (Lit.int .i64 i).wf = true) (w : World) : Calls Try.prog 40 #[.int .i64 i] w fun e w' => e = .returned (.int .i64 (mssAt i)) ∧ Below w.heap.size w w' := by
  go_enter Try.func40, Try.ntmps40
  go_wp2_with fail
  refine (sizesI _).mono ?_
  rintro e w1 ⟨rfl, o1⟩
  go_wp2_with (first | (at_lookup; refine wpList_lookup_own_int _ rfl _ _ 62 rfl 3 3 .i64 (int_keyed Try.underlying3) Try.underlying62 Try.underlying3 (zeroI _) w.heap.size 8 sizesD rfl o1.1 _ _ rfl (int_key hi) ?_; intro c hat hwc) | go_in)
  go_ret
  rw [size_of hat]
  exact ⟨rfl, o1.2⟩

set_option maxRecDepth 100000 in
set_option maxHeartbeats 4000000 in
theorem mssOfS (i : Int) (w : World) : Calls Try.prog 24 #[.int .i64 i] w fun e w' => e = .returned (.int .i64 (mssAt i)) ∧ Below w.heap.size w w' := by
  by_cases h : 0 ≤ i ∧ i ≤ 7
  · have C := Lib.hid (l1In_yes i 0 7 w h.1 h.2)
    have h8 : i = 0 ∨ i = 1 ∨ i = 2 ∨ i = 3 ∨ i = 4 ∨ i = 5 ∨ i = 6 ∨ i = 7 := by omega
    clear h
    rcases h8 with rfl | rfl | rfl | rfl | rfl | rfl | rfl | rfl
    all_goals
      go_enter Try.func24, Try.ntmps24
      go_wp2_with fail
      refine C.out.mono ?_
      rintro e w1 ⟨rfl, rfl⟩
      go_wp2_with fail
      go_ret
      exact ⟨rfl, (Below.refl _ _).alloc (Nat.le_refl _) _⟩
  · have C := Lib.hid (l1In_no i 0 7 w h)
    rw [mssAt_no h]
    clear h
    go_enter Try.func24, Try.ntmps24
    go_wp2_with fail
    refine C.out.mono ?_
    rintro e w1 ⟨rfl, rfl⟩
    go_wp2_with fail
    go_ret
    exact ⟨rfl, Below.refl _ _⟩
end Go.Proofs.Ytifgaojgnaafbaa
