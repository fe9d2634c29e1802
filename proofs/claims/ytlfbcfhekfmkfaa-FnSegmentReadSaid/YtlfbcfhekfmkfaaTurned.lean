/- The draws' own l1Turned. -/
import Derived.Test.YtlfbcfhekfmkfaaCurP
import Derived.Deep.RegionHeld3
namespace Go.Proofs.Ytlfbcfhekfmkfaa
open Go.RowKit Go.Lib

/-- What l1Turned hands back: a text that is a little longer at most. -/
def TurnEnd (w : World) (B g : Nat) (m : Nat) (e : Ending) (w' : World) : Prop := ∃ t : ByteArray, e = .returned (.string t) ∧ t.size ≤ m ∧ CurB w' B g ∧ w.grownBy w' (some g)

set_option maxRecDepth 100000 in
set_option maxHeartbeats 2000000 in
theorem l1Turned_any (B g r : Nat) (w : World) (hc : CurB w B g) (s : ByteArray) (hs : s.size ≤ 1000000) (cs : Array Value) (h : w.heap[r]? = some (.cells cs 9 (0, 0))) (hne : r ≠ g) (h0 : 0 < cs.size) (h1 : cs.size ≤ 1000000) (hall : ∀ v ∈ cs.toList, ∃ x, v = .string x ∧ x.size ≤ 100) :
    Calls Try.prog 48 #[.pointer (some ⟨g, 0, none⟩), .string s, .slice (some ⟨r, 0, none⟩) cs.size cs.size] w (TurnEnd w B g (s.size + 100)) := by
  have hr : r < w.heap.size := by
    rcases Nat.lt_or_ge r w.heap.size with hlt | hge
    · exact hlt
    · rw [Array.getElem?_eq_none hge] at h; cases h
  have HH := Lib.hid h
  have HA := Lib.hid hall
  have C := Lib.hid hc
  clear hc h hall
  have T := Lib.hid (l1Below_pos B g w C.out (↑s.size + 1) (by omega) (by omega))
  go_enter Try.func48, Try.ntmps48
  go_wp2_with fail
  refine T.out.mono ?_
  rintro e w1 ⟨q, rfl, ⟨q0, q1⟩, hc1, hg1⟩
  obtain ⟨a, rfl⟩ : ∃ a : Nat, q = (a : Int) := ⟨q.toNat, by omega⟩
  have C1 := Lib.hid hc1
  have G1 := Lib.hid hg1
  clear hc1 hg1
  go_wp2_with fail
  refine (l1Below_pos B g w1 C1.out 6 (by omega) (by omega)).mono ?_
  rintro e w2 ⟨q, rfl, ⟨p0, p1⟩, hc2, hg2⟩
  have C2 := Lib.hid hc2
  have G2 := Lib.hid (grown_tr G1.out hg2)
  have H2 : Hid (w2.heap[r]? = some (.cells cs 9 (0, 0))) := (G2.out.block r hr (fun e => hne (by injection e))).trans HH.out
  clear hc2 hg2
  have ha0 : (0 : Int) ≤ (a : Int) := by omega
  have ha1 : (a : Int) ≤ (s.size : Int) := by omega
  have ha2 : a ≤ s.size := by omega
  have hq : q = 0 ∨ q = 1 ∨ 2 ≤ q := by omega
  rcases hq with rfl | rfl | hq
  · go_wp2_with fail
    refine wp_region_noPanic ?_
    refine wp_region_held_drew (S := fun _ => True) (by kernel_rfl) trivial (fun _ => ?_)
    refine wpAnyH_take (i := 0) (v := Value.string s) rfl (by kernel_rfl) (by kernel_rfl) (by kernel_rfl) (fun _ _ _ h => h) (Or.inl ⟨rfl, fun _ _ => rfl⟩) trivial ?_
    change wpAnyH _ _ _ _ _ _ _ { tmps := #[Value.pointer (some { block := g, off := 0 }), Value.string s, Value.slice (some { block := r, off := 0 }) cs.size cs.size, undef, undef, undef, Value.string { data := #[] }, Value.int IntKind.i64 ↑a, Value.pointer (some { block := g, off := 0 }), Value.string s, Value.int IntKind.i64 ↑s.size, Value.int IntKind.i64 (↑s.size + 1), Value.int IntKind.i64 ↑a, Value.pointer (some { block := g, off := 0 }), Value.int IntKind.i64 0, Value.bool true, Value.bool true, Value.string s, undef, undef, undef, undef, undef, undef, undef, undef, undef, undef, undef, undef, undef, undef, undef, undef], defers := [] } _
    refine wpAnyH_take (i := 1) (v := Value.int IntKind.i64 ↑a) rfl (by kernel_rfl) (by kernel_rfl) (by kernel_rfl) (fun _ _ _ h => h) (Or.inl ⟨rfl, fun _ _ => rfl⟩) trivial ?_
    change wpAnyH _ _ _ _ _ _ _ { tmps := #[Value.pointer (some { block := g, off := 0 }), Value.string s, Value.slice (some { block := r, off := 0 }) cs.size cs.size, undef, undef, undef, Value.string { data := #[] }, Value.int IntKind.i64 ↑a, Value.pointer (some { block := g, off := 0 }), Value.string s, Value.int IntKind.i64 ↑s.size, Value.int IntKind.i64 (↑s.size + 1), Value.int IntKind.i64 ↑a, Value.pointer (some { block := g, off := 0 }), Value.int IntKind.i64 0, Value.bool true, Value.bool true, Value.string s, Value.int IntKind.i64 ↑a, undef, undef, undef, undef, undef, undef, undef, undef, undef, undef, undef, undef, undef, undef, undef], defers := [] } _
    refine wpAnyH_take (i := 2) (v := Value.string (s.extract 0 a)) rfl (by kernel_rfl) (by kernel_rfl) (by kernel_rfl) (fun _ _ _ h => h) (Or.inl ⟨rfl, by intro w _; go_simp⟩) trivial ?_
    change wpAnyH _ _ _ _ _ _ _ { tmps := #[Value.pointer (some { block := g, off := 0 }), Value.string s, Value.slice (some { block := r, off := 0 }) cs.size cs.size, undef, undef, undef, Value.string { data := #[] }, Value.int IntKind.i64 ↑a, Value.pointer (some { block := g, off := 0 }), Value.string s, Value.int IntKind.i64 ↑s.size, Value.int IntKind.i64 (↑s.size + 1), Value.int IntKind.i64 ↑a, Value.pointer (some { block := g, off := 0 }), Value.int IntKind.i64 0, Value.bool true, Value.bool true, Value.string s, Value.int IntKind.i64 ↑a, Value.string (s.extract 0 a), undef, undef, undef, undef, undef, undef, undef, undef, undef, undef, undef, undef, undef, undef], defers := [] } _
    refine wpAnyH_take (i := 3) (v := Value.pointer (some { block := g, off := 0 })) rfl (by kernel_rfl) (by kernel_rfl) (by kernel_rfl) (fun _ _ _ h => h) (Or.inl ⟨rfl, fun _ _ => rfl⟩) trivial ?_
    change wpAnyH _ _ _ _ _ _ _ { tmps := #[Value.pointer (some { block := g, off := 0 }), Value.string s, Value.slice (some { block := r, off := 0 }) cs.size cs.size, undef, undef, undef, Value.string { data := #[] }, Value.int IntKind.i64 ↑a, Value.pointer (some { block := g, off := 0 }), Value.string s, Value.int IntKind.i64 ↑s.size, Value.int IntKind.i64 (↑s.size + 1), Value.int IntKind.i64 ↑a, Value.pointer (some { block := g, off := 0 }), Value.int IntKind.i64 0, Value.bool true, Value.bool true, Value.string s, Value.int IntKind.i64 ↑a, Value.string (s.extract 0 a), Value.pointer (some { block := g, off := 0 }), undef, undef, undef, undef, undef, undef, undef, undef, undef, undef, undef, undef, undef], defers := [] } _
    refine wpAnyH_take (i := 4) (v := Value.slice (some { block := r, off := 0 }) cs.size cs.size) rfl (by kernel_rfl) (by kernel_rfl) (by kernel_rfl) (fun _ _ _ h => h) (Or.inl ⟨rfl, fun _ _ => rfl⟩) trivial ?_
    change wpAnyH _ _ _ _ _ _ _ { tmps := #[Value.pointer (some { block := g, off := 0 }), Value.string s, Value.slice (some { block := r, off := 0 }) cs.size cs.size, undef, undef, undef, Value.string { data := #[] }, Value.int IntKind.i64 ↑a, Value.pointer (some { block := g, off := 0 }), Value.string s, Value.int IntKind.i64 ↑s.size, Value.int IntKind.i64 (↑s.size + 1), Value.int IntKind.i64 ↑a, Value.pointer (some { block := g, off := 0 }), Value.int IntKind.i64 0, Value.bool true, Value.bool true, Value.string s, Value.int IntKind.i64 ↑a, Value.string (s.extract 0 a), Value.pointer (some { block := g, off := 0 }), Value.slice (some { block := r, off := 0 }) cs.size cs.size, undef, undef, undef, undef, undef, undef, undef, undef, undef, undef, undef, undef], defers := [] } _
    refine wpAnyH_take (i := 7) (v := Value.string s) rfl (by kernel_rfl) (by kernel_rfl) (by kernel_rfl) (fun _ _ _ h => h) (Or.inl ⟨rfl, fun _ _ => rfl⟩) trivial ?_
    change wpAnyH _ _ _ _ _ _ _ { tmps := #[Value.pointer (some { block := g, off := 0 }), Value.string s, Value.slice (some { block := r, off := 0 }) cs.size cs.size, undef, undef, undef, Value.string { data := #[] }, Value.int IntKind.i64 ↑a, Value.pointer (some { block := g, off := 0 }), Value.string s, Value.int IntKind.i64 ↑s.size, Value.int IntKind.i64 (↑s.size + 1), Value.int IntKind.i64 ↑a, Value.pointer (some { block := g, off := 0 }), Value.int IntKind.i64 0, Value.bool true, Value.bool true, Value.string s, Value.int IntKind.i64 ↑a, Value.string (s.extract 0 a), Value.pointer (some { block := g, off := 0 }), Value.slice (some { block := r, off := 0 }) cs.size cs.size, undef, undef, Value.string s, undef, undef, undef, undef, undef, undef, undef, undef, undef], defers := [] } _
    refine wpAnyH_take (i := 8) (v := Value.int IntKind.i64 ↑a) rfl (by kernel_rfl) (by kernel_rfl) (by kernel_rfl) (fun _ _ _ h => h) (Or.inl ⟨rfl, fun _ _ => rfl⟩) trivial ?_
    change wpAnyH _ _ _ _ _ _ _ { tmps := #[Value.pointer (some { block := g, off := 0 }), Value.string s, Value.slice (some { block := r, off := 0 }) cs.size cs.size, undef, undef, undef, Value.string { data := #[] }, Value.int IntKind.i64 ↑a, Value.pointer (some { block := g, off := 0 }), Value.string s, Value.int IntKind.i64 ↑s.size, Value.int IntKind.i64 (↑s.size + 1), Value.int IntKind.i64 ↑a, Value.pointer (some { block := g, off := 0 }), Value.int IntKind.i64 0, Value.bool true, Value.bool true, Value.string s, Value.int IntKind.i64 ↑a, Value.string (s.extract 0 a), Value.pointer (some { block := g, off := 0 }), Value.slice (some { block := r, off := 0 }) cs.size cs.size, undef, undef, Value.string s, Value.int IntKind.i64 ↑a, undef, undef, undef, undef, undef, undef, undef, undef], defers := [] } _
    refine wpAnyH_take (i := 9) (v := Value.string (s.extract a s.size)) rfl (by kernel_rfl) (by kernel_rfl) (by kernel_rfl) (fun _ _ _ h => h) (Or.inl ⟨rfl, by intro w _; go_simp⟩) trivial ?_
    change wpAnyH _ _ _ _ _ _ _ { tmps := #[Value.pointer (some { block := g, off := 0 }), Value.string s, Value.slice (some { block := r, off := 0 }) cs.size cs.size, undef, undef, undef, Value.string { data := #[] }, Value.int IntKind.i64 ↑a, Value.pointer (some { block := g, off := 0 }), Value.string s, Value.int IntKind.i64 ↑s.size, Value.int IntKind.i64 (↑s.size + 1), Value.int IntKind.i64 ↑a, Value.pointer (some { block := g, off := 0 }), Value.int IntKind.i64 0, Value.bool true, Value.bool true, Value.string s, Value.int IntKind.i64 ↑a, Value.string (s.extract 0 a), Value.pointer (some { block := g, off := 0 }), Value.slice (some { block := r, off := 0 }) cs.size cs.size, undef, undef, Value.string s, Value.int IntKind.i64 ↑a, Value.string (s.extract a s.size), undef, undef, undef, undef, undef, undef, undef], defers := [] } _
    refine wpAnyH_ready (rs := [5]) (by kernel_rfl) (by simp) ?_
    refine AllReadyH.cons (i := 5) rfl (fun K hK => ?zc1) AllReadyH.nil
    rw [if_pos (by rfl)]
    go_simp
    refine (l1Pick_any B g r _ (C2.out.draws 1) cs (by exact H2.out) hne h0 h1 (fun v hv => (HA.out v hv).imp fun _ h => h.1)).mono ?_
    rintro e w3 ⟨v, hv, rfl, hc3, hg3⟩
    obtain ⟨x, rfl, hx⟩ := HA.out v hv
    have hxs : ¬ 9223372036854775807 < (s.extract 0 a).size + x.size := by rw [ByteArray.size_extract]; omega
    have hxs2 : ¬ 9223372036854775807 < (s.extract 0 a ++ x).size + (s.extract a s.size).size := by rw [ByteArray.size_append, ByteArray.size_extract, ByteArray.size_extract]; omega
    have C3 := Lib.hid hc3
    have G3 : Hid (w.grownBy w3 (some g)) := grown_tr (grown_draws G2.out 1) hg3
    clear hc3 hg3 hv
    refine hK.out _ _ trivial (fun _ => ?_)
    clear hK K
    change wpAnyH _ _ _ _ _ _ _ { tmps := #[Value.pointer (some { block := g, off := 0 }), Value.string s, Value.slice (some { block := r, off := 0 }) cs.size cs.size, undef, undef, undef, Value.string { data := #[] }, Value.int IntKind.i64 ↑a, Value.pointer (some { block := g, off := 0 }), Value.string s, Value.int IntKind.i64 ↑s.size, Value.int IntKind.i64 (↑s.size + 1), Value.int IntKind.i64 ↑a, Value.pointer (some { block := g, off := 0 }), Value.int IntKind.i64 0, Value.bool true, Value.bool true, Value.string s, Value.int IntKind.i64 ↑a, Value.string (s.extract 0 a), Value.pointer (some { block := g, off := 0 }), Value.slice (some { block := r, off := 0 }) cs.size cs.size, Value.string x, undef, Value.string s, Value.int IntKind.i64 ↑a, Value.string (s.extract a s.size), undef, undef, undef, undef, undef, undef, undef], defers := [] } _
    refine wpAnyH_take (i := 6) (v := Value.string (s.extract 0 a ++ x)) rfl (by kernel_rfl) (by kernel_rfl) (by kernel_rfl) (fun _ _ _ h => h) (Or.inl ⟨rfl, by intro w _; go_simp; omega⟩) trivial ?_
    change wpAnyH _ _ _ _ _ _ _ { tmps := #[Value.pointer (some { block := g, off := 0 }), Value.string s, Value.slice (some { block := r, off := 0 }) cs.size cs.size, undef, undef, undef, Value.string { data := #[] }, Value.int IntKind.i64 ↑a, Value.pointer (some { block := g, off := 0 }), Value.string s, Value.int IntKind.i64 ↑s.size, Value.int IntKind.i64 (↑s.size + 1), Value.int IntKind.i64 ↑a, Value.pointer (some { block := g, off := 0 }), Value.int IntKind.i64 0, Value.bool true, Value.bool true, Value.string s, Value.int IntKind.i64 ↑a, Value.string (s.extract 0 a), Value.pointer (some { block := g, off := 0 }), Value.slice (some { block := r, off := 0 }) cs.size cs.size, Value.string x, Value.string (s.extract 0 a ++ x), Value.string s, Value.int IntKind.i64 ↑a, Value.string (s.extract a s.size), undef, undef, undef, undef, undef, undef, undef], defers := [] } _
    refine wpAnyH_take (i := 10) (v := Value.string (s.extract 0 a ++ x ++ s.extract a s.size)) rfl (by kernel_rfl) (by kernel_rfl) (by kernel_rfl) (fun _ _ _ h => h) (Or.inl ⟨rfl, by intro w _; go_simp; omega⟩) trivial ?_
    change wpAnyH _ _ _ _ _ _ _ { tmps := #[Value.pointer (some { block := g, off := 0 }), Value.string s, Value.slice (some { block := r, off := 0 }) cs.size cs.size, undef, undef, undef, Value.string { data := #[] }, Value.int IntKind.i64 ↑a, Value.pointer (some { block := g, off := 0 }), Value.string s, Value.int IntKind.i64 ↑s.size, Value.int IntKind.i64 (↑s.size + 1), Value.int IntKind.i64 ↑a, Value.pointer (some { block := g, off := 0 }), Value.int IntKind.i64 0, Value.bool true, Value.bool true, Value.string s, Value.int IntKind.i64 ↑a, Value.string (s.extract 0 a), Value.pointer (some { block := g, off := 0 }), Value.slice (some { block := r, off := 0 }) cs.size cs.size, Value.string x, Value.string (s.extract 0 a ++ x), Value.string s, Value.int IntKind.i64 ↑a, Value.string (s.extract a s.size), Value.string (s.extract 0 a ++ x ++ s.extract a s.size), undef, undef, undef, undef, undef, undef], defers := [] } _
    refine wpAnyH_take (i := 11) (v := Value.string (s.extract 0 a ++ x ++ s.extract a s.size)) rfl (by kernel_rfl) (by kernel_rfl) (by kernel_rfl) (fun _ _ _ h => h) (Or.inl ⟨rfl, fun _ _ => rfl⟩) trivial ?_
    change wpAnyH _ _ _ _ _ _ _ { tmps := #[Value.pointer (some { block := g, off := 0 }), Value.string s, Value.slice (some { block := r, off := 0 }) cs.size cs.size, undef, undef, undef, Value.string (s.extract 0 a ++ x ++ s.extract a s.size), Value.int IntKind.i64 ↑a, Value.pointer (some { block := g, off := 0 }), Value.string s, Value.int IntKind.i64 ↑s.size, Value.int IntKind.i64 (↑s.size + 1), Value.int IntKind.i64 ↑a, Value.pointer (some { block := g, off := 0 }), Value.int IntKind.i64 0, Value.bool true, Value.bool true, Value.string s, Value.int IntKind.i64 ↑a, Value.string (s.extract 0 a), Value.pointer (some { block := g, off := 0 }), Value.slice (some { block := r, off := 0 }) cs.size cs.size, Value.string x, Value.string (s.extract 0 a ++ x), Value.string s, Value.int IntKind.i64 ↑a, Value.string (s.extract a s.size), Value.string (s.extract 0 a ++ x ++ s.extract a s.size), undef, undef, undef, undef, undef, undef], defers := [] } _
    refine wpAnyH_done (by kernel_rfl) ?_ _
    refine NoPanic.normal ?_
    go_wp2_with fail
    go_ret
    exact ⟨_, rfl, by rw [ByteArray.size_append, ByteArray.size_append, ByteArray.size_extract, ByteArray.size_extract]; omega, C3.out, G3.out⟩
  · go_wp2_with fail
    go_ret
    exact ⟨_, rfl, by rw [ByteArray.size_extract]; omega, C2.out, G2.out⟩
  · go_wp2_with fail
    go_ret
    exact ⟨_, rfl, by omega, C2.out, G2.out⟩
end Go.Proofs.Ytlfbcfhekfmkfaa
