/- Texts of a proof that belong together, joined. Nothing here is a claim. -/
import Derived.Test.YtkkimgjcefojdaaGreatDoorPkLk31
import Derived.Test.YtkkimgjcefojdaaGreatDoorPkLk29
namespace Go.Proofs.YtkkimgjcefojdaaGreatDoor
open Go.RowKit Go.Lib

set_option maxHeartbeats 1000000 in
theorem l1Pick_any (B g r : Nat) (w : World) (hc : CurB w B g) (cs : Array Value) (h : w.heap[r]? = some (.cells cs 9 (0, 0))) (hne : r ≠ g) (h0 : 0 < cs.size) (h1 : cs.size ≤ 1000000) (hall : ∀ v ∈ cs.toList, ∃ x, v = .string x) :
  Calls Tryz.prog 122 #[.pointer (some ⟨g, 0, none⟩), .slice (some ⟨r, 0, none⟩) cs.size cs.size] w (PickEnd w B g cs.toList) := by
 have C := Lib.hid (l1Below_pos B g w hc cs.size (by omega) (by omega))
 have hr : r < w.heap.size := by
  rcases Nat.lt_or_ge r w.heap.size with hlt | hge
  ·exact hlt
  ·rw [Array.getElem?_eq_none hge] at h; cases h
 have HH := Lib.hid h
 have HA := Lib.hid hall
 clear hc h hall
 go_enter Tryz.func122, Tryz.ntmps122
 go_wp2_with fail
 refine C.out.mono ?_
 rintro e w1 ⟨q, rfl, ⟨q0, q1⟩, hc1, hg1⟩
 obtain ⟨k, rfl⟩ : ∃ k : Nat, q = (k : Int) := ⟨q.toNat, by omega⟩
 have hk : k < cs.size := by omega
 have h' : w1.heap[r]? = some (.cells cs 9 (0, 0)) := (hg1.block r hr (fun e => hne (by injection e))).trans HH.out
 have hcell := row_at h' hk
 obtain ⟨x, hx⟩ := HA.out cs[k] (by simp)
 have hmem : Hid (Value.string x ∈ cs.toList) := by show _ ∈ _; rw [← hx]; simp
 rw [hx] at hcell
 have C1 := Lib.hid hc1
 have G1 := Lib.hid hg1
 clear hc1 hg1 h' hx
 go_wp2_with fail
 go_ret
 exact ⟨_, hmem.out, rfl, C1.out, G1.out⟩

end Go.Proofs.YtkkimgjcefojdaaGreatDoor
namespace Go.Proofs.YtkkimgjcefojdaaGreatDoor
open Go.RowKit Go.Lib

/-- What l1Turned hands back: a text that is a little longer at most. -/
def TurnEnd (w : World) (B g : Nat) (m : Nat) (e : Ending) (w' : World) : Prop := ∃ t : ByteArray, e = .returned (.string t) ∧ t.size ≤ m ∧ CurB w' B g ∧ w.grownBy w' (some g)

set_option maxRecDepth 100000 in
set_option maxHeartbeats 2000000 in
theorem l1Turned_any (B g r : Nat) (w : World) (hc : CurB w B g) (s : ByteArray) (hs : s.size ≤ 1000000) (cs : Array Value) (h : w.heap[r]? = some (.cells cs 9 (0, 0))) (hne : r ≠ g) (h0 : 0 < cs.size) (h1 : cs.size ≤ 1000000) (hall : ∀ v ∈ cs.toList, ∃ x, v = .string x ∧ x.size ≤ 100) :
  Calls Tryz.prog 117 #[.pointer (some ⟨g, 0, none⟩), .string s, .slice (some ⟨r, 0, none⟩) cs.size cs.size] w (TurnEnd w B g (s.size + 100)) := by
 have hr : r < w.heap.size := by
  rcases Nat.lt_or_ge r w.heap.size with hlt | hge
  ·exact hlt
  ·rw [Array.getElem?_eq_none hge] at h; cases h
 have HH := Lib.hid h
 have HA := Lib.hid hall
 have C := Lib.hid hc
 clear hc h hall
 have T := Lib.hid (l1Below_pos B g w C.out (↑s.size + 1) (by omega) (by omega))
 go_enter Tryz.func117, Tryz.ntmps117
 go_wp2_with fail
 refine T.out.mono ?_
 rintro e w1 ⟨q, rfl, ⟨q0, q1⟩, hc1, hg1⟩
 obtain ⟨a, rfl⟩ : ∃ a : Nat, q = (a : Int) := ⟨q.toNat, by omega⟩
 have C1 := Lib.hid hc1
 have G1 := Lib.hid hg1
 clear hc1 hg1
 go_wp2_with fail
 refine (l1Below_pos B g w1 C1.out 6 (by omega) (by omega)).mono ?_
 rintro e w2 ⟨q, rfl, ⟨p0, p1⟩, hc2, hg2⟩
 have C2 := Lib.hid hc2
 have G2 := Lib.hid (grown_tr G1.out hg2)
 have H2 : Hid (w2.heap[r]? = some (.cells cs 9 (0, 0))) := (G2.out.block r hr (fun e => hne (by injection e))).trans HH.out
 clear hc2 hg2
 have ha0 : (0 : Int) ≤ (a : Int) := by omega
 have ha1 : (a : Int) ≤ (s.size : Int) := by omega
 have ha2 : a ≤ s.size := by omega
 have hq : q = 0 ∨ q = 1 ∨ 2 ≤ q := by omega
 rcases hq with rfl | rfl | hq
 ·go_wp2_with fail
  refine wp_region_noPanic ?_
  refine wp_region_held_drew (S := fun _ => True) (by kernel_rfl) trivial (fun _ => ?_)
  refine wpAnyH_take (i := 0) (v := Value.string s) rfl (by kernel_rfl) (by kernel_rfl) (by kernel_rfl) (fun _ _ _ h => h) (Or.inl ⟨rfl, fun _ _ => rfl⟩) trivial ?_
  change wpAnyH _ _ _ _ _ _ _ { tmps := #[Value.pointer (some { block := g, off := 0 }), Value.string s, Value.slice (some { block := r, off := 0 }) cs.size cs.size, undef, undef, undef, Value.string { data := #[] }, Value.int IntKind.i64 ↑a, Value.pointer (some { block := g, off := 0 }), Value.string s, Value.int IntKind.i64 ↑s.size, Value.int IntKind.i64 (↑s.size + 1), Value.int IntKind.i64 ↑a, Value.pointer (some { block := g, off := 0 }), Value.int IntKind.i64 0, Value.bool true, Value.bool true, Value.string s, undef, undef, undef, undef, undef, undef, undef, undef, undef, undef, undef, undef, undef, undef, undef, undef], defers := [] } _
  refine wpAnyH_take (i := 1) (v := Value.int IntKind.i64 ↑a) rfl (by kernel_rfl) (by kernel_rfl) (by kernel_rfl) (fun _ _ _ h => h) (Or.inl ⟨rfl, fun _ _ => rfl⟩) trivial ?_
  change wpAnyH _ _ _ _ _ _ _ { tmps := #[Value.pointer (some { block := g, off := 0 }), Value.string s, Value.slice (some { block := r, off := 0 }) cs.size cs.size, undef, undef, undef, Value.string { data := #[] }, Value.int IntKind.i64 ↑a, Value.pointer (some { block := g, off := 0 }), Value.string s, Value.int IntKind.i64 ↑s.size, Value.int IntKind.i64 (↑s.size + 1), Value.int IntKind.i64 ↑a, Value.pointer (some { block := g, off := 0 }), Value.int IntKind.i64 0, Value.bool true, Value.bool true, Value.string s, Value.int IntKind.i64 ↑a, undef, undef, undef, undef, undef, undef, undef, undef, undef, undef, undef, undef, undef, undef, undef], defers := [] } _
  refine wpAnyH_take (i := 2) (v := Value.string (s.extract 0 a)) rfl (by kernel_rfl) (by kernel_rfl) (by kernel_rfl) (fun _ _ _ h => h) (Or.inl ⟨rfl, by intro w _; go_simp⟩) trivial ?_
  change wpAnyH _ _ _ _ _ _ _ { tmps := #[Value.pointer (some { block := g, off := 0 }), Value.string s, Value.slice (some { block := r, off := 0 }) cs.size cs.size, undef, undef, undef, Value.string { data := #[] }, Value.int IntKind.i64 ↑a, Value.pointer (some { block := g, off := 0 }), Value.string s, Value.int IntKind.i64 ↑s.size, Value.int IntKind.i64 (↑s.size + 1), Value.int IntKind.i64 ↑a, Value.pointer (some { block := g, off := 0 }), Value.int IntKind.i64 0, Value.bool true, Value.bool true, Value.string s, Value.int IntKind.i64 ↑a, Value.string (s.extract 0 a), undef, undef, undef, undef, undef, undef, undef, undef, undef, undef, undef, undef, undef, undef], defers := [] } _
  refine wpAnyH_take (i := 3) (v := Value.pointer (some { block := g, off := 0 })) rfl (by kernel_rfl) (by kernel_rfl) (by kernel_rfl) (fun _ _ _ h => h) (Or.inl ⟨rfl, fun _ _ => rfl⟩) trivial ?_
  change wpAnyH _ _ _ _ _ _ _ { tmps := #[Value.pointer (some { block := g, off := 0 }), Value.string s, Value.slice (some { block := r, off := 0 }) cs.size cs.size, undef, undef, undef, Value.string { data := #[] }, Value.int IntKind.i64 ↑a, Value.pointer (some { block := g, off := 0 }), Value.string s, Value.int IntKind.i64 ↑s.size, Value.int IntKind.i64 (↑s.size + 1), Value.int IntKind.i64 ↑a, Value.pointer (some { block := g, off := 0 }), Value.int IntKind.i64 0, Value.bool true, Value.bool true, Value.string s, Value.int IntKind.i64 ↑a, Value.string (s.extract 0 a), Value.pointer (some { block := g, off := 0 }), undef, undef, undef, undef, undef, undef, undef, undef, undef, undef, undef, undef, undef], defers := [] } _
  refine wpAnyH_take (i := 4) (v := Value.slice (some { block := r, off := 0 }) cs.size cs.size) rfl (by kernel_rfl) (by kernel_rfl) (by kernel_rfl) (fun _ _ _ h => h) (Or.inl ⟨rfl, fun _ _ => rfl⟩) trivial ?_
  change wpAnyH _ _ _ _ _ _ _ { tmps := #[Value.pointer (some { block := g, off := 0 }), Value.string s, Value.slice (some { block := r, off := 0 }) cs.size cs.size, undef, undef, undef, Value.string { data := #[] }, Value.int IntKind.i64 ↑a, Value.pointer (some { block := g, off := 0 }), Value.string s, Value.int IntKind.i64 ↑s.size, Value.int IntKind.i64 (↑s.size + 1), Value.int IntKind.i64 ↑a, Value.pointer (some { block := g, off := 0 }), Value.int IntKind.i64 0, Value.bool true, Value.bool true, Value.string s, Value.int IntKind.i64 ↑a, Value.string (s.extract 0 a), Value.pointer (some { block := g, off := 0 }), Value.slice (some { block := r, off := 0 }) cs.size cs.size, undef, undef, undef, undef, undef, undef, undef, undef, undef, undef, undef, undef], defers := [] } _
  refine wpAnyH_take (i := 7) (v := Value.string s) rfl (by kernel_rfl) (by kernel_rfl) (by kernel_rfl) (fun _ _ _ h => h) (Or.inl ⟨rfl, fun _ _ => rfl⟩) trivial ?_
  change wpAnyH _ _ _ _ _ _ _ { tmps := #[Value.pointer (some { block := g, off := 0 }), Value.string s, Value.slice (some { block := r, off := 0 }) cs.size cs.size, undef, undef, undef, Value.string { data := #[] }, Value.int IntKind.i64 ↑a, Value.pointer (some { block := g, off := 0 }), Value.string s, Value.int IntKind.i64 ↑s.size, Value.int IntKind.i64 (↑s.size + 1), Value.int IntKind.i64 ↑a, Value.pointer (some { block := g, off := 0 }), Value.int IntKind.i64 0, Value.bool true, Value.bool true, Value.string s, Value.int IntKind.i64 ↑a, Value.string (s.extract 0 a), Value.pointer (some { block := g, off := 0 }), Value.slice (some { block := r, off := 0 }) cs.size cs.size, undef, undef, Value.string s, undef, undef, undef, undef, undef, undef, undef, undef, undef], defers := [] } _
  refine wpAnyH_take (i := 8) (v := Value.int IntKind.i64 ↑a) rfl (by kernel_rfl) (by kernel_rfl) (by kernel_rfl) (fun _ _ _ h => h) (Or.inl ⟨rfl, fun _ _ => rfl⟩) trivial ?_
  change wpAnyH _ _ _ _ _ _ _ { tmps := #[Value.pointer (some { block := g, off := 0 }), Value.string s, Value.slice (some { block := r, off := 0 }) cs.size cs.size, undef, undef, undef, Value.string { data := #[] }, Value.int IntKind.i64 ↑a, Value.pointer (some { block := g, off := 0 }), Value.string s, Value.int IntKind.i64 ↑s.size, Value.int IntKind.i64 (↑s.size + 1), Value.int IntKind.i64 ↑a, Value.pointer (some { block := g, off := 0 }), Value.int IntKind.i64 0, Value.bool true, Value.bool true, Value.string s, Value.int IntKind.i64 ↑a, Value.string (s.extract 0 a), Value.pointer (some { block := g, off := 0 }), Value.slice (some { block := r, off := 0 }) cs.size cs.size, undef, undef, Value.string s, Value.int IntKind.i64 ↑a, undef, undef, undef, undef, undef, undef, undef, undef], defers := [] } _
  refine wpAnyH_take (i := 9) (v := Value.string (s.extract a s.size)) rfl (by kernel_rfl) (by kernel_rfl) (by kernel_rfl) (fun _ _ _ h => h) (Or.inl ⟨rfl, by intro w _; go_simp⟩) trivial ?_
  change wpAnyH _ _ _ _ _ _ _ { tmps := #[Value.pointer (some { block := g, off := 0 }), Value.string s, Value.slice (some { block := r, off := 0 }) cs.size cs.size, undef, undef, undef, Value.string { data := #[] }, Value.int IntKind.i64 ↑a, Value.pointer (some { block := g, off := 0 }), Value.string s, Value.int IntKind.i64 ↑s.size, Value.int IntKind.i64 (↑s.size + 1), Value.int IntKind.i64 ↑a, Value.pointer (some { block := g, off := 0 }), Value.int IntKind.i64 0, Value.bool true, Value.bool true, Value.string s, Value.int IntKind.i64 ↑a, Value.string (s.extract 0 a), Value.pointer (some { block := g, off := 0 }), Value.slice (some { block := r, off := 0 }) cs.size cs.size, undef, undef, Value.string s, Value.int IntKind.i64 ↑a, Value.string (s.extract a s.size), undef, undef, undef, undef, undef, undef, undef], defers := [] } _
  refine wpAnyH_ready (rs := [5]) (by kernel_rfl) (by simp) ?_
  refine AllReadyH.cons (i := 5) rfl (fun K hK => ?zc1) AllReadyH.nil
  rw [if_pos (by rfl)]
  go_simp
  refine (l1Pick_any B g r _ (C2.out.draws 1) cs (by exact H2.out) hne h0 h1 (fun v hv => (HA.out v hv).imp fun _ h => h.1)).mono ?_
  rintro e w3 ⟨v, hv, rfl, hc3, hg3⟩
  obtain ⟨x, rfl, hx⟩ := HA.out v hv
  have hxs : ¬ 9223372036854775807 < (s.extract 0 a).size + x.size := by rw [ByteArray.size_extract]; omega
  have hxs2 : ¬ 9223372036854775807 < (s.extract 0 a ++ x).size + (s.extract a s.size).size := by rw [ByteArray.size_append, ByteArray.size_extract, ByteArray.size_extract]; omega
  have C3 := Lib.hid hc3
  have G3 : Hid (w.grownBy w3 (some g)) := grown_tr (grown_draws G2.out 1) hg3
  clear hc3 hg3 hv
  refine hK.out _ _ trivial (fun _ => ?_)
  clear hK K
  change wpAnyH _ _ _ _ _ _ _ { tmps := #[Value.pointer (some { block := g, off := 0 }), Value.string s, Value.slice (some { block := r, off := 0 }) cs.size cs.size, undef, undef, undef, Value.string { data := #[] }, Value.int IntKind.i64 ↑a, Value.pointer (some { block := g, off := 0 }), Value.string s, Value.int IntKind.i64 ↑s.size, Value.int IntKind.i64 (↑s.size + 1), Value.int IntKind.i64 ↑a, Value.pointer (some { block := g, off := 0 }), Value.int IntKind.i64 0, Value.bool true, Value.bool true, Value.string s, Value.int IntKind.i64 ↑a, Value.string (s.extract 0 a), Value.pointer (some { block := g, off := 0 }), Value.slice (some { block := r, off := 0 }) cs.size cs.size, Value.string x, undef, Value.string s, Value.int IntKind.i64 ↑a, Value.string (s.extract a s.size), undef, undef, undef, undef, undef, undef, undef], defers := [] } _
  refine wpAnyH_take (i := 6) (v := Value.string (s.extract 0 a ++ x)) rfl (by kernel_rfl) (by kernel_rfl) (by kernel_rfl) (fun _ _ _ h => h) (Or.inl ⟨rfl, by intro w _; go_simp; omega⟩) trivial ?_
  change wpAnyH _ _ _ _ _ _ _ { tmps := #[Value.pointer (some { block := g, off := 0 }), Value.string s, Value.slice (some { block := r, off := 0 }) cs.size cs.size, undef, undef, undef, Value.string { data := #[] }, Value.int IntKind.i64 ↑a, Value.pointer (some { block := g, off := 0 }), Value.string s, Value.int IntKind.i64 ↑s.size, Value.int IntKind.i64 (↑s.size + 1), Value.int IntKind.i64 ↑a, Value.pointer (some { block := g, off := 0 }), Value.int IntKind.i64 0, Value.bool true, Value.bool true, Value.string s, Value.int IntKind.i64 ↑a, Value.string (s.extract 0 a), Value.pointer (some { block := g, off := 0 }), Value.slice (some { block := r, off := 0 }) cs.size cs.size, Value.string x, Value.string (s.extract 0 a ++ x), Value.string s, Value.int IntKind.i64 ↑a, Value.string (s.extract a s.size), undef, undef, undef, undef, undef, undef, undef], defers := [] } _
  refine wpAnyH_take (i := 10) (v := Value.string (s.extract 0 a ++ x ++ s.extract a s.size)) rfl (by kernel_rfl) (by kernel_rfl) (by kernel_rfl) (fun _ _ _ h => h) (Or.inl ⟨rfl, by intro w _; go_simp; omega⟩) trivial ?_
  change wpAnyH _ _ _ _ _ _ _ { tmps := #[Value.pointer (some { block := g, off := 0 }), Value.string s, Value.slice (some { block := r, off := 0 }) cs.size cs.size, undef, undef, undef, Value.string { data := #[] }, Value.int IntKind.i64 ↑a, Value.pointer (some { block := g, off := 0 }), Value.string s, Value.int IntKind.i64 ↑s.size, Value.int IntKind.i64 (↑s.size + 1), Value.int IntKind.i64 ↑a, Value.pointer (some { block := g, off := 0 }), Value.int IntKind.i64 0, Value.bool true, Value.bool true, Value.string s, Value.int IntKind.i64 ↑a, Value.string (s.extract 0 a), Value.pointer (some { block := g, off := 0 }), Value.slice (some { block := r, off := 0 }) cs.size cs.size, Value.string x, Value.string (s.extract 0 a ++ x), Value.string s, Value.int IntKind.i64 ↑a, Value.string (s.extract a s.size), Value.string (s.extract 0 a ++ x ++ s.extract a s.size), undef, undef, undef, undef, undef, undef], defers := [] } _
  refine wpAnyH_take (i := 11) (v := Value.string (s.extract 0 a ++ x ++ s.extract a s.size)) rfl (by kernel_rfl) (by kernel_rfl) (by kernel_rfl) (fun _ _ _ h => h) (Or.inl ⟨rfl, fun _ _ => rfl⟩) trivial ?_
  change wpAnyH _ _ _ _ _ _ _ { tmps := #[Value.pointer (some { block := g, off := 0 }), Value.string s, Value.slice (some { block := r, off := 0 }) cs.size cs.size, undef, undef, undef, Value.string (s.extract 0 a ++ x ++ s.extract a s.size), Value.int IntKind.i64 ↑a, Value.pointer (some { block := g, off := 0 }), Value.string s, Value.int IntKind.i64 ↑s.size, Value.int IntKind.i64 (↑s.size + 1), Value.int IntKind.i64 ↑a, Value.pointer (some { block := g, off := 0 }), Value.int IntKind.i64 0, Value.bool true, Value.bool true, Value.string s, Value.int IntKind.i64 ↑a, Value.string (s.extract 0 a), Value.pointer (some { block := g, off := 0 }), Value.slice (some { block := r, off := 0 }) cs.size cs.size, Value.string x, Value.string (s.extract 0 a ++ x), Value.string s, Value.int IntKind.i64 ↑a, Value.string (s.extract a s.size), Value.string (s.extract 0 a ++ x ++ s.extract a s.size), undef, undef, undef, undef, undef, undef], defers := [] } _
  refine wpAnyH_done (by kernel_rfl) ?_ _
  refine NoPanic.normal ?_
  go_wp2_with fail
  go_ret
  exact ⟨_, rfl, by rw [ByteArray.size_append, ByteArray.size_append, ByteArray.size_extract, ByteArray.size_extract]; omega, C3.out, G3.out⟩
 ·go_wp2_with fail
  go_ret
  exact ⟨_, rfl, by rw [ByteArray.size_extract]; omega, C2.out, G2.out⟩
 ·go_wp2_with fail
  go_ret
  exact ⟨_, rfl, by omega, C2.out, G2.out⟩
end Go.Proofs.YtkkimgjcefojdaaGreatDoor
namespace Go.Proofs.YtkkimgjcefojdaaGreatDoor
open Go.RowKit Go.Lib

def turn7Cs : Array Value := #[.string ⟨#[0]⟩, .string ⟨#[69]⟩, .string ⟨#[120]⟩]
theorem turn7Cs_bd : ∀ v ∈ turn7Cs.toList, ∃ x, v = .string x ∧ x.size ≤ 100 := by
 intro v hv
 simp only [turn7Cs, List.mem_cons, List.mem_nil_iff, or_false] at hv
 rcases hv with rfl | rfl | rfl <;> exact ⟨_, rfl, by decide⟩
def at7Cs : Array Value := #[.int .i64 0, .int .i64 1, .int .i64 2, .int .i64 3, .int .i64 6, .int .i64 7, .int .i64 8, .int .i64 10, .int .i64 19]
theorem at7Cs_bd : ∀ v ∈ at7Cs.toList, ∃ x : Nat, v = .int .i64 (x : Int) ∧ x < 20 := by
 intro v hv
 simp only [at7Cs, List.mem_cons, List.mem_nil_iff, or_false] at hv
 rcases hv with rfl | rfl | rfl | rfl | rfl | rfl | rfl | rfl | rfl
 ·exact ⟨0, rfl, by decide⟩
 ·exact ⟨1, rfl, by decide⟩
 ·exact ⟨2, rfl, by decide⟩
 ·exact ⟨3, rfl, by decide⟩
 ·exact ⟨6, rfl, by decide⟩
 ·exact ⟨7, rfl, by decide⟩
 ·exact ⟨8, rfl, by decide⟩
 ·exact ⟨10, rfl, by decide⟩
 ·exact ⟨19, rfl, by decide⟩
def by7Cs : Array Value := #[.int .i64 0, .int .i64 64, .int .i64 32, .int .i64 69, .int .i64 70, .int .i64 1, .int .i64 255]
theorem by7Cs_bd : ∀ v ∈ by7Cs.toList, ∃ x : UInt8, v = .int .i64 (x.toNat : Int) := by
 intro v hv
 simp only [by7Cs, List.mem_cons, List.mem_nil_iff, or_false] at hv
 rcases hv with rfl | rfl | rfl | rfl | rfl | rfl | rfl
 ·exact ⟨0, rfl⟩
 ·exact ⟨64, rfl⟩
 ·exact ⟨32, rfl⟩
 ·exact ⟨69, rfl⟩
 ·exact ⟨70, rfl⟩
 ·exact ⟨1, rfl⟩
 ·exact ⟨255, rfl⟩
theorem pickAt7 (B g : Nat) (w : World) (hc : CurB w B g) :
  Calls Tryz.prog 63 #[.pointer (some ⟨g, 0, none⟩), .slice (some ⟨w.heap.size, 0, none⟩) 9 9] (w.alloc (.cells at7Cs 3)) fun e w' => ∃ x : Nat, e = .returned (.int .i64 (x : Int)) ∧ x < 20 ∧ CurB w' B g ∧ w.grownBy w' (some g) := by
 have hlt := hc.lt
 refine (l1PickInt_any B g w.heap.size _ (hc.new _) at7Cs (heap_alloc_new w _) (by omega) (by decide) (by decide) (fun v hv => by obtain ⟨x, h, _⟩ := at7Cs_bd v hv; exact ⟨_, h⟩)).mono ?_
 rintro e w' ⟨v, hv, rfl, h1, h2⟩
 obtain ⟨x, rfl, hx⟩ := at7Cs_bd v hv
 exact ⟨x, rfl, hx, h1, grown_tr (World.grownBy_alloc w _ _) h2⟩
theorem pickBy7 (B g : Nat) (w : World) (hc : CurB w B g) :
  Calls Tryz.prog 63 #[.pointer (some ⟨g, 0, none⟩), .slice (some ⟨w.heap.size, 0, none⟩) 7 7] (w.alloc (.cells by7Cs 3)) fun e w' => ∃ x : UInt8, e = .returned (.int .i64 (x.toNat : Int)) ∧ CurB w' B g ∧ w.grownBy w' (some g) := by
 have hlt := hc.lt
 refine (l1PickInt_any B g w.heap.size _ (hc.new _) by7Cs (heap_alloc_new w _) (by omega) (by decide) (by decide) (fun v hv => by obtain ⟨x, h⟩ := by7Cs_bd v hv; exact ⟨_, h⟩)).mono ?_
 rintro e w' ⟨v, hv, rfl, h1, h2⟩
 obtain ⟨x, rfl⟩ := by7Cs_bd v hv
 exact ⟨x, rfl, h1, grown_tr (World.grownBy_alloc w _ _) h2⟩
theorem turnNew7 (B g : Nat) (w : World) (hc : CurB w B g) (s : ByteArray) (hs : s.size ≤ 1000000) :
  Calls Tryz.prog 117 #[.pointer (some ⟨g, 0, none⟩), .string s, .slice (some ⟨w.heap.size, 0, none⟩) 3 3] (w.alloc (.cells turn7Cs 9)) (TurnEnd w B g (s.size + 100)) := by
 have hlt := hc.lt
 refine (l1Turned_any B g w.heap.size _ (hc.new _) s hs turn7Cs (heap_alloc_new w _) (by omega) (by decide) (by decide) turn7Cs_bd).mono ?_
 rintro e w' ⟨t, rfl, ht, h1, h2⟩
 exact ⟨t, rfl, ht, h1, grown_tr (World.grownBy_alloc w _ _) h2⟩

set_option maxRecDepth 100000 in
set_option maxHeartbeats 2000000 in
theorem l7Turned_any (B g : Nat) (w : World) (hc : CurB w B g) (s : ByteArray) (hs : s.size ≤ 1000000) :
  Calls Tryz.prog 102 #[.pointer (some ⟨g, 0, none⟩), .string s] w (TurnEnd w B g (s.size + 100)) := by
 have hlt := hc.lt
 have hBg := hc.1
 have C := Lib.hid hc
 clear hc
 by_cases h : (s.size : Int) < 20
 ·have T := Lib.hid (turnNew7 B g w C.out s hs)
  go_enter Tryz.func102, Tryz.ntmps102
  go_wp2_with fail
  refine T.out.mono ?_
  rintro e w1 ⟨t, rfl, ht, hc1, hg1⟩
  go_wp2_with fail
  go_ret
  exact ⟨t, rfl, ht, hc1, hg1⟩
 ·have O := Lib.hid (l1Once_any B g w C.out 3 (by omega) (by omega))
  go_enter Tryz.func102, Tryz.ntmps102
  go_wp2_with fail
  refine O.out.mono ?_
  rintro e w1 ⟨b, rfl, hc1, hg1⟩
  have C1 := Lib.hid hc1
  have G1 := Lib.hid hg1
  clear hc1 hg1 O
  cases b with
  | true =>
   go_wp2_with fail
   refine (turnNew7 B g w1 C1.out s hs).mono ?_
   rintro e w2 ⟨t, rfl, ht, hc2, hg2⟩
   have G2 := Lib.hid (grown_tr G1.out hg2)
   have C2 := Lib.hid hc2
   clear hc2 hg2
   go_wp2_with fail
   go_ret
   exact ⟨t, rfl, ht, C2.out, G2.out⟩
  | false =>
   obtain ⟨cap, W, hcv, hcap, hlaid, hbW⟩ := bytes_new2 (P := Tryz.prog) w1 9 22 5 s Tryz.underlying9 Tryz.underlying22 Tryz.underlying5
   have hl : s.data.toList.length = s.size := by simp
   obtain ⟨l, el⟩ : ∃ l, s.data.toList = l := ⟨_, rfl⟩
   rw [el] at hl hlaid
   have L := Lib.hid hlaid
   have CW := Lib.hid (C1.out.below hbW)
   have GW := Lib.hid (grown_tr G1.out (below_any (row := some g) hbW))
   have hfg : w1.heap.size ≠ g := Nat.ne_of_gt C1.out.lt
   clear hlaid hbW el
   go_wp2_with fail
   clear hcv
   refine (pickAt7 B g W CW.out).mono ?_
   rintro e w2 ⟨x, rfl, hx, hc2, hg2⟩
   have L2 := Lib.hid (L.out.grown (by omega) hg2 hfg)
   have C2 := Lib.hid hc2
   have G2 := Lib.hid (grown_tr GW.out hg2)
   clear hc2 hg2 L CW GW
   go_wp2_with fail
   refine (pickBy7 B g w2 C2.out).mono ?_
   rintro e w3 ⟨y, rfl, hc3, hg3⟩
   have L3 := Lib.hid (L2.out.grown (by omega) hg3 hfg)
   have C3 := Lib.hid hc3
   have G3 := Lib.hid (grown_tr G2.out hg3)
   clear hc3 hg3 L2 C2 G2
   have hfl : w.heap.size ≤ w1.heap.size := G1.out.size
   have hBf : B ≤ w1.heap.size := by omega
   clear C1 G1
   generalize w1.heap.size = f at *
   have h20 : 20 ≤ s.size := by omega
   have wy : IntKind.u8.wrap (y.toNat : Int) = y.toNat := by have := y.toNat_lt; simp only [IntKind.wrap, IntKind.bits, IntKind.signed]; simp; omega
   have hcell := L3.out.1 x (by omega)
   have hfz := L3.out.2 x (by omega)
   have L4 := Lib.hid (L3.out.set (i := x) (by omega) y)
   have C4 := Lib.hid (C3.out.setOther ⟨f, x, none⟩ (.int .u8 (y.toNat : Int)) hBf hfg)
   have G4 := Lib.hid (grown_setNew G3.out ⟨f, x, none⟩ (.int .u8 (y.toNat : Int)) hfl)
   have hxs : x < s.size := by omega
   have hxi : (x : Int) < s.size := by omega
   go_wp2_with fail
   generalize w3.setCell ⟨f, x, none⟩ (.int .u8 (y.toNat : Int)) = w4 at L4 C4 G4 ⊢
   have hl4 : (l.set x y).length = s.size := by rw [List.length_set, hl]
   generalize l.set x y = l4 at L4 hl4
   clear hcell hfz L3 C3 G3 wy
   refine (l1Once_any B g w4 C4.out 4 (by omega) (by omega)).mono ?_
   rintro e w5 ⟨b, rfl, hc5, hg5⟩
   have L5 := Lib.hid (L4.out.grown (by omega) hg5 hfg)
   have C5 := Lib.hid hc5
   have G5 := Lib.hid (grown_tr G4.out hg5)
   clear hc5 hg5 L4 C4 G4
   cases b with
   | true =>
    have hcv5 := L5.out.conv (P := Tryz.prog) 22 9 5 cap s.size (by omega) Tryz.underlying22 Tryz.underlying5 Tryz.underlying9
    have hz : (⟨(l4.take s.size).toArray⟩ : ByteArray).size ≤ s.size + 100 := by show (l4.take s.size).toArray.size ≤ _; rw [List.size_toArray, List.length_take]; omega
    generalize (⟨(l4.take s.size).toArray⟩ : ByteArray) = t at hcv5 hz
    go_wp2_with fail
    go_ret
    exact ⟨t, rfl, hz, C5.out, G5.out⟩
   | false =>
    have c10 := L5.out.1 10 (by omega)
    have c11 := L5.out.1 11 (by omega)
    have z10 := L5.out.2 10 (by omega)
    have z11 := L5.out.2 11 (by omega)
    have L7 : Laid8 ((w5.setCell ⟨f, 10, none⟩ (.int .u8 0)).setCell ⟨f, 11, none⟩ (.int .u8 0)) f ((l4.set 10 0).set 11 0) :=
     (L5.out.set (i := 10) (by omega) 0).set (i := 11) (by rw [List.length_set]; omega) 0
    have L7 := Lib.hid L7
    have hl7 : ((l4.set 10 0).set 11 0).length = s.size := by rw [List.length_set, List.length_set, hl4]
    generalize (l4.set 10 0).set 11 0 = l7 at L7 hl7
    have C7 := Lib.hid ((C5.out.setOther ⟨f, 10, none⟩ (.int .u8 0) hBf hfg).setOther ⟨f, 11, none⟩ (.int .u8 0) hBf hfg)
    have G7 := Lib.hid (grown_setNew (grown_setNew G5.out ⟨f, 10, none⟩ (.int .u8 0) hfl) ⟨f, 11, none⟩ (.int .u8 0) hfl)
    have hcv7 := L7.out.conv (P := Tryz.prog) 22 9 5 cap 20 (by omega) Tryz.underlying22 Tryz.underlying5 Tryz.underlying9
    have hz7 : (⟨(l7.take 20).toArray⟩ : ByteArray).size = 20 := by show (l7.take 20).toArray.size = _; rw [List.size_toArray, List.length_take]; omega
    generalize (⟨(l7.take 20).toArray⟩ : ByteArray) = t7 at hcv7 hz7
    have SO := Lib.hid (sumOfS t7 (by omega))
    have hso := sumOf_bd t7
    obtain ⟨c, hc⟩ : ∃ c : Nat, sumOf t7 = (c : Int) := ⟨(sumOf t7).toNat, by omega⟩
    rw [hc] at SO hso
    clear hc hz7
    have hcap20 : (20 : Int) ≤ cap := by omega
    go_wp2_with fail
    generalize (w5.setCell ⟨f, 10, none⟩ (.int .u8 0)).setCell ⟨f, 11, none⟩ (.int .u8 0) = w6 at L7 C7 G7 hcv7 ⊢
    clear hcv7 c10 c11 z10 z11 L5 C5 G5
    refine (SO.out _).mono ?_
    rintro e w7 ⟨rfl, rfl⟩
    have c10 := L7.out.1 10 (by omega)
    have c11 := L7.out.1 11 (by omega)
    have z10 := L7.out.2 10 (by omega)
    have z11 := L7.out.2 11 (by omega)
    obtain ⟨u, hu⟩ : ∃ u : UInt8, IntKind.u8.wrap ((c : Int) / 256) = (u.toNat : Int) := ⟨UInt8.ofNat (c / 256), by rw [UInt8.toNat_ofNat']; simp only [IntKind.wrap, IntKind.bits, IntKind.signed]; simp⟩
    obtain ⟨v, hv⟩ : ∃ v : UInt8, IntKind.u8.wrap ((c : Int) % 256) = (v.toNat : Int) := ⟨UInt8.ofNat (c % 256), by rw [UInt8.toNat_ofNat']; simp only [IntKind.wrap, IntKind.bits, IntKind.signed]; simp⟩
    have L9 : Laid8 ((w6.setCell ⟨f, 10, none⟩ (.int .u8 (u.toNat : Int))).setCell ⟨f, 11, none⟩ (.int .u8 (v.toNat : Int))) f ((l7.set 10 u).set 11 v) :=
     (L7.out.set (i := 10) (by omega) u).set (i := 11) (by rw [List.length_set]; omega) v
    have L9 := Lib.hid L9
    have hl9 : ((l7.set 10 u).set 11 v).length = s.size := by rw [List.length_set, List.length_set, hl7]
    generalize (l7.set 10 u).set 11 v = l9 at L9 hl9
    have C9 := Lib.hid ((C7.out.setOther ⟨f, 10, none⟩ (.int .u8 (u.toNat : Int)) hBf hfg).setOther ⟨f, 11, none⟩ (.int .u8 (v.toNat : Int)) hBf hfg)
    have G9 := Lib.hid (grown_setNew (grown_setNew G7.out ⟨f, 10, none⟩ (.int .u8 (u.toNat : Int)) hfl) ⟨f, 11, none⟩ (.int .u8 (v.toNat : Int)) hfl)
    have hcv9 := L9.out.conv (P := Tryz.prog) 22 9 5 cap s.size (by omega) Tryz.underlying22 Tryz.underlying5 Tryz.underlying9
    have hz : (⟨(l9.take s.size).toArray⟩ : ByteArray).size ≤ s.size + 100 := by show (l9.take s.size).toArray.size ≤ _; rw [List.size_toArray, List.length_take]; omega
    generalize (⟨(l9.take s.size).toArray⟩ : ByteArray) = t at hcv9 hz
    go_wp2_with fail
    go_ret
    exact ⟨t, rfl, hz, C9.out, G9.out⟩
end Go.Proofs.YtkkimgjcefojdaaGreatDoor
namespace Go.Proofs.YtkkimgjcefojdaaGreatDoor
open Go.RowKit Go.Lib


set_option maxRecDepth 100000 in
set_option maxHeartbeats 4000000 in
theorem l7Turned2_any (B g : Nat) (w : World) (hc : CurB w B g) (s : ByteArray) (hs : s.size ≤ 1000000) : Calls Tryz.prog 68 #[.pointer (some ⟨g, 0, none⟩), .string s] w (TurnEnd w B g (s.size + 100)) := by
 go_enter Tryz.func68, Tryz.ntmps68
 have hlt := hc.lt
 have hBg := hc.1
 have C0 := Lib.hid hc
 have G0 := Lib.hid (World.grownBy.refl w (some g))
 clear hc
 go_wp2_with fail
 refine (l1Once_any B g _ C0.out 5 (by omega) (by omega)).mono ?_
 rintro e v1 ⟨b, rfl, hcu, hgr⟩
 have G1 := Lib.hid (grown_tr G0.out hgr)
 have C1 := Lib.hid hcu
 clear hcu hgr G0 C0
 cases b with
 | false =>
  go_wp2_with fail
  go_ret
  exact ⟨s, rfl, Nat.le_add_right _ _, C1.out, G1.out⟩
 | true =>
  go_wp2_with fail
  refine (l7Turned_any B g _ C1.out s hs).mono ?_
  rintro e v2 ⟨t, rfl, ht, hcu, hgr⟩
  have G2 := Lib.hid (grown_tr G1.out hgr)
  have C2 := Lib.hid hcu
  clear hcu hgr G1 C1
  go_wp2_with fail
  go_ret
  exact ⟨t, rfl, ht, C2.out, G2.out⟩

theorem pickDst (B g : Nat) (w : World) (hc : CurB w B g) : Calls Tryz.prog 63 #[.pointer (some ⟨g, 0, none⟩), .slice (some ⟨w.heap.size, 0, none⟩) 5 5] (w.alloc (.cells #[.int .i64 11, .int .i64 11, .int .i64 11, .int .i64 281474976710655, .int .i64 12] 3)) (WholeEnd w B g) :=
 pickNew B g w hc #[.int .i64 11, .int .i64 11, .int .i64 11, .int .i64 281474976710655, .int .i64 12] (by simp) (by simp) (by
  intro v hv
  simp only [List.mem_cons, List.mem_nil_iff, or_false] at hv
  unfold I64
  rcases hv with rfl | rfl | rfl | rfl | rfl <;> exact ⟨_, rfl, by decide⟩)

theorem pickSrc (B g : Nat) (w : World) (hc : CurB w B g) : Calls Tryz.prog 63 #[.pointer (some ⟨g, 0, none⟩), .slice (some ⟨w.heap.size, 0, none⟩) 2 2] (w.alloc (.cells #[.int .i64 12, .int .i64 13] 3)) (WholeEnd w B g) :=
 pickNew B g w hc #[.int .i64 12, .int .i64 13] (by simp) (by simp) (by
  intro v hv
  simp only [List.mem_cons, List.mem_nil_iff, or_false] at hv
  unfold I64
  rcases hv with rfl | rfl <;> exact ⟨_, rfl, by decide⟩)

def RawEnd (w : World) (B g : Nat) (e : Ending) (w' : World) : Prop := ∃ t : ByteArray, e = .returned (.string t) ∧ t.size ≤ 1604 ∧ CurB w' B g ∧ w.grownBy w' (some g)

set_option maxRecDepth 100000 in
set_option maxHeartbeats 8000000 in
theorem l16Raw_any (B g : Nat) (w : World) (hc : CurB w B g) : Calls Tryz.prog 28 #[.pointer (some ⟨g, 0, none⟩)] w (RawEnd w B g) := by
 go_enter Tryz.func28, Tryz.ntmps28
 have hlt := hc.lt
 have hBg := hc.1
 have C0 := Lib.hid hc
 have G0 := Lib.hid (World.grownBy.refl w (some g))
 clear hc
 go_wp2_with fail
 refine (pickDst B g _ C0.out).mono ?_
 rintro e v1 ⟨x, rfl, hx, hcu, hgr⟩
 have G1 := Lib.hid (grown_tr G0.out hgr)
 have C1 := Lib.hid hcu
 clear hcu hgr G0 C0
 clear hx
 go_wp2_with fail
 refine (pickSrc B g _ C1.out).mono ?_
 rintro e v2 ⟨z, rfl, hz, hcu, hgr⟩
 have G2 := Lib.hid (grown_tr G1.out hgr)
 have C2 := Lib.hid hcu
 clear hcu hgr G1 C1
 clear hz
 go_wp2_with fail
 refine (l1Below_pos B g _ C2.out 4 (by omega) (by omega)).mono ?_
 rintro e v3 ⟨k, rfl, hk, hcu, hgr⟩
 have G3 := Lib.hid (grown_tr G2.out hgr)
 have C3 := Lib.hid hcu
 clear hcu hgr G2 C2
 by_cases h0 : k = 0
 ·subst h0
  go_wp2_with fail
  refine (l6Arp_any B g _ C3.out).mono ?_
  rintro e v4 ⟨ak, aa, ab, ac, ad, rfl, ha, hcu, hgr⟩
  have G4 := Lib.hid (grown_tr G3.out hgr)
  have C4 := Lib.hid hcu
  clear hcu hgr G3 C3
  clear ha
  have Kq5 := Lib.hid (Blk.new v4 [.int .i64 ak, .int .i64 aa, .int .i64 ab, .int .i64 ac, .int .i64 ad] 96)
  have G5 := Lib.hid (grown_new G4.out (.cells #[.int .i64 ak, .int .i64 aa, .int .i64 ab, .int .i64 ac, .int .i64 ad] 96))
  have C5 := Lib.hid (C4.out.new (.cells #[.int .i64 ak, .int .i64 aa, .int .i64 ab, .int .i64 ac, .int .i64 ad] 96))
  have l_q : w.heap.size ≤ v4.heap.size := G4.out.size
  have c_q : v4.heap.size ≠ g := Nat.ne_of_gt C4.out.lt
  have b_q : B ≤ v4.heap.size := by have h1 := C4.out.lt; omega
  clear G4 C4
  obtain ⟨⟨cq0, cq1, cq2, cq3, cq4⟩, dq0, dq1, dq2, dq3, dq4⟩ := Kq5.out.of5
  go_wp2_with fail
  clear cq0 cq1 cq2 cq3 cq4 dq0 dq1 dq2 dq3 dq4
  generalize v4.alloc (.cells #[.int .i64 ak, .int .i64 aa, .int .i64 ab, .int .i64 ac, .int .i64 ad] 96) = v5 at Kq5 C5 G5 ⊢
  generalize hh : v4.heap.size = g_q at Kq5 l_q c_q b_q   ⊢
  clear hh
  refine (l1Once_any B g _ C5.out 2 (by omega) (by omega)).mono ?_
  rintro e v6 ⟨b, rfl, hcu, hgr⟩
  have Kq6 := Lib.hid (Kq5.out.grown hgr c_q)
  have G6 := Lib.hid (grown_tr G5.out hgr)
  have C6 := Lib.hid hcu
  clear hcu hgr Kq5 G5 C5
  cases b with
  | false =>
   obtain ⟨⟨cq0, cq1, cq2, cq3, cq4⟩, dq0, dq1, dq2, dq3, dq4⟩ := Kq6.out.of5
   go_wp2_with fail
   clear cq0 cq1 cq2 cq3 cq4 dq0 dq1 dq2 dq3 dq4
   refine (arpTextS ak aa ab ac ad _).mono ?_
   rintro e v7 ⟨rfl, hb⟩
   have Kq7 := Lib.hid (Kq6.out.below hb)
   have G7 := Lib.hid (grown_tr G6.out (below_any hb))
   have C7 := Lib.hid (C6.out.below hb)
   clear hb Kq6 G6 C6
   generalize arpText ak aa ab ac ad = y at ⊢
   obtain ⟨⟨cq0, cq1, cq2, cq3, cq4⟩, dq0, dq1, dq2, dq3, dq4⟩ := Kq7.out.of5
   go_wp2_with fail
   clear cq0 cq1 cq2 cq3 cq4 dq0 dq1 dq2 dq3 dq4
   refine (frameTextS x z 2054 y _).mono ?_
   rintro e v8 ⟨rfl, hb⟩
   have Kq8 := Lib.hid (Kq7.out.below hb)
   have G8 := Lib.hid (grown_tr G7.out (below_any hb))
   have C8 := Lib.hid (C7.out.below hb)
   clear hb Kq7 G7 C7
   go_wp2_with fail
   go_ret
   exact ⟨_, rfl, frameText_le x z 2054 y, C8.out, G8.out⟩
  | true =>
   obtain ⟨⟨cq0, cq1, cq2, cq3, cq4⟩, dq0, dq1, dq2, dq3, dq4⟩ := Kq6.out.of5
   have Kq7 := Lib.hid (show Blk (((((v6.setCell ⟨g_q, 0, none⟩ (.int .i64 1)).setCell ⟨g_q, 1, none⟩ (.int .i64 z)).setCell ⟨g_q, 2, none⟩ (.int .i64 167772162)).setCell ⟨g_q, 3, none⟩ (.int .i64 0)).setCell ⟨g_q, 4, none⟩ (.int .i64 167772161)) g_q [.int .i64 1, .int .i64 z, .int .i64 167772162, .int .i64 0, .int .i64 167772161] from (((((Kq6.out.set 0 (.int .i64 1)).set 1 (.int .i64 z)).set 2 (.int .i64 167772162)).set 3 (.int .i64 0)).set 4 (.int .i64 167772161)))
   have C7 := Lib.hid (((((C6.out.setOther ⟨g_q, 0, none⟩ (.int .i64 1) b_q c_q).setOther ⟨g_q, 1, none⟩ (.int .i64 z) b_q c_q).setOther ⟨g_q, 2, none⟩ (.int .i64 167772162) b_q c_q).setOther ⟨g_q, 3, none⟩ (.int .i64 0) b_q c_q).setOther ⟨g_q, 4, none⟩ (.int .i64 167772161) b_q c_q)
   have G7 := Lib.hid (grown_setNew (grown_setNew (grown_setNew (grown_setNew (grown_setNew G6.out ⟨g_q, 0, none⟩ (.int .i64 1) l_q) ⟨g_q, 1, none⟩ (.int .i64 z) l_q) ⟨g_q, 2, none⟩ (.int .i64 167772162) l_q) ⟨g_q, 3, none⟩ (.int .i64 0) l_q) ⟨g_q, 4, none⟩ (.int .i64 167772161) l_q)
   clear Kq6 C6 G6
   go_wp2_with fail
   clear cq0 cq1 cq2 cq3 cq4 dq0 dq1 dq2 dq3 dq4
   generalize ((((v6.setCell ⟨g_q, 0, none⟩ (.int .i64 1)).setCell ⟨g_q, 1, none⟩ (.int .i64 z)).setCell ⟨g_q, 2, none⟩ (.int .i64 167772162)).setCell ⟨g_q, 3, none⟩ (.int .i64 0)).setCell ⟨g_q, 4, none⟩ (.int .i64 167772161) = v7 at Kq7 C7 G7 ⊢
   refine (arpTextS 1 z 167772162 0 167772161 _).mono ?_
   rintro e v8 ⟨rfl, hb⟩
   have Kq8 := Lib.hid (Kq7.out.below hb)
   have G8 := Lib.hid (grown_tr G7.out (below_any hb))
   have C8 := Lib.hid (C7.out.below hb)
   clear hb Kq7 G7 C7
   generalize arpText 1 z 167772162 0 167772161 = y at ⊢
   obtain ⟨⟨cq0, cq1, cq2, cq3, cq4⟩, dq0, dq1, dq2, dq3, dq4⟩ := Kq8.out.of5
   go_wp2_with fail
   clear cq0 cq1 cq2 cq3 cq4 dq0 dq1 dq2 dq3 dq4
   refine (frameTextS x z 2054 y _).mono ?_
   rintro e v9 ⟨rfl, hb⟩
   have Kq9 := Lib.hid (Kq8.out.below hb)
   have G9 := Lib.hid (grown_tr G8.out (below_any hb))
   have C9 := Lib.hid (C8.out.below hb)
   clear hb Kq8 G8 C8
   go_wp2_with fail
   go_ret
   exact ⟨_, rfl, frameText_le x z 2054 y, C9.out, G9.out⟩
 ·have h0' : (k == 0) = false := by simpa using h0
  by_cases h1 : k = 1
  ·subst h1
   go_wp2_with fail
   refine (l5Frame_any B g _ C3.out).mono ?_
   rintro e v4 ⟨fd, fs, ft, fb, rfl, hf, hcu, hgr⟩
   have G4 := Lib.hid (grown_tr G3.out hgr)
   have C4 := Lib.hid hcu
   clear hcu hgr G3 C3
   clear hf
   go_wp2_with fail
   refine (frameTextS fd fs ft fb _).mono ?_
   rintro e v5 ⟨rfl, hb⟩
   have G5 := Lib.hid (grown_tr G4.out (below_any hb))
   have C5 := Lib.hid (C4.out.below hb)
   clear hb G4 C4
   go_wp2_with fail
   go_ret
   exact ⟨_, rfl, frameText_le fd fs ft fb, C5.out, G5.out⟩
  ·have h1' : (k == 1) = false := by simpa using h1
   go_wp2_with fail
   refine (l1Below_pos B g _ C3.out 2 (by omega) (by omega)).mono ?_
   rintro e v4 ⟨r, rfl, hr, hcu, hgr⟩
   have G4 := Lib.hid (grown_tr G3.out hgr)
   have C4 := Lib.hid hcu
   clear hcu hgr G3 C3
   have hrw : IntKind.i64.wrap (167772162 + r) = 167772162 + r := IntWalk.i64_in _ (by omega)
   go_wp2_with fail
   refine (l1Below_pos B g _ C4.out 4 (by omega) (by omega)).mono ?_
   rintro e v5 ⟨u, rfl, hu, hcu, hgr⟩
   have G5 := Lib.hid (grown_tr G4.out hgr)
   have C5 := Lib.hid hcu
   clear hcu hgr G4 C4
   obtain ⟨n, rfl⟩ : ∃ n : Nat, u = (n : Int) := ⟨u.toNat, by omega⟩
   go_wp2_with fail
   refine (l1Bytes_any B g n _ C5.out (by omega)).mono ?_
   rintro e v6 ⟨ub, lb, rfl, hlb, hob, hcu, hgr⟩
   have hcv := run_string_own (P := Tryz.prog) Tryz.underlying22 Tryz.underlying5 Tryz.underlying9 hob
   generalize (⟨lb.toArray⟩ : ByteArray) = pb at hcv
   have G6 := Lib.hid (grown_tr G5.out hgr)
   have C6 := Lib.hid hcu
   clear hcu hgr G5 C5
   clear hlb hob
   have Kp7 := Lib.hid (Blk.new v6 [.int .i64 (167772162 + r), .int .i64 167772161, .int .i64 9, .int .i64 6, .int .i64 0, .string pb] 30)
   have G7 := Lib.hid (grown_new G6.out (.cells #[.int .i64 (167772162 + r), .int .i64 167772161, .int .i64 9, .int .i64 6, .int .i64 0, .string pb] 30))
   have C7 := Lib.hid (C6.out.new (.cells #[.int .i64 (167772162 + r), .int .i64 167772161, .int .i64 9, .int .i64 6, .int .i64 0, .string pb] 30))
   have l_p : w.heap.size ≤ v6.heap.size := G6.out.size
   have c_p : v6.heap.size ≠ g := Nat.ne_of_gt C6.out.lt
   have b_p : B ≤ v6.heap.size := by have h1 := C6.out.lt; omega
   clear G6 C6
   obtain ⟨⟨cp0, cp1, cp2, cp3, cp4, cp5⟩, dp0, dp1, dp2, dp3, dp4, dp5⟩ := Kp7.out.of6
   go_wp2_with fail
   clear cp0 cp1 cp2 cp3 cp4 cp5 dp0 dp1 dp2 dp3 dp4 dp5
   generalize v6.alloc (.cells #[.int .i64 (167772162 + r), .int .i64 167772161, .int .i64 9, .int .i64 6, .int .i64 0, .string pb] 30) = v7 at Kp7 C7 G7 ⊢
   generalize hh : v6.heap.size = g_p at Kp7 l_p c_p b_p   ⊢
   clear hh
   clear hcv hrw
   refine (l1Once_any B g _ C7.out 4 (by omega) (by omega)).mono ?_
   rintro e v8 ⟨b, rfl, hcu, hgr⟩
   have Kp8 := Lib.hid (Kp7.out.grown hgr c_p)
   have G8 := Lib.hid (grown_tr G7.out hgr)
   have C8 := Lib.hid hcu
   clear hcu hgr Kp7 G7 C7
   cases b with
   | false =>
    obtain ⟨⟨cp0, cp1, cp2, cp3, cp4, cp5⟩, dp0, dp1, dp2, dp3, dp4, dp5⟩ := Kp8.out.of6
    go_wp2_with fail
    clear cp0 cp1 cp2 cp3 cp4 cp5 dp0 dp1 dp2 dp3 dp4 dp5
    refine (packTextS (167772162 + r) 167772161 9 6 0 pb _).mono ?_
    rintro e v9 ⟨rfl, hb⟩
    have Kp9 := Lib.hid (Kp8.out.below hb)
    have G9 := Lib.hid (grown_tr G8.out (below_any hb))
    have C9 := Lib.hid (C8.out.below hb)
    clear hb Kp8 G8 C8
    have hle := packText_le (167772162 + r) 167772161 9 6 0 pb
    generalize packText (167772162 + r) 167772161 9 6 0 pb = y at hle ⊢
    obtain ⟨⟨cp0, cp1, cp2, cp3, cp4, cp5⟩, dp0, dp1, dp2, dp3, dp4, dp5⟩ := Kp9.out.of6
    go_wp2_with fail
    clear cp0 cp1 cp2 cp3 cp4 cp5 dp0 dp1 dp2 dp3 dp4 dp5
    refine (l7Turned2_any B g _ C9.out y (by omega)).mono ?_
    rintro e v10 ⟨t, rfl, ht, hcu, hgr⟩
    have Kp10 := Lib.hid (Kp9.out.grown hgr c_p)
    have G10 := Lib.hid (grown_tr G9.out hgr)
    have C10 := Lib.hid hcu
    clear hcu hgr Kp9 G9 C9
    clear ht hle
    obtain ⟨⟨cp0, cp1, cp2, cp3, cp4, cp5⟩, dp0, dp1, dp2, dp3, dp4, dp5⟩ := Kp10.out.of6
    go_wp2_with fail
    clear cp0 cp1 cp2 cp3 cp4 cp5 dp0 dp1 dp2 dp3 dp4 dp5
    refine (frameTextS x z 2048 t _).mono ?_
    rintro e v11 ⟨rfl, hb⟩
    have Kp11 := Lib.hid (Kp10.out.below hb)
    have G11 := Lib.hid (grown_tr G10.out (below_any hb))
    have C11 := Lib.hid (C10.out.below hb)
    clear hb Kp10 G10 C10
    go_wp2_with fail
    go_ret
    exact ⟨_, rfl, frameText_le x z 2048 t, C11.out, G11.out⟩
   | true =>
    obtain ⟨⟨cp0, cp1, cp2, cp3, cp4, cp5⟩, dp0, dp1, dp2, dp3, dp4, dp5⟩ := Kp8.out.of6
    go_wp2_with fail
    clear cp0 cp1 cp2 cp3 cp4 cp5 dp0 dp1 dp2 dp3 dp4 dp5
    refine (l7Packet_any B g _ C8.out).mono ?_
    rintro e v9 ⟨s1, s2, s3, s4, s5, sb, rfl, hs, hcu, hgr⟩
    have Kp9 := Lib.hid (Kp8.out.grown hgr c_p)
    have G9 := Lib.hid (grown_tr G8.out hgr)
    have C9 := Lib.hid hcu
    clear hcu hgr Kp8 G8 C8
    clear hs
    obtain ⟨⟨cp0, cp1, cp2, cp3, cp4, cp5⟩, dp0, dp1, dp2, dp3, dp4, dp5⟩ := Kp9.out.of6
    have Kp10 := Lib.hid (show Blk ((((((v9.setCell ⟨g_p, 0, none⟩ (.int .i64 s1)).setCell ⟨g_p, 1, none⟩ (.int .i64 s2)).setCell ⟨g_p, 2, none⟩ (.int .i64 s3)).setCell ⟨g_p, 3, none⟩ (.int .i64 s4)).setCell ⟨g_p, 4, none⟩ (.int .i64 s5)).setCell ⟨g_p, 5, none⟩ (.string sb)) g_p [.int .i64 s1, .int .i64 s2, .int .i64 s3, .int .i64 s4, .int .i64 s5, .string sb] from ((((((Kp9.out.set 0 (.int .i64 s1)).set 1 (.int .i64 s2)).set 2 (.int .i64 s3)).set 3 (.int .i64 s4)).set 4 (.int .i64 s5)).set 5 (.string sb)))
    have C10 := Lib.hid ((((((C9.out.setOther ⟨g_p, 0, none⟩ (.int .i64 s1) b_p c_p).setOther ⟨g_p, 1, none⟩ (.int .i64 s2) b_p c_p).setOther ⟨g_p, 2, none⟩ (.int .i64 s3) b_p c_p).setOther ⟨g_p, 3, none⟩ (.int .i64 s4) b_p c_p).setOther ⟨g_p, 4, none⟩ (.int .i64 s5) b_p c_p).setOther ⟨g_p, 5, none⟩ (.string sb) b_p c_p)
    have G10 := Lib.hid (grown_setNew (grown_setNew (grown_setNew (grown_setNew (grown_setNew (grown_setNew G9.out ⟨g_p, 0, none⟩ (.int .i64 s1) l_p) ⟨g_p, 1, none⟩ (.int .i64 s2) l_p) ⟨g_p, 2, none⟩ (.int .i64 s3) l_p) ⟨g_p, 3, none⟩ (.int .i64 s4) l_p) ⟨g_p, 4, none⟩ (.int .i64 s5) l_p) ⟨g_p, 5, none⟩ (.string sb) l_p)
    clear Kp9 C9 G9
    go_wp2_with fail
    clear cp0 cp1 cp2 cp3 cp4 cp5 dp0 dp1 dp2 dp3 dp4 dp5
    generalize (((((v9.setCell ⟨g_p, 0, none⟩ (.int .i64 s1)).setCell ⟨g_p, 1, none⟩ (.int .i64 s2)).setCell ⟨g_p, 2, none⟩ (.int .i64 s3)).setCell ⟨g_p, 3, none⟩ (.int .i64 s4)).setCell ⟨g_p, 4, none⟩ (.int .i64 s5)).setCell ⟨g_p, 5, none⟩ (.string sb) = v10 at Kp10 C10 G10 ⊢
    refine (packTextS s1 s2 s3 s4 s5 sb _).mono ?_
    rintro e v11 ⟨rfl, hb⟩
    have Kp11 := Lib.hid (Kp10.out.below hb)
    have G11 := Lib.hid (grown_tr G10.out (below_any hb))
    have C11 := Lib.hid (C10.out.below hb)
    clear hb Kp10 G10 C10
    have hle := packText_le s1 s2 s3 s4 s5 sb
    generalize packText s1 s2 s3 s4 s5 sb = y at hle ⊢
    obtain ⟨⟨cp0, cp1, cp2, cp3, cp4, cp5⟩, dp0, dp1, dp2, dp3, dp4, dp5⟩ := Kp11.out.of6
    go_wp2_with fail
    clear cp0 cp1 cp2 cp3 cp4 cp5 dp0 dp1 dp2 dp3 dp4 dp5
    refine (l7Turned2_any B g _ C11.out y (by omega)).mono ?_
    rintro e v12 ⟨t, rfl, ht, hcu, hgr⟩
    have Kp12 := Lib.hid (Kp11.out.grown hgr c_p)
    have G12 := Lib.hid (grown_tr G11.out hgr)
    have C12 := Lib.hid hcu
    clear hcu hgr Kp11 G11 C11
    clear ht hle
    obtain ⟨⟨cp0, cp1, cp2, cp3, cp4, cp5⟩, dp0, dp1, dp2, dp3, dp4, dp5⟩ := Kp12.out.of6
    go_wp2_with fail
    clear cp0 cp1 cp2 cp3 cp4 cp5 dp0 dp1 dp2 dp3 dp4 dp5
    refine (frameTextS x z 2048 t _).mono ?_
    rintro e v13 ⟨rfl, hb⟩
    have Kp13 := Lib.hid (Kp12.out.below hb)
    have G13 := Lib.hid (grown_tr G12.out (below_any hb))
    have C13 := Lib.hid (C12.out.below hb)
    clear hb Kp12 G12 C12
    go_wp2_with fail
    go_ret
    exact ⟨_, rfl, frameText_le x z 2048 t, C13.out, G13.out⟩
end Go.Proofs.YtkkimgjcefojdaaGreatDoor
