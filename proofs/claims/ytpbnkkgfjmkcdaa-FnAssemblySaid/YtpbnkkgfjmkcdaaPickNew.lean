/- The draws' own l1PickInt; a pick out of a new list of ints. -/
import Derived.Test.YtpbnkkgfjmkcdaaCurA
namespace Go.Proofs.Ytpbnkkgfjmkcdaa
open Go.RowKit Go.Lib

set_option maxHeartbeats 1000000 in
theorem l1PickInt_any (B g r : Nat) (w : World) (hc : CurB w B g) (cs : Array Value) (h : w.heap[r]? = some (.cells cs 3 (0, 0))) (hne : r ≠ g) (h0 : 0 < cs.size) (h1 : cs.size ≤ 1000000) (hall : ∀ v ∈ cs.toList, ∃ x, v = .int .i64 x) :
    Calls Try.prog 50 #[.pointer (some ⟨g, 0, none⟩), .slice (some ⟨r, 0, none⟩) cs.size cs.size] w (PickEnd w B g cs.toList) := by
  have C := Lib.hid (l1Below_pos B g w hc cs.size (by omega) (by omega))
  have hr : r < w.heap.size := by
    rcases Nat.lt_or_ge r w.heap.size with hlt | hge
    · exact hlt
    · rw [Array.getElem?_eq_none hge] at h; cases h
  have HH := Lib.hid h
  have HA := Lib.hid hall
  clear hc h hall
  go_enter Try.func50, Try.ntmps50
  go_wp2_with fail
  refine C.out.mono ?_
  rintro e w1 ⟨q, rfl, ⟨q0, q1⟩, hc1, hg1⟩
  obtain ⟨k, rfl⟩ : ∃ k : Nat, q = (k : Int) := ⟨q.toNat, by omega⟩
  have hk : k < cs.size := by omega
  have h' : w1.heap[r]? = some (.cells cs 3 (0, 0)) := (hg1.block r hr (fun e => hne (by injection e))).trans HH.out
  have hcell := row_at h' hk
  obtain ⟨x, hx⟩ := HA.out cs[k] (by simp)
  have hmem : Hid (Value.int .i64 x ∈ cs.toList) := by show _ ∈ _; rw [← hx]; simp
  rw [hx] at hcell
  have C1 := Lib.hid hc1
  have G1 := Lib.hid hg1
  clear hc1 hg1 h' hx
  go_wp2_with fail
  go_ret
  exact ⟨_, hmem.out, rfl, C1.out, G1.out⟩

end Go.Proofs.Ytpbnkkgfjmkcdaa
namespace Go.Proofs.Ytpbnkkgfjmkcdaa
open Go.RowKit Go.Lib

/-- A pick out of a new list of ints. -/
theorem pickNew (B g : Nat) (w : World) (hc : CurB w B g) (cs : Array Value) (hs : 0 < cs.size) (hs1 : cs.size ≤ 1000000) (hbd : ∀ v ∈ cs.toList, ∃ x, v = .int .i64 x ∧ I64 x) :
    Calls Try.prog 50 #[.pointer (some ⟨g, 0, none⟩), .slice (some ⟨w.heap.size, 0, none⟩) cs.size cs.size] (w.alloc (.cells cs 3)) (WholeEnd w B g) := by
  have hlt := hc.lt
  refine (l1PickInt_any B g w.heap.size _ (hc.new _) cs (heap_alloc_new w _) (by omega) hs hs1 (fun v hv => (hbd v hv).imp fun _ h => h.1)).mono ?_
  rintro e w' ⟨v, hv, rfl, h1, h2⟩
  obtain ⟨x, rfl, hx⟩ := hbd v hv
  exact ⟨x, rfl, hx, h1, grown_tr (World.grownBy_alloc w _ _) h2⟩
end Go.Proofs.Ytpbnkkgfjmkcdaa
