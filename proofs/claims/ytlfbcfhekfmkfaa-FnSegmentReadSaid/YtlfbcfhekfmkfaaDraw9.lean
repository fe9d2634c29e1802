/- The draws of chapter 9: l9Flags, l9Segment, l9Bent. -/
import Derived.Test.YtlfbcfhekfmkfaaDeep
import Derived.Test.YtlfbcfhekfmkfaaDrawWordA
import Derived.Test.YtlfbcfhekfmkfaaBytesA
import Derived.Test.YtlfbcfhekfmkfaaLong
import Derived.Test.YtlfbcfhekfmkfaaDrawOpt
import Derived.Test.YtlfbcfhekfmkfaaCurA
namespace Go.Proofs.Ytlfbcfhekfmkfaa
open Go.RowKit Go.Lib

def fromCs : Array Value := #[.int .i64 40000, .int .i64 40001, .int .i64 80]
theorem fromCs_bd : ∀ v ∈ fromCs.toList, ∃ x, v = .int .i64 x ∧ I64 x := by
  intro v hv
  simp only [fromCs, List.mem_cons, List.mem_nil_iff, or_false] at hv
  unfold I64
  rcases hv with rfl | rfl | rfl <;> exact ⟨_, rfl, by decide⟩
theorem pickFrom (B g : Nat) (w : World) (hc : CurB w B g) : Calls Try.prog 50 #[.pointer (some ⟨g, 0, none⟩), .slice (some ⟨w.heap.size, 0, none⟩) 3 3] (w.alloc (.cells fromCs 3)) (WholeEnd w B g) :=
  pickNew B g w hc fromCs (by decide) (by decide) fromCs_bd
def toCs : Array Value := #[.int .i64 80, .int .i64 80, .int .i64 81]
theorem toCs_bd : ∀ v ∈ toCs.toList, ∃ x, v = .int .i64 x ∧ I64 x := by
  intro v hv
  simp only [toCs, List.mem_cons, List.mem_nil_iff, or_false] at hv
  unfold I64
  rcases hv with rfl | rfl | rfl <;> exact ⟨_, rfl, by decide⟩
theorem pickTo (B g : Nat) (w : World) (hc : CurB w B g) : Calls Try.prog 50 #[.pointer (some ⟨g, 0, none⟩), .slice (some ⟨w.heap.size, 0, none⟩) 3 3] (w.alloc (.cells toCs 3)) (WholeEnd w B g) :=
  pickNew B g w hc toCs (by decide) (by decide) toCs_bd
def winCs : Array Value := #[.int .i64 0, .int .i64 1, .int .i64 64, .int .i64 65535]
theorem winCs_bd : ∀ v ∈ winCs.toList, ∃ x, v = .int .i64 x ∧ I64 x := by
  intro v hv
  simp only [winCs, List.mem_cons, List.mem_nil_iff, or_false] at hv
  unfold I64
  rcases hv with rfl | rfl | rfl | rfl <;> exact ⟨_, rfl, by decide⟩
theorem pickWin (B g : Nat) (w : World) (hc : CurB w B g) : Calls Try.prog 50 #[.pointer (some ⟨g, 0, none⟩), .slice (some ⟨w.heap.size, 0, none⟩) 4 4] (w.alloc (.cells winCs 3)) (WholeEnd w B g) :=
  pickNew B g w hc winCs (by decide) (by decide) winCs_bd
def badCs : Array Value := #[.int .i64 63, .int .i64 64, .int .i64 (-1)]
theorem badCs_bd : ∀ v ∈ badCs.toList, ∃ x, v = .int .i64 x ∧ I64 x := by
  intro v hv
  simp only [badCs, List.mem_cons, List.mem_nil_iff, or_false] at hv
  unfold I64
  rcases hv with rfl | rfl | rfl <;> exact ⟨_, rfl, by decide⟩
theorem pickBad (B g : Nat) (w : World) (hc : CurB w B g) : Calls Try.prog 50 #[.pointer (some ⟨g, 0, none⟩), .slice (some ⟨w.heap.size, 0, none⟩) 3 3] (w.alloc (.cells badCs 3)) (WholeEnd w B g) :=
  pickNew B g w hc badCs (by decide) (by decide) badCs_bd
def flagCs (z : Int) : Array Value := #[.int .i64 2, .int .i64 16, .int .i64 16, .int .i64 18, .int .i64 24, .int .i64 17, .int .i64 4, .int .i64 20, .int .i64 0, .int .i64 z]
theorem flagCs_bd (z : Int) (hz : I64 z) : ∀ v ∈ (flagCs z).toList, ∃ x, v = .int .i64 x ∧ I64 x := by
  intro v hv
  simp only [flagCs, List.mem_cons, List.mem_nil_iff, or_false] at hv
  rcases hv with rfl | rfl | rfl | rfl | rfl | rfl | rfl | rfl | rfl | rfl
  all_goals first | exact ⟨_, rfl, hz⟩ | (unfold I64; exact ⟨_, rfl, by decide⟩)
set_option maxHeartbeats 1000000 in
theorem l9Flags_any (B g : Nat) (w : World) (hc : CurB w B g) : Calls Try.prog 73 #[.pointer (some ⟨g, 0, none⟩)] w (WholeEnd w B g) := by
  have C := Lib.hid (l1Below_pos B g w hc 64 (by omega) (by omega))
  clear hc
  go_enter Try.func73, Try.ntmps73
  go_wp2_with fail
  refine C.out.mono ?_
  rintro e w1 ⟨z, rfl, ⟨z0, z1⟩, hcu, hgr⟩
  have D := Lib.hid (pickNew B g w1 hcu (flagCs z) (by simp [flagCs]) (by simp [flagCs]) (flagCs_bd z (by unfold I64; omega)))
  have G := Lib.hid hgr
  clear hcu hgr z0 z1
  go_wp2_with fail
  refine D.out.mono ?_
  rintro e w2 ⟨x, rfl, hx, hcu, hgr⟩
  have X := Lib.hid hx
  have C2 := Lib.hid hcu
  have G2 := Lib.hid (grown_tr G.out hgr)
  clear hx hcu hgr
  go_wp2_with fail
  go_ret
  exact ⟨_, rfl, X.out, C2.out, G2.out⟩

/-- What l9Segment and l9Bent hand back: a Segment; only the cursor has turned. -/
def SegEnd (w : World) (B g : Nat) (e : Ending) (w' : World) : Prop := ∃ (p d q a r n m c : Int) (k t : Bool) (v u : Int) (b : ByteArray), e = .returned (.agg #[.int .i64 p, .int .i64 d, .int .i64 q, .int .i64 a, .int .i64 r, .int .i64 n, .int .i64 m, .int .i64 c, .bool k, .bool t, .int .i64 v, .int .i64 u, .string b]) ∧ CurB w' B g ∧ w.grownBy w' (some g)

set_option maxRecDepth 100000 in
set_option maxHeartbeats 8000000 in
theorem l9Segment_any (B g : Nat) (w : World) (hc : CurB w B g) : Calls Try.prog 47 #[.pointer (some ⟨g, 0, none⟩)] w (SegEnd w B g) := by
  have hlt := hc.lt
  have hBg := hc.1
  have C0 := Lib.hid hc
  clear hc
  go_enter Try.func47, Try.ntmps47
  have P0 := pickFrom B g (w.alloc (.cells #[.int .i64 0, .int .i64 0, .int .i64 0, .int .i64 0, .int .i64 0, .int .i64 0, .int .i64 0, .int .i64 0, .bool false, .bool false, .int .i64 0, .int .i64 0, .string ⟨#[]⟩] 27)) (C0.out.new _)
  rw [show (w.alloc (.cells #[.int .i64 0, .int .i64 0, .int .i64 0, .int .i64 0, .int .i64 0, .int .i64 0, .int .i64 0, .int .i64 0, .bool false, .bool false, .int .i64 0, .int .i64 0, .string ⟨#[]⟩] 27)).heap.size = w.heap.size + 1 by simp] at P0
  have P0 := Lib.hid P0
  go_wp2_with fail
  refine P0.out.mono ?_
  rintro e w1 ⟨p, rfl, _, hcu, hgr⟩
  have K1 := Lib.hid ((Blk.new w [.int .i64 0, .int .i64 0, .int .i64 0, .int .i64 0, .int .i64 0, .int .i64 0, .int .i64 0, .int .i64 0, .bool false, .bool false, .int .i64 0, .int .i64 0, .string ⟨#[]⟩] 27).grown hgr (by omega))
  have G1 := Lib.hid (grown_tr (World.grownBy_alloc w _ _) hgr)
  have C1 := Lib.hid hcu
  clear hcu hgr C0
  go_wp2_with fail
  refine (pickTo B g w1 C1.out).mono ?_
  rintro e w2 ⟨d, rfl, _, hcu, hgr⟩
  have K2 := Lib.hid (K1.out.grown hgr (by omega))
  have G2 := Lib.hid (grown_tr G1.out hgr)
  have C2 := Lib.hid hcu
  clear hcu hgr C1 K1 G1
  go_wp2_with fail
  refine (l2Deep_any B g w2 C2.out).mono ?_
  rintro e w3 ⟨q, rfl, _, hcu, hgr⟩
  have K3 := Lib.hid (K2.out.grown hgr (by omega))
  have G3 := Lib.hid (grown_tr G2.out hgr)
  have C3 := Lib.hid hcu
  clear hcu hgr C2 K2 G2
  go_wp2_with fail
  refine (l2Deep_any B g w3 C3.out).mono ?_
  rintro e w4 ⟨a, rfl, _, hcu, hgr⟩
  have K4 := Lib.hid (K3.out.grown hgr (by omega))
  have G4 := Lib.hid (grown_tr G3.out hgr)
  have C4 := Lib.hid hcu
  clear hcu hgr C3 K3 G3
  go_wp2_with fail
  refine (l9Flags_any B g w4 C4.out).mono ?_
  rintro e w5 ⟨r, rfl, _, hcu, hgr⟩
  have K5 := Lib.hid (K4.out.grown hgr (by omega))
  have G5 := Lib.hid (grown_tr G4.out hgr)
  have C5 := Lib.hid hcu
  clear hcu hgr C4 K4 G4
  go_wp2_with fail
  refine (pickWin B g w5 C5.out).mono ?_
  rintro e w6 ⟨n, rfl, _, hcu, hgr⟩
  have K6 := Lib.hid (K5.out.grown hgr (by omega))
  have G6 := Lib.hid (grown_tr G5.out hgr)
  have C6 := Lib.hid hcu
  clear hcu hgr C5 K5 G5
  go_wp2_with fail
  refine (l8Options_any B g w6 C6.out).mono ?_
  rintro e w7 ⟨m, c, k, t, v, u, rfl, hcu, hgr⟩
  have K7 := Lib.hid (K6.out.grown hgr (by omega))
  have G7 := Lib.hid (grown_tr G6.out hgr)
  have C7 := Lib.hid hcu
  clear hcu hgr C6 K6 G6
  go_wp2_with fail
  refine (l1Below_pos B g w7 C7.out 7 (by omega) (by omega)).mono ?_
  rintro e w8 ⟨zy, rfl, ⟨iy, jy⟩, hcu, hgr⟩
  obtain ⟨y, rfl⟩ : ∃ n : Nat, zy = (n : Int) := ⟨zy.toNat, by omega⟩
  have K8 := Lib.hid (K7.out.grown hgr (by omega))
  have G8 := Lib.hid (grown_tr G7.out hgr)
  have C8 := Lib.hid hcu
  clear hcu hgr C7 K7 G7
  go_wp2_with fail
  refine (l1Bytes_any B g y w8 C8.out (by omega)).mono ?_
  rintro e w9 ⟨ub, lb, rfl, hlb, hob, hcu, hgr⟩
  have hcv := run_string_own (P := Try.prog) Try.underlying22 Try.underlying5 Try.underlying9 hob
  obtain ⟨b, hbb⟩ : ∃ b : ByteArray, (⟨lb.toArray⟩ : ByteArray) = b := ⟨_, rfl⟩
  rw [hbb] at hcv
  clear hlb hob hbb
  have K9 := Lib.hid (K8.out.grown hgr (by omega))
  have G9 := Lib.hid (grown_tr G8.out hgr)
  have C9 := Lib.hid hcu
  clear hcu hgr C8 K8 G8
  have hrg : w.heap.size ≠ g := Nat.ne_of_gt hlt
  have hB : B ≤ w.heap.size := by omega
  have hrl : w.heap.size ≤ w.heap.size := Nat.le_refl _
  have hgE := K9.out.lt
  obtain ⟨⟨d0, d1, d2, d3, d4, d5, d6, d7, d8, d9, d10, d11, d12⟩, e0, e1, e2, e3, e4, e5, e6, e7, e8, e9, e10, e11, e12⟩ := K9.out.of13
  go_wp2_with fail
  refine bodyPost_ret (v := .agg #[.int .i64 p, .int .i64 d, .int .i64 q, .int .i64 a, .int .i64 r, .int .i64 n, .int .i64 m, .int .i64 c, .bool k, .bool t, .int .i64 v, .int .i64 u, .string b]) (by simp [results, Try.results47, go_sem, d0, d1, d2, d3, d4, d5, d6, d7, d8, d9, d10, d11, d12]) rfl ⟨_, _, _, _, _, _, _, _, _, _, _, _, _, rfl, ?_, ?_⟩
  · exact ((((((((((((C9.out.setOther _ _ hB hrg).setOther _ _ hB hrg).setOther _ _ hB hrg).setOther _ _ hB hrg).setOther _ _ hB hrg).setOther _ _ hB hrg).setOther _ _ hB hrg).setOther _ _ hB hrg).setOther _ _ hB hrg).setOther _ _ hB hrg).setOther _ _ hB hrg).setOther _ _ hB hrg).setOther _ _ hB hrg
  · exact grown_setNew (grown_setNew (grown_setNew (grown_setNew (grown_setNew (grown_setNew (grown_setNew (grown_setNew (grown_setNew (grown_setNew (grown_setNew (grown_setNew (grown_setNew G9.out _ _ hrl) _ _ hrl) _ _ hrl) _ _ hrl) _ _ hrl) _ _ hrl) _ _ hrl) _ _ hrl) _ _ hrl) _ _ hrl) _ _ hrl) _ _ hrl) _ _ hrl

end Go.Proofs.Ytlfbcfhekfmkfaa
