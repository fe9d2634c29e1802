/- The draw DrawConnNew. Nothing here is a claim. -/
import Derived.Test.YtajekjjaaohbnaaDraw12
import Derived.Test.YtajekjjaaohbnaaDrawOpt
import Derived.Test.YtajekjjaaohbnaaCurA
namespace Go.Proofs.Ytajekjjaaohbnaa
open Go.RowKit Go.Lib

def winCs : Array Value := #[.int .i64 0, .int .i64 1, .int .i64 65535, .int .i64 65536, .int .i64 (-1)]
theorem winCs_bd : ∀ v ∈ winCs.toList, ∃ x, v = .int .i64 x ∧ I64 x := by
  intro v hv
  simp only [winCs, List.mem_cons, List.mem_nil_iff, or_false] at hv
  unfold I64
  rcases hv with rfl | rfl | rfl | rfl | rfl <;> exact ⟨_, rfl, by decide⟩
theorem pickWin (B g : Nat) (w : World) (hc : CurB w B g) : Calls Try.prog 39 #[.pointer (some ⟨g, 0, none⟩), .slice (some ⟨w.heap.size, 0, none⟩) 5 5] (w.alloc (.cells winCs 3)) (WholeEnd w B g) :=
  pickNew B g w hc winCs (by decide) (by decide) winCs_bd
/-- What DrawConnNew hands back. -/
def EndDCN (w : World) (e : Ending) (w' : World) : Prop := ∃ (p q r i j m c : Int) (k s : Bool) (v x wd : Int), e = .returned (.tuple #[.agg #[.int .i64 p, .int .i64 q, .int .i64 r], .int .i64 i, .int .i64 j, .agg #[.int .i64 m, .int .i64 c, .bool k, .bool s, .int .i64 v, .int .i64 x], .int .i64 wd]) ∧ Below w.heap.size w w'


set_option maxRecDepth 100000 in
set_option maxHeartbeats 4000000 in
theorem drawConnNew (a : Option Addr) (bs : List UInt8) (cap : Nat) (w : World) (hrow : Row w w.heap.size a (byteCells bs)) (hbs : bs.length ≤ 1048576) :
    Calls Try.prog 11 #[.slice a bs.length cap] w (EndDCN w) := by
  have A0 : Below w.heap.size w ((w.alloc (.cells #[.int .i64 0, .int .i64 0, .int .i64 0] 25)).alloc (.cells #[.int .i64 0, .int .i64 0, .bool false, .bool false, .int .i64 0, .int .i64 0] 27)) := ((Below.refl _ _).alloc (Nat.le_refl _) _).alloc (by simp) _
  have C := Lib.hid (l1New_any a bs cap _ ((hrow.below A0).mono A0.size) hbs)
  clear hrow
  replace A0 := Lib.hid A0
  go_enter Try.func11, Try.ntmps11
  go_wp2_with fail
  refine C.out.mono ?_
  rintro e w1 ⟨g, rfl, hc1, hb1⟩
  have hg : w.heap.size + 2 ≤ g := by have := hc1.1; simp at this; omega
  have C1 := Lib.hid hc1
  have K1 := Lib.hid (((Blk.new w [.int .i64 0, .int .i64 0, .int .i64 0] 25).alloc (.cells #[.int .i64 0, .int .i64 0, .bool false, .bool false, .int .i64 0, .int .i64 0] 27)).below hb1)
  have L1 := Lib.hid ((show Blk ((w.alloc (.cells #[.int .i64 0, .int .i64 0, .int .i64 0] 25)).alloc (.cells #[.int .i64 0, .int .i64 0, .bool false, .bool false, .int .i64 0, .int .i64 0] 27)) (w.heap.size + 1) [.int .i64 0, .int .i64 0, .bool false, .bool false, .int .i64 0, .int .i64 0] by have h0 := Blk.new (w.alloc (.cells #[.int .i64 0, .int .i64 0, .int .i64 0] 25)) [.int .i64 0, .int .i64 0, .bool false, .bool false, .int .i64 0, .int .i64 0] 27; rwa [show (w.alloc (.cells #[.int .i64 0, .int .i64 0, .int .i64 0] 25)).heap.size = w.heap.size + 1 by simp] at h0).below hb1)
  have B1 := Lib.hid (A0.out.trans (hb1.mono (by simp; omega)))
  clear hc1 hb1 A0
  go_wp2_with fail
  refine (l12Bent_any _ g w1 C1.out).mono ?_
  rintro e w2 ⟨p, q, r, rfl, hq, hcu, hgr⟩
  have K2 := Lib.hid (K1.out.grown hgr (by omega))
  have L2 := Lib.hid (L1.out.grown hgr (by omega))
  have B2 := Lib.hid (B1.out.trans (grown_below hgr (by omega) B1.out.size))
  have C2 := Lib.hid hcu
  clear hcu hgr C1 K1 L1 B1
  clear hq
  go_wp2_with fail
  refine (l4Place_any _ g w2 C2.out).mono ?_
  rintro e w3 ⟨i, rfl, hq, hcu, hgr⟩
  have K3 := Lib.hid (K2.out.grown hgr (by omega))
  have L3 := Lib.hid (L2.out.grown hgr (by omega))
  have B3 := Lib.hid (B2.out.trans (grown_below hgr (by omega) B2.out.size))
  have C3 := Lib.hid hcu
  clear hcu hgr C2 K2 L2 B2
  clear hq
  go_wp2_with fail
  refine (l4Place_any _ g w3 C3.out).mono ?_
  rintro e w4 ⟨j, rfl, hq, hcu, hgr⟩
  have K4 := Lib.hid (K3.out.grown hgr (by omega))
  have L4 := Lib.hid (L3.out.grown hgr (by omega))
  have B4 := Lib.hid (B3.out.trans (grown_below hgr (by omega) B3.out.size))
  have C4 := Lib.hid hcu
  clear hcu hgr C3 K3 L3 B3
  clear hq
  go_wp2_with fail
  refine (l8Bent_any _ g w4 C4.out).mono ?_
  rintro e w5 ⟨m, c, k, s, v, x, rfl, hcu, hgr⟩
  have K5 := Lib.hid (K4.out.grown hgr (by omega))
  have L5 := Lib.hid (L4.out.grown hgr (by omega))
  have B5 := Lib.hid (B4.out.trans (grown_below hgr (by omega) B4.out.size))
  have C5 := Lib.hid hcu
  clear hcu hgr C4 K4 L4 B4
  go_wp2_with fail
  refine (pickWin _ g w5 C5.out).mono ?_
  rintro e w6 ⟨wd, rfl, hq, hcu, hgr⟩
  have K6 := Lib.hid (K5.out.grown hgr (by omega))
  have L6 := Lib.hid (L5.out.grown hgr (by omega))
  have B6 := Lib.hid (B5.out.trans (grown_below hgr (by omega) B5.out.size))
  have C6 := Lib.hid hcu
  clear hcu hgr C5 K5 L5 B5
  clear hq
  obtain ⟨⟨d0, d1, d2⟩, e0, e1, e2⟩ := K6.out.o3
  obtain ⟨⟨f0, f1, f2, f3, f4, f5⟩, h0, h1, h2, h3, h4, h5⟩ := L6.out.of6
  go_wp2_with fail
  exact bodyPost_ret (v := .tuple #[.agg #[.int .i64 p, .int .i64 q, .int .i64 r], .int .i64 i, .int .i64 j, .agg #[.int .i64 m, .int .i64 c, .bool k, .bool s, .int .i64 v, .int .i64 x], .int .i64 wd]) (by simp [results, Try.results11, go_sem, d0, d1, d2, f0, f1, f2, f3, f4, f5]) rfl ⟨_, _, _, _, _, _, _, _, _, _, _, _, rfl, (((((((((B6.out.setCell (Nat.le_refl _) _).setCell (Nat.le_refl _) _).setCell (Nat.le_refl _) _).setCell (by simp) _).setCell (by simp) _).setCell (by simp) _).setCell (by simp) _).setCell (by simp) _).setCell (by simp) _)⟩
end Go.Proofs.Ytajekjjaaohbnaa
