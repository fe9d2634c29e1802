/- The draws of chapter 14: DrawStampOf, DrawStampIn, DrawAnswerOptions. Nothing here is a claim. -/
import Derived.Test.YtifgaojgnaafbaaDrawOpt
import Derived.Test.YtifgaojgnaafbaaL4Place
namespace Go.Proofs.Ytifgaojgnaafbaa
open Go.RowKit Go.Lib

set_option maxRecDepth 100000 in
set_option maxHeartbeats 2000000 in
theorem drawStampOf (a : Option Addr) (bs : List UInt8) (cap : Nat) (w : World) (hrow : Row w w.heap.size a (byteCells bs)) (hbs : bs.length ≤ 1048576) :
    Calls Try.prog 10 #[.slice a bs.length cap] w fun e w' => ∃ (c s : Int) (k : Bool), e = .returned (.tuple #[.int .i64 c, .int .i64 s, .bool k]) ∧ Below w.heap.size w w' := by
  have C := Lib.hid (l1New_any a bs cap w hrow hbs)
  clear hrow
  go_enter Try.func10, Try.ntmps10
  go_wp2_with fail
  refine C.out.mono ?_
  rintro e w1 ⟨g, rfl, hc1, hb1⟩
  have C1 := Lib.hid hc1
  have B1 := Lib.hid hb1
  have L1 := Lib.hid hc1.1
  clear hc1 hb1
  go_wp2_with fail
  refine (l4Place_any _ g w1 C1.out).mono ?_
  rintro e w2 ⟨c, rfl, _, hcu, hgr⟩
  have C2 := Lib.hid hcu
  have G2 := Lib.hid hgr
  clear hcu hgr
  go_wp2_with fail
  refine (l1Below_pos _ g w2 C2.out 18 (by omega) (by omega)).mono ?_
  rintro e w3 ⟨q, rfl, ⟨q0, q1⟩, hcu, hgr⟩
  have C3 := Lib.hid hcu
  have G3 := Lib.hid (grown_tr G2.out hgr)
  clear hcu hgr
  go_wp2_with fail
  refine (l1Once_any _ g w3 C3.out 2 (by omega) (by omega)).mono ?_
  rintro e w4 ⟨k, rfl, hcu, hgr⟩
  have C4 := Lib.hid hcu
  have G4 := Lib.hid (grown_tr G3.out hgr)
  clear hcu hgr
  go_wp2_with fail
  exact bodyPost_ret (v := .tuple #[.int .i64 c, .int .i64 (q - 2), .bool k]) (by simp [results, Try.results10, go_sem]) rfl ⟨c, q - 2, k, rfl, B1.out.trans (grown_below G4.out L1.out B1.out.size)⟩

set_option maxRecDepth 100000 in
set_option maxHeartbeats 2000000 in
theorem drawStampIn (a : Option Addr) (bs : List UInt8) (cap : Nat) (w : World) (hrow : Row w w.heap.size a (byteCells bs)) (hbs : bs.length ≤ 1048576) :
    Calls Try.prog 15 #[.slice a bs.length cap] w fun e w' => ∃ c : Int, e = .returned (.int .i64 c) ∧ Below w.heap.size w w' := by
  have C := Lib.hid (l1New_any a bs cap w hrow hbs)
  clear hrow
  go_enter Try.func15, Try.ntmps15
  go_wp2_with fail
  refine C.out.mono ?_
  rintro e w1 ⟨g, rfl, hc1, hb1⟩
  have C1 := Lib.hid hc1
  have B1 := Lib.hid hb1
  have L1 := Lib.hid hc1.1
  clear hc1 hb1
  go_wp2_with fail
  refine (l4Place_any _ g w1 C1.out).mono ?_
  rintro e w2 ⟨c, rfl, _, hcu, hgr⟩
  have C2 := Lib.hid hcu
  have G2 := Lib.hid hgr
  clear hcu hgr
  go_wp2_with fail
  go_ret
  exact ⟨c, rfl, B1.out.trans (grown_below G2.out L1.out B1.out.size)⟩

set_option maxRecDepth 100000 in
set_option maxHeartbeats 2000000 in
theorem drawAns (a : Option Addr) (bs : List UInt8) (cap : Nat) (w : World) (hrow : Row w w.heap.size a (byteCells bs)) (hbs : bs.length ≤ 1048576) :
    Calls Try.prog 17 #[.slice a bs.length cap] w fun e w' => ∃ (m c : Int) (k t : Bool) (v u clock : Int), e = .returned (.tuple #[.agg #[.int .i64 m, .int .i64 c, .bool k, .bool t, .int .i64 v, .int .i64 u], .int .i64 clock]) ∧ Below w.heap.size w w' := by
  have A0 : Below w.heap.size w (w.alloc (.cells #[.int .i64 0, .int .i64 0, .bool false, .bool false, .int .i64 0, .int .i64 0] 32)) := (Below.refl _ _).alloc (Nat.le_refl _) _
  have C := Lib.hid (l1New_any a bs cap _ ((hrow.below A0).mono A0.size) hbs)
  clear hrow A0
  go_enter Try.func17, Try.ntmps17
  go_wp2_with fail
  refine C.out.mono ?_
  rintro e w1 ⟨g, rfl, hc1, hb1⟩
  have hg : w.heap.size + 1 ≤ g := by have := hc1.1; simp at this; omega
  have C1 := Lib.hid hc1
  have K1 := Lib.hid ((Blk.new w [.int .i64 0, .int .i64 0, .bool false, .bool false, .int .i64 0, .int .i64 0] 32).below hb1)
  have B1 := Lib.hid (((Below.refl w.heap.size w).alloc (Nat.le_refl _) _).trans (hb1.mono (by simp)))
  clear hc1 hb1
  go_wp2_with fail
  refine (l8Bent_any _ g w1 C1.out).mono ?_
  rintro e w2 ⟨m, c, k, t, v, u, rfl, hc2, hg2⟩
  have C2 := Lib.hid hc2
  have K2 := Lib.hid (K1.out.grown hg2 (by omega))
  have B2 := Lib.hid (B1.out.trans (grown_below hg2 (by omega) B1.out.size))
  clear hc2 hg2 C1 K1 B1
  go_wp2_with fail
  refine (l4Place_any _ g w2 C2.out).mono ?_
  rintro e w3 ⟨clock, rfl, _, hc3, hg3⟩
  have K3 := Lib.hid (K2.out.grown hg3 (by omega))
  have B3 := Lib.hid (B2.out.trans (grown_below hg3 (by omega) B2.out.size))
  clear hc3 hg3 C2 K2 B2
  obtain ⟨⟨d0, d1, d2, d3, d4, d5⟩, e0, e1, e2, e3, e4, e5⟩ := K3.out.of6
  go_wp2_with fail
  exact bodyPost_ret (v := .tuple #[.agg #[.int .i64 m, .int .i64 c, .bool k, .bool t, .int .i64 v, .int .i64 u], .int .i64 clock]) (by simp [results, Try.results17, go_sem, d0, d1, d2, d3, d4, d5]) rfl
    ⟨_, _, _, _, _, _, _, rfl, ((((((B3.out.setCell (Nat.le_refl _) _).setCell (Nat.le_refl _) _).setCell (Nat.le_refl _) _).setCell (Nat.le_refl _) _).setCell (Nat.le_refl _) _).setCell (Nat.le_refl _) _)⟩

end Go.Proofs.Ytifgaojgnaafbaa
