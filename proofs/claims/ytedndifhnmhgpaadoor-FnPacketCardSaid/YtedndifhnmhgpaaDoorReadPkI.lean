/- ReadPacket, of the program. Nothing here is a claim. -/
import Derived.Test.YtedndifhnmhgpaaDoorAsPacketSet
import Derived.Test.YtedndifhnmhgpaaDoorFault
import Derived.Test.YtedndifhnmhgpaaDoorBlk
import Derived.Deep.RegionWith
import Derived.Deep.RegionHeld3
namespace Go.Proofs.YtedndifhnmhgpaaDoor
open Go.RowKit Go.Lib

theorem post_put {P : Program} {fn : Func} {R : Ending → World → Prop} {x : Exit} {a : Act} {d : Option Nat} {w : World} {v : Value} (n : Nat) (hd : d = some n) (h : bodyPost P fn R x (a.put (some n) v) w) : bodyPost P fn R x (a.put d v) w := by
  subst hd; exact h
theorem Blk.under {w w' : World} {B r : Nat} {vs : List Value} (h : Blk w r vs) (hb : Below B w w') (hr : r < B) : Blk w' r vs := by
  obtain ⟨t, h⟩ := h
  exact ⟨t, (hb.block r hr).trans h⟩

set_option maxRecDepth 100000 in
set_option maxHeartbeats 1000000 in
theorem readPkI_bad (s : ByteArray) (hs : s.size ≤ 1048576) (k : Nat) (hk : pkWhy s = k) (hk0 : ¬ k = 0) (w : World) (hg : ErrTy w) :
    Calls Tryd.prog 11 #[.string s] w fun e w' => e = .returned (.tuple #[.agg #[.int .i64 0, .int .i64 0, .int .i64 0, .int .i64 0, .int .i64 0, .string ⟨#[]⟩], .int .i64 k]) ∧ Below w.heap.size w w' := by
  have C := Lib.hid (faultI s hs)
  have e : faultV k = .iface 42 (.int .i64 k) := by unfold faultV; rw [if_neg hk0]
  rw [hk, e] at C
  clear e hk hk0
  have HG := Lib.hid hg
  have HL := Lib.hid hg.lt
  clear hg
  go_enter Tryd.func11, Tryd.ntmps11
  go_wp2_with fail
  refine (C.out _).mono ?_
  rintro e w1 ⟨rfl, hb⟩
  have B0 := Lib.hid (((Below.refl w.heap.size w).alloc (Nat.le_refl _) (.cells #[.int .i64 0, .int .i64 0, .int .i64 0, .int .i64 0, .int .i64 0, .string ⟨#[]⟩] 25)).alloc (by simp) (.cells #[.int .i64 0] 42))
  have B1 := Lib.hid (B0.out.trans (hb.mono (by simp; omega)))
  have R1 := Lib.hid (((Blk.new w [.int .i64 0, .int .i64 0, .int .i64 0, .int .i64 0, .int .i64 0, .string ⟨#[]⟩] 25).alloc (.cells #[.int .i64 0] 42)).below hb)
  have Y1 : Blk w1 (w.heap.size + 1) [.int .i64 0] := by
    have := (Blk.new (w.alloc (.cells #[.int .i64 0, .int .i64 0, .int .i64 0, .int .i64 0, .int .i64 0, .string ⟨#[]⟩] 25)) [.int .i64 0] 42).below hb
    simpa using this
  have Y1 := Lib.hid Y1
  have A := Lib.hid (as_set k (w.heap.size + 1) (.int .i64 0) w1 (HG.out.below B1.out HL.out) Y1.out)
  clear hb B0 Y1
  go_wp2_with fail
  refine A.out.mono ?_
  rintro e w2 ⟨rfl, hc, hb2⟩
  have B2 := Lib.hid (B1.out.trans (hb2.mono (by omega)))
  have R2 := Lib.hid (R1.out.under hb2 (by omega))
  clear hb2 B1 R1 A
  obtain ⟨⟨d0, d1, d2, d3, d4, d5⟩, e0, e1, e2, e3, e4, e5⟩ := R2.out.of6
  go_wp2_with fail
  go_region_with fail
  all_goals go_wp2_with fail
  all_goals refine post_put 3 rfl ?_
  all_goals exact bodyPost_ret (v := .tuple #[.agg #[.int .i64 0, .int .i64 0, .int .i64 0, .int .i64 0, .int .i64 0, .string ⟨#[]⟩], .int .i64 k]) (by simp [results, Tryd.results11, go_sem, d0, d1, d2, d3, d4, d5]) rfl ⟨rfl, ((((((B2.out.setCell (Nat.le_refl _) _).setCell (Nat.le_refl _) _).setCell (Nat.le_refl _) _).setCell (Nat.le_refl _) _).setCell (Nat.le_refl _) _).setCell (Nat.le_refl _) _).drew⟩

set_option maxRecDepth 100000 in
set_option maxHeartbeats 1000000 in
theorem readPkI_ok (s : ByteArray) (hs : s.size ≤ 1048576) (hk : pkWhy s = 0) (h : 20 ≤ s.size) (hx0 : 20 ≤ gw s 2 2) (hx1 : gw s 2 2 ≤ s.size) (w : World) :
    Calls Tryd.prog 11 #[.string s] w fun e w' => e = .returned (.tuple #[.agg #[.int .i64 (gw s 12 4 : Nat), .int .i64 (gw s 16 4 : Nat), .int .i64 (at8 s 8).toNat, .int .i64 (at8 s 9).toNat, .int .i64 (gw s 4 2 : Nat), .string (s.extract 20 (gw s 2 2))], .int .i64 0]) ∧ Below w.heap.size w w' := by
  have C := Lib.hid (faultI s hs)
  have e : faultV 0 = .nilIface := rfl
  rw [hk, e] at C
  clear e hk
  have G2 := Lib.hid (fun w => get3I s 2 2 w hs (by omega) (by omega))
  have G4 := Lib.hid (fun w => get3I s 4 2 w hs (by omega) (by omega))
  have G12 := Lib.hid (fun w => get3I s 12 4 w hs (by omega) (by omega))
  have G16 := Lib.hid (fun w => get3I s 16 4 w hs (by omega) (by omega))
  generalize gw s 2 2 = x2 at *
  generalize gw s 4 2 = x4 at *
  generalize gw s 12 4 = x12 at *
  generalize gw s 16 4 = x16 at *
  have h8 : 8 < s.size := by omega
  have h9 : 9 < s.size := by omega
  have i8 : (8 : Int) < s.size := by omega
  have i9 : (9 : Int) < s.size := by omega
  have w8 : IntKind.i64.wrap (s[8].toNat : Int) = s[8].toNat := by have := s[8].toNat_lt; rw [IntKind.wrap_i64]; omega
  have w9 : IntKind.i64.wrap (s[9].toNat : Int) = s[9].toNat := by have := s[9].toNat_lt; rw [IntKind.wrap_i64]; omega
  have q1 : (20 : Int) ≤ x2 := by omega
  have q2 : (x2 : Int) ≤ s.size := by omega
  rw [← at8_eq s 8 h8, ← at8_eq s 9 h9]
  have AN := Lib.hid as_nil
  go_enter Tryd.func11, Tryd.ntmps11
  go_wp2_with fail
  refine (C.out _).mono ?_
  rintro e w1 ⟨rfl, hb⟩
  have B0 := Lib.hid (((Below.refl w.heap.size w).alloc (Nat.le_refl _) (.cells #[.int .i64 0, .int .i64 0, .int .i64 0, .int .i64 0, .int .i64 0, .string ⟨#[]⟩] 25)).alloc (by simp) (.cells #[.int .i64 0] 42))
  have B1 := Lib.hid (B0.out.trans (hb.mono (by simp; omega)))
  have R1 := Lib.hid (((Blk.new w [.int .i64 0, .int .i64 0, .int .i64 0, .int .i64 0, .int .i64 0, .string ⟨#[]⟩] 25).alloc (.cells #[.int .i64 0] 42)).below hb)
  clear hb B0
  go_wp2_with fail
  refine (AN.out _ _).mono ?_
  rintro e w2 ⟨rfl, rfl⟩
  go_wp2_with fail
  refine (G2.out _).mono ?_
  rintro e w2 ⟨rfl, rfl⟩
  go_wp2_with fail
  refine (G4.out _).mono ?_
  rintro e w2 ⟨rfl, rfl⟩
  go_wp2_with fail
  refine (G12.out _).mono ?_
  rintro e w2 ⟨rfl, rfl⟩
  go_wp2_with fail
  refine (G16.out _).mono ?_
  rintro e w2 ⟨rfl, rfl⟩
  obtain ⟨⟨d0, d1, d2, d3, d4, d5⟩, e0, e1, e2, e3, e4, e5⟩ := R1.out.of6
  go_wp2_with fail
  go_region_with fail
  all_goals go_wp2_with fail
  all_goals refine post_put 3 rfl ?_
  all_goals exact bodyPost_ret (v := .tuple #[.agg #[.int .i64 x12, .int .i64 x16, .int .i64 s[8].toNat, .int .i64 s[9].toNat, .int .i64 x4, .string (s.extract 20 x2)], .int .i64 0]) (by simp [results, Tryd.results11, go_sem, d0, d1, d2, d3, d4, d5]) rfl ⟨rfl, ((((((B1.out.setCell (Nat.le_refl _) _).setCell (Nat.le_refl _) _).setCell (Nat.le_refl _) _).setCell (Nat.le_refl _) _).setCell (Nat.le_refl _) _).setCell (Nat.le_refl _) _).drew⟩
end Go.Proofs.YtedndifhnmhgpaaDoor
