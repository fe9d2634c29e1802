/- impl's own methods of a round: mixAB, mixCD, mixAD, mixCB, rounds. Nothing here is a claim. -/
import Derived.Test.YtobfgkiccmhgdaaGreatSipMix
namespace Go.Proofs.YtobfgkiccmhgdaaGreat
open Go.RowKit Go.Lib

/-- The four words. -/
structure S4 where
  a : BitVec 64
  b : BitVec 64
  c : BitVec 64
  d : BitVec 64
def S4.vs (s : S4) : List Value := [v64 s.a, v64 s.b, v64 s.c, v64 s.d]
theorem Blk.sip {w : World} {g : Nat} {s : S4} (h : Blk w g s.vs) :
    (w.cell? ⟨g, 0, none⟩ = some (.int .u64 (n64 s.a)) ∧ w.cell? ⟨g, 1, none⟩ = some (.int .u64 (n64 s.b)) ∧ w.cell? ⟨g, 2, none⟩ = some (.int .u64 (n64 s.c)) ∧ w.cell? ⟨g, 3, none⟩ = some (.int .u64 (n64 s.d))) ∧
    (w.frozen? ⟨g, 0, none⟩ = false ∧ w.frozen? ⟨g, 1, none⟩ = false ∧ w.frozen? ⟨g, 2, none⟩ = false ∧ w.frozen? ⟨g, 3, none⟩ = false) :=
  ⟨⟨h.cell 0 _ rfl, h.cell 1 _ rfl, h.cell 2 _ rfl, h.cell 3 _ rfl⟩, h.open 0, h.open 1, h.open 2, h.open 3⟩
def S4.ab (s : S4) : S4 := ⟨(s.a + s.b).rotateLeft 32, s.b.rotateLeft 13 ^^^ (s.a + s.b), s.c, s.d⟩
def S4.cd (s : S4) : S4 := ⟨s.a, s.b, s.c + s.d, s.d.rotateLeft 16 ^^^ (s.c + s.d)⟩
def S4.ad (s : S4) : S4 := ⟨s.a + s.d, s.b, s.c, s.d.rotateLeft 21 ^^^ (s.a + s.d)⟩
def S4.cb (s : S4) : S4 := ⟨s.a, s.b.rotateLeft 17 ^^^ (s.c + s.b), (s.c + s.b).rotateLeft 32, s.d⟩
/-- One round. -/
def S4.rnd (s : S4) : S4 := s.ab.cd.ad.cb

set_option maxRecDepth 100000 in
set_option maxHeartbeats 1000000 in
theorem mixABI (s : S4) (g : Nat) (w : World) (hB : Blk w g s.vs) : Calls Tryz.prog 74 #[.pointer (some ⟨g, 0, none⟩)] w (TurnEnd w g s.ab.vs) := by
  have B0 := Lib.hid hB
  clear hB
  go_enter Tryz.func74, Tryz.ntmps74
  go_wp2_with fail
  go_still_tail 6, (by kernel_rfl)
  change wpList _ _ _ _ _ w.drew
  obtain ⟨w2, B2, G2⟩ : ∃ w2, Hid (w2 = w.drew ∧ Blk w2 g s.vs) ∧ Hid (w.grownBy w2 (some g)) := ⟨w.drew, ⟨rfl, B0.out.drew⟩, grown_drew _ _⟩
  rw [← B2.out.1]
  go_wp2_with fail
  refine (sipMixI s.a s.b 13 (by decide) g 0 1 (by decide) _ _ B2.out.2 rfl rfl).mono ?_
  rintro e w3 ⟨rfl, hB3, hG3⟩
  have B3 := Lib.hid (show Blk w3 g (S4.mk (s.a + s.b) (s.b.rotateLeft 13 ^^^ (s.a + s.b)) s.c s.d).vs from hB3)
  have G3 := Lib.hid (grown_tr G2.out hG3)
  clear hB3 hG3
  obtain ⟨⟨c0, c1, c2, c3⟩, f0, f1, f2, f3⟩ := B3.out.sip
  simp only at c0 c1 c2 c3
  go_wp2_with fail
  refine (rotI _ 32 (by decide) _).mono ?_
  rintro e w4 ⟨rfl, rfl⟩
  go_wp2_with fail
  go_end0
  exact ⟨rfl, B3.out.set 0 _, grown_set G3.out _ _⟩
set_option maxRecDepth 100000 in
set_option maxHeartbeats 1000000 in
theorem mixCDI (s : S4) (g : Nat) (w : World) (hB : Blk w g s.vs) : Calls Tryz.prog 75 #[.pointer (some ⟨g, 0, none⟩)] w (TurnEnd w g s.cd.vs) := by
  have B0 := Lib.hid hB
  clear hB
  go_enter Tryz.func75, Tryz.ntmps75
  go_wp2_with fail
  go_still_tail 6, (by kernel_rfl)
  change wpList _ _ _ _ _ w.drew
  obtain ⟨w2, B2, G2⟩ : ∃ w2, Hid (w2 = w.drew ∧ Blk w2 g s.vs) ∧ Hid (w.grownBy w2 (some g)) := ⟨w.drew, ⟨rfl, B0.out.drew⟩, grown_drew _ _⟩
  rw [← B2.out.1]
  go_wp2_with fail
  refine (sipMixI s.c s.d 16 (by decide) g 2 3 (by decide) _ _ B2.out.2 rfl rfl).mono ?_
  rintro e w3 ⟨rfl, hB3, hG3⟩
  have B3 := Lib.hid (show Blk w3 g s.cd.vs from hB3)
  have G3 := Lib.hid (grown_tr G2.out hG3)
  clear hB3 hG3
  go_wp2_with fail
  go_end0
  exact ⟨rfl, B3.out, G3.out⟩
set_option maxRecDepth 100000 in
set_option maxHeartbeats 1000000 in
theorem mixADI (s : S4) (g : Nat) (w : World) (hB : Blk w g s.vs) : Calls Tryz.prog 76 #[.pointer (some ⟨g, 0, none⟩)] w (TurnEnd w g s.ad.vs) := by
  have B0 := Lib.hid hB
  clear hB
  go_enter Tryz.func76, Tryz.ntmps76
  go_wp2_with fail
  go_still_tail 6, (by kernel_rfl)
  change wpList _ _ _ _ _ w.drew
  obtain ⟨w2, B2, G2⟩ : ∃ w2, Hid (w2 = w.drew ∧ Blk w2 g s.vs) ∧ Hid (w.grownBy w2 (some g)) := ⟨w.drew, ⟨rfl, B0.out.drew⟩, grown_drew _ _⟩
  rw [← B2.out.1]
  go_wp2_with fail
  refine (sipMixI s.a s.d 21 (by decide) g 0 3 (by decide) _ _ B2.out.2 rfl rfl).mono ?_
  rintro e w3 ⟨rfl, hB3, hG3⟩
  have B3 := Lib.hid (show Blk w3 g s.ad.vs from hB3)
  have G3 := Lib.hid (grown_tr G2.out hG3)
  clear hB3 hG3
  go_wp2_with fail
  go_end0
  exact ⟨rfl, B3.out, G3.out⟩
set_option maxRecDepth 100000 in
set_option maxHeartbeats 1000000 in
theorem mixCBI (s : S4) (g : Nat) (w : World) (hB : Blk w g s.vs) : Calls Tryz.prog 77 #[.pointer (some ⟨g, 0, none⟩)] w (TurnEnd w g s.cb.vs) := by
  have B0 := Lib.hid hB
  clear hB
  go_enter Tryz.func77, Tryz.ntmps77
  go_wp2_with fail
  go_still_tail 6, (by kernel_rfl)
  change wpList _ _ _ _ _ w.drew
  obtain ⟨w2, B2, G2⟩ : ∃ w2, Hid (w2 = w.drew ∧ Blk w2 g s.vs) ∧ Hid (w.grownBy w2 (some g)) := ⟨w.drew, ⟨rfl, B0.out.drew⟩, grown_drew _ _⟩
  rw [← B2.out.1]
  go_wp2_with fail
  refine (sipMixI s.c s.b 17 (by decide) g 2 1 (by decide) _ _ B2.out.2 rfl rfl).mono ?_
  rintro e w3 ⟨rfl, hB3, hG3⟩
  have B3 := Lib.hid (show Blk w3 g (S4.mk s.a (s.b.rotateLeft 17 ^^^ (s.c + s.b)) (s.c + s.b) s.d).vs from hB3)
  have G3 := Lib.hid (grown_tr G2.out hG3)
  clear hB3 hG3
  obtain ⟨⟨c0, c1, c2, c3⟩, f0, f1, f2, f3⟩ := B3.out.sip
  simp only at c0 c1 c2 c3
  go_wp2_with fail
  refine (rotI _ 32 (by decide) _).mono ?_
  rintro e w4 ⟨rfl, rfl⟩
  go_wp2_with fail
  go_end0
  exact ⟨rfl, B3.out.set 2 _, grown_set G3.out _ _⟩

/-- n rounds. -/
def S4.rnds : Nat → S4 → S4
  | 0, s => s
  | n + 1, s => (S4.rnds n s).rnd

set_option maxRecDepth 100000 in
set_option maxHeartbeats 1000000 in
theorem roundsI (s : S4) (n g : Nat) (hn : n ≤ 1000) (w : World) (hB : Blk w g s.vs) : Calls Tryz.prog 72 #[.pointer (some ⟨g, 0, none⟩), .int .i64 n] w (TurnEnd w g (s.rnds n).vs) := by
  have B0 := Lib.hid hB
  clear hB
  go_enter Tryz.func72, Tryz.ntmps72
  go_wp2_with fail
  go_loopw [5] (fun i wr => ∃ k : Nat, k ≤ n ∧ i = .int .i64 k ∧ Hid (Blk wr g (s.rnds k).vs) ∧ Hid (w.grownBy wr (some g)))
    (fun i _ => n - (RowKit.intOf i).toNat)
  case atStart => exact ⟨0, Nat.zero_le _, rfl, B0, ⟨rfl, rfl, rfl, Nat.le_refl _, fun _ _ _ => rfl⟩⟩
  case round =>
    obtain ⟨k, hk, rfl, B1, G1⟩ := hrel
    by_cases hlt : k < n
    · go_wp2_with fail
      refine (mixABI _ g wr B1.out).mono ?_
      rintro e w1 ⟨rfl, hB2, hG2⟩
      have B2 := Lib.hid hB2
      have G2 := Lib.hid (grown_tr G1.out hG2)
      clear hB2 hG2
      go_wp2_with fail
      refine (mixCDI _ g w1 B2.out).mono ?_
      rintro e w2 ⟨rfl, hB3, hG3⟩
      have B3 := Lib.hid hB3
      have G3 := Lib.hid (grown_tr G2.out hG3)
      clear hB3 hG3
      go_wp2_with fail
      refine (mixADI _ g w2 B3.out).mono ?_
      rintro e w3 ⟨rfl, hB4, hG4⟩
      have B4 := Lib.hid hB4
      have G4 := Lib.hid (grown_tr G3.out hG4)
      clear hB4 hG4
      go_wp2_with fail
      refine (mixCBI _ g w3 B4.out).mono ?_
      rintro e w4 ⟨rfl, hB5, hG5⟩
      have B5 := Lib.hid hB5
      have G5 := Lib.hid (grown_tr G4.out hG5)
      clear hB5 hG5
      go_wp2_with fail
      go_roundw
      case rel => exact ⟨k + 1, by omega, by go_num, B5, G5⟩
      case measure => simp [RowKit.intOf]; omega
    · obtain rfl : k = n := by omega
      go_wp2_with fail
      go_end0
      exact ⟨rfl, B1.out, G1.out⟩
end Go.Proofs.YtobfgkiccmhgdaaGreat
