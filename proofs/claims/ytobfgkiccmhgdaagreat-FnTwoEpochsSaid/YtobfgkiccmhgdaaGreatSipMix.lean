/- impl's own steps of a round: sipMix and the methods mixAB, mixCD, mixAD, mixCB. Nothing here is a claim. -/
import Derived.Test.YtobfgkiccmhgdaaGreatSipRot
import Derived.Test.YtobfgkiccmhgdaaGreatCurA
import Derived.StillTailTactics
namespace Go.Proofs.YtobfgkiccmhgdaaGreat
open Go.RowKit Go.Lib

theorem grown_drew (w : World) (row : Option Nat) : w.grownBy w.drew row := ⟨rfl, rfl, rfl, Nat.le_refl _, fun _ _ _ => rfl⟩
/-- A word as the model's value. -/
def v64 (x : BitVec 64) : Value := .int .u64 (n64 x)
theorem Blk.two {w : World} {g i j : Nat} {vs : List Value} {x y : BitVec 64} (h : Blk w g vs) (hi : vs[i]? = some (v64 x)) (hj : vs[j]? = some (v64 y)) :
    w.cell? ⟨g, i, none⟩ = some (.int .u64 (n64 x)) ∧ w.cell? ⟨g, j, none⟩ = some (.int .u64 (n64 y)) ∧ w.frozen? ⟨g, i, none⟩ = false ∧ w.frozen? ⟨g, j, none⟩ = false :=
  ⟨h.cell i _ hi, h.cell j _ hj, h.open i, h.open j⟩
/-- A call that turns block g alone, and hands nothing back. -/
def TurnEnd (w : World) (g : Nat) (vs : List Value) (e : Ending) (w' : World) : Prop := e = .returned (.tuple #[]) ∧ Blk w' g vs ∧ w.grownBy w' (some g)

set_option maxRecDepth 100000 in
set_option maxHeartbeats 1000000 in
theorem sipMixI (x y : BitVec 64) (k : Nat) (hk : 0 < k ∧ k < 64) (g i j : Nat) (hij : i ≠ j) (vs : List Value) (w : World) (hB : Blk w g vs) (hi : vs[i]? = some (v64 x)) (hj : vs[j]? = some (v64 y)) :
    Calls Tryz.prog 79 #[.pointer (some ⟨g, i, none⟩), .pointer (some ⟨g, j, none⟩), .int .i64 k] w (TurnEnd w g ((vs.set i (v64 (x + y))).set j (v64 (y.rotateLeft k ^^^ (x + y))))) := by
  have hji : (vs.set i (v64 (x + y)))[j]? = some (v64 y) := by rw [List.getElem?_set_ne hij]; exact hj
  have hii : (vs.set i (v64 (x + y)))[i]? = some (v64 (x + y)) := by
    have : i < vs.length := by rcases Nat.lt_or_ge i vs.length with h | h; exact h; rw [List.getElem?_eq_none h] at hi; cases hi
    rw [List.getElem?_set_self this]
  obtain ⟨ci, cj, fi, fj⟩ := hB.two hi hj
  have B0 := Lib.hid hB
  clear hB
  go_enter Tryz.func79, Tryz.ntmps79
  go_wp2_with fail
  go_still_tail 8, (by kernel_rfl)
  rw [add64]
  change wpList _ _ _ _ _ w.drew
  obtain ⟨w2, B2, G2⟩ : ∃ w2, Hid (w2 = w.drew ∧ Blk w2 g vs) ∧ Hid (w.grownBy w2 (some g)) := ⟨w.drew, ⟨rfl, B0.out.drew⟩, grown_drew _ _⟩
  rw [← B2.out.1]
  clear ci cj fi fj
  obtain ⟨ci, cj, fi, fj⟩ := B2.out.2.two hi hj
  go_wp2_with fail
  obtain ⟨w3, B3, G3⟩ : ∃ w3, Hid (w3 = w2.setCell ⟨g, i, none⟩ (.int .u64 (n64 (x + y))) ∧ Blk w3 g (vs.set i (v64 (x + y)))) ∧ Hid (w.grownBy w3 (some g)) := ⟨_, ⟨rfl, B2.out.2.set i _⟩, grown_set G2.out _ _⟩
  rw [← B3.out.1]
  clear ci cj fi fj
  obtain ⟨ci, cj, fi, fj⟩ := B3.out.2.two hii hji
  go_still_tail 11, (by kernel_rfl)
  still_call (rotI y k hk _)
  repeat still_step
  refine wpStill_nil ?_
  rw [xor64]
  change wpList _ _ _ _ _ w3.drew
  obtain ⟨w4, B4, G4⟩ : ∃ w4, Hid (w4 = w3.drew ∧ Blk w4 g (vs.set i (v64 (x + y)))) ∧ Hid (w.grownBy w4 (some g)) := ⟨w3.drew, ⟨rfl, B3.out.2.drew⟩, grown_tr G3.out (grown_drew _ _)⟩
  rw [← B4.out.1]
  clear ci cj fi fj
  obtain ⟨ci, cj, fi, fj⟩ := B4.out.2.two hii hji
  go_wp2_with fail
  go_end0
  exact ⟨rfl, B4.out.2.set j _, grown_set G4.out _ _⟩

end Go.Proofs.YtobfgkiccmhgdaaGreat
