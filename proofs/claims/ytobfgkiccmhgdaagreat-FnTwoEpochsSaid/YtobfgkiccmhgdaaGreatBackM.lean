/- slices.Backward over a table: its iterator hands each row over, the last first. Nothing here is a claim. -/
import Derived.Test.YtobfgkiccmhgdaaGreatBase
import Derived.Test.YtobfgkiccmhgdaaGreatMacKit
import Derived.Test.YtobfgkiccmhgdaaGreatOpenM
import Derived.RangeFuncNested
import Derived.RangeFuncBound
import Derived.RangeFuncLeaves
import Derived.Shelf.Abstract
import Derived.Shelf.RegionOpen
import Derived.WalkKit
import Derived.OwnWalkIn
import Derived.TacticsInMore
import Derived.LoopNIn
import Derived.LoopIn
namespace Go.Proofs.YtobfgkiccmhgdaaGreat
open Go.RowKit Go.Lib Go.Shelf

attribute [local go_sem] Oper.semAt_some

/-- What the iterator hands over: a place and a row within their kinds. -/
abbrev PR := { x : Int × MR // goodM x.2 }
def encP (x : PR) : Array Value := #[.int .i64 x.1.1, .agg #[.string x.1.2.s, .int .i64 x.1.2.v]]
/-- The rows that have come. -/
def rowsOf (xs : List PR) : List MR := xs.map fun x => x.1.2
theorem rowsOf_snoc (xs : List PR) (x : PR) : rowsOf (xs ++ [x]) = rowsOf xs ++ [x.1.2] := by simp [rowsOf]
/-- What a round keeps: what lay below n0, and the iterator's own variable. -/
def KpB (n0 Bs : Nat) (W W' : World) : Prop := Below n0 W W' ∧ ∀ v, W.cell? ⟨Bs, 0, none⟩ = some v → W'.cell? ⟨Bs, 0, none⟩ = some v
theorem kpB_t {n0 Bs : Nat} {A B C : World} (h : KpB n0 Bs A B) (k : KpB n0 Bs B C) : KpB n0 Bs A C := ⟨h.1.trans k.1, fun v hv => k.2 v (h.2 v hv)⟩
theorem kpB_b {n0 Bs : Nat} {w : World} (hn : n0 ≤ w.heap.size) (W : World) (l : Nat) (o o' : Obj) (hl : w.heap.size ≤ l) (h : W.heap[l]? = some o) (hc : o.isCells = false) (hw : o.isWalk = false) : KpB n0 Bs W (W.putObj l o') :=
  ⟨belowK_b hn W l o o' hl h hc hw, fun _ hv => cell_kept hv (grownBy_putObj' W l o') (fun r e => by cases e; exact ⟨o, h, hc⟩)⟩

theorem back_next (rs : List MR) (k : Nat) (h : k < rs.length) : (rs.drop k).reverse = (rs.drop (k + 1)).reverse ++ [rs[k]] := by
  rw [List.drop_eq_getElem_cons h, List.reverse_cons]

set_option maxRecDepth 100000 in
set_option maxHeartbeats 2000000 in
/-- The closure, for every loop body that keeps the rows and the closure's variable. -/
theorem back1 (F : Fence) (n : Nat) (hf : F.fn 71) (hro : F.round = none) (hn : 1 ≤ n) (l Bs n0 : Nat) (a : Option Addr) (cap : Nat) (rs : List MR) (hl : rs.length ≤ 1048577) (hg : ∀ r ∈ rs, goodM r) (J Jx : List PR → World → Prop)
    (hY : ∀ pre x W, J pre W → pre.length < rs.length → YieldAt F (n - 1) Tryz.prog l (encP x) W fun e W' =>
      (e = .returned (.bool true) ∧ J (pre ++ [x]) W' ∧ KpB n0 Bs W W') ∨ (e = .returned (.bool false) ∧ Jx (pre ++ [x]) W'))
    (W : World) (hBs : W.cell? ⟨Bs, 0, none⟩ = some (.slice a rs.length cap)) (hrow : Row W n0 a (mrs rs)) (h0 : J [] W) :
    CallsIn F n Tryz.prog 71 #[.func (.yield l) #[] #[], .pointer (some ⟨Bs, 0, none⟩)] W fun e W' => (∃ v, e = .returned v) ∧
      ((∃ xs, rowsOf xs = rs.reverse ∧ J xs W') ∨ (∃ pre, True ∧ Jx pre W')) := by
  refine callsIn_of_wp Tryz.func71 rfl hf ?_ hro
  simp only [Tryz.ntmps71, List.size_toArray, List.length_cons, List.length_nil, Nat.reduceAdd, Nat.reduceSub, Array.replicate_succ, Array.replicate_zero, List.push_toArray, List.append_toArray, List.nil_append, List.cons_append]
  gi_wp2
  gi_loopw [3] (fun i wr => ∃ k : Nat, k ≤ rs.length ∧ i = .int .i64 ((k : Int) - 1) ∧ (∃ pre, rowsOf pre = (rs.drop k).reverse ∧ pre.length = rs.length - k ∧ J pre wr) ∧ KpB n0 Bs W wr)
    (fun i _ => (RowKit.intOf i + 1).toNat)
  case atStart => exact ⟨rs.length, Nat.le_refl _, rfl, ⟨[], by simp [rowsOf], by simp, h0⟩, ⟨Below.refl _ _, fun _ h => h⟩⟩
  case round =>
    obtain ⟨k, hk, rfl, ⟨pre, hpre, hplen, hJs⟩, hkp⟩ := hrel
    have hcB := hkp.2 _ hBs
    cases k with
    | zero =>
      gi_wp2
      go_end0
      exact ⟨⟨_, rfl⟩, .inl ⟨pre, by simpa using hpre, hJs⟩⟩
    | succ k =>
      have hlt : k < rs.length := by omega
      obtain ⟨b, off, rfl, hbb, hcs⟩ := (hrow.below hkp.1).mr hlt
      obtain ⟨hc0, hc1⟩ := hcs k hlt
      have hgk := hg rs[k] (List.getElem_mem hlt)
      obtain ⟨fn, tmps, assign, body, hy, hR⟩ := hY pre ⟨((k : Int), rs[k]), hgk⟩ wr hJs (by omega)
      dsimp only [encP] at hy hR
      have ek : ((k + 1 : Nat) : Int) - 1 = (k : Int) := by omega
      rw [ek]
      clear hcs
      gi_wp2
      refine hR.mono ?_
      rintro e W3 (⟨rfl, hJ3, hk3⟩ | ⟨rfl, hJx3⟩)
      · gi_wp2
        go_roundw
        case rel => exact ⟨k, by omega, by go_num, ⟨_, by rw [rowsOf_snoc, hpre, ← back_next rs k hlt], by simp; omega, hJ3⟩, kpB_t hkp hk3⟩
        case measure => simp [RowKit.intOf]
      · gi_wp2
        refine bodyPost_ret (results_none rfl _ _ _) rfl ?_
        exact ⟨⟨_, rfl⟩, .inr ⟨_, trivial, hJx3⟩⟩

set_option maxHeartbeats 1000000 in
/-- The maker: the slice is boxed; the function value holds the box. -/
theorem back_in (F : Fence) (n : Nat) (hf : F.fn 61) (hro : F.round = none) (a : Option Addr) (len cap : Nat) (w : World) :
    CallsIn F n Tryz.prog 61 #[.slice a len cap] w fun e w' => e = .returned (.func (.func 71) #[] #[.pointer (some ⟨w.heap.size, 0, none⟩)]) ∧ w' = w.alloc (.cells #[.slice a len cap] 25) := by
  refine callsIn_of_wp Tryz.func61 rfl hf ?_ hro
  simp only [Tryz.ntmps61, List.size_toArray, List.length_cons, List.length_nil, Nat.reduceAdd, Nat.reduceSub, Array.replicate_succ, Array.replicate_zero, List.push_toArray, List.append_toArray, List.nil_append, List.cons_append]
  gi_wp2
  go_ret
  exact ⟨rfl, rfl⟩

/-- What the maker hands back gives all rows, the last first. -/
theorem back_stops (F : Fence) (n : Nat) (hf : F.fn 71) (hro : F.round = none) (hn : 1 ≤ n) (Bs n0 : Nat) (a : Option Addr) (cap : Nat) (rs : List MR) (hl : rs.length ≤ 1048577) (hg : ∀ r ∈ rs, goodM r) (w : World) (hB : Bs < w.heap.size) (hn0 : n0 ≤ w.heap.size)
    (hc : w.cell? ⟨Bs, 0, none⟩ = some (.slice a rs.length cap)) (hrow : Row w n0 a (mrs rs)) :
    SeqStopsK F n Tryz.prog 71 #[.pointer (some ⟨Bs, 0, none⟩)] encP (KpB n0 Bs) (fun xs => rowsOf xs = rs.reverse) (fun _ => True) rs.length w := fun l J Jx W hW _ _ hY h0 =>
  back1 F n hf hro hn l Bs n0 a cap rs hl hg J Jx hY W ((hW.cell (p := ⟨Bs, 0, none⟩) hB).trans hc) (hrow.below (hW.mono hn0)) h0
end Go.Proofs.YtobfgkiccmhgdaaGreat
