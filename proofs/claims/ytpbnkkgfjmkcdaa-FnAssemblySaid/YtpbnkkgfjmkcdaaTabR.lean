/- received: the bytes of a text by their offset from the next number. Nothing here is a claim. -/
import Derived.Test.YtpbnkkgfjmkcdaaTabI
import Derived.RangeFuncBox
import Derived.Test.YtpbnkkgfjmkcdaaSeq
namespace Go.Proofs.Ytpbnkkgfjmkcdaa
open Go.RowKit Go.Lib Go.Shelf

attribute [local go_sem] Oper.semAt_some

/-- What a round keeps: the three boxes of the visit. -/
def KpR (B : Nat) (W W' : World) : Prop := ∀ k, k < 3 → ∀ v, W.cell? ⟨B + k, 0, none⟩ = some v → W'.cell? ⟨B + k, 0, none⟩ = some v
theorem kpR_t {B : Nat} {X Y Z : World} (h : KpR B X Y) (k : KpR B Y Z) : KpR B X Z := fun i hi v hv => k i hi v (h i hi v hv)
theorem kpR_b {B : Nat} {w : World} (W : World) (l : Nat) (o o' : Obj) (_ : w.heap.size ≤ l) (h : W.heap[l]? = some o) (hc : o.isCells = false) (_ : o.isWalk = false) : KpR B W (W.putObj l o') :=
  fun _ _ _ hv => cell_kept hv (grownBy_putObj' W l o') (fun r e => by cases e; exact ⟨o, h, hc⟩)
set_option maxHeartbeats 1000000 in
theorem rcvMk (n : Nat) (x : ByteArray) (m s : Int) (w : World) : CallsIn Fence.wide n Try.prog 36 #[.int .i64 m, .int .i64 s, .string x] w fun e w' => e = .returned (.func (.func 67) #[] #[.pointer (some ⟨w.heap.size, 0, none⟩), .pointer (some ⟨w.heap.size + 1, 0, none⟩), .pointer (some ⟨w.heap.size + 2, 0, none⟩)]) ∧ w' = ((w.alloc (.cells #[.int .i64 m] 3)).alloc (.cells #[.int .i64 s] 3)).alloc (.cells #[.string x] 9) := by
  refine callsIn_of_wp Try.func36 rfl trivial ?_ rfl
  simp only [Try.ntmps36, List.size_toArray, List.length_cons, List.length_nil, Nat.reduceAdd, Nat.reduceSub, Array.replicate_succ, Array.replicate_zero, List.push_toArray, List.append_toArray, List.nil_append, List.cons_append]
  gi_wp2
  go_ret
  exact ⟨rfl, rfl⟩

set_option maxRecDepth 100000 in
set_option maxHeartbeats 4000000 in
theorem rcv1 (n : Nat) (hn : 1 ≤ n) (l B : Nat) (m s : Int) (x : ByteArray) (J Jx : List PB → World → Prop)
    (hY : ∀ pre y W, J pre W → pre.length < 32 → YieldAt Fence.wide (n - 1) Try.prog l (encB y) W fun e W' =>
      (e = .returned (.bool true) ∧ J (pre ++ [y]) W' ∧ KpR B W W') ∨ (e = .returned (.bool false) ∧ Jx (pre ++ [y]) W'))
    (W : World) (h0 : W.cell? ⟨B, 0, none⟩ = some (.int .i64 m)) (h1 : W.cell? ⟨B + 1, 0, none⟩ = some (.int .i64 s)) (h2 : W.cell? ⟨B + 2, 0, none⟩ = some (.string x)) (hJ0 : J [] W) :
    CallsIn Fence.wide n Try.prog 67 #[.func (.yield l) #[] #[], .pointer (some ⟨B, 0, none⟩), .pointer (some ⟨B + 1, 0, none⟩), .pointer (some ⟨B + 2, 0, none⟩)] W fun e W' => (∃ v, e = .returned v) ∧
      ((∃ xs, valsP xs = rcvTo m s x 32 ∧ J xs W') ∨ (∃ pre, (∃ k b, k < 32 ∧ x.data[(pl (m + (k : Nat) - s)).toNat]? = some b ∧ valsP pre = rcvTo m s x k ++ [(k, b)]) ∧ Jx pre W')) := by
  have hf1 : Fence.wide.fn 15 := trivial
  refine callsIn_of_wp Try.func67 rfl trivial ?_ rfl
  simp only [Try.ntmps67, List.size_toArray, List.length_cons, List.length_nil, Nat.reduceAdd, Nat.reduceSub, Array.replicate_succ, Array.replicate_zero, List.push_toArray, List.append_toArray, List.nil_append, List.cons_append]
  gi_wp2
  gi_loopw [7] (fun i wr => ∃ k : Nat, k ≤ 32 ∧ i = .int .i64 k ∧ (∃ pre, valsP pre = rcvTo m s x k ∧ J pre wr) ∧ wr.cell? ⟨B, 0, none⟩ = some (.int .i64 m) ∧ wr.cell? ⟨B + 1, 0, none⟩ = some (.int .i64 s) ∧ wr.cell? ⟨B + 2, 0, none⟩ = some (.string x))
    (fun i _ => 32 - (RowKit.intOf i).toNat)
  case atStart => exact ⟨0, by omega, rfl, ⟨[], rfl, hJ0⟩, h0, h1, h2⟩
  case round =>
    obtain ⟨k, hk, rfl, ⟨pre, hpre, hJ⟩, c0, c1, c2⟩ := hrel
    clear h0 h1 h2
    by_cases hlt : k < 32
    · have hk0 : (0 : Int) ≤ (k : Int) := Int.natCast_nonneg _
      have hk1 : (k : Int) < 32 := by omega
      obtain ⟨p, hp⟩ : ∃ p : Nat, pl (m + (k : Int) - s) = (p : Int) := ⟨(pl (m + (k : Int) - s)).toNat, by have := (pl_bd (m + (k : Int) - s)).1; omega⟩
      have hpq : pl (wrap64 (m + (k : Int)) + wrap64 (-s)) = (p : Int) := by rw [← hp, wrap64_is, wrap64_is]; unfold pl; omega
      have hpt : (pl (m + (k : Int) - s)).toNat = p := by omega
      have C := fun w => callsIn_wide (n := n - 1) |>.2 (seqAddI (wrap64 (m + (k : Int))) (wrap64 (-s)) w)
      simp only [hpq] at C
      replace C := Lib.hid C
      have hp0 : (0 : Int) ≤ (p : Int) := Int.natCast_nonneg _
      clear hp hpq
      by_cases hps : p < x.size
      · have hpi : (p : Int) < (x.size : Int) := by omega
        have hb8 := x[p].toNat_lt
        have hT : x.data[(pl (m + (k : Int) - s)).toNat]? = some x[p] := by rw [hpt, Array.getElem?_eq_getElem hps]; rfl
        have hl := rcvTo_le m s x k
        have hpl := valsP_length pre
        rw [hpre] at hpl
        obtain ⟨fn, tmps, assign, body, hy, hR⟩ := hY pre ⟨(k, x[p]), hlt⟩ wr hJ (by omega)
        dsimp only [encB] at hy hR
        have HP := Lib.hid hpre
        have HT := Lib.hid hT
        clear hpre hT hl hpl hpt
        gi_wp2_with (gi_at_call 15; refine (C.out _).mono ?_; rintro e w' ⟨rfl, rfl⟩)
        refine hR.mono ?_
        rintro e W3 (⟨rfl, hJ3, hk3⟩ | ⟨rfl, hJx3⟩)
        · gi_wp2
          go_roundw
          case rel => exact ⟨k + 1, by omega, by go_num, ⟨_, by rw [valsP_snoc, HP.out, rcvTo_some HT.out], hJ3⟩, hk3 0 (by decide) _ c0, hk3 1 (by decide) _ c1, hk3 2 (by decide) _ c2⟩
          case measure => simp [RowKit.intOf]; omega
        · gi_wp2
          refine bodyPost_ret (results_none rfl _ _ _) rfl ?_
          exact ⟨⟨_, rfl⟩, .inr ⟨_, ⟨k, x[p], hlt, HT.out, by rw [valsP_snoc, HP.out]⟩, hJx3⟩⟩
      · have hpi : ¬ (p : Int) < (x.size : Int) := by omega
        have hT : x.data[(pl (m + (k : Int) - s)).toNat]? = none := by rw [hpt]; exact Array.getElem?_eq_none (by show x.data.size ≤ p; have : x.data.size = x.size := rfl; omega)
        have HP := Lib.hid (hpre.trans (rcvTo_none hT).symm)
        clear hpre hT hpt
        gi_wp2_with (gi_at_call 15; refine (C.out _).mono ?_; rintro e w' ⟨rfl, rfl⟩)
        refine ⟨(fun f h => by cases h), ?_⟩
        gi_wp2
        go_roundw
        case rel => exact ⟨k + 1, by omega, by go_num, ⟨pre, HP.out, hJ⟩, c0, c1, c2⟩
        case measure => simp [RowKit.intOf]; omega
    · obtain rfl : k = 32 := by omega
      gi_wp2
      go_end0
      exact ⟨⟨_, rfl⟩, .inl ⟨pre, hpre, hJ⟩⟩
theorem rcv_stops (n : Nat) (hn : 1 ≤ n) (B : Nat) (m s : Int) (x : ByteArray) (w : World) (hB : B + 2 < w.heap.size) (h0 : w.cell? ⟨B, 0, none⟩ = some (.int .i64 m)) (h1 : w.cell? ⟨B + 1, 0, none⟩ = some (.int .i64 s)) (h2 : w.cell? ⟨B + 2, 0, none⟩ = some (.string x)) :
    SeqStopsK Fence.wide n Try.prog 67 #[.pointer (some ⟨B, 0, none⟩), .pointer (some ⟨B + 1, 0, none⟩), .pointer (some ⟨B + 2, 0, none⟩)] encB (KpR B) (fun xs => valsP xs = rcvTo m s x 32) (fun pre => ∃ k b, k < 32 ∧ x.data[(pl (m + (k : Nat) - s)).toNat]? = some b ∧ valsP pre = rcvTo m s x k ++ [(k, b)]) 32 w := fun l J Jx W hW _ _ hY hJ =>
  rcv1 n hn l B m s x J Jx hY W ((hW.cell (p := ⟨B, 0, none⟩) (by show B < _; omega)).trans h0) ((hW.cell (p := ⟨B + 1, 0, none⟩) (by show B + 1 < _; omega)).trans h1) ((hW.cell (p := ⟨B + 2, 0, none⟩) (by show B + 2 < _; omega)).trans h2) hJ
end Go.Proofs.Ytpbnkkgfjmkcdaa
