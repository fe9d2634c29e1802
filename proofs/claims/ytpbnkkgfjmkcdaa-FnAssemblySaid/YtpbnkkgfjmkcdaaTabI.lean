/- The program's table of stored bytes: store, and the visit in order. Nothing here is a claim. -/
import Derived.Test.YtpbnkkgfjmkcdaaTabK
import Derived.Test.YtpbnkkgfjmkcdaaBase
import Derived.Test.YtpbnkkgfjmkcdaaCurA
import Derived.Test.YtpbnkkgfjmkcdaaCurKit
import Derived.Test.YtpbnkkgfjmkcdaaCopyUnder
import Derived.RangeFuncNested
import Derived.RangeFuncBound
import Derived.RangeFuncLeaves
import Derived.RangeFuncCalls
import Derived.Shelf.Abstract
import Derived.Shelf.RegionOpen
import Derived.WalkKit
import Derived.OwnWalkIn
import Derived.TacticsInMore
import Derived.LoopNIn
import Derived.LoopIn
import Derived.Deep.MidRow
namespace Go.Proofs.Ytpbnkkgfjmkcdaa
open Go.RowKit Go.Lib Go.Shelf

attribute [local go_sem] Oper.semAt_some

theorem grown_setn (w : World) (g k : Nat) (u : Value) : w.grownBy (w.setCell ⟨g, k, none⟩ u) (some g) := ⟨rfl, rfl, rfl, by simp, fun j _ hne => Below.heap_setCell w ⟨g, k, none⟩ u j (fun e => hne (by rw [e]))⟩
set_option maxRecDepth 100000 in
set_option maxHeartbeats 2000000 in
theorem storeI (g o : Nat) (b : UInt8) (T : Tab) (ho : o < 32) (w : World) (h : Blk w g (tabC T)) :
    Calls Try.prog 37 #[.pointer (some ⟨g, 0, none⟩), .int .i64 o, .int .u8 (b.toNat : Int)] w fun e w' => e = .returned (.tuple #[]) ∧ Blk w' g (tabC (putF T o b)) ∧ w.grownBy w' (some g) := by
  have ho0 : (0 : Int) ≤ (o : Int) := Int.natCast_nonneg _
  have ho1 : (o : Int) < 32 := by omega
  have c1 := h.cell _ _ (tabC_mark T o ho)
  have f0 := h.open o
  have f1 := h.open (32 + o)
  have c0 := h.cell _ _ (tabC_byte T o ho)
  have H := Lib.hid h
  clear h
  cases hT : T o with
  | some c =>
    have e := putF_held (b := b) hT
    rw [e]
    rw [show (T o).isSome = true by rw [hT]; rfl] at c1
    clear hT e
    go_enter Try.func37, Try.ntmps37
    go_wp2_with fail
    go_end0
    exact ⟨rfl, H.out, World.grownBy.refl _ _⟩
  | none =>
    have e := putF_free (b := b) hT
    rw [e, ← tabC_put T o ho b]
    rw [show (T o).isSome = false by rw [hT]; rfl] at c1
    have hne : ¬ 32 + o = o := by omega
    have hne2 : ¬ o = 32 + o := by omega
    clear hT e
    go_enter Try.func37, Try.ntmps37
    go_wp2_with fail
    go_end0
    exact ⟨rfl, (H.out.set o _).set (32 + o) _, grown_tr (grown_setn w g o _) (grown_setn _ g (32 + o) _)⟩

/-- What a visit hands over: an offset within the window, a byte. -/
abbrev PB := { x : Nat × UInt8 // x.1 < 32 }
def encB (x : PB) : Array Value := #[.int .i64 (x.1.1 : Int), .int .u8 (x.1.2.toNat : Int)]
def valsP (xs : List PB) : List (Nat × UInt8) := xs.map fun x => x.1
theorem valsP_snoc (xs : List PB) (x : PB) : valsP (xs ++ [x]) = valsP xs ++ [x.1] := by simp [valsP]
theorem valsP_length (xs : List PB) : (valsP xs).length = xs.length := by simp [valsP]
/-- What a round keeps: the table and the box of its pointer. -/
def KpT (g Bs : Nat) (T : Tab) (W W' : World) : Prop := (Blk W g (tabC T) → Blk W' g (tabC T)) ∧ ∀ v, W.cell? ⟨Bs, 0, none⟩ = some v → W'.cell? ⟨Bs, 0, none⟩ = some v
theorem kpT_t {g Bs : Nat} {T : Tab} {A B C : World} (h : KpT g Bs T A B) (k : KpT g Bs T B C) : KpT g Bs T A C := ⟨fun x => k.1 (h.1 x), fun v hv => k.2 v (h.2 v hv)⟩
theorem blk_obj {W : World} {g l : Nat} {vs : List Value} {o o' : Obj} (hb : Blk W g vs) (h : W.heap[l]? = some o) (hc : o.isCells = false) : Blk (W.putObj l o') g vs := by
  obtain ⟨t, ht⟩ := hb
  refine ⟨t, (World.putObj_heap_other (fun e => ?_)).trans ht⟩
  subst e
  rw [ht] at h
  cases h
  cases hc
theorem kpT_b {g Bs : Nat} {T : Tab} {w : World} (W : World) (l : Nat) (o o' : Obj) (_ : w.heap.size ≤ l) (h : W.heap[l]? = some o) (hc : o.isCells = false) (_ : o.isWalk = false) : KpT g Bs T W (W.putObj l o') :=
  ⟨fun hb => blk_obj hb h hc, fun _ hv => cell_kept hv (grownBy_putObj' W l o') (fun r e => by cases e; exact ⟨o, h, hc⟩)⟩
theorem blk_grown {β : Type} (g : Nat) (f : β → List Value) : Own (fun s W => Blk W g (f s)) := fun s X Y row hs hg hrow => by
  obtain ⟨t, ht⟩ := hs
  refine ⟨t, (hg.block g (Array.getElem?_eq_some_iff.1 ht).1 (fun e => ?_)).trans ht⟩
  obtain ⟨o, ho, hc⟩ := hrow g e.symm
  rw [ht] at ho
  cases ho
  cases hc

set_option maxHeartbeats 1000000 in
theorem ordMk (n : Nat) (g : Nat) (w : World) : CallsIn Fence.wide n Try.prog 68 #[.pointer (some ⟨g, 0, none⟩)] w fun e w' => e = .returned (.func (.func 77) #[] #[.pointer (some ⟨w.heap.size, 0, none⟩)]) ∧ w' = w.alloc (.cells #[.pointer (some ⟨g, 0, none⟩)] 55) := by
  refine callsIn_of_wp Try.func68 rfl trivial ?_ rfl
  simp only [Try.ntmps68, List.size_toArray, List.length_cons, List.length_nil, Nat.reduceAdd, Nat.reduceSub, Array.replicate_succ, Array.replicate_zero, List.push_toArray, List.append_toArray, List.nil_append, List.cons_append]
  gi_wp2
  go_ret
  exact ⟨rfl, rfl⟩

/-- The marks alone. -/
def marksT (T : Tab) : List Value := (List.range 32).map fun i => .bool (T i).isSome
theorem marksT_length (T : Tab) : (marksT T).length = 32 := by simp [marksT]
theorem marksT_at (T : Tab) (i : Nat) (h : i < 32) : (marksT T)[i]? = some (.bool (T i).isSome) := by simp [marksT, h]
theorem marks_load (T : Tab) (g : Nat) (w : World) (h : Blk w g (tabC T)) : (Instr.loadAt 87 (.pointer (some ⟨g, 32, none⟩))).run Try.prog w = .ok (.agg (marksT T).toArray) w := by
  refine run_loadAt_mid w g 32 87 (marksT T) _ (fun j v hv => ?_) Try.underlying87 rfl (by rw [marksT_length]; kernel_rfl)
  have hj : j < 32 := by have := (List.getElem?_eq_some_iff.1 hv).1; rwa [marksT_length] at this
  rw [marksT_at T j hj] at hv
  cases hv
  exact h.cell _ _ (tabC_mark T j hj)
theorem marks_index (T : Tab) (i : Nat) (h : i < 32) (w : World) : (Instr.index 87 (.agg (marksT T).toArray) (.int .i64 (i : Int))).run Try.prog w = .ok (.bool (T i).isSome) w := by
  have ha := Try.isAgg4
  have hs := Try.sizeOf4
  have h0 : (0 : Int) ≤ (i : Int) := Int.natCast_nonneg _
  unfold Instr.index
  simp [go_sem, ha, hs, h0, part, h, marksT_length]
  simp [marksT]

theorem wpIn_load_val {F : Fence} {n : Nat} {P : Program} {o : Oper} {a : Act} {w : World} {K : Act → World → Prop} {Q : Exit → Act → World → Prop} (ty : TypeId) (x : Operand) (ho : o.op = .load ty x) (v p : Value) (hx : a.eval x = p) (hrun : (Instr.loadAt ty p).run P w = .ok v w) (h : K (a.put o.dst v) w) : o.wpIn F n P a w K Q := by
  unfold Oper.wpIn
  refine ⟨by simp [Oper.about, ho], ?_⟩
  rw [Oper.semAt_plain F _ _ (by rw [ho]; intro c hc; cases hc)]
  simp only [execOp, ho, hx, hrun, Sem.run_bind, Sem.run_pure, Result.andThen_ok]
  exact h

set_option maxRecDepth 100000 in
set_option maxHeartbeats 4000000 in
/-- The visit, for every loop body that keeps the table. -/
theorem ord1 (n : Nat) (hn : 1 ≤ n) (l Bs g : Nat) (T : Tab) (J Jx : List PB → World → Prop)
    (hY : ∀ pre x W, J pre W → pre.length < 32 → YieldAt Fence.wide (n - 1) Try.prog l (encB x) W fun e W' =>
      (e = .returned (.bool true) ∧ J (pre ++ [x]) W' ∧ KpT g Bs T W W') ∨ (e = .returned (.bool false) ∧ Jx (pre ++ [x]) W'))
    (W : World) (hBs : W.cell? ⟨Bs, 0, none⟩ = some (.pointer (some ⟨g, 0, none⟩))) (hg : Blk W g (tabC T)) (h0 : J [] W) :
    CallsIn Fence.wide n Try.prog 77 #[.func (.yield l) #[] #[], .pointer (some ⟨Bs, 0, none⟩)] W fun e W' => (∃ v, e = .returned v) ∧
      ((∃ xs, valsP xs = ordTo T 32 ∧ J xs W') ∨ (∃ pre, (∃ k b, k < 32 ∧ T k = some b ∧ valsP pre = ordTo T k ++ [(k, b)]) ∧ Jx pre W')) := by
  have hld := marks_load T g W hg
  have hix := Lib.hid (fun i h w => marks_index T i h w)
  have HG := Lib.hid hg
  clear hg
  generalize (marksT T).toArray = M at hld hix
  refine callsIn_of_wp Try.func77 rfl trivial ?_ rfl
  simp only [Try.ntmps77, List.size_toArray, List.length_cons, List.length_nil, Nat.reduceAdd, Nat.reduceSub, Array.replicate_succ, Array.replicate_zero, List.push_toArray, List.append_toArray, List.nil_append, List.cons_append]
  repeat
    fail_if_success (refine wpIn_load_val 87 (.tmp 7) rfl _ _ rfl hld ?_)
    gi_step
  refine wpIn_load_val 87 (.tmp 7) rfl _ _ rfl hld ?_
  clear hld
  gi_wp2
  gi_loopw [9] (fun i wr => ∃ k : Nat, k ≤ 32 ∧ i = .int .i64 k ∧ (∃ pre, valsP pre = ordTo T k ∧ J pre wr) ∧ Hid (Blk wr g (tabC T)) ∧ wr.cell? ⟨Bs, 0, none⟩ = some (.pointer (some ⟨g, 0, none⟩)))
    (fun i _ => 32 - (RowKit.intOf i).toNat)
  case atStart => exact ⟨0, by omega, rfl, ⟨[], rfl, h0⟩, HG, hBs⟩
  case round =>
    obtain ⟨k, hk, rfl, ⟨pre, hpre, hJ⟩, hB, hcB⟩ := hrel
    by_cases hlt : k < 32
    · have hk0 : (0 : Int) ≤ (k : Int) := Int.natCast_nonneg _
      have hk1 : (k : Int) < 32 := by omega
      have hi := fun w => hix.out k hlt w
      cases hT : T k with
      | none =>
        simp only [hT, Option.isSome_none] at hi
        have HP := Lib.hid (hpre.trans (ordTo_none hT).symm)
        clear hpre hT
        gi_wp2
        refine ⟨(fun f h => by cases h), ?_⟩
        gi_wp2
        go_roundw
        case rel => exact ⟨k + 1, by omega, by go_num, ⟨pre, HP.out, hJ⟩, hB, hcB⟩
        case measure => simp [RowKit.intOf]; omega
      | some b =>
        simp only [hT, Option.isSome_some] at hi
        have hcb := hB.out.cell _ _ (tabC_byte T k hlt)
        rw [show ((T k).getD 0) = b by rw [hT]; rfl] at hcb
        have hl := ordTo_le T k
        have hpl := valsP_length pre
        rw [hpre] at hpl
        obtain ⟨fn, tmps, assign, body, hy, hR⟩ := hY pre ⟨(k, b), hlt⟩ wr hJ (by omega)
        dsimp only [encB] at hy hR
        have HP := Lib.hid hpre
        have HT := Lib.hid hT
        clear hpre hT hl hpl
        gi_wp2
        refine hR.mono ?_
        rintro e W3 (⟨rfl, hJ3, hk3⟩ | ⟨rfl, hJx3⟩)
        · gi_wp2
          go_roundw
          case rel => exact ⟨k + 1, by omega, by go_num, ⟨_, by rw [valsP_snoc, HP.out, ordTo_some HT.out], hJ3⟩, Lib.hid (hk3.1 hB.out), hk3.2 _ hcB⟩
          case measure => simp [RowKit.intOf]; omega
        · gi_wp2
          refine bodyPost_ret (results_none rfl _ _ _) rfl ?_
          exact ⟨⟨_, rfl⟩, .inr ⟨_, ⟨k, b, hlt, HT.out, by rw [valsP_snoc, HP.out]⟩, hJx3⟩⟩
    · obtain rfl : k = 32 := by omega
      gi_wp2
      go_end0
      exact ⟨⟨_, rfl⟩, .inl ⟨pre, hpre, hJ⟩⟩

/-- What the maker hands back gives the stored bytes in order. -/
theorem ord_stops (n : Nat) (hn : 1 ≤ n) (Bs g : Nat) (T : Tab) (w : World) (hB : Bs < w.heap.size) (hc : w.cell? ⟨Bs, 0, none⟩ = some (.pointer (some ⟨g, 0, none⟩))) (hg : Blk w g (tabC T)) :
    SeqStopsK Fence.wide n Try.prog 77 #[.pointer (some ⟨Bs, 0, none⟩)] encB (KpT g Bs T) (fun xs => valsP xs = ordTo T 32) (fun pre => ∃ k b, k < 32 ∧ T k = some b ∧ valsP pre = ordTo T k ++ [(k, b)]) 32 w := fun l J Jx W hW _ _ hY h0 =>
  ord1 n hn l Bs g T J Jx hY W ((hW.cell (p := ⟨Bs, 0, none⟩) hB).trans hc) (hg.below hW) h0
end Go.Proofs.Ytpbnkkgfjmkcdaa
