/- end: one more than the last stored offset. Nothing here is a claim. -/
import Derived.Test.YtpbnkkgfjmkcdaaTabI
import Derived.RangeFuncBox
namespace Go.Proofs.Ytpbnkkgfjmkcdaa
open Go.RowKit Go.Lib Go.Shelf

attribute [local go_sem] Oper.semAt_some

def TabEndI (w : World) (g : Nat) (pre : List PB) (W : World) : Prop :=
  (Boxed W w.heap.size 3 (.int .i64 (lastP (valsP pre) : Int)) ∧ Boxed W (w.heap.size + 1) 55 (.pointer (some ⟨g, 0, none⟩))) ∧ Below w.heap.size w W
theorem tabEndI_own (w : World) (g B : Nat) (hB : w.heap.size ≤ B) : OwnFrom B (TabEndI w g) :=
  OwnFrom.and (OwnFrom.and (Own.from (boxed_own _ _ (fun pre : List PB => .int .i64 (lastP (valsP pre) : Int))) _) (Own.from (boxed_own _ _ _) _)) (ownFrom_below (Nat.le_refl _) hB)
set_option maxRecDepth 100000 in
set_option maxHeartbeats 8000000 in
theorem tabEnd_in (n : Nat) (hn : 3 ≤ n) (g : Nat) (T : Tab) (w : World) (h : Blk w g (tabC T)) :
    CallsIn Fence.wide n Try.prog 38 #[.pointer (some ⟨g, 0, none⟩)] w fun e w' => e = .returned (.int .i64 (lastP (ordTo T 32) : Int)) ∧ Below w.heap.size w w' := by
  have h1 : 1 ≤ n := by omega
  have hgl := h.lt
  have hf1 : Fence.wide.fn 68 := trivial
  refine callsIn_of_wp_marks Try.func38 rfl trivial ?_ rfl
  simp only [Try.ntmps38, List.size_toArray, List.length_cons, List.length_nil, Nat.reduceAdd, Nat.reduceSub, Array.replicate_succ, Array.replicate_zero, List.push_toArray, List.append_toArray, List.nil_append, List.cons_append]
  gi_wp2_with (gi_at_call 68; refine (ordMk (n - 1) g _).mono ?_; rintro e w' ⟨rfl, rfl⟩)
  have bT := (Boxed.new w 3 (.int .i64 0)).alloc (.cells #[.pointer (some ⟨g, 0, none⟩)] 55)
  have bN := Boxed.new (w.alloc (.cells #[.int .i64 0] 3)) 55 (.pointer (some ⟨g, 0, none⟩))
  rw [World.size_alloc] at bN
  have hB0 : Below w.heap.size w ((w.alloc (.cells #[.int .i64 0] 3)).alloc (.cells #[.pointer (some ⟨g, 0, none⟩)] 55)) := ((Below.refl _ w).alloc (Nat.le_refl _) _).alloc (by simp) _
  have hK0 : Blk ((w.alloc (.cells #[.int .i64 0] 3)).alloc (.cells #[.pointer (some ⟨g, 0, none⟩)] 55)) g (tabC T) := (h.alloc _).alloc _
  have hsz : ((w.alloc (.cells #[.int .i64 0] 3)).alloc (.cells #[.pointer (some ⟨g, 0, none⟩)] 55)).heap.size = w.heap.size + 2 := by simp
  obtain ⟨W0, hW0⟩ : ∃ W0, ((w.alloc (.cells #[.int .i64 0] 3)).alloc (.cells #[.pointer (some ⟨g, 0, none⟩)] 55)) = W0 := ⟨_, rfl⟩
  rw [hW0] at bT bN hB0 hK0 hsz ⊢
  clear hW0
  refine wpIn_rangeFunc_ownH rfl h1 (gf := 77) (lb := #[.pointer (some ⟨w.heap.size + 1, 0, none⟩)]) rfl trivial (enters_of Try.func77 (by kernel_rfl) rfl)
    (ord_stops (n - 1) (by omega) (w.heap.size + 1) g T W0 (by omega) bN.cell hK0) kpT_t kpT_b (Below.refl _ _) (fun _ => rfl)
    (TabEndI w g) (fun _ _ _ => False) (tabEndI_own w g _ (by omega)) (fun _ _ _ _ _ hs _ _ => hs)
    ⟨⟨bT, bN⟩, hB0⟩
    (fun x a' _ => a' = { tmps := #[.pointer (some ⟨g, 0, none⟩), undef, .int .i64 0, .pointer (some ⟨w.heap.size, 0, none⟩), .int .i64 (x.1.1 : Int), .pointer (some ⟨g, 0, none⟩), .func (.func 77) #[] #[.pointer (some ⟨w.heap.size + 1, 0, none⟩)], .int .i64 (x.1.1 : Int), .int .u8 (x.1.2.toNat : Int), undef, undef, undef], defers := [] })
    (fun x a' => ownFrom_pure _ (fun (_ : Unit) => _)) ?assign ?body ?done ?stop
  case assign =>
    rintro l pre x W K hI hK
    dsimp only [encB]
    gi_wp2
    exact hK _ _ (KeepsFrom.refl _ _) ⟨id, fun _ h => h⟩ hI rfl
  case body =>
    rintro l pre x a' W _ _ ⟨⟨hv, bS⟩, hB⟩ rfl hlt
    have hc := hv.cell
    have hf := hv.frozen
    have hxo := x.2
    have hw : IntKind.i64.wrap ((x.1.1 : Int) + 1) = ((x.1.1 + 1 : Nat) : Int) := by rw [show ((x.1.1 : Int) + 1) = ((x.1.1 + 1 : Nat) : Int) by omega]; exact IntWalk.i64_in _ (by omega)
    gi_wp2
    have hb2 : Below w.heap.size W (W.setCell ⟨w.heap.size, 0, none⟩ (.int .i64 ((x.1.1 : Int) + 1))) := (Below.refl w.heap.size W).setCell (p := ⟨w.heap.size, 0, none⟩) (Nat.le_refl _) _
    have bS1 := bS.other (by omega : w.heap.size + 1 ≠ w.heap.size) (.int .i64 ((x.1.1 : Int) + 1))
    refine ⟨(KeepsOthers.setCell _ _ _).from _, ⟨fun k => blk_under k hb2 hgl, fun u hu => by rw [bS.cell] at hu; cases hu; exact bS1.cell⟩, ⟨⟨?_, bS1⟩, hB.trans hb2⟩⟩
    rw [valsP_snoc, lastP_snoc]
    exact hv.set _
  case done =>
    rintro D ys W hD hS ⟨⟨hv, bS⟩, hB⟩ hK
    rw [hS] at hv
    have hc := hv.cell
    gi_wp2
    refine ⟨by simp, .inl ⟨_, _, rfl, run_takeDeferred hK, ?_⟩⟩
    exact ⟨_, results_tmp rfl _ _ _, rfl, hB.trans (belowK_b (w := w) (Nat.le_refl _) W D _ _ (by omega) hK rfl rfl)⟩
  case stop =>
    rintro D c pre W _ _ h _
    exact h.elim
theorem tabEndI (g : Nat) (T : Tab) (w : World) (h : Blk w g (tabC T)) : Calls Try.prog 38 #[.pointer (some ⟨g, 0, none⟩)] w fun e w' => e = .returned (.int .i64 (lastP (ordTo T 32) : Int)) ∧ Below w.heap.size w w' :=
  (callsIn_wide (n := 5)).1 (tabEnd_in 5 (by decide) g T w h)
end Go.Proofs.Ytpbnkkgfjmkcdaa
