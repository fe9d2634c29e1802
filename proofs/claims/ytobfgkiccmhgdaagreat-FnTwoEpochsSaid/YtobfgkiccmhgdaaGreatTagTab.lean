/- impl's tagTableOf: a new map with each input's first value. Nothing here is a claim. -/
import Derived.Test.YtobfgkiccmhgdaaGreatBackM
import Derived.Maps.OwnIn
import Derived.StringKeys
namespace Go.Proofs.YtobfgkiccmhgdaaGreat
open Go.RowKit Go.Lib Go.Shelf

attribute [local go_sem] Oper.semAt_some

theorem run_makeMapN {P : Program} {t k e : TypeId} (ht : P.underlying t = some (.map k e)) (q : IntKind) (n : Int) (w : World) : (Instr.makeMap t (some (.int q n))).run P w = .ok (.map (some w.heap.size)) (w.alloc (.map #[] 0)) := by
  simp [Instr.makeMap, run_underlying ht, go_sem]

/-- A table row's box. -/
def BoxR (W : World) (B : Nat) (r : MR) : Prop := W.heap[B]? = some (.cells #[.string r.s, .int .i64 r.v] 72 (0, 0))
theorem BoxR.lt {W : World} {B : Nat} {r : MR} (h : BoxR W B r) : B < W.heap.size := (Array.getElem?_eq_some_iff.1 h).1
theorem BoxR.cells {W : World} {B : Nat} {r : MR} (h : BoxR W B r) : W.cell? ⟨B, 0, none⟩ = some (.string r.s) ∧ W.cell? ⟨B, 1, none⟩ = some (.int .i64 r.v) := by
  constructor <;> simp [World.cell?, show W.heap[B]? = _ from h]
theorem BoxR.new (W : World) (r : MR) : BoxR (W.alloc (.cells #[.string r.s, .int .i64 r.v] 72)) W.heap.size r := World.alloc_heap_new W _
theorem boxR_own {B : Nat} {r : MR} {X Y : World} {row : Option Nat} (h : BoxR X B r) (hg : X.grownBy Y row) (hr : ∀ q, row = some q → ∃ o : Obj, X.heap[q]? = some o ∧ o.isCells = false) : BoxR Y B r :=
  (hg.block B h.lt (fun e => by obtain ⟨o, ho, hc⟩ := hr B e.symm; rw [show X.heap[B]? = _ from h] at ho; cases ho; cases hc)).trans h

/-- What tagTableOf hands back. -/
def TagEnd (rs : List MR) (w : World) (e : Ending) (w' : World) : Prop :=
  ∃ b, e = .returned (.map (some b)) ∧ w'.ownsMap Tryz.prog 9 (plainElem Tryz.prog 3) b rs.length (tabD rs) ∧ w.heap.size ≤ b ∧ Below w.heap.size w w'

set_option maxRecDepth 100000 in
set_option maxHeartbeats 4000000 in
theorem tagTab_in (F : Fence) (n : Nat) (h1f : F.fn 48) (h2f : F.fn 61) (h3f : F.fn 71) (hro : F.round = none) (hn : 3 ≤ n)
    (a : Option Addr) (cap : Nat) (rs : List MR) (hl : rs.length ≤ 1048577) (hg : ∀ r ∈ rs, goodM r) (w : World) (hrow : Row w w.heap.size a (mrs rs)) :
    CallsIn F n Tryz.prog 48 #[.slice a rs.length cap] w (TagEnd rs w) := by
  have h1 : 1 ≤ n := by omega
  have hmm := fun (q : IntKind) (m : Int) (w : World) => run_makeMapN (P := Tryz.prog) (t := 76) Tryz.underlying76 q m w
  refine callsIn_of_wp_marks Tryz.func48 rfl h1f ?_ hro
  simp only [Tryz.ntmps48, List.size_toArray, List.length_cons, List.length_nil, Nat.reduceAdd, Nat.reduceSub, Array.replicate_succ, Array.replicate_zero, List.push_toArray, List.append_toArray, List.nil_append, List.cons_append]
  gi_wp2_with (gi_at_call 61; refine (back_in F (n - 1) h2f hro _ _ _ _).mono ?_; rintro e w' ⟨rfl, rfl⟩)
  have bS := (Boxed.new (w.alloc (.map #[] 0)) 76 (.map (some w.heap.size))).alloc (.cells #[.slice a rs.length cap] 25)
  have bN := Boxed.new ((w.alloc (.map #[] 0)).alloc (.cells #[.map (some w.heap.size)] 76)) 25 (.slice a rs.length cap)
  have hm0 := ((World.ownsMap_made w Tryz.prog 9 (plainElem (H := Unit) Tryz.prog 3)).alloc (.cells #[.map (some w.heap.size)] 76)).alloc (.cells #[.slice a rs.length cap] 25)
  simp only [World.size_alloc] at bS bN
  have hB0 : Below w.heap.size w (((w.alloc (.map #[] 0)).alloc (.cells #[.map (some w.heap.size)] 76)).alloc (.cells #[.slice a rs.length cap] 25)) := (((Below.refl _ w).alloc (Nat.le_refl _) _).alloc (by simp) _).alloc (by simp; omega) _
  have hsz : (((w.alloc (.map #[] 0)).alloc (.cells #[.map (some w.heap.size)] 76)).alloc (.cells #[.slice a rs.length cap] 25)).heap.size = w.heap.size + 3 := by simp
  obtain ⟨W0, hW0⟩ : ∃ W0, ((w.alloc (.map #[] 0)).alloc (.cells #[.map (some w.heap.size)] 76)).alloc (.cells #[.slice a rs.length cap] 25) = W0 := ⟨_, rfl⟩
  rw [hW0] at bS bN hm0 hB0 hsz ⊢
  clear hW0
  refine wpIn_rangeFunc_ownH hro h1 (gf := 71) (lb := #[.pointer (some ⟨w.heap.size + 1 + 1, 0, none⟩)]) rfl h3f (enters_of Tryz.func71 (by kernel_rfl) rfl)
    (back_stops F (n - 1) h3f hro (by omega) (w.heap.size + 1 + 1) w.heap.size a cap rs hl hg W0 (by omega) (by omega) bN.cell (hrow.below hB0)) kpB_t (kpB_b (by omega)) (Below.refl _ _) (fun _ => rfl)
    (fun pre W => (Boxed W (w.heap.size + 1) 76 (.map (some w.heap.size)) ∧ W.ownsMap Tryz.prog 9 (plainElem Tryz.prog 3) w.heap.size pre.length (tabD (rowsOf pre).reverse)) ∧ Below w.heap.size w W)
    (fun _ _ _ => False)
    (OwnFrom.and (OwnFrom.and (Own.from (boxed_own _ _ _) _) (fun s X Y row hs hg' hr => hs.kept hg' (fun e => by have := (hr _ e.symm).1; omega))) (ownFrom_below (Nat.le_refl _) (by omega)))
    (fun _ _ _ _ _ hs _ _ => hs)
    ⟨⟨bS, hm0⟩, hB0⟩
    (fun x a' W => ∃ Bx, w.heap.size + 1 < Bx ∧ BoxR W Bx x.1.2 ∧ a' = { tmps := #[.slice a rs.length cap, undef, .map none, .pointer (some ⟨w.heap.size + 1, 0, none⟩), undef, .pointer (some ⟨Bx, 0, none⟩), .slice a rs.length cap, .int .i64 rs.length, .map (some w.heap.size), .slice a rs.length cap, .func (.func 71) #[] #[.pointer (some ⟨w.heap.size + 1 + 1, 0, none⟩)], .int .i64 x.1.1, .agg #[.string x.1.2.s, .int .i64 x.1.2.v], undef, undef, undef, undef, undef, undef], defers := [] })
    (fun x a' _ X Y row hs hg' hr => by obtain ⟨Bx, h1, h2, h3⟩ := hs; exact ⟨Bx, h1, boxR_own h2 hg' (fun r e => (hr r e).2), h3⟩)
    ?assign ?body ?done ?stop
  case assign =>
    rintro l pre x W K ⟨⟨bS1, hm1⟩, hB1⟩ hK
    have hs1 := hm1.lt
    dsimp only [encP]
    gi_wp2
    exact hK _ _ ((KeepsOthers.alloc _ _).from _) ⟨(Below.refl _ W).alloc hB1.size _, fun v hv => cell_kept hv (World.grownBy_alloc W _ none) (fun r e => by cases e)⟩ ⟨⟨bS1.alloc _, hm1.alloc _⟩, hB1.alloc hB1.size _⟩ ⟨W.heap.size, bS1.lt, BoxR.new W _, rfl⟩
  case body =>
    rintro l pre x a' W hl2 _ ⟨⟨bS1, hm1⟩, hB1⟩ ⟨Bx, hBx, bX, rfl⟩ hlt
    have cS := bS1.cell
    obtain ⟨cX0, cX1⟩ := bX.cells
    obtain ⟨gx1, gx2⟩ := x.2
    gi_wp2_with (gi_at_mapUpdate; refine wpListIn_mapUpdate_own _ rfl _ _ _ 76 rfl 9 3 (Maps.string_keyed Tryz.underlying9) Tryz.underlying76 _ w.heap.size pre.length _ rfl hm1 (by unfold maxLen; omega) _ _ (kx x.1.2.s) rfl rfl (WideMaps.keyOf_string_mk Tryz.underlying9 gx1) _ [] (plainElem_int Tryz.underlying3 gx2) ?_; intro w1 hown1 hgrow1)
    obtain ⟨es, ck, hh, _⟩ := hm1
    exact ⟨KeepsFrom.of_grownBy hgrow1 (fun j e => by cases e; omega), ⟨(Below.refl _ W).grown hgrow1 hB1.size (fun k e => by cases e; exact Nat.le_refl _), fun v hv => cell_kept hv hgrow1 (fun r e => by cases e; exact ⟨_, hh, rfl⟩)⟩,
      ⟨bS1.kept hgrow1 (fun e => by injection e with e; omega), by rw [rowsOf_snoc, List.reverse_append, List.length_append]; exact hown1⟩, hB1.grown hgrow1 hB1.size (fun k e => by cases e; exact Nat.le_refl _)⟩
  case done =>
    rintro D ys W hD hS ⟨⟨bS1, hm1⟩, hB1⟩ hK
    have cS := bS1.cell
    gi_wp2
    refine ⟨by simp, .inl ⟨_, _, rfl, run_takeDeferred hK, ?_⟩⟩
    have hlen : ys.length = rs.length := by have := congrArg List.length hS; simpa [rowsOf] using this
    rw [hS, List.reverse_reverse, hlen] at hm1
    exact ⟨_, results_tmp rfl _ _ _, w.heap.size, rfl, hm1.kept (grownBy_putObj' _ D _) (fun e => by cases e; omega), Nat.le_refl _, hB1.trans (belowK_b (w := w) (Nat.le_refl _) W D _ _ (by omega) hK rfl rfl)⟩
  case stop =>
    rintro D c pre W _ _ h _
    exact h.elim

theorem tagTab (a : Option Addr) (cap : Nat) (rs : List MR) (hl : rs.length ≤ 1048577) (hg : ∀ r ∈ rs, goodM r) (w : World) (hrow : Row w w.heap.size a (mrs rs)) :
    Calls Tryz.prog 48 #[.slice a rs.length cap] w (TagEnd rs w) :=
  (callsIn_wide (n := 5)).1 (tagTab_in Fence.wide 5 trivial trivial trivial rfl (by decide) a cap rs hl hg w hrow)
end Go.Proofs.YtobfgkiccmhgdaaGreat
