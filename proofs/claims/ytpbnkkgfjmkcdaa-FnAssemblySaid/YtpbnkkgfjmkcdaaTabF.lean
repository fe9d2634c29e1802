/- first: the bytes that have no hole before them. Nothing here is a claim. -/
import Derived.Test.YtpbnkkgfjmkcdaaTabI
import Derived.RangeFuncBox
namespace Go.Proofs.Ytpbnkkgfjmkcdaa
open Go.RowKit Go.Lib Go.Shelf

attribute [local go_sem] Oper.semAt_some

/-- How a body is left by break. -/
def BrkT (I : List PB → World → Prop) (G : List PB → PB → Prop) (id : Nat) : Code → List PB → World → Prop := fun c pre W => c = .exit id ∧ ∃ p y, pre = p ++ [y] ∧ I p W ∧ G p y
theorem brk_own {B : Nat} {I : List PB → World → Prop} {G : List PB → PB → Prop} {id : Nat} (h : OwnFrom B I) (c : Code) : OwnFrom B (BrkT I G id c) := by
  rintro s X Y row ⟨hc, p, y, hp, hi, hg⟩ hgr hr
  exact ⟨hc, p, y, hp, h p X Y row hi hgr hr, hg⟩
/-- What is known within first's loop. -/
def FstI (w : World) (g : Nat) (pre : List PB) (W : World) : Prop :=
  ((∃ v, Boxed W w.heap.size 22 v ∧ W.ownsRow w.heap.size 5 1 v pre.length (byteCells (bytesP (valsP pre))) ∧ True) ∧ Boxed W (w.heap.size + 1) 55 (.pointer (some ⟨g, 0, none⟩))) ∧ (Below w.heap.size w W ∧ Tight (valsP pre))
theorem fstI_own (w : World) (g B : Nat) (hB : w.heap.size ≤ B) : OwnFrom B (FstI w g) :=
  OwnFrom.and (OwnFrom.and (Own.from (holdsRow_own w.heap.size w.heap.size 22 5 1 (fun pre : List PB => pre.length) (fun pre => byteCells (bytesP (valsP pre))) (fun _ _ => True)) _) (Own.from (boxed_own _ _ _) _)) (OwnFrom.and (ownFrom_below (Nat.le_refl _) hB) (ownFrom_pure _ _))
theorem own_shapeN {w : World} {base size n : Nat} {e : TypeId} {v : Value} {xs : List Value} (h : w.ownsRow base e size v n xs) : ∃ a cap, v = .slice a n cap := by
  rcases h.2 with ⟨rfl, rfl⟩ | ⟨g, cap, cur, rfl, _⟩
  · exact ⟨none, 0, rfl⟩
  · exact ⟨_, cap, rfl⟩
theorem bytesP_snoc (xs : List (Nat × UInt8)) (y : Nat × UInt8) : bytesP (xs ++ [y]) = bytesP xs ++ [y.2] := by simp [bytesP]

set_option maxRecDepth 100000 in
set_option maxHeartbeats 8000000 in
theorem first_in (n : Nat) (hn : 3 ≤ n) (g : Nat) (T : Tab) (h32 : T 32 = none) (w : World) (h : Blk w g (tabC T)) :
    CallsIn Fence.wide n Try.prog 69 #[.pointer (some ⟨g, 0, none⟩)] w fun e w' => e = .returned (.string (got T (cnt T))) ∧ Below w.heap.size w w' := by
  have h1 : 1 ≤ n := by omega
  obtain ⟨iu, hiu, hu0, hu1, hu2⟩ := info_parts Try.info5
  have hgl := h.lt
  have hf1 : Fence.wide.fn 68 := trivial
  refine callsIn_of_wp_marks Try.func69 rfl trivial ?_ rfl
  simp only [Try.ntmps69, List.size_toArray, List.length_cons, List.length_nil, Nat.reduceAdd, Nat.reduceSub, Array.replicate_succ, Array.replicate_zero, List.push_toArray, List.append_toArray, List.nil_append, List.cons_append]
  gi_wp2_with (gi_at_call 68; refine (ordMk (n - 1) g _).mono ?_; rintro e w' ⟨rfl, rfl⟩)
  have bT := (Boxed.new w 22 (.slice none 0 0)).alloc (.cells #[.pointer (some ⟨g, 0, none⟩)] 55)
  have bN := Boxed.new (w.alloc (.cells #[.slice none 0 0] 22)) 55 (.pointer (some ⟨g, 0, none⟩))
  rw [World.size_alloc] at bN
  have hB0 : Below w.heap.size w ((w.alloc (.cells #[.slice none 0 0] 22)).alloc (.cells #[.pointer (some ⟨g, 0, none⟩)] 55)) := ((Below.refl _ w).alloc (Nat.le_refl _) _).alloc (by simp) _
  have hK0 : Blk ((w.alloc (.cells #[.slice none 0 0] 22)).alloc (.cells #[.pointer (some ⟨g, 0, none⟩)] 55)) g (tabC T) := (h.alloc _).alloc _
  have hsz : ((w.alloc (.cells #[.slice none 0 0] 22)).alloc (.cells #[.pointer (some ⟨g, 0, none⟩)] 55)).heap.size = w.heap.size + 2 := by simp
  obtain ⟨W0, hW0⟩ : ∃ W0, ((w.alloc (.cells #[.slice none 0 0] 22)).alloc (.cells #[.pointer (some ⟨g, 0, none⟩)] 55)) = W0 := ⟨_, rfl⟩
  rw [hW0] at bT bN hB0 hK0 hsz ⊢
  clear hW0
  refine wpIn_rangeFunc_ownH rfl h1 (gf := 77) (lb := #[.pointer (some ⟨w.heap.size + 1, 0, none⟩)]) rfl trivial (enters_of Try.func77 (by kernel_rfl) rfl)
    (ord_stops (n - 1) (by omega) (w.heap.size + 1) g T W0 (by omega) bN.cell hK0) kpT_t kpT_b (Below.refl _ _) (fun _ => rfl)
    (FstI w g) (BrkT (FstI w g) (fun p y => p.length < y.1.1) 0) (fstI_own w g _ (by omega)) (brk_own (fstI_own w g _ (by omega)))
    ⟨⟨⟨_, bT, World.ownsRow_nil _ _ _ _, trivial⟩, bN⟩, hB0, fun i hi => by simp [valsP] at hi⟩
    (fun x a' _ => a' = { tmps := #[.pointer (some ⟨g, 0, none⟩), undef, .string ⟨#[]⟩, .pointer (some ⟨w.heap.size, 0, none⟩), .int .i64 (x.1.1 : Int), .int .u8 (x.1.2.toNat : Int), .pointer (some ⟨g, 0, none⟩), .func (.func 77) #[] #[.pointer (some ⟨w.heap.size + 1, 0, none⟩)], .int .i64 (x.1.1 : Int), .int .u8 (x.1.2.toNat : Int), undef, undef, undef, undef, undef, undef, undef, undef, undef, undef], defers := [] })
    (fun x a' => ownFrom_pure _ (fun (_ : Unit) => _)) ?assign ?body ?done ?stop
  case assign =>
    rintro l pre x W K hI hK
    dsimp only [encB]
    gi_wp2
    exact hK _ _ (KeepsFrom.refl _ _) ⟨id, fun _ h => h⟩ hI rfl
  case body =>
    rintro l pre x a' W _ _ ⟨⟨⟨v, hv, hrow, _⟩, bS⟩, hB, hT⟩ rfl hlt
    obtain ⟨a, cp, rfl⟩ := own_shapeN hrow
    have hc := hv.cell
    have hx8 := x.1.2.toNat_lt
    have hxo := x.2
    by_cases hgt : pre.length < x.1.1
    · gi_wp2
      exact ⟨KeepsFrom.refl _ _, rfl, pre, x, rfl, ⟨⟨⟨_, hv, hrow, trivial⟩, bS⟩, hB, hT⟩, hgt⟩
    · have hgi : ¬ (pre.length : Int) < (x.1.1 : Int) := by omega
      gi_wp2_with (gi_at_builtin; refine wpListIn_append_own _ rfl _ _ 22 rfl w.heap.size 5 iu (.int .u8 0) 1 1 Try.underlying22 hiu hu0 hu1 hu2 rfl (by decide) _ _ _ rfl (hrow.alloc _) ⟨W.heap.size, 0, none⟩ 1 1 [.int .u8 (x.1.2.toNat : Int)] rfl rfl (cell_one_new _ _ _) (by simp [Value.oneCell']) (by unfold maxLen; omega) (by omega) (by have := hB.size; simp; omega) ?_; intro v' w1 hown' hgrow _; obtain ⟨g', cap', rfl⟩ := ownsRow_succ hown'; obtain ⟨hv1, hv2, hr2, hk2, hb2⟩ := hv.appended (by decide) hrow hB.size (Nat.le_refl _) hown' hgrow; have hc1 := hv1.cell; have hf1 := hv1.frozen)
      have bS0 := bS.alloc (.cells #[.int .u8 (x.1.2.toNat : Int)] 5)
      have bS1 := (bS0.kept hgrow (bS0.not_row (by decide) (hrow.alloc (.cells #[.int .u8 (x.1.2.toNat : Int)] 5)))).other (by omega : w.heap.size + 1 ≠ w.heap.size) (.slice (some ⟨g', 0, none⟩) (pre.length + 1) cap')
      refine ⟨hk2.from _, ⟨fun k => blk_under k hb2 hgl, fun u hu => by rw [bS.cell] at hu; cases hu; exact bS1.cell⟩, ⟨⟨⟨_, hv2, ?_, trivial⟩, bS1⟩, hB.trans hb2, ?_⟩⟩
      · rw [valsP_snoc, bytesP_snoc, byteCells_append, List.length_append]
        exact hr2
      · rw [valsP_snoc]
        exact hT.snoc (by rw [valsP_length]; omega)
  case done =>
    rintro D ys W hD hS ⟨⟨⟨v, hv, hrow, _⟩, bS⟩, hB, hT⟩ hK
    rw [hS] at hT hrow
    have e1 := tight_all h32 hT
    have hc := hv.cell
    have hcv := run_string_own (P := Try.prog) Try.underlying22 Try.underlying5 Try.underlying9 hrow
    obtain ⟨a, cp, rfl⟩ := own_shapeN hrow
    rw [e1] at hcv
    gi_wp2
    refine ⟨by simp, .inl ⟨_, _, rfl, run_takeDeferred hK, ?_⟩⟩
    exact ⟨_, results_tmp rfl _ _ _, rfl, hB.trans (belowK_b (w := w) (Nat.le_refl _) W D _ _ (by omega) hK rfl rfl)⟩
  case stop =>
    rintro D c pre W hD ⟨k, b, hk, hTk, hv0⟩ ⟨rfl, p, y, rfl, ⟨⟨⟨v, hv, hrow, _⟩, bS⟩, hB, hT⟩, hgt⟩ hK
    rw [valsP_snoc] at hv0
    obtain ⟨e1, e2⟩ := List.append_inj' hv0 rfl
    have e3 : y.1 = (k, b) := List.head_eq_of_cons_eq e2
    have hl := valsP_length p
    rw [e1] at hT hrow hl
    have e4 := tight_stop hk hT (by rw [hl]; rw [e3] at hgt; exact hgt)
    have hc := hv.cell
    have hcv := run_string_own (P := Try.prog) Try.underlying22 Try.underlying5 Try.underlying9 hrow
    obtain ⟨a, cp, rfl⟩ := own_shapeN hrow
    rw [e4] at hcv
    gi_wp2
    refine ⟨by simp, .inl ⟨_, _, rfl, run_takeDeferred hK, ?_⟩⟩
    exact ⟨_, results_tmp rfl _ _ _, rfl, hB.trans (belowK_b (w := w) (Nat.le_refl _) W D _ _ (by omega) hK rfl rfl)⟩
theorem firstI (g : Nat) (T : Tab) (h32 : T 32 = none) (w : World) (h : Blk w g (tabC T)) : Calls Try.prog 69 #[.pointer (some ⟨g, 0, none⟩)] w fun e w' => e = .returned (.string (got T (cnt T))) ∧ Below w.heap.size w w' :=
  (callsIn_wide (n := 5)).1 (first_in 5 (by decide) g T h32 w h)
end Go.Proofs.Ytpbnkkgfjmkcdaa
