/- piecesBehind: what is stored behind the first bytes, in maximal pieces. Nothing here is a claim. -/
import Derived.Test.YtpbnkkgfjmkcdaaTabI
import Derived.RangeFuncBox
import Derived.Test.YtpbnkkgfjmkcdaaRoundHeld
import Derived.Test.YtpbnkkgfjmkcdaaTabF
import Derived.Test.YtpbnkkgfjmkcdaaRcvC
import Derived.Test.YtpbnkkgfjmkcdaaPieS
import Derived.Test.YtpbnkkgfjmkcdaaRowN
namespace Go.Proofs.Ytpbnkkgfjmkcdaa
open Go.RowKit Go.Lib Go.Shelf

attribute [local go_sem] Oper.semAt_some

/-- What is known of pieces while they are gathered. -/
def MidP (L : List HP) (j : Nat) : Prop := L.length ≤ j ∧ (∀ r ∈ L, r.t.size ≤ j ∧ 0 ≤ r.o ∧ r.o ≤ 100)
theorem MidP.step {L : List HP} {j : Nat} (h : MidP L j) {o : Int} (h0 : 0 ≤ o) (h1 : o ≤ 100) (b : UInt8) : MidP (stepP L o b) (j + 1) := by
  by_cases e : lastEnd L = some o
  · obtain ⟨m, hm, _, e1, e2⟩ := stepP_old2 (b := b) e
    rw [e1]
    refine ⟨by rw [List.length_set]; have := h.1; omega, fun r hr => ?_⟩
    rcases List.mem_or_eq_of_mem_set hr with h1 | rfl
    · have := h.2 r h1; omega
    · have := h.2 _ (List.getElem_mem hm)
      refine ⟨?_, this.2.1, this.2.2⟩
      simp only [ByteArray.size_push]
      omega
  · rw [stepP_new e]
    refine ⟨by rw [List.length_append]; have := h.1; simp; omega, fun r hr => ?_⟩
    rcases List.mem_append.1 hr with h2 | h2
    · have := h.2 r h2; omega
    · obtain rfl := List.mem_singleton.1 h2
      exact ⟨by show 1 ≤ j + 1; omega, h0, h1⟩
theorem MidP.more {L : List HP} {j : Nat} (h : MidP L j) : MidP L (j + 1) := ⟨by have := h.1; omega, fun r hr => by have := h.2 r hr; omega⟩
/-- What is known within piecesBehind's loop. -/
def PcsI (w : World) (g c : Nat) (pre : List PB) (W : World) : Prop :=
  ∃ (L : List HP) (q : Int) (v : Value), L = pcsL c (valsP pre) ∧ ((L = [] ∧ q = -1) ∨ lastEnd L = some (q - c)) ∧ (Boxed W (w.heap.size + 1) 24 v ∧ W.ownsRow w.heap.size 64 2 v L.length (hps L)) ∧ Boxed W (w.heap.size + 2) 3 (.int .i64 q) ∧ Boxed W w.heap.size 3 (.int .i64 (c : Int)) ∧ Boxed W (w.heap.size + 3) 55 (.pointer (some ⟨g, 0, none⟩)) ∧ Below w.heap.size w W ∧ MidP L pre.length
theorem boxed_obj {X Y : World} {B : Nat} {t : TypeId} {v : Value} {row : Option Nat} (h : Boxed X B t v) (hg : X.grownBy Y row) (hr : ∀ r, row = some r → ∃ o : Obj, X.heap[r]? = some o ∧ o.isCells = false) : Boxed Y B t v :=
  h.kept hg (fun e => by obtain ⟨o, ho, hc⟩ := hr B e.symm; rw [show X.heap[B]? = _ from h] at ho; cases ho; cases hc)
theorem own_obj {X Y : World} {base size n : Nat} {e : TypeId} {v : Value} {xs : List Value} {row : Option Nat} (h : X.ownsRow base e size v n xs) (hg : X.grownBy Y row) (hr : ∀ r, row = some r → ∃ o : Obj, X.heap[r]? = some o ∧ o.isCells = false) : Y.ownsRow base e size v n xs := by
  refine h.kept hg ?_
  rcases h.2 with ⟨rfl, _⟩ | ⟨g, cap, cur, rfl, _, hgb, _⟩
  · exact .inl rfl
  · refine .inr fun e' => ?_
    obtain ⟨o, ho, hc⟩ := hr g (by simpa [Value.ownBlock] using e'.symm)
    rw [hgb] at ho; cases ho; cases hc
theorem pcsI_own (w : World) (g c B : Nat) (hB : w.heap.size ≤ B) : OwnFrom B (PcsI w g c) := by
  rintro s X Y row ⟨L, q, v, h1, h2, ⟨h3, h4⟩, h5, h6, h7, h8, h9⟩ hg hr
  have hr2 := fun r e => (hr r e).2
  exact ⟨L, q, v, h1, h2, ⟨boxed_obj h3 hg hr2, own_obj h4 hg hr2⟩, boxed_obj h5 hg hr2, boxed_obj h6 hg hr2, boxed_obj h7 hg hr2, h8.grown hg h8.size (fun k e => Nat.le_trans hB (hr k e).1), h9⟩

set_option maxRecDepth 100000 in
set_option maxHeartbeats 16000000 in
theorem pieces_in (n : Nat) (hn : 3 ≤ n) (g c : Nat) (hc32 : c ≤ 32) (T : Tab) (w : World) (h : Blk w g (tabC T)) :
    CallsIn Fence.wide n Try.prog 70 #[.pointer (some ⟨g, 0, none⟩), .int .i64 (c : Int)] w (NewP (pcs T c (32 - c)) w) := by
  have h1 : 1 ≤ n := by omega
  obtain ⟨i0, hi, hz0, hz1, hz2⟩ := info_parts Try.info64
  have hgl := h.lt
  have hf1 : Fence.wide.fn 68 := trivial
  refine callsIn_of_wp_marks Try.func70 rfl trivial ?_ rfl
  simp only [Try.ntmps70, List.size_toArray, List.length_cons, List.length_nil, Nat.reduceAdd, Nat.reduceSub, Array.replicate_succ, Array.replicate_zero, List.push_toArray, List.append_toArray, List.nil_append, List.cons_append]
  gi_wp2_with (gi_at_call 68; refine (ordMk (n - 1) g _).mono ?_; rintro e w' ⟨rfl, rfl⟩)
  have bC := (((Boxed.new w 3 (.int .i64 (c : Int))).alloc (.cells #[.slice none 0 0] 24)).alloc (.cells #[.int .i64 (-1)] 3)).alloc (.cells #[.pointer (some ⟨g, 0, none⟩)] 55)
  have bL := ((Boxed.new (w.alloc (.cells #[.int .i64 (c : Int)] 3)) 24 (.slice none 0 0)).alloc (.cells #[.int .i64 (-1)] 3)).alloc (.cells #[.pointer (some ⟨g, 0, none⟩)] 55)
  have bE := (Boxed.new ((w.alloc (.cells #[.int .i64 (c : Int)] 3)).alloc (.cells #[.slice none 0 0] 24)) 3 (.int .i64 (-1))).alloc (.cells #[.pointer (some ⟨g, 0, none⟩)] 55)
  have bS := Boxed.new (((w.alloc (.cells #[.int .i64 (c : Int)] 3)).alloc (.cells #[.slice none 0 0] 24)).alloc (.cells #[.int .i64 (-1)] 3)) 55 (.pointer (some ⟨g, 0, none⟩))
  simp only [World.size_alloc] at bL bE bS
  have hB0 : Below w.heap.size w ((((w.alloc (.cells #[.int .i64 (c : Int)] 3)).alloc (.cells #[.slice none 0 0] 24)).alloc (.cells #[.int .i64 (-1)] 3)).alloc (.cells #[.pointer (some ⟨g, 0, none⟩)] 55)) := ((((Below.refl _ w).alloc (Nat.le_refl _) _).alloc (by simp) _).alloc (by simp; omega) _).alloc (by simp; omega) _
  have hK0 : Blk ((((w.alloc (.cells #[.int .i64 (c : Int)] 3)).alloc (.cells #[.slice none 0 0] 24)).alloc (.cells #[.int .i64 (-1)] 3)).alloc (.cells #[.pointer (some ⟨g, 0, none⟩)] 55)) g (tabC T) := (((h.alloc _).alloc _).alloc _).alloc _
  have hsz : ((((w.alloc (.cells #[.int .i64 (c : Int)] 3)).alloc (.cells #[.slice none 0 0] 24)).alloc (.cells #[.int .i64 (-1)] 3)).alloc (.cells #[.pointer (some ⟨g, 0, none⟩)] 55)).heap.size = w.heap.size + 4 := by simp
  obtain ⟨W0, hW0⟩ : ∃ W0, ((((w.alloc (.cells #[.int .i64 (c : Int)] 3)).alloc (.cells #[.slice none 0 0] 24)).alloc (.cells #[.int .i64 (-1)] 3)).alloc (.cells #[.pointer (some ⟨g, 0, none⟩)] 55)) = W0 := ⟨_, rfl⟩
  rw [hW0] at bC bL bE bS hB0 hK0 hsz ⊢
  clear hW0
  refine wpIn_rangeFunc_ownH rfl h1 (gf := 77) (lb := #[.pointer (some ⟨w.heap.size + 3, 0, none⟩)]) rfl trivial (enters_of Try.func77 (by kernel_rfl) rfl)
    (ord_stops (n - 1) (by omega) (w.heap.size + 3) g T W0 (by omega) bS.cell hK0) kpT_t kpT_b (Below.refl _ _) (fun _ => rfl)
    (PcsI w g c) (fun _ _ _ => False) (pcsI_own w g c _ (by omega)) (fun _ _ _ _ _ hs _ _ => hs)
    ⟨[], -1, _, rfl, .inl ⟨rfl, rfl⟩, ⟨bL, World.ownsRow_nil _ _ _ _⟩, bE, bC, bS, hB0, Nat.le_refl _, fun _ h => by cases h⟩
    (fun x a' _ => a' = { tmps := #[.pointer (some ⟨g, 0, none⟩), .int .i64 (c : Int), undef, .pointer (some ⟨w.heap.size, 0, none⟩), .slice none 0 0, .pointer (some ⟨w.heap.size + 1, 0, none⟩), .pointer (some ⟨w.heap.size + 2, 0, none⟩), .int .i64 (x.1.1 : Int), .int .u8 (x.1.2.toNat : Int), .pointer (some ⟨g, 0, none⟩), .func (.func 77) #[] #[.pointer (some ⟨w.heap.size + 3, 0, none⟩)], .int .i64 (x.1.1 : Int), .int .u8 (x.1.2.toNat : Int), undef, undef, undef, undef, undef, undef, undef, undef, undef, undef, undef, undef, undef, undef, undef, undef, undef, undef, undef, undef, undef, undef, undef, undef, undef, undef, undef, undef, undef], defers := [] })
    (fun x a' => ownFrom_pure _ (fun (_ : Unit) => _)) ?assign ?body ?done ?stop
  case assign =>
    rintro l pre x W K hI hK
    dsimp only [encB]
    gi_wp2
    exact hK _ _ (KeepsFrom.refl _ _) ⟨id, fun _ h => h⟩ hI rfl
  case body =>
    rintro l pre x a' W _ _ ⟨L, q, v, hL, hq, ⟨bL, O⟩, bE, bC, bS, hB, hM⟩ rfl hlt
    have hcC := bC.cell
    have hcE := bE.cell
    have hxo := x.2
    have hx8 := x.1.2.toNat_lt
    replace hB := Lib.hid hB
    have hbS := Lib.hid bS
    by_cases hoc : x.1.1 < c
    · have hoci : (x.1.1 : Int) < (c : Int) := by omega
      gi_wp2
      exact ⟨KeepsFrom.refl _ _, ⟨id, fun _ h => h⟩, L, q, v, by rw [valsP_snoc, pcsL_snoc, if_pos hoc]; exact hL, hq, ⟨bL, O⟩, bE, bC, bS, hB.out, by rw [List.length_append]; exact hM.more⟩
    have hoci : ¬ (x.1.1 : Int) < (c : Int) := by omega
    have HStep := Lib.hid (show stepP L ((x.1.1 : Int) - c) x.1.2 = pcsL c (valsP (pre ++ [x])) by rw [valsP_snoc, pcsL_snoc, if_neg hoc, ← hL])
    have HMid := Lib.hid (show MidP (stepP L ((x.1.1 : Int) - c) x.1.2) (pre ++ [x]).length by rw [List.length_append]; exact hM.step (by omega) (by omega) x.1.2)
    have hw1 : IntKind.i64.wrap ((x.1.1 : Int) + 1) = (x.1.1 : Int) + 1 := IntWalk.i64_in _ (by omega)
    have hwc : IntKind.i64.wrap ((x.1.1 : Int) - (c : Int)) = (x.1.1 : Int) - (c : Int) := IntWalk.i64_in _ (by omega)
    have hLl := hM.1
    clear hL
    by_cases hqx : (x.1.1 : Int) = q
    · have hE : lastEnd L = some ((x.1.1 : Int) - c) := by rcases hq with ⟨_, h2⟩ | h2; exact absurd h2 (by omega); rw [hqx]; exact h2
      have hqb : ((x.1.1 : Int) == q) = true := by simpa using hqx
      have hqn : ((x.1.1 : Int) != q) = false := by simp [bne, hqb]
      obtain ⟨m, hml, hmn, e1, e3⟩ := stepP_old2 (b := x.1.2) hE
      have hpb := hM.2 _ (List.getElem_mem hml)
      obtain ⟨a, cp, rfl⟩ := own_shapeN O
      obtain ⟨gg, rfl⟩ : ∃ gg, a = some ⟨gg, 0, none⟩ := by
        obtain ⟨gg, cp', hv', _, _⟩ := O.form (by omega)
        injection hv' with h1
        exact ⟨gg, h1⟩
      have hct := (O.cellAt (m * 2 + 1) (by omega)).trans (hps_t L m hml)
      have HSet := Lib.hid (fun y => hps_set_t L m hml y)
      rw [← push_is] at e1
      generalize L[m].o = po at HSet e1 e3 hpb
      generalize L[m].t = pt at hct e1 e3 hpb
      obtain ⟨nL, hnL⟩ : ∃ k, L.length = k := ⟨_, rfl⟩
      have HLen := Lib.hid (show (stepP L ((x.1.1 : Int) - c) x.1.2).length = nL by rw [e1, List.length_set]; exact hnL)
      have HRow := Lib.hid (show hps (L.set m ⟨po, pt ++ ⟨#[x.1.2]⟩⟩) = hps (stepP L ((x.1.1 : Int) - c) x.1.2) by rw [e1])
      replace HSet := Lib.hid (show (hps L).set (m * 2 + 1) (.string (pt ++ ⟨#[x.1.2]⟩)) = hps (stepP L ((x.1.1 : Int) - c) x.1.2) from (HSet.out _).trans HRow.out)
      rw [hnL] at O bL hmn
      have hm0 : (0 : Int) ≤ (m : Int) := by omega
      have hm1 : (m : Int) < (nL : Int) := by omega
      have hwm : IntKind.i64.wrap ((nL : Int) - 1) = (m : Int) := by rw [show (nL : Int) - 1 = (m : Int) by omega]; exact IntWalk.i64_in _ (by omega)
      have hdn : ¬ 9223372036854775807 < pt.size + 1 := by omega
      have hcLL := bL.cell
      have KO := KeepsOthers.refl W
      have BW := Below.refl w.heap.size W
      clear e1 e3 hpb hnL hml hE hq hqx HRow hM
      replace hmn := Lib.hid hmn
      replace hLl := Lib.hid hLl
      gi_wp2
      have hcL := bL.cell
      refine wpIn_region_till (S := fun w' => w'.cell? ⟨w.heap.size + 1, 0, none⟩ = some (.slice (some ⟨gg, 0, none⟩) nL cp) ∧ w'.cell? ⟨gg, m * 2 + 1, none⟩ = some (.string pt)) 13 (by kernel_rfl) (by kernel_rfl) ⟨hcL, hct⟩ (fun hS => ?_)
      have C1 := Lib.hid (show W.drew.cell? ⟨w.heap.size + 1, 0, none⟩ = some (.slice (some ⟨gg, 0, none⟩) nL cp) from hcL)
      have D1 := Lib.hid (show W.drew.cell? ⟨gg, m * 2 + 1, none⟩ = some (.string pt) from hct)
      have O1 := Lib.hid (own_below O (Below.refl _ W).drew)
      have bL1 := Lib.hid (show Boxed W.drew (w.heap.size + 1) 24 (.slice (some ⟨gg, 0, none⟩) nL cp) from bL)
      have bE1 := Lib.hid (show Boxed W.drew (w.heap.size + 2) 3 (.int .i64 q) from bE)
      have bC1 := Lib.hid (show Boxed W.drew w.heap.size 3 (.int .i64 (c : Int)) from bC)
      have bS1 := Lib.hid (show Boxed W.drew (w.heap.size + 3) 55 (.pointer (some ⟨g, 0, none⟩)) from bS)
      have K1 := Lib.hid (KO.trans (KeepsOthers.drew W))
      have W1 := Lib.hid (BW.drew)
      clear hS hcL hct O bL bE bC bS KO BW
      generalize W.drew = v1 at C1 D1 O1 bL1 bE1 bC1 bS1 K1 W1 ⊢
      refine wpTill_take (i := 0) (v := .slice (some ⟨gg, 0, none⟩) nL cp) rfl (by kernel_rfl) (by kernel_rfl) (by kernel_rfl) (by kernel_rfl) (by kernel_rfl) (by kernel_rfl) (fun _ _ _ h => h) (Or.inl ⟨by kernel_rfl, by intro w hS; obtain ⟨s1, s2⟩ := hS; go_simp⟩) (fun _ => ⟨C1.out, D1.out⟩) ?_
      refine wpTill_take (i := 1) (v := .slice (some ⟨gg, 0, none⟩) nL cp) rfl (by kernel_rfl) (by kernel_rfl) (by kernel_rfl) (by kernel_rfl) (by kernel_rfl) (by kernel_rfl) (fun _ _ _ h => h) (Or.inl ⟨by kernel_rfl, by intro w hS; obtain ⟨s1, s2⟩ := hS; go_simp⟩) (fun _ => ⟨C1.out, D1.out⟩) ?_
      refine wpTill_takeU (i := 2) (v := .int .i64 (nL : Int)) rfl (by kernel_rfl) (by kernel_rfl) (by kernel_rfl) (by kernel_rfl) (fun _ _ _ h => h) (Or.inl ⟨by kernel_rfl, by intro w _; go_simp⟩) (fun _ => ⟨C1.out, D1.out⟩) ?_
      refine wpTill_takeU (i := 3) (v := .int .i64 (m : Int)) rfl (by kernel_rfl) (by kernel_rfl) (by kernel_rfl) (by kernel_rfl) (fun _ _ _ h => h) (Or.inl ⟨by kernel_rfl, by intro w _; go_simp⟩) (fun _ => ⟨C1.out, D1.out⟩) ?_
      refine wpTill_takeU (i := 4) (v := .pointer (some ⟨gg, m * 2, none⟩)) rfl (by kernel_rfl) (by kernel_rfl) (by kernel_rfl) (by kernel_rfl) (fun _ _ _ h => h) (Or.inl ⟨by kernel_rfl, by intro w _; go_simp⟩) (fun _ => ⟨C1.out, D1.out⟩) ?_
      refine wpTill_takeU (i := 5) (v := .pointer (some ⟨gg, m * 2 + 1, none⟩)) rfl (by kernel_rfl) (by kernel_rfl) (by kernel_rfl) (by kernel_rfl) (fun _ _ _ h => h) (Or.inl ⟨by kernel_rfl, by intro w _; go_simp⟩) (fun _ => ⟨C1.out, D1.out⟩) ?_
      refine wpTill_take (i := 6) (v := .string pt) rfl (by kernel_rfl) (by kernel_rfl) (by kernel_rfl) (by kernel_rfl) (by kernel_rfl) (by kernel_rfl) (fun _ _ _ h => h) (Or.inl ⟨by kernel_rfl, by intro w hS; obtain ⟨s1, s2⟩ := hS; go_simp⟩) (fun _ => ⟨C1.out, D1.out⟩) ?_
      refine wpTill_takeU (i := 7) (v := .int .u8 (x.1.2.toNat : Int)) rfl (by kernel_rfl) (by kernel_rfl) (by kernel_rfl) (by kernel_rfl) (fun _ _ _ h => h) (Or.inl ⟨by kernel_rfl, by intro w _; go_simp⟩) (fun _ => ⟨C1.out, D1.out⟩) ?_
      refine wpTill_one (i := 8) (by kernel_rfl) rfl (fun K hK => ?ha1)
      rw [if_pos (by rfl)]
      go_simp
      have hgl1 := (O1.out.lt gg rfl).2
      have hzv : w.heap.size ≤ v1.heap.size := by have := (O1.out.lt gg rfl).1; omega
      have BA := Lib.hid (show Below v1.heap.size v1 (v1.alloc (.cells #[.int .u8 (x.1.2.toNat : Int)] 5)) from (Below.refl _ v1).alloc (Nat.le_refl _) _)
      have O2 := Lib.hid (own_below O1.out BA.out)
      have D2 := Lib.hid ((BA.out.cell (p := ⟨gg, m * 2 + 1, none⟩) hgl1).trans D1.out)
      have C2 := Lib.hid ((BA.out.cell (p := ⟨w.heap.size + 1, 0, none⟩) bL1.out.lt).trans C1.out)
      have bL2 := Lib.hid (bL1.out.alloc (.cells #[.int .u8 (x.1.2.toNat : Int)] 5))
      have bE2 := Lib.hid (bE1.out.alloc (.cells #[.int .u8 (x.1.2.toNat : Int)] 5))
      have bC2 := Lib.hid (bC1.out.alloc (.cells #[.int .u8 (x.1.2.toNat : Int)] 5))
      have bS2 := Lib.hid (bS1.out.alloc (.cells #[.int .u8 (x.1.2.toNat : Int)] 5))
      have K2 := Lib.hid (K1.out.trans (KeepsOthers.alloc v1 (.cells #[.int .u8 (x.1.2.toNat : Int)] 5)))
      have W2 := Lib.hid (W1.out.trans (BA.out.mono hzv))
      have hcv := Lib.hid (run_string_lit1 (P := Try.prog) v1 22 9 5 x.1.2 (x.1.2.toNat : Int) rfl Try.underlying22 Try.underlying5 Try.underlying9)
      refine hK.out _ _ (fun _ => ⟨C2.out, D2.out⟩) (fun _ => ?_)
      clear hK K O1 D1 C1 BA bL1 bE1 bC1 bS1 K1 W1
      generalize v1.alloc (.cells #[.int .u8 (x.1.2.toNat : Int)] 5) = v2 at O2 D2 C2 bL2 bE2 bC2 bS2 K2 W2 hcv ⊢
      refine wpTill_one (i := 9) (by kernel_rfl) rfl (fun K hK => ?hb1)
      rw [if_pos (by rfl)]
      have hcv' := hcv.out
      go_simp
      refine hK.out _ _ (fun _ => ⟨C2.out, D2.out⟩) (fun _ => ?_)
      clear hK K hcv hcv'
      refine wpTill_takeU (i := 10) (v := .string (pt ++ ⟨#[x.1.2]⟩)) rfl (by kernel_rfl) (by kernel_rfl) (by kernel_rfl) (by kernel_rfl) (fun _ _ _ h => h) (Or.inl ⟨by kernel_rfl, by intro w _; go_simp⟩) (fun _ => ⟨C2.out, D2.out⟩) ?_
      refine wpTill_takeU (i := 11) (v := .pointer (some ⟨gg, m * 2, none⟩)) rfl (by kernel_rfl) (by kernel_rfl) (by kernel_rfl) (by kernel_rfl) (fun _ _ _ h => h) (Or.inl ⟨by kernel_rfl, by intro w _; go_simp⟩) (fun _ => ⟨C2.out, D2.out⟩) ?_
      refine wpTill_takeU (i := 12) (v := .pointer (some ⟨gg, m * 2 + 1, none⟩)) rfl (by kernel_rfl) (by kernel_rfl) (by kernel_rfl) (by kernel_rfl) (fun _ _ _ h => h) (Or.inl ⟨by kernel_rfl, by intro w _; go_simp⟩) (fun _ => ⟨C2.out, D2.out⟩) ?_
      refine wpTill_store (by kernel_rfl) rfl (by kernel_rfl) (fun K hK => ?hc1)
      rw [if_pos (by rfl)]
      have hdd := D2.out
      have hff := O2.out.frozenAt (m * 2 + 1)
      go_simp
      have S3 := O2.out.stored (m * 2 + 1) (.string (pt ++ ⟨#[x.1.2]⟩))
      rw [HSet.out] at S3
      have hgw : w.heap.size ≤ gg := (O2.out.lt gg rfl).1
      have O3 := Lib.hid S3.1
      have n1 : w.heap.size + 1 ≠ gg := fun e => bL2.out.not_row (by decide) O2.out (by rw [e]; rfl)
      have n2 : w.heap.size + 2 ≠ gg := fun e => bE2.out.not_row (by decide) O2.out (by rw [e]; rfl)
      have n0 : w.heap.size ≠ gg := fun e => bC2.out.not_row (by decide) O2.out (by rw [← e]; rfl)
      have n3 : w.heap.size + 3 ≠ gg := fun e => bS2.out.not_row (by decide) O2.out (by rw [e]; rfl)
      have gr := grown_setn v2 gg (m * 2 + 1) (.string (pt ++ ⟨#[x.1.2]⟩))
      have bL3 := Lib.hid (bL2.out.kept gr (fun e => n1 (by cases e; rfl)))
      have bE3 := Lib.hid (bE2.out.kept gr (fun e => n2 (by cases e; rfl)))
      have bC3 := Lib.hid (bC2.out.kept gr (fun e => n0 (by cases e; rfl)))
      have bS3 := Lib.hid (bS2.out.kept gr (fun e => n3 (by cases e; rfl)))
      have K3 := Lib.hid (K2.out.trans (KeepsOthers.setCell v2 ⟨gg, m * 2 + 1, none⟩ (.string (pt ++ ⟨#[x.1.2]⟩))))
      have W3 := Lib.hid (W2.out.setCell (p := ⟨gg, m * 2 + 1, none⟩) hgw (.string (pt ++ ⟨#[x.1.2]⟩)))
      refine hK.out _ _ ?_
      clear hK K S3 hdd hff D2 C2 O2 bL2 bE2 bC2 bS2 K2 W2 HSet gr n0 n1 n2 n3
      refine wpTill_done (by kernel_rfl) ?_ _
      refine NoOut.normal ?_
      generalize v2.setCell ⟨gg, m * 2 + 1, none⟩ (.string (pt ++ ⟨#[x.1.2]⟩)) = v3 at O3 bL3 bE3 bC3 bS3 K3 W3 ⊢
      have hce := bE3.out.cell
      have hfe := bE3.out.frozen
      gi_wp2
      have bE4 := bE3.out.set (.int .i64 ((x.1.1 : Int) + 1))
      have bL4 := bL3.out.other (by omega : w.heap.size + 1 ≠ w.heap.size + 2) (.int .i64 ((x.1.1 : Int) + 1))
      have bC4 := bC3.out.other (by omega : w.heap.size ≠ w.heap.size + 2) (.int .i64 ((x.1.1 : Int) + 1))
      have bS4 := bS3.out.other (by omega : w.heap.size + 3 ≠ w.heap.size + 2) (.int .i64 ((x.1.1 : Int) + 1))
      have W4 := W3.out.setCell (p := ⟨w.heap.size + 2, 0, none⟩) (by simp) (.int .i64 ((x.1.1 : Int) + 1))
      have nE : (.slice (some ⟨gg, 0, none⟩) nL cp : Value).ownBlock ≠ some (w.heap.size + 2) := fun e => bE3.out.not_row (by decide) O3.out e.symm
      have O4 := own_setn (k := 0) O3.out nE (.int .i64 ((x.1.1 : Int) + 1))
      refine ⟨(K3.out.trans (KeepsOthers.setCell _ _ _)).from _, ⟨fun k => blk_under k W4 hgl, fun u hu => by rw [hbS.out.cell] at hu; cases hu; exact bS4.cell⟩, ?_⟩
      refine ⟨stepP L ((x.1.1 : Int) - c) x.1.2, _, _, HStep.out, .inr (by rw [lastEnd_step]; congr 1; omega), ⟨bL4, ?_⟩, bE4, bC4, bS4, hB.out.trans W4, HMid.out⟩
      rw [HLen.out]
      exact O4
    · have hE : lastEnd L ≠ some ((x.1.1 : Int) - c) := fun e => by
        rcases hq with ⟨h1, h2⟩ | h2
        · subst h1; cases e
        · rw [h2] at e; injection e with e; omega
      have hqb : ((x.1.1 : Int) == q) = false := by simpa using hqx
      have hqn : ((x.1.1 : Int) != q) = true := by simp [bne, hqb]
      have e1 := stepP_new (b := x.1.2) hE
      obtain ⟨a, cp0, rfl⟩ := own_shapeN O
      obtain ⟨nL, hnL⟩ : ∃ k, L.length + 1 = k := ⟨_, rfl⟩
      obtain ⟨m, hm⟩ : ∃ k, L.length = k := ⟨_, rfl⟩
      have HLen := Lib.hid (show (stepP L ((x.1.1 : Int) - c) x.1.2).length = nL by rw [e1, List.length_append]; exact hnL)
      have HSet := Lib.hid (show (hps L ++ [Value.int .i64 ((x.1.1 : Int) - c), Value.string ⟨#[]⟩]).set (m * 2 + 1) (.string (⟨#[]⟩ ++ ⟨#[x.1.2]⟩)) = hps (stepP L ((x.1.1 : Int) - c) x.1.2) by
        rw [e1, hps_append, List.set_append_right _ _ (by rw [hps_length]; omega), hps_length, ← hm, show L.length * 2 + 1 - L.length * 2 = 1 by omega]
        rfl)
      have hcLL := bL.cell
      clear hE e1 hq hqx hM
      rw [hm] at O bL hcLL hLl
      have hnm : m + 1 = nL := by omega
      have HLm := Lib.hid hm
      clear hm hnL
      gi_wp2_with (gi_at_builtin; refine wpListIn_append_own _ rfl _ _ 24 rfl w.heap.size 64 i0 (.agg #[.int .i64 0, .string ⟨#[]⟩]) 2 24 Try.underlying24 hi hz0 hz1 hz2 rfl (by decide) _ _ _ rfl (O.alloc _) ⟨W.heap.size, 0, none⟩ 1 1 [.int .i64 ((x.1.1 : Int) - c), .string ⟨#[]⟩] rfl rfl (World.news_of_block (cs := #[.int .i64 ((x.1.1 : Int) - c), .string ⟨#[]⟩]) (t := 64) (fr := (0, 0)) (heap_alloc_new W _)) (by simp [Value.oneCell']) (by unfold maxLen; omega) (by omega) (by have := hB.out.size; simp; omega) ?_; intro v' w1 hown' hgrow _; obtain ⟨gg, cp, rfl⟩ := ownsRow_succ hown'; obtain ⟨hv1, hv2, hr2, hk2, hb2⟩ := bL.appended (by decide) O hB.out.size (by omega) hown' hgrow; have hc1 := hv1.cell; have hf1' := hv1.frozen; have bE1 := ((bE.alloc (.cells #[.int .i64 ((x.1.1 : Int) - c), .string ⟨#[]⟩] 64)).kept hgrow ((bE.alloc (.cells #[.int .i64 ((x.1.1 : Int) - c), .string ⟨#[]⟩] 64)).not_row (by decide) (O.alloc (.cells #[.int .i64 ((x.1.1 : Int) - c), .string ⟨#[]⟩] 64)))).other (by omega : w.heap.size + 2 ≠ w.heap.size + 1) (.slice (some ⟨gg, 0, none⟩) (m + 1) cp); have bC1 := ((bC.alloc (.cells #[.int .i64 ((x.1.1 : Int) - c), .string ⟨#[]⟩] 64)).kept hgrow ((bC.alloc (.cells #[.int .i64 ((x.1.1 : Int) - c), .string ⟨#[]⟩] 64)).not_row (by decide) (O.alloc (.cells #[.int .i64 ((x.1.1 : Int) - c), .string ⟨#[]⟩] 64)))).other (by omega : w.heap.size ≠ w.heap.size + 1) (.slice (some ⟨gg, 0, none⟩) (m + 1) cp); have bS1 := ((bS.alloc (.cells #[.int .i64 ((x.1.1 : Int) - c), .string ⟨#[]⟩] 64)).kept hgrow ((bS.alloc (.cells #[.int .i64 ((x.1.1 : Int) - c), .string ⟨#[]⟩] 64)).not_row (by decide) (O.alloc (.cells #[.int .i64 ((x.1.1 : Int) - c), .string ⟨#[]⟩] 64)))).other (by omega : w.heap.size + 3 ≠ w.heap.size + 1) (.slice (some ⟨gg, 0, none⟩) (m + 1) cp); clear hgrow hown')
      have KO := hk2
      have BW := hb2
      have O' := hr2
      have bL' := hv2
      rw [hnm] at O' bL'
      have hct := (O'.cellAt (m * 2 + 1) (by omega)).trans (show (hps L ++ [Value.int .i64 ((x.1.1 : Int) - c), Value.string ⟨#[]⟩])[m * 2 + 1]? = some (.string ⟨#[]⟩) by rw [List.getElem?_append_right (by rw [hps_length]; have := HLm.out; omega), hps_length, HLm.out]; rw [show m * 2 + 1 - m * 2 = 1 by omega]; rfl)
      rw [hnm] at KO BW bE1 bC1 bS1
      clear bE bC bS bL O hv1 hv2 hr2 hk2 hb2 hc1 hf1' hcLL hcC hcE
      have O := O'
      have bL := bL'
      have bE := bE1
      have bC := bC1
      have bS := bS1
      clear O' bL' bE1 bC1 bS1
      obtain ⟨pt, hpt⟩ : ∃ pt : ByteArray, ⟨#[]⟩ = pt := ⟨_, rfl⟩
      have hps0 : pt.size = 0 := by rw [← hpt]; rfl
      have hdn : ¬ 9223372036854775807 < pt.size + 1 := by omega
      rw [hpt] at hct HSet O
      have hm0 : (0 : Int) ≤ (m : Int) := by omega
      have hm1 : (m : Int) < (nL : Int) := by omega
      have hwm : IntKind.i64.wrap ((nL : Int) - 1) = (m : Int) := by rw [show (nL : Int) - 1 = (m : Int) by omega]; exact IntWalk.i64_in _ (by omega)
      clear hpt hps0 hnm
      generalize w1.setCell ⟨w.heap.size + 1, 0, none⟩ (.slice (some ⟨gg, 0, none⟩) nL cp) = V at O bL bE bC bS hct KO BW ⊢
      have hcL := bL.cell
      refine wpIn_region_till (S := fun w' => w'.cell? ⟨w.heap.size + 1, 0, none⟩ = some (.slice (some ⟨gg, 0, none⟩) nL cp) ∧ w'.cell? ⟨gg, m * 2 + 1, none⟩ = some (.string pt)) 13 (by kernel_rfl) (by kernel_rfl) ⟨hcL, hct⟩ (fun hS => ?_)
      have C1 := Lib.hid (show V.drew.cell? ⟨w.heap.size + 1, 0, none⟩ = some (.slice (some ⟨gg, 0, none⟩) nL cp) from hcL)
      have D1 := Lib.hid (show V.drew.cell? ⟨gg, m * 2 + 1, none⟩ = some (.string pt) from hct)
      have O1 := Lib.hid (own_below O (Below.refl _ V).drew)
      have bL1 := Lib.hid (show Boxed V.drew (w.heap.size + 1) 24 (.slice (some ⟨gg, 0, none⟩) nL cp) from bL)
      have bE1 := Lib.hid (show Boxed V.drew (w.heap.size + 2) 3 (.int .i64 q) from bE)
      have bC1 := Lib.hid (show Boxed V.drew w.heap.size 3 (.int .i64 (c : Int)) from bC)
      have bS1 := Lib.hid (show Boxed V.drew (w.heap.size + 3) 55 (.pointer (some ⟨g, 0, none⟩)) from bS)
      have K1 := Lib.hid (KO.trans (KeepsOthers.drew V))
      have W1 := Lib.hid (BW.drew)
      clear hS hcL hct O bL bE bC bS KO BW
      generalize V.drew = v1 at C1 D1 O1 bL1 bE1 bC1 bS1 K1 W1 ⊢
      refine wpTill_take (i := 0) (v := .slice (some ⟨gg, 0, none⟩) nL cp) rfl (by kernel_rfl) (by kernel_rfl) (by kernel_rfl) (by kernel_rfl) (by kernel_rfl) (by kernel_rfl) (fun _ _ _ h => h) (Or.inl ⟨by kernel_rfl, by intro w hS; obtain ⟨s1, s2⟩ := hS; go_simp⟩) (fun _ => ⟨C1.out, D1.out⟩) ?_
      refine wpTill_take (i := 1) (v := .slice (some ⟨gg, 0, none⟩) nL cp) rfl (by kernel_rfl) (by kernel_rfl) (by kernel_rfl) (by kernel_rfl) (by kernel_rfl) (by kernel_rfl) (fun _ _ _ h => h) (Or.inl ⟨by kernel_rfl, by intro w hS; obtain ⟨s1, s2⟩ := hS; go_simp⟩) (fun _ => ⟨C1.out, D1.out⟩) ?_
      refine wpTill_takeU (i := 2) (v := .int .i64 (nL : Int)) rfl (by kernel_rfl) (by kernel_rfl) (by kernel_rfl) (by kernel_rfl) (fun _ _ _ h => h) (Or.inl ⟨by kernel_rfl, by intro w _; go_simp⟩) (fun _ => ⟨C1.out, D1.out⟩) ?_
      refine wpTill_takeU (i := 3) (v := .int .i64 (m : Int)) rfl (by kernel_rfl) (by kernel_rfl) (by kernel_rfl) (by kernel_rfl) (fun _ _ _ h => h) (Or.inl ⟨by kernel_rfl, by intro w _; go_simp⟩) (fun _ => ⟨C1.out, D1.out⟩) ?_
      refine wpTill_takeU (i := 4) (v := .pointer (some ⟨gg, m * 2, none⟩)) rfl (by kernel_rfl) (by kernel_rfl) (by kernel_rfl) (by kernel_rfl) (fun _ _ _ h => h) (Or.inl ⟨by kernel_rfl, by intro w _; go_simp⟩) (fun _ => ⟨C1.out, D1.out⟩) ?_
      refine wpTill_takeU (i := 5) (v := .pointer (some ⟨gg, m * 2 + 1, none⟩)) rfl (by kernel_rfl) (by kernel_rfl) (by kernel_rfl) (by kernel_rfl) (fun _ _ _ h => h) (Or.inl ⟨by kernel_rfl, by intro w _; go_simp⟩) (fun _ => ⟨C1.out, D1.out⟩) ?_
      refine wpTill_take (i := 6) (v := .string pt) rfl (by kernel_rfl) (by kernel_rfl) (by kernel_rfl) (by kernel_rfl) (by kernel_rfl) (by kernel_rfl) (fun _ _ _ h => h) (Or.inl ⟨by kernel_rfl, by intro w hS; obtain ⟨s1, s2⟩ := hS; go_simp⟩) (fun _ => ⟨C1.out, D1.out⟩) ?_
      refine wpTill_takeU (i := 7) (v := .int .u8 (x.1.2.toNat : Int)) rfl (by kernel_rfl) (by kernel_rfl) (by kernel_rfl) (by kernel_rfl) (fun _ _ _ h => h) (Or.inl ⟨by kernel_rfl, by intro w _; go_simp⟩) (fun _ => ⟨C1.out, D1.out⟩) ?_
      refine wpTill_one (i := 8) (by kernel_rfl) rfl (fun K hK => ?ha2)
      rw [if_pos (by rfl)]
      go_simp
      have hgl1 := (O1.out.lt gg rfl).2
      have hzv : w.heap.size ≤ v1.heap.size := by have := (O1.out.lt gg rfl).1; omega
      have BA := Lib.hid (show Below v1.heap.size v1 (v1.alloc (.cells #[.int .u8 (x.1.2.toNat : Int)] 5)) from (Below.refl _ v1).alloc (Nat.le_refl _) _)
      have O2 := Lib.hid (own_below O1.out BA.out)
      have D2 := Lib.hid ((BA.out.cell (p := ⟨gg, m * 2 + 1, none⟩) hgl1).trans D1.out)
      have C2 := Lib.hid ((BA.out.cell (p := ⟨w.heap.size + 1, 0, none⟩) bL1.out.lt).trans C1.out)
      have bL2 := Lib.hid (bL1.out.alloc (.cells #[.int .u8 (x.1.2.toNat : Int)] 5))
      have bE2 := Lib.hid (bE1.out.alloc (.cells #[.int .u8 (x.1.2.toNat : Int)] 5))
      have bC2 := Lib.hid (bC1.out.alloc (.cells #[.int .u8 (x.1.2.toNat : Int)] 5))
      have bS2 := Lib.hid (bS1.out.alloc (.cells #[.int .u8 (x.1.2.toNat : Int)] 5))
      have K2 := Lib.hid (K1.out.trans (KeepsOthers.alloc v1 (.cells #[.int .u8 (x.1.2.toNat : Int)] 5)))
      have W2 := Lib.hid (W1.out.trans (BA.out.mono hzv))
      have hcv := Lib.hid (run_string_lit1 (P := Try.prog) v1 22 9 5 x.1.2 (x.1.2.toNat : Int) rfl Try.underlying22 Try.underlying5 Try.underlying9)
      refine hK.out _ _ (fun _ => ⟨C2.out, D2.out⟩) (fun _ => ?_)
      clear hK K O1 D1 C1 BA bL1 bE1 bC1 bS1 K1 W1
      generalize v1.alloc (.cells #[.int .u8 (x.1.2.toNat : Int)] 5) = v2 at O2 D2 C2 bL2 bE2 bC2 bS2 K2 W2 hcv ⊢
      refine wpTill_one (i := 9) (by kernel_rfl) rfl (fun K hK => ?hb2)
      rw [if_pos (by rfl)]
      have hcv' := hcv.out
      go_simp
      refine hK.out _ _ (fun _ => ⟨C2.out, D2.out⟩) (fun _ => ?_)
      clear hK K hcv hcv'
      refine wpTill_takeU (i := 10) (v := .string (pt ++ ⟨#[x.1.2]⟩)) rfl (by kernel_rfl) (by kernel_rfl) (by kernel_rfl) (by kernel_rfl) (fun _ _ _ h => h) (Or.inl ⟨by kernel_rfl, by intro w _; go_simp⟩) (fun _ => ⟨C2.out, D2.out⟩) ?_
      refine wpTill_takeU (i := 11) (v := .pointer (some ⟨gg, m * 2, none⟩)) rfl (by kernel_rfl) (by kernel_rfl) (by kernel_rfl) (by kernel_rfl) (fun _ _ _ h => h) (Or.inl ⟨by kernel_rfl, by intro w _; go_simp⟩) (fun _ => ⟨C2.out, D2.out⟩) ?_
      refine wpTill_takeU (i := 12) (v := .pointer (some ⟨gg, m * 2 + 1, none⟩)) rfl (by kernel_rfl) (by kernel_rfl) (by kernel_rfl) (by kernel_rfl) (fun _ _ _ h => h) (Or.inl ⟨by kernel_rfl, by intro w _; go_simp⟩) (fun _ => ⟨C2.out, D2.out⟩) ?_
      refine wpTill_store (by kernel_rfl) rfl (by kernel_rfl) (fun K hK => ?hc2)
      rw [if_pos (by rfl)]
      have hdd := D2.out
      have hff := O2.out.frozenAt (m * 2 + 1)
      go_simp
      have S3 := O2.out.stored (m * 2 + 1) (.string (pt ++ ⟨#[x.1.2]⟩))
      rw [HSet.out] at S3
      have hgw : w.heap.size ≤ gg := (O2.out.lt gg rfl).1
      have O3 := Lib.hid S3.1
      have n1 : w.heap.size + 1 ≠ gg := fun e => bL2.out.not_row (by decide) O2.out (by rw [e]; rfl)
      have n2 : w.heap.size + 2 ≠ gg := fun e => bE2.out.not_row (by decide) O2.out (by rw [e]; rfl)
      have n0 : w.heap.size ≠ gg := fun e => bC2.out.not_row (by decide) O2.out (by rw [← e]; rfl)
      have n3 : w.heap.size + 3 ≠ gg := fun e => bS2.out.not_row (by decide) O2.out (by rw [e]; rfl)
      have gr := grown_setn v2 gg (m * 2 + 1) (.string (pt ++ ⟨#[x.1.2]⟩))
      have bL3 := Lib.hid (bL2.out.kept gr (fun e => n1 (by cases e; rfl)))
      have bE3 := Lib.hid (bE2.out.kept gr (fun e => n2 (by cases e; rfl)))
      have bC3 := Lib.hid (bC2.out.kept gr (fun e => n0 (by cases e; rfl)))
      have bS3 := Lib.hid (bS2.out.kept gr (fun e => n3 (by cases e; rfl)))
      have K3 := Lib.hid (K2.out.trans (KeepsOthers.setCell v2 ⟨gg, m * 2 + 1, none⟩ (.string (pt ++ ⟨#[x.1.2]⟩))))
      have W3 := Lib.hid (W2.out.setCell (p := ⟨gg, m * 2 + 1, none⟩) hgw (.string (pt ++ ⟨#[x.1.2]⟩)))
      refine hK.out _ _ ?_
      clear hK K S3 hdd hff D2 C2 O2 bL2 bE2 bC2 bS2 K2 W2 HSet gr n0 n1 n2 n3
      refine wpTill_done (by kernel_rfl) ?_ _
      refine NoOut.normal ?_
      generalize v2.setCell ⟨gg, m * 2 + 1, none⟩ (.string (pt ++ ⟨#[x.1.2]⟩)) = v3 at O3 bL3 bE3 bC3 bS3 K3 W3 ⊢
      have hce := bE3.out.cell
      have hfe := bE3.out.frozen
      gi_wp2
      have bE4 := bE3.out.set (.int .i64 ((x.1.1 : Int) + 1))
      have bL4 := bL3.out.other (by omega : w.heap.size + 1 ≠ w.heap.size + 2) (.int .i64 ((x.1.1 : Int) + 1))
      have bC4 := bC3.out.other (by omega : w.heap.size ≠ w.heap.size + 2) (.int .i64 ((x.1.1 : Int) + 1))
      have bS4 := bS3.out.other (by omega : w.heap.size + 3 ≠ w.heap.size + 2) (.int .i64 ((x.1.1 : Int) + 1))
      have W4 := W3.out.setCell (p := ⟨w.heap.size + 2, 0, none⟩) (by simp) (.int .i64 ((x.1.1 : Int) + 1))
      have nE : (.slice (some ⟨gg, 0, none⟩) nL cp : Value).ownBlock ≠ some (w.heap.size + 2) := fun e => bE3.out.not_row (by decide) O3.out e.symm
      have O4 := own_setn (k := 0) O3.out nE (.int .i64 ((x.1.1 : Int) + 1))
      refine ⟨(K3.out.trans (KeepsOthers.setCell _ _ _)).from _, ⟨fun k => blk_under k W4 hgl, fun u hu => by rw [hbS.out.cell] at hu; cases hu; exact bS4.cell⟩, ?_⟩
      refine ⟨stepP L ((x.1.1 : Int) - c) x.1.2, _, _, HStep.out, .inr (by rw [lastEnd_step]; congr 1; omega), ⟨bL4, ?_⟩, bE4, bC4, bS4, hB.out.trans W4, HMid.out⟩
      rw [HLen.out]
      exact O4
  case done =>
    rintro D ys W hD hS ⟨L, q, v, hL, hq, ⟨bL, O⟩, bE, bC, bS, hB, hM⟩ hK
    rw [hS, pcsL_ord] at hL
    have hc := bL.cell
    obtain ⟨a, cp, rfl⟩ := own_shapeN O
    gi_wp2
    refine ⟨by simp, .inl ⟨_, _, rfl, run_takeDeferred hK, ?_⟩⟩
    subst hL
    exact ⟨_, results_tmp rfl _ _ _, a, cp, rfl, ownsRow_putObj O _ hK rfl, hB.trans (belowK_b (w := w) (Nat.le_refl _) W D _ _ (by omega) hK rfl rfl)⟩
  case stop =>
    rintro D c pre W _ _ h _
    exact h.elim
theorem piecesI (g c : Nat) (hc32 : c ≤ 32) (T : Tab) (w : World) (h : Blk w g (tabC T)) : Calls Try.prog 70 #[.pointer (some ⟨g, 0, none⟩), .int .i64 (c : Int)] w (NewP (pcs T c (32 - c)) w) :=
  (callsIn_wide (n := 5)).1 (pieces_in 5 (by decide) g c hc32 T w h)
end Go.Proofs.Ytpbnkkgfjmkcdaa
