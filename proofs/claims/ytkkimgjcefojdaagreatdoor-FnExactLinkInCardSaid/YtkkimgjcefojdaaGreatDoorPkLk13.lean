/- Texts of a proof that belong together, joined. Nothing here is a claim. -/
import Derived.Deep.Slices
import Derived.ProofKit
import Derived.OpenShut
import Derived.Lib.SmallJoins
import Derived.ChangeSame
import Derived.Laws.IdiomCopy
import Derived.Lib.SliceRun
import Derived.Laws.StructEq
import Derived.Test.YtkkimgjcefojdaaGreatDoorPkLk6
import Derived.Test.YtkkimgjcefojdaaGreatDoorPkLk7
namespace Go.Proofs.YtkkimgjcefojdaaGreatDoor
open Go.RowKit Go.Lib

theorem Tryz.info71 : (Tryz.prog.info? 71).map (fun i => (i.zero, i.size, i.bytes)) = some (some (.agg #[.int .i64 0, .int .i64 0, .int .i64 0]), 3, 24) := by kernel_rfl
/-- New memory that holds these entries; nothing old has turned. The slice may be nil where there are none. -/
def NewE (rs : List ER) (w : World) (e : Ending) (w' : World) : Prop :=
 ∃ a cap, e = .returned (.slice a rs.length cap) ∧ w'.ownsRow w.heap.size 71 3 (.slice a rs.length cap) rs.length (ers rs) ∧ Below w.heap.size w w'
/-- As NewE, and never nil. -/
def NewS (rs : List ER) (w : World) (e : Ending) (w' : World) : Prop :=
 ∃ g cap, e = .returned (.slice (some ⟨g, 0, none⟩) rs.length cap) ∧ w'.ownsRow w.heap.size 71 3 (.slice (some ⟨g, 0, none⟩) rs.length cap) rs.length (ers rs) ∧ Below w.heap.size w w'
end Go.Proofs.YtkkimgjcefojdaaGreatDoor
namespace Go.Proofs.YtkkimgjcefojdaaGreatDoor
open Go.RowKit Go.Lib

/-- The source's cells, in an address's words. -/
theorem row_adr {w : World} {B b off : Nat} {xs : List Value} (h : Row w B (some ⟨b, off, none⟩) xs) : ∀ j u, xs[j]? = some u → w.cell? ((⟨b, off, none⟩ : Addr).add j) = some u := by
 intro j u hu
 obtain ⟨b', off', e, _, hc⟩ := h (fun e => by rw [e] at hu; cases hu)
 injection e with e
 injection e with e1 e2
 subst e1 e2
 rw [show (⟨b, off, none⟩ : Addr).add j = ⟨b, off + j, none⟩ by unfold Addr.add; split <;> simp_all]
 exact hc j u hu

theorem own_set' {w : World} {base size n m c g : Nat} {e : TypeId} {xs : List Value} (h : w.ownsRow base e size (.slice (some ⟨g, 0, none⟩) m c) n xs) {b : Nat} (k : Nat) (u : Value) (hne : b ≠ g) : (w.setCell ⟨b, k, none⟩ u).ownsRow base e size (.slice (some ⟨g, 0, none⟩) m c) n xs :=
 h.kept (row := some b) ⟨rfl, rfl, rfl, by simp, fun j _ hj => Below.heap_setCell w ⟨b, k, none⟩ u j (fun e => hj (by rw [e]))⟩ (.inr (fun e => hne (by simpa [Value.ownBlock] using e.symm)))
theorem own_up {w : World} {base base' size n m c g : Nat} {e : TypeId} {xs : List Value} (h : w.ownsRow base e size (.slice (some ⟨g, 0, none⟩) m c) n xs) (hb : base' ≤ g) : w.ownsRow base' e size (.slice (some ⟨g, 0, none⟩) m c) n xs := by
 refine ⟨h.1, ?_⟩
 rcases h.2 with ⟨h1, _⟩ | ⟨g', cap, cur, h1, h2, h3⟩
 ·cases h1
 ·have e1 : g = g' := by injection h1 with h1; injection h1 with h1; injection h1
  subst e1
  exact .inr ⟨g, cap, cur, h1, hb, h3⟩
theorem own_shape {w : World} {base size n : Nat} {e : TypeId} {v : Value} {xs : List Value} (h : w.ownsRow base e size v n xs) (hn : v ≠ .slice none 0 0) : ∃ g cap, v = .slice (some ⟨g, 0, none⟩) n cap := by
 rcases h.2 with ⟨hv, _⟩ | ⟨g, cap, _, hv, _⟩
 ·exact absurd hv hn
 ·exact ⟨g, cap, hv⟩
end Go.Proofs.YtkkimgjcefojdaaGreatDoor
namespace Go.Proofs.YtkkimgjcefojdaaGreatDoor
open Go.Joins Go.ChangeShapes Go.WideShapes Go.RowKit Go.Deep Go.Lib

theorem own_ne {g g' n c : Nat} (h : g ≠ g') : (Value.slice (some ⟨g, 0, none⟩) n c).ownBlock ≠ some g' := fun e => h (by simpa [Value.ownBlock] using e)
theorem adr_add (b off j : Nat) : (⟨b, off, none⟩ : Addr).add j = ⟨b, off + j, none⟩ := by unfold Addr.add; split <;> simp_all
end Go.Proofs.YtkkimgjcefojdaaGreatDoor
namespace Go.Proofs.YtkkimgjcefojdaaGreatDoor
open Go.RowKit Go.Lib

/-- vs laid over xs from place o on. -/
def over (xs : List Value) (o : Nat) (vs : List Value) : List Value := xs.take o ++ vs ++ xs.drop (o + vs.length)
theorem over_nil (xs : List Value) (o : Nat) : over xs o [] = xs := by simp [over]
theorem over_cons (xs : List Value) (o : Nat) (v : Value) (vs : List Value) (h : o < xs.length) : over (xs.set o v) (o + 1) vs = over xs o (v :: vs) := by
 unfold over
 have e1 : (xs.set o v).take (o + 1) = xs.take o ++ [v] := by
  rw [List.take_set, List.take_succ_eq_append_getElem h, List.set_append_right _ _ (by simp [Nat.le_of_lt h])]
  simp [Nat.min_eq_left (Nat.le_of_lt h)]
 have e2 : (xs.set o v).drop (o + 1 + vs.length) = xs.drop (o + (vs.length + 1)) := by
  rw [List.drop_set, if_pos (by omega)]
  congr 1
  omega
 rw [e1, e2]
 simp
theorem own_many {base size n g cap : Nat} {e : TypeId} : ∀ (vs : List Value) (o : Nat) (w : World) (xs : List Value), w.ownsRow base e size (.slice (some ⟨g, 0, none⟩) n cap) n xs → o + vs.length ≤ n * size →
  (w.setCells g o vs).ownsRow base e size (.slice (some ⟨g, 0, none⟩) n cap) n (over xs o vs) ∧ w.grownBy (w.setCells g o vs) (some g)
 | [], o, w, xs, h, _ => by rw [over_nil]; exact ⟨h, World.grownBy.refl _ _⟩
 | v :: vs, o, w, xs, h, ho => by
  have h1 := h.stored o v
  have h2 := own_many vs (o + 1) _ _ h1.1 (by simp at ho; omega)
  rw [over_cons xs o v vs (by rw [h.1]; simp at ho; omega)] at h2
  exact ⟨h2.1, grown_tr h1.2 h2.2⟩
theorem own_prefix {w : World} {base size n m g cap : Nat} {e : TypeId} {xs : List Value} (h : w.ownsRow base e size (.slice (some ⟨g, 0, none⟩) n cap) n xs) (hm : m ≤ n) : w.ownsRow base e size (.slice (some ⟨g, 0, none⟩) m cap) m (xs.take (m * size)) := by
 have hms : m * size ≤ n * size := Nat.mul_le_mul_right _ hm
 rcases h.2 with ⟨h', _⟩ | ⟨g', cap', cur, h', hb, hg, hnc, hcm, hcs, htake⟩
 ·simp at h'
 ·simp only [Value.slice.injEq, Option.some.injEq, Addr.mk.injEq, and_true, true_and] at h'
  obtain ⟨rfl, rfl⟩ := h'
  refine ⟨by rw [List.length_take, h.1]; omega, .inr ⟨g, cap, cur, rfl, hb, hg, by omega, hcm, hcs, ?_⟩⟩
  rw [← htake, List.take_take, Nat.min_eq_left hms]
theorem own_cap {w : World} {base size n cap : Nat} {e : TypeId} {a : Option Addr} {xs : List Value} (h : w.ownsRow base e size (.slice a n cap) n xs) : n ≤ cap ∧ cap ≤ maxLen := by
 rcases h.2 with ⟨h', rfl⟩ | ⟨g', cap', cur, h', hb, hg, hnc, hcm, hcs, htake⟩
 ·cases h'; exact ⟨Nat.le_refl _, Nat.zero_le _⟩
 ·cases h'; exact ⟨hnc, hcm⟩
theorem ers_drop (rs : List ER) (k : Nat) : ers (rs.drop k) = (ers rs).drop (k * 3) := by
 have h := List.take_append_drop (k * 3) (ers rs)
 have h2 : ers (rs.take k) ++ ers (rs.drop k) = ers rs := by rw [← ers_append, List.take_append_drop]
 rw [ers_take] at h2
 exact (List.append_cancel_left (h2.trans h.symm))
/-- What Delete's two writings leave of the first n - 1 entries. -/
theorem ers_gone (rs : List ER) (i : Nat) (zs : List Value) (hi : i < rs.length) : (over (over (ers rs) (i * 3) (ers (rs.drop (i + 1)))) ((rs.length - 1) * 3) zs).take ((rs.length - 1) * 3) = ers (rs.eraseIdx i) := by
 have l1 : (ers rs).length = rs.length * 3 := ers_length rs
 have l2 : (ers (rs.drop (i + 1))).length = (rs.length - (i + 1)) * 3 := by rw [ers_length, List.length_drop]
 have hlen : (over (ers rs) (i * 3) (ers (rs.drop (i + 1)))).length = rs.length * 3 := by
  unfold over
  simp only [List.length_append, List.length_take, List.length_drop, l1, l2]
  omega
 have e1 : (over (over (ers rs) (i * 3) (ers (rs.drop (i + 1)))) ((rs.length - 1) * 3) zs).take ((rs.length - 1) * 3) = (over (ers rs) (i * 3) (ers (rs.drop (i + 1)))).take ((rs.length - 1) * 3) := by
  rw [over, List.append_assoc, List.take_append_of_le_length (by rw [List.length_take, hlen]; omega), List.take_take, Nat.min_self]
 rw [e1, over, List.append_assoc, ← List.append_assoc, List.take_append_of_le_length (by simp only [List.length_append, List.length_take, l1, l2]; omega), List.take_of_length_le (by simp only [List.length_append, List.length_take, l1, l2]; omega), ← ers_take, ← ers_append, List.eraseIdx_eq_take_drop_succ]
theorem goneE {rs : List ER} {i : Nat} (hi : i < rs.length) : (rs.eraseIdx i).length = rs.length - 1 := List.length_eraseIdx_of_lt hi

set_option maxRecDepth 100000 in
set_option maxHeartbeats 800000 in
theorem cloneE (a : Option Addr) (cap : Nat) (rs : List ER) (w : World) (hrow : Row w w.heap.size a (ers rs)) (ha : a = none → rs = [] ∧ cap = 0) (hl : rs.length ≤ 1048577) :
  Calls Tryz.prog 75 #[.slice a rs.length cap] w (NewE rs w) := by
 cases a with
 | none =>
  obtain ⟨rfl, rfl⟩ := ha rfl
  have hq := Lib.run_eql_slice_nil (P := Tryz.prog) w 24 71 none 0 0 0 0 Tryz.underlying24
  go_enter Tryz.func75, Tryz.ntmps75
  go_wp2_with fail
  go_ret
  exact ⟨none, 0, rfl, ⟨rfl, .inl ⟨rfl, rfl⟩⟩, Below.refl _ _⟩
 | some ad =>
  obtain ⟨i0, hi, hz0, hz1, hz2⟩ := info_parts Tryz.info71
  have HR := Lib.hid (show ∀ j u, (ers rs)[j]? = some u → (w.alloc (.cells #[] 71)).cell? (ad.add j) = some u from fun j u hu => by
   obtain ⟨b, off, e, hb, hc⟩ := hrow (fun e => by rw [e] at hu; cases hu)
   cases e
   rw [adr_add]
   exact ((((Below.refl w.heap.size w).alloc (Nat.le_refl _) (.cells #[] 71)).cell (p := ⟨b, off + j, none⟩) hb)).trans (hc j u hu))
  have O0 := Lib.hid (World.ownsRow_lit (base := w.heap.size) (e := 71) (size := 3) w #[] 0 (Nat.le_refl _) (Nat.zero_le _) rfl)
  clear hrow ha
  have hq := Lib.run_eql_slice_nil (P := Tryz.prog) w 24 71 (some ad) rs.length cap 0 0 Tryz.underlying24
  go_enter Tryz.func75, Tryz.ntmps75
  go_wp2_with (at_builtin; refine wpList_append_own _ rfl _ _ 24 rfl w.heap.size 71 i0 (.agg #[.int .i64 0, .int .i64 0, .int .i64 0]) 3 24 Tryz.underlying24 hi hz0 hz1 hz2 rfl (by decide) (.slice (some ⟨w.heap.size, 0, none⟩) 0 0) 0 [] rfl O0.out ad rs.length cap (ers rs) rfl (ers_length rs) HR.out (ers_one rs) (by unfold maxLen; omega) (by omega) (by simp) ?_; intro v' w1 hown1 hgrow1 hnil1)
  simp only [Nat.zero_add, List.nil_append] at hown1
  obtain ⟨g, c', rfl⟩ := own_shape hown1 (fun e => by have := (hnil1.1 e).1; cases this)
  go_ret
  exact ⟨some ⟨g, 0, none⟩, c', rfl, hown1, ((Below.refl _ w).alloc (Nat.le_refl _) _).grown hgrow1 (by simp) (fun j e => by cases e; exact Nat.le_refl _)⟩


set_option maxRecDepth 100000 in
set_option maxHeartbeats 8000000 in
theorem deleteE (B g cap i : Nat) (rs : List ER) (x : Int) (w : World) (hown : w.ownsRow B 71 3 (.slice (some ⟨g, 0, none⟩) rs.length cap) rs.length (ers rs)) (hi : i < rs.length) (hx : x = ((i + 1 : Nat) : Int)) (hl : rs.length ≤ 1048577) :
  Calls Tryz.prog 110 #[.slice (some ⟨g, 0, none⟩) rs.length cap, .int .i64 i, .int .i64 x] w fun e w' => e = .returned (.slice (some ⟨g, 0, none⟩) (rs.length - 1) cap) ∧ w'.ownsRow B 71 3 (.slice (some ⟨g, 0, none⟩) (rs.length - 1) cap) (rs.length - 1) (ers (rs.eraseIdx i)) ∧ w.grownBy w' (some g) := by
 subst hx
 obtain ⟨i0, hi0, hz0, hz1, hz2⟩ := info_parts Tryz.info71
 obtain ⟨hcap, hcm⟩ := own_cap hown
 unfold maxLen at hcm
 -- the entries that are moved
 obtain ⟨news, hnews⟩ : ∃ news, news = ers (rs.drop (i + 1)) := ⟨_, rfl⟩
 have hnl : news.length = (rs.length - (i + 1)) * 3 := by rw [hnews, ers_length, List.length_drop]
 have hD := hown.kept (w' := w.drew) (row := none) ⟨rfl, rfl, rfl, Nat.le_refl _, fun _ _ _ => rfl⟩ (.inr (by simp [Value.ownBlock]))
 have hcells : ∀ t u, (ers rs)[t]? = some u → w.drew.cell? ⟨g, t, none⟩ = some u := fun t u hu => by
  have ht := (List.getElem?_eq_some_iff.1 hu).1
  rw [ers_length] at ht
  exact (hD.cellAt t (by omega)).trans hu
 obtain ⟨A, hA, hsrc⟩ : ∃ A : Addr, (if cap = i + 1 then some (⟨g, 0, none⟩ : Addr) else some ⟨g, (i + 1) * 3, none⟩) = some A ∧ Hid (∀ t u, news[t]? = some u → w.drew.cell? (A.add t) = some u) := by
  by_cases h : cap = i + 1
  ·refine ⟨⟨g, 0, none⟩, by simp [h], fun t u hu => ?_⟩
   have h0 : news.length = 0 := by rw [hnl]; omega
   rw [List.length_eq_zero_iff.1 h0] at hu
   simp at hu
  ·refine ⟨⟨g, (i + 1) * 3, none⟩, by simp [h], fun t u hu => ?_⟩
   rw [adr_add]
   refine hcells _ u ?_
   rw [hnews, ers_drop, List.getElem?_drop] at hu
   exact hu
 have s1 : Hid (news.length = (rs.length - (i + 1)) * 3) := hnl
 have s2 : Hid (∀ u ∈ news, u.oneCell' = true) := by rw [hnews]; exact ers_one _
 have s3 : Hid (∀ t, t < news.length → (w.drew.cell? ⟨g, 0 + i * 3 + t, none⟩).isSome = true ∧ w.drew.frozen? ⟨g, 0 + i * 3 + t, none⟩ = false) := by
  intro t ht
  rw [hnl] at ht
  have hb : i * 3 + t < (ers rs).length := by rw [ers_length]; omega
  rw [Nat.zero_add]
  exact ⟨by rw [hcells _ _ (List.getElem?_eq_getElem hb)]; rfl, hD.frozenAt _⟩
 obtain ⟨W1, hW1⟩ : ∃ W1, W1 = w.drew.setCells g (0 + i * 3) news := ⟨_, rfl⟩
 have M1 := own_many news (i * 3) _ _ hD (by rw [hnl]; omega)
 rw [show i * 3 = 0 + i * 3 by omega, ← hW1, Nat.zero_add] at M1
 have hcl : ∀ ty, (Builtin.clear_ #[24] ty #[.slice (some ⟨g, (rs.length - 1) * 3, none⟩) (rs.length - (rs.length - 1)) (cap - (rs.length - 1))]).run Tryz.prog W1 = .ok (.tuple #[]) (W1.setCells g ((rs.length - 1) * 3) [.int .i64 0, .int .i64 0, .int .i64 0]) := by
  intro ty
  rw [show rs.length - (rs.length - 1) = 1 by omega]
  have hst := run_storeCells_cells (P := Tryz.prog) g ((rs.length - 1) * 3) [.int .i64 0, .int .i64 0, .int .i64 0] 0 W1
   (fun j hj => by
    have hj' : (rs.length - 1) * 3 + 0 + j < rs.length * 3 := by simp at hj; omega
    rw [M1.1.cellAt _ hj', List.getElem?_eq_getElem (by rw [M1.1.1]; exact hj')]; rfl)
   (fun j hj => M1.1.frozenAt _) (by intro v hv; simp at hv; rcases hv with rfl | rfl | rfl <;> rfl)
  simp only [Nat.add_zero] at hst
  have hzv : ∀ w, (zeroValue 71).run Tryz.prog w = .ok (.agg #[.int .i64 0, .int .i64 0, .int .i64 0]) w := fun w => by kernel_rfl
  have hzc : (Builtin.zeroCells (Value.agg #[.int .i64 0, .int .i64 0, .int .i64 0]).cells 1).toList = [.int .i64 0, .int .i64 0, .int .i64 0] := by kernel_rfl
  simp [Builtin.clear_, run_underlying Tryz.underlying24, hzv, hzc, hst]
 have M2 := own_many [.int .i64 0, .int .i64 0, .int .i64 0] ((rs.length - 1) * 3) _ _ M1.1 (by simp; omega)
 have M3 := own_prefix M2.1 (m := rs.length - 1) (by omega)
 rw [hnews, ers_gone rs i _ hi] at M3
 have G3 := Lib.hid (grown_tr (below_any (row := some g) (Below.refl w.heap.size w).drew) (grown_tr M1.2 M2.2))
 have O3 := Lib.hid M3
 have hW : Hid (W1 = w.drew.setCells g (0 + i * 3) news) := hW1
 have hic : i ≤ cap := by omega
 have hjc : i + 1 ≤ cap := by omega
 have hlt : i < i + 1 := by omega
 have hne : ¬ cap = rs.length - 1 := by omega
 clear hW1 M1 M2 M3 hcells hnews hnl hD hown
 go_enter Tryz.func110, Tryz.ntmps110
 go_upto_region 5 with fail

 refine wp_region_noPanic ?_
 refine wp_region_held_drew (S := fun w' => True) (by kernel_rfl) trivial (fun hS => ?_)
 refine wpAnyH_take (i := 0) (v := .slice (some ⟨g, 0, none⟩) rs.length cap) rfl (by kernel_rfl) (by kernel_rfl) (by kernel_rfl) (fun _ _ _ h => h) (Or.inl ⟨rfl, by intro w hS; go_simp⟩) hS ?_
 change wpAnyH _ _ _ _ _ _ _ { tmps := #[.slice (some ⟨g, 0, none⟩) rs.length cap, .int .i64 i, .int .i64 ((i + 1 : Nat) : Int), undef, undef, undef, .slice none 0 0, .int .i64 rs.length, .slice (some ⟨g, 0, none⟩) rs.length cap, .int .i64 i, .int .i64 ((i + 1 : Nat) : Int), .slice (some ⟨g, 0, none⟩) rs.length cap, .int .i64 rs.length, .slice (some ⟨g, i * 3, none⟩) 1 (rs.length - i), .int .i64 i, .int .i64 ((i + 1 : Nat) : Int), .bool ((i : Int) == (i : Int) + 1), undef, .slice (some ⟨g, 0, none⟩) rs.length cap, .int .i64 rs.length, .slice (some ⟨g, 0, none⟩) rs.length cap, undef, undef, undef, undef, undef, undef, undef, undef, undef, undef, undef, undef], defers := [] } _
 refine wpAnyH_take (i := 1) (v := .int .i64 i) rfl (by kernel_rfl) (by kernel_rfl) (by kernel_rfl) (fun _ _ _ h => h) (Or.inl ⟨rfl, by intro w hS; go_simp⟩) hS ?_
 change wpAnyH _ _ _ _ _ _ _ { tmps := #[.slice (some ⟨g, 0, none⟩) rs.length cap, .int .i64 i, .int .i64 ((i + 1 : Nat) : Int), undef, undef, undef, .slice none 0 0, .int .i64 rs.length, .slice (some ⟨g, 0, none⟩) rs.length cap, .int .i64 i, .int .i64 ((i + 1 : Nat) : Int), .slice (some ⟨g, 0, none⟩) rs.length cap, .int .i64 rs.length, .slice (some ⟨g, i * 3, none⟩) 1 (rs.length - i), .int .i64 i, .int .i64 ((i + 1 : Nat) : Int), .bool ((i : Int) == (i : Int) + 1), undef, .slice (some ⟨g, 0, none⟩) rs.length cap, .int .i64 rs.length, .slice (some ⟨g, 0, none⟩) rs.length cap, .int .i64 i, undef, undef, undef, undef, undef, undef, undef, undef, undef, undef, undef], defers := [] } _
 refine wpAnyH_take (i := 2) (v := .slice (some ⟨g, 0, none⟩) i cap) rfl (by kernel_rfl) (by kernel_rfl) (by kernel_rfl) (fun _ _ _ h => h) (Or.inl ⟨rfl, by intro w hS; go_simp; try (intro h; omega)⟩) hS ?_
 change wpAnyH _ _ _ _ _ _ _ { tmps := #[.slice (some ⟨g, 0, none⟩) rs.length cap, .int .i64 i, .int .i64 ((i + 1 : Nat) : Int), undef, undef, undef, .slice none 0 0, .int .i64 rs.length, .slice (some ⟨g, 0, none⟩) rs.length cap, .int .i64 i, .int .i64 ((i + 1 : Nat) : Int), .slice (some ⟨g, 0, none⟩) rs.length cap, .int .i64 rs.length, .slice (some ⟨g, i * 3, none⟩) 1 (rs.length - i), .int .i64 i, .int .i64 ((i + 1 : Nat) : Int), .bool ((i : Int) == (i : Int) + 1), undef, .slice (some ⟨g, 0, none⟩) rs.length cap, .int .i64 rs.length, .slice (some ⟨g, 0, none⟩) rs.length cap, .int .i64 i, .slice (some ⟨g, 0, none⟩) i cap, undef, undef, undef, undef, undef, undef, undef, undef, undef, undef], defers := [] } _
 refine wpAnyH_take (i := 3) (v := .slice (some ⟨g, 0, none⟩) rs.length cap) rfl (by kernel_rfl) (by kernel_rfl) (by kernel_rfl) (fun _ _ _ h => h) (Or.inl ⟨rfl, by intro w hS; go_simp⟩) hS ?_
 change wpAnyH _ _ _ _ _ _ _ { tmps := #[.slice (some ⟨g, 0, none⟩) rs.length cap, .int .i64 i, .int .i64 ((i + 1 : Nat) : Int), undef, undef, undef, .slice none 0 0, .int .i64 rs.length, .slice (some ⟨g, 0, none⟩) rs.length cap, .int .i64 i, .int .i64 ((i + 1 : Nat) : Int), .slice (some ⟨g, 0, none⟩) rs.length cap, .int .i64 rs.length, .slice (some ⟨g, i * 3, none⟩) 1 (rs.length - i), .int .i64 i, .int .i64 ((i + 1 : Nat) : Int), .bool ((i : Int) == (i : Int) + 1), undef, .slice (some ⟨g, 0, none⟩) rs.length cap, .int .i64 rs.length, .slice (some ⟨g, 0, none⟩) rs.length cap, .int .i64 i, .slice (some ⟨g, 0, none⟩) i cap, .slice (some ⟨g, 0, none⟩) rs.length cap, undef, undef, undef, undef, undef, undef, undef, undef, undef], defers := [] } _
 refine wpAnyH_take (i := 4) (v := .int .i64 ((i + 1 : Nat) : Int)) rfl (by kernel_rfl) (by kernel_rfl) (by kernel_rfl) (fun _ _ _ h => h) (Or.inl ⟨rfl, by intro w hS; go_simp⟩) hS ?_
 change wpAnyH _ _ _ _ _ _ _ { tmps := #[.slice (some ⟨g, 0, none⟩) rs.length cap, .int .i64 i, .int .i64 ((i + 1 : Nat) : Int), undef, undef, undef, .slice none 0 0, .int .i64 rs.length, .slice (some ⟨g, 0, none⟩) rs.length cap, .int .i64 i, .int .i64 ((i + 1 : Nat) : Int), .slice (some ⟨g, 0, none⟩) rs.length cap, .int .i64 rs.length, .slice (some ⟨g, i * 3, none⟩) 1 (rs.length - i), .int .i64 i, .int .i64 ((i + 1 : Nat) : Int), .bool ((i : Int) == (i : Int) + 1), undef, .slice (some ⟨g, 0, none⟩) rs.length cap, .int .i64 rs.length, .slice (some ⟨g, 0, none⟩) rs.length cap, .int .i64 i, .slice (some ⟨g, 0, none⟩) i cap, .slice (some ⟨g, 0, none⟩) rs.length cap, .int .i64 ((i + 1 : Nat) : Int), undef, undef, undef, undef, undef, undef, undef, undef], defers := [] } _
 refine wpAnyH_take (i := 5) (v := .slice (some A) (rs.length - (i + 1)) (cap - (i + 1))) rfl (by kernel_rfl) (by kernel_rfl) (by kernel_rfl) (fun _ _ _ h => h) (Or.inl ⟨rfl, by intro w hS; rw [← hA]; go_simp; try (intro h; omega)⟩) hS ?_
 change wpAnyH _ _ _ _ _ _ _ { tmps := #[.slice (some ⟨g, 0, none⟩) rs.length cap, .int .i64 i, .int .i64 ((i + 1 : Nat) : Int), undef, undef, undef, .slice none 0 0, .int .i64 rs.length, .slice (some ⟨g, 0, none⟩) rs.length cap, .int .i64 i, .int .i64 ((i + 1 : Nat) : Int), .slice (some ⟨g, 0, none⟩) rs.length cap, .int .i64 rs.length, .slice (some ⟨g, i * 3, none⟩) 1 (rs.length - i), .int .i64 i, .int .i64 ((i + 1 : Nat) : Int), .bool ((i : Int) == (i : Int) + 1), undef, .slice (some ⟨g, 0, none⟩) rs.length cap, .int .i64 rs.length, .slice (some ⟨g, 0, none⟩) rs.length cap, .int .i64 i, .slice (some ⟨g, 0, none⟩) i cap, .slice (some ⟨g, 0, none⟩) rs.length cap, .int .i64 ((i + 1 : Nat) : Int), .slice (some A) (rs.length - (i + 1)) (cap - (i + 1)), undef, undef, undef, undef, undef, undef, undef], defers := [] } _
 refine wpAnyH_ready (rs := [6]) (by kernel_rfl) (by simp) ?_
 refine AllReadyH.cons (i := 6) rfl (fun K hK => ?zr99) AllReadyH.nil
 refine step_append_room rfl _ _ 24 rfl 71 i0 3 Tryz.underlying24 hi0 hz1 g 0 i cap rfl A (rs.length - (i + 1)) (cap - (i + 1)) news rfl s1.out hsrc.out s2.out (by omega) s3.out ?_
 rw [← hW.out, show i + (rs.length - (i + 1)) = rs.length - 1 by omega]
 clear hS
 refine hK.out _ _ trivial (fun hS => ?_)
 clear hK K
 change wpAnyH _ _ _ _ _ _ _ { tmps := #[.slice (some ⟨g, 0, none⟩) rs.length cap, .int .i64 i, .int .i64 ((i + 1 : Nat) : Int), undef, undef, undef, .slice none 0 0, .int .i64 rs.length, .slice (some ⟨g, 0, none⟩) rs.length cap, .int .i64 i, .int .i64 ((i + 1 : Nat) : Int), .slice (some ⟨g, 0, none⟩) rs.length cap, .int .i64 rs.length, .slice (some ⟨g, i * 3, none⟩) 1 (rs.length - i), .int .i64 i, .int .i64 ((i + 1 : Nat) : Int), .bool ((i : Int) == (i : Int) + 1), undef, .slice (some ⟨g, 0, none⟩) rs.length cap, .int .i64 rs.length, .slice (some ⟨g, 0, none⟩) rs.length cap, .int .i64 i, .slice (some ⟨g, 0, none⟩) i cap, .slice (some ⟨g, 0, none⟩) rs.length cap, .int .i64 ((i + 1 : Nat) : Int), .slice (some A) (rs.length - (i + 1)) (cap - (i + 1)), .slice (some ⟨g, 0, none⟩) (rs.length - 1) cap, undef, undef, undef, undef, undef, undef], defers := [] } _
 refine wpAnyH_take (i := 7) (v := .slice (some ⟨g, 0, none⟩) (rs.length - 1) cap) rfl (by kernel_rfl) (by kernel_rfl) (by kernel_rfl) (fun _ _ _ h => h) (Or.inl ⟨rfl, by intro w hS; go_simp⟩) hS ?_
 change wpAnyH _ _ _ _ _ _ _ { tmps := #[.slice (some ⟨g, 0, none⟩) (rs.length - 1) cap, .int .i64 i, .int .i64 ((i + 1 : Nat) : Int), undef, undef, undef, .slice none 0 0, .int .i64 rs.length, .slice (some ⟨g, 0, none⟩) rs.length cap, .int .i64 i, .int .i64 ((i + 1 : Nat) : Int), .slice (some ⟨g, 0, none⟩) rs.length cap, .int .i64 rs.length, .slice (some ⟨g, i * 3, none⟩) 1 (rs.length - i), .int .i64 i, .int .i64 ((i + 1 : Nat) : Int), .bool ((i : Int) == (i : Int) + 1), undef, .slice (some ⟨g, 0, none⟩) rs.length cap, .int .i64 rs.length, .slice (some ⟨g, 0, none⟩) rs.length cap, .int .i64 i, .slice (some ⟨g, 0, none⟩) i cap, .slice (some ⟨g, 0, none⟩) rs.length cap, .int .i64 ((i + 1 : Nat) : Int), .slice (some A) (rs.length - (i + 1)) (cap - (i + 1)), .slice (some ⟨g, 0, none⟩) (rs.length - 1) cap, undef, undef, undef, undef, undef, undef], defers := [] } _
 refine wpAnyH_done (by kernel_rfl) ?_ _
 refine NoPanic.normal ?_
 clear s1 s2 s3 hsrc hW
 go_wp2_with fail
 go_ret
 exact ⟨rfl, O3.out, G3.out⟩
end Go.Proofs.YtkkimgjcefojdaaGreatDoor
namespace Go.Proofs.YtkkimgjcefojdaaGreatDoor
open Go.RowKit Go.Lib

/-- A link in new memory, perhaps nil. -/
def NewLE (m ip : Int) (rs : List ER) (w : World) (e : Ending) (w' : World) : Prop :=
 ∃ a cap, e = .returned (.agg #[.int .i64 m, .int .i64 ip, .slice a rs.length cap]) ∧ w'.ownsRow w.heap.size 71 3 (.slice a rs.length cap) rs.length (ers rs) ∧ Below w.heap.size w w'

set_option maxRecDepth 100000 in
set_option maxHeartbeats 2000000 in
theorem copyI (m ip : Int) (a : Option Addr) (cap : Nat) (rs : List ER) (w : World) (hrow : Row w w.heap.size a (ers rs)) (ha : a = none → rs = [] ∧ cap = 0) (hl : rs.length ≤ 1048577) :
  Calls Tryz.prog 31 #[.agg #[.int .i64 m, .int .i64 ip, .slice a rs.length cap]] w (NewLE m ip rs w) := by
 have HR := Lib.hid hrow
 have C := Lib.hid (fun w h => cloneE a cap rs w h ha hl)
 clear hrow ha hl
 go_enter Tryz.func31, Tryz.ntmps31
 have B0 := Lib.hid (show Below w.heap.size w ((w.alloc (.cells #[.int .i64 m, .int .i64 ip, .slice a rs.length cap] 26)).alloc (.cells #[.int .i64 0, .int .i64 0, .slice none 0 0] 26)) from (((Below.refl _ w).alloc (by simp) _).alloc (by simp) _))
 have Kl0 := Lib.hid (show Blk ((w.alloc (.cells #[.int .i64 m, .int .i64 ip, .slice a rs.length cap] 26)).alloc (.cells #[.int .i64 0, .int .i64 0, .slice none 0 0] 26)) (w.heap.size) [.int .i64 m, .int .i64 ip, .slice a rs.length cap] from (Blk.new w [.int .i64 m, .int .i64 ip, .slice a rs.length cap] 26).alloc (.cells #[.int .i64 0, .int .i64 0, .slice none 0 0] 26))
 have s1 : (w.alloc (.cells #[.int .i64 m, .int .i64 ip, .slice a rs.length cap] 26)).heap.size = w.heap.size + 1 := by simp
 have Kr0 := Lib.hid (show Blk ((w.alloc (.cells #[.int .i64 m, .int .i64 ip, .slice a rs.length cap] 26)).alloc (.cells #[.int .i64 0, .int .i64 0, .slice none 0 0] 26)) (w.heap.size + 1) [.int .i64 0, .int .i64 0, .slice none 0 0] by have h0 := Blk.new (w.alloc (.cells #[.int .i64 m, .int .i64 ip, .slice a rs.length cap] 26)) [.int .i64 0, .int .i64 0, .slice none 0 0] 26; rwa [s1] at h0)
 have n_l_r : w.heap.size ≠ w.heap.size + 1 := by omega
 clear s1
 go_wp2_with fail
 change Calls _ _ _ ((w.alloc (.cells #[.int .i64 m, .int .i64 ip, .slice a rs.length cap] 26)).alloc (.cells #[.int .i64 0, .int .i64 0, .slice none 0 0] 26)) _
 generalize (w.alloc (.cells #[.int .i64 m, .int .i64 ip, .slice a rs.length cap] 26)).alloc (.cells #[.int .i64 0, .int .i64 0, .slice none 0 0] 26) = v0 at B0 Kl0 Kr0 ⊢
 generalize hh_r : w.heap.size + 1 = g_r at Kr0 n_l_r ⊢
 generalize hh_l : w.heap.size = g_l at Kl0 n_l_r ⊢
 have l_l : w.heap.size ≤ g_l := by omega
 have l_r : w.heap.size ≤ g_r := by omega
 clear hh_l hh_r
 have hl0 := Kl0.out.lt
 have hr0 := Kr0.out.lt
 have hz0 := B0.out.size
 refine (C.out _ ((HR.out.below B0.out).mono B0.out.size)).mono ?_
 rintro e v1 ⟨a', cap', rfl, ho, hb⟩
 have B1 := Lib.hid (B0.out.trans (hb.mono hz0))
 have O1 := Lib.hid ho
 have Kl1 := Lib.hid (Kl0.out.below hb)
 have Kr1 := Lib.hid (Kr0.out.below hb)
 clear hb ho B0 Kl0 Kr0 HR
 obtain ⟨⟨c0, c1, c2⟩, d0, d1, d2⟩ := Kl1.out.o3
 obtain ⟨⟨e0, e1, e2⟩, f0, f1, f2⟩ := Kr1.out.o3
 go_wp2_with fail
 refine bodyPost_ret (v := .agg #[.int .i64 m, .int .i64 ip, .slice a' rs.length cap']) (by simp [results, Tryz.results31, go_sem, e0, e1, e2]) rfl ⟨a', cap', rfl, ?_, ?_⟩
 ·exact own_down (own_set (own_set (own_set (own_set O1.out _ _ hl0 _) _ _ hr0 _) _ _ hr0 _) _ _ hr0 _) hz0
 ·exact ((((B1.out.setCell l_l _).setCell l_r _).setCell l_r _).setCell l_r _)

end Go.Proofs.YtkkimgjcefojdaaGreatDoor
