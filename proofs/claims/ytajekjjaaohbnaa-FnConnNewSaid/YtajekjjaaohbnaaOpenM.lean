/- A slice of structs that came in, opened; table rows; a Mac. Nothing here is a claim. -/
import Derived.Test.YtajekjjaaohbnaaFlatRow
import Derived.Test.YtajekjjaaohbnaaNest
import Derived.Deep.Slices
import Derived.ProofKit
import Derived.OpenShut
namespace Go.Proofs.Ytajekjjaaohbnaa
open Go.Joins Go.ChangeShapes Go.WideShapes Go.RowKit Go.Deep Go.Lib

theorem own_ne {g g' n c : Nat} (h : g ≠ g') : (Value.slice (some ⟨g, 0, none⟩) n c).ownBlock ≠ some g' := fun e => h (by simpa [Value.ownBlock] using e)
theorem adr_add (b off j : Nat) : (⟨b, off, none⟩ : Addr).add j = ⟨b, off + j, none⟩ := by unfold Addr.add; split <;> simp_all
theorem choose_list {α : Type} {p : Nat → α → Prop} (n : Nat) (h : ∀ i, i < n → ∃ r, p i r) : ∃ rs : List α, ∃ hl : rs.length = n, ∀ i (hi : i < n), p i (rs[i]'(by rw [hl]; exact hi)) := by
  refine ⟨List.ofFn fun i : Fin n => Classical.choose (h i.1 i.2), by simp, fun i hi => ?_⟩
  rw [List.getElem_ofFn]
  exact Classical.choose_spec (h i hi)
/-- What the walk is told of a slice of structs. -/
def IsRow {α : Type} (f : α → List Value) (good : α → Prop) (w : World) (a : Option Addr) (len cap : Nat) (rs : List α) : Prop := (rs.length = len ∧ len ≤ cap ∧ cap ≤ maxLen ∧ ∀ r ∈ rs, good r) ∧ Row w w.heap.size a (flat f rs)
theorem openRow {α H : Type} {f : α → List Value} {k : Nat} (hk : ∀ x, (f x).length = k) (h0 : 0 < k) {good : α → Prop} {enc : TypeId × Value → H} {P : Program} {w : World} {t e : TypeId} {fuel : Nat} {a : Option Addr} {len cap : Nat} {x : DataW H × List MemPlace}
    (ht : P.underlying t = some (.slice e)) (hc : P.cellsOf e = k) (each : ∀ n cs y, DataW.trod enc P w 0 (fun _ => true) true n e cs = some y → ∃ r, cs = f r ∧ good r)
    (h : DataW.trod enc P w 0 (fun _ => true) true fuel t (Value.slice a len cap).cells.toList = some x) : ∃ rs : List α, IsRow f good w a len cap rs := by
  rcases open_slice ht h with ⟨hcs, _⟩ | ⟨ad, l, c, m, n, D, Pl, hcs, _, hl, hm, hmm, _, hx⟩
  · simp [Value.cells] at hcs
    obtain ⟨rfl, rfl, rfl⟩ := hcs
    exact ⟨[], ⟨rfl, Nat.le_refl _, Nat.zero_le _, fun _ h => by cases h⟩, Row.nil⟩
  · simp [Value.cells] at hcs
    obtain ⟨rfl, rfl, rfl⟩ := hcs
    simp only [if_true] at hmm
    subst hmm
    obtain ⟨rs, hlr, hrs⟩ := choose_list (p := fun i r => good r ∧ ∀ j, j < k → w.cell? (ad.add (i * k + j)) = (f r)[j]?) len (fun i hi => by
      obtain ⟨cs', h1, h2⟩ := hx i (by omega)
      obtain ⟨r, rfl, hg⟩ := each _ _ _ h2
      rw [hc] at h1
      obtain ⟨_, _, hat⟩ := World.cells?_some h1
      exact ⟨r, hg, fun j hj => by rw [← Go.Deep.add_add]; exact hat j hj⟩)
    refine ⟨rs, ⟨hlr, hl, hm, fun r hr => ?_⟩, fun hne => ?_⟩
    · obtain ⟨i, hi, rfl⟩ := List.getElem_of_mem hr
      exact (hrs i (by omega)).1
    · have hpos : 0 < len := by
        rcases Nat.eq_zero_or_pos len with h' | h'
        · rw [h'] at hlr; rw [List.eq_nil_of_length_eq_zero hlr] at hne; exact absurd rfl hne
        · exact h'
      obtain ⟨b, off, spot⟩ := ad
      have hc0 := (hrs 0 hpos).2 0 h0
      rw [List.getElem?_eq_getElem (by rw [hk]; exact h0)] at hc0
      have hspot : spot = none := by simpa [Addr.add] using World.cell?_spot hc0
      subst hspot
      refine ⟨b, off, rfl, World.block_lt_of_cell? w ⟨b, off, none⟩ (by simpa [Addr.add] using hc0), fun p u hu => ?_⟩
      have hp : p < rs.length * k := by rw [← flat_length hk]; exact (List.getElem?_eq_some_iff.1 hu).1
      have e1 : p = p / k * k + p % k := by rw [Nat.mul_comm]; exact (Nat.div_add_mod p k).symm
      have hi : p / k < rs.length := (Nat.div_lt_iff_lt_mul h0).2 hp
      have hj : p % k < k := Nat.mod_lt _ h0
      have h3 := (hrs (p / k) (by omega)).2 (p % k) hj
      rw [← flat_at hk rs (p / k) (p % k) hi hj, ← e1, hu] at h3
      rw [← h3, adr_add]
/-- A table's row, opened. -/
def goodM (r : MR) : Prop := r.s.size ≤ maxLen ∧ (Lit.int .i64 r.v).wf = true
abbrev IsM := IsRow MR.cs goodM
theorem openM {H : Type} {enc : TypeId × Value → H} {P : Program} {w : World} {t e ts ti : TypeId} {f0 f1 : Field} {fuel : Nat} {a : Option Addr} {len cap : Nat} {x : DataW H × List MemPlace}
    (ht : P.underlying t = some (.slice e)) (he : P.underlying e = some (.struct #[f0, f1])) (hc : P.cellsOf e = 2) (h0 : f0.type = ts ∧ f0.offset = 0 ∧ P.cellsOf ts = 1) (h1 : f1.type = ti ∧ f1.offset = 1 ∧ P.cellsOf ti = 1)
    (us : P.underlying ts = some .string) (ui : P.underlying ti = some (.int .i64))
    (h : DataW.trod enc P w 0 (fun _ => true) true fuel t (Value.slice a len cap).cells.toList = some x) : ∃ rs, IsM w a len cap rs := by
  refine openRow MR.two (by decide) ht hc (fun n cs y hy => ?_) h
  obtain ⟨n', hl, hf⟩ := trod_nest he hy
  rw [hc] at hl
  match cs, hl with
  | [c0, c1], _ =>
    obtain ⟨_, t0⟩ := hf 0 f0 rfl
    obtain ⟨_, t1⟩ := hf 1 f1 rfl
    rw [h0.1, h0.2.1, h0.2.2] at t0
    rw [h1.1, h1.2.1, h1.2.2] at t1
    obtain ⟨s, e0, _, w0⟩ := DataW.trod_string us t0
    obtain ⟨v, e1, _, w1⟩ := DataW.trod_int ui t1
    obtain rfl : c0 = .string s := (List.cons.inj e0).1
    obtain rfl : c1 = .int .i64 v := (List.cons.inj e1).1
    exact ⟨⟨s, v⟩, rfl, w0, w1⟩
end Go.Proofs.Ytajekjjaaohbnaa
