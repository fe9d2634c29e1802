/- TableMac of the model, at a slice that is not nil; slices.Clone of a table. Nothing here is a claim. -/
import Derived.Test.YtajekjjaaohbnaaBase
import Derived.Test.YtajekjjaaohbnaaFlatRow
import Derived.Test.YtajekjjaaohbnaaCurKit
import Derived.Deep.RegionHeld3
import Derived.Test.YtajekjjaaohbnaaCurA
import Derived.OwnWalk
import Derived.Deep.DeepCutAuto
namespace Go.Proofs.Ytajekjjaaohbnaa
open Go.RowKit Go.Lib

/-- The table's cells are one cell each. -/
theorem mrs_one (rs : List MR) : ∀ u ∈ mrs rs, u.oneCell' = true := by
  intro u hu
  obtain ⟨r, _, hr⟩ := List.mem_flatMap.1 hu
  simp only [MR.cs, List.mem_cons, List.not_mem_nil, or_false] at hr
  rcases hr with rfl | rfl <;> rfl
/-- The source's cells, in an address's words. -/
theorem row_adr {w : World} {B b off : Nat} {xs : List Value} (h : Row w B (some ⟨b, off, none⟩) xs) : ∀ j u, xs[j]? = some u → w.cell? ((⟨b, off, none⟩ : Addr).add j) = some u := by
  intro j u hu
  obtain ⟨b', off', e, _, hc⟩ := h (fun e => by rw [e] at hu; cases hu)
  injection e with e
  injection e with e1 e2
  subst e1 e2
  rw [show (⟨b, off, none⟩ : Addr).add j = ⟨b, off + j, none⟩ by unfold Addr.add; split <;> simp_all]
  exact hc j u hu

theorem own_set' {w : World} {base size n m c g : Nat} {e : TypeId} {xs : List Value} (h : w.ownsRow base e size (.slice (some ⟨g, 0, none⟩) m c) n xs) {b : Nat} (k : Nat) (u : Value) (hne : b ≠ g) : (w.setCell ⟨b, k, none⟩ u).ownsRow base e size (.slice (some ⟨g, 0, none⟩) m c) n xs :=
  h.kept (row := some b) ⟨rfl, rfl, rfl, by simp, fun j _ hj => Below.heap_setCell w ⟨b, k, none⟩ u j (fun e => hj (by rw [e]))⟩ (.inr (fun e => hne (by simpa [Value.ownBlock] using e.symm)))
theorem own_up {w : World} {base base' size n m c g : Nat} {e : TypeId} {xs : List Value} (h : w.ownsRow base e size (.slice (some ⟨g, 0, none⟩) m c) n xs) (hb : base' ≤ g) : w.ownsRow base' e size (.slice (some ⟨g, 0, none⟩) m c) n xs := by
  refine ⟨h.1, ?_⟩
  rcases h.2 with ⟨h1, _⟩ | ⟨g', cap, cur, h1, h2, h3⟩
  · cases h1
  · have e1 : g = g' := by injection h1 with h1; injection h1 with h1; injection h1
    subst e1
    exact .inr ⟨g, cap, cur, h1, hb, h3⟩
theorem own_shape {w : World} {base size n : Nat} {e : TypeId} {v : Value} {xs : List Value} (h : w.ownsRow base e size v n xs) (hn : v ≠ .slice none 0 0) : ∃ g cap, v = .slice (some ⟨g, 0, none⟩) n cap := by
  rcases h.2 with ⟨hv, _⟩ | ⟨g, cap, _, hv, _⟩
  · exact absurd hv hn
  · exact ⟨g, cap, hv⟩
end Go.Proofs.Ytajekjjaaohbnaa
