/- A region that draws its order (HeldTill): two steps that may come up. Nothing here is a claim. -/
import Derived.Test.YtpbnkkgfjmkcdaaHeldTill
namespace Go.Proofs.Ytpbnkkgfjmkcdaa
open Go

section
variable {P : Program} {ops : Array Oper} {Q : Exit → Act → World → Prop} {md : Region.Mode} {S T : World → Prop} {L : Nat}

theorem wpTill_two {i j : Nat} {oi oj : Oper} {n : Nat} {ls : Array Bool} {a : Act} {w : World} (hr : Region.ready md ops ls = [i, j]) (hoi : ops[i]? = some oi) (hoj : ops[j]? = some oj)
    (h1 : ∀ K : Act → World → Prop, Shut (∀ b u, Till S L (ls.setIfInBounds i true) u → (Till S L (ls.setIfInBounds i true) u → wpTill P md ops Q S L n (ls.setIfInBounds i true) b u) → K b u) → if Region.wanted oi (yielded ops a.tmps) = true then Oper.wp P oi a w K Q else K (a.put oi.dst undef) w)
    (h2 : ∀ K : Act → World → Prop, Shut (∀ b u, Till S L (ls.setIfInBounds j true) u → (Till S L (ls.setIfInBounds j true) u → wpTill P md ops Q S L n (ls.setIfInBounds j true) b u) → K b u) → if Region.wanted oj (yielded ops a.tmps) = true then Oper.wp P oj a w K Q else K (a.put oj.dst undef) w) :
    wpTill P md ops Q S L (n + 1) ls a w := by
  refine ⟨fun h0 => (by rw [hr] at h0; cases h0), fun k hk => ?_⟩
  rw [hr] at hk
  simp only [List.mem_cons, List.not_mem_nil, or_false] at hk
  rcases hk with rfl | rfl
  · exact wpOp_step hoi (fun K hK => h1 K (fun b u hS hW => hK b u ⟨hS, hW hS⟩))
  · exact wpOp_step hoj (fun K hK => h2 K (fun b u hS hW => hK b u ⟨hS, hW hS⟩))
end
end Go.Proofs.Ytpbnkkgfjmkcdaa
