/- A scope out of which the run jumps ahead, to one label. Nothing here is a claim. -/
import Derived.ScopeJumps
import Derived.WalkMore
namespace Go.Proofs.Ytlfbcfhekfmkfaa
open Go

/-- A goto to a label that lies ahead: what stands behind the label is walked from wherever the run jumps. -/
theorem wp_scope_ahead {P : Program} {a : Act} {w : World} {Q : Exit → Act → World → Prop} {c rest : Code} (l : Nat) (hf : findLabel c l = some rest)
    (first : c.wp P (Exit.jump l (fun a' w' => ∀ J, rest.wp P (Exit.jump l J Q) a' w') Q) a w) : (Code.scope c).wp P Q a w :=
  wp_scope_jumps l _ (fun _ _ => 0) hf first (fun _ _ h => h _)
end Go.Proofs.Ytlfbcfhekfmkfaa
