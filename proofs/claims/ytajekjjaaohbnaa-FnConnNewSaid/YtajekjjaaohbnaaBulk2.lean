/- A whole struct stored into a block, at one operation. Nothing here is a claim. -/
import Derived.Test.YtajekjjaaohbnaaBulk
namespace Go.Proofs.Ytajekjjaaohbnaa
open Go.RowKit Go.Lib

theorem wp_store_blk {P : Program} {o : Oper} {a : Act} {w : World} {K : Act → World → Prop} {Q : Exit → Act → World → Prop} (ty : TypeId) (x y : Operand) (ho : o.op = .store ty x y) {g : Nat} {cs cs' : List Value}
    (hx : a.eval x = .pointer (some ⟨g, 0, none⟩)) (hy : a.eval y = .agg cs'.toArray) (hB : Blk w g cs) (hl : cs.length = cs'.length) (hi : (P.info? ty).map (·.size) = some cs'.length) (h1 : cs'.all (·.oneCell') = true)
    (h : ∀ w', Blk w' g cs' → w.grownBy w' (some g) → K (a.put o.dst undef) w') : o.wp P a w K Q := by
  obtain ⟨t, hg⟩ := hB
  have hr := run_storeVar_row (P := P) w g t ty cs.toArray cs'.toArray hg (by simpa using hi) (by simpa using hl) (by simpa using h1)
  unfold Oper.wp
  simp only [execOp, ho, hx, hy, Instr.storeAt, Instr.sureAddr, Sem.run_bind, Sem.run_pure, Result.andThen_ok, hr]
  exact h _ ⟨t, heap_setRow hg⟩ (grown_setRow w g _)
end Go.Proofs.Ytajekjjaaohbnaa
