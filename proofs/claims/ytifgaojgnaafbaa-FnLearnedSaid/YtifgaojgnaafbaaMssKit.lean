/- Plain lemmas of chapter 12 of the document: the segment sizes and the largest index that is not too large; a literal's entry into the call's own map. Nothing here is a claim. -/
import Derived.Test.YtifgaojgnaafbaaBase
import Derived.Test.YtifgaojgnaafbaaKit
import Derived.Maps.Own
import Derived.Maps.OwnOps
import Derived.Maps.Views
namespace Go.Proofs.Ytifgaojgnaafbaa
open Go.RowKit Go.Lib Go.Maps

/-- The segment size of an index; 0 for what is no index. -/
def mssAt (i : Int) : Int :=
  if i = 0 then 64 else if i = 1 then 256 else if i = 2 then 536 else if i = 3 then 1024 else if i = 4 then 1300 else if i = 5 then 1400 else if i = 6 then 1440 else if i = 7 then 1460 else 0
theorem mssAt_no {i : Int} (h : ¬ (0 ≤ i ∧ i ≤ 7)) : mssAt i = 0 := by
  unfold mssAt
  repeat rw [if_neg (by omega)]
theorem mssAt_i64 (i : Int) : (Lit.int .i64 (mssAt i)).wf = true := by
  unfold mssAt
  repeat' split
  all_goals decide

/-- The greatest index below n whose size is at most m; 0 if there is none. -/
def mssTo (m : Int) : Nat → Int
  | 0 => 0
  | n + 1 => if mssAt n ≤ m then n else mssTo m n
theorem mssTo_yes {m : Int} {n : Nat} (h : mssAt n ≤ m) : mssTo m (n + 1) = n := by unfold mssTo; rw [if_pos h]
theorem mssTo_no {m : Int} {n : Nat} (h : ¬ mssAt n ≤ m) : mssTo m (n + 1) = mssTo m n := by
  conv => lhs; unfold mssTo
  rw [if_neg h]
theorem mssTo_one (m : Int) : mssTo m 1 = 0 := by
  by_cases h : mssAt ((0 : Nat) : Int) ≤ m
  · exact (mssTo_yes h).trans rfl
  · exact (mssTo_no h).trans rfl
theorem mssTo_bd (m : Int) : ∀ n : Nat, n ≤ 8 → 0 ≤ mssTo m n ∧ mssTo m n ≤ 7
  | 0, _ => ⟨Int.le_refl _, show (0 : Int) ≤ 7 by decide⟩
  | n + 1, h => by
    by_cases e : mssAt n ≤ m
    · rw [mssTo_yes e]; omega
    · rw [mssTo_no e]; exact mssTo_bd m n (by omega)
/-- The size of the index is not too large. -/
theorem mssTo_le (m : Int) : ∀ n : Nat, mssAt (mssTo m n) ≤ m ∨ mssTo m n = 0
  | 0 => Or.inr rfl
  | n + 1 => by
    by_cases e : mssAt n ≤ m
    · rw [mssTo_yes e]; exact Or.inl e
    · rw [mssTo_no e]; exact mssTo_le m n
/-- Every greater index below n has a size that is too large. -/
theorem mssTo_gt (m : Int) : ∀ (n k : Nat), k < n → mssTo m n < k → ¬ mssAt k ≤ m
  | 0, _, h, _ => by omega
  | n + 1, k, h, hk => by
    by_cases e : mssAt n ≤ m
    · rw [mssTo_yes e] at hk; omega
    · rw [mssTo_no e] at hk
      by_cases hkn : k = n
      · rw [hkn]; exact e
      · exact mssTo_gt m n k (by omega) hk
theorem mssTo_next (m : Int) (h : mssTo m 8 ≠ 7) : ¬ mssAt (mssTo m 8 + 1) ≤ m := by
  obtain ⟨h0, h1⟩ := mssTo_bd m 8 (Nat.le_refl _)
  have h2 := mssTo_gt m 8 (mssTo m 8 + 1).toNat (by omega) (by omega)
  rwa [show (((mssTo m 8 + 1).toNat : Nat) : Int) = mssTo m 8 + 1 by omega] at h2

/-! The sizes as a map's datum. -/
abbrev ki (i : Int) : Lit := .int .i64 i
abbrev vi (v : Int) : DataW Unit := .lit (.int .i64 v)
theorem ki_key (i : Int) : WideAt.IsKeyLit (ki i) := by simp [WideAt.IsKeyLit]
theorem ki_ne {i j : Int} (h : i ≠ j) : ki i ≠ ki j := fun e => h (by unfold ki at e; injection e)
/-- The map that these rows make, entered from the last to the first. -/
def sizeD : List (Int × Int) → DataW Unit
  | [] => .map []
  | r :: rs => (sizeD rs).put (ki r.1) (vi r.2)
def sizeAt : List (Int × Int) → Int → Int
  | [], _ => 0
  | r :: rs, i => if i = r.1 then r.2 else sizeAt rs i
theorem sizeD_map : ∀ rs, IsMap (sizeD rs)
  | [] => isMap_empty
  | _ :: rs => (sizeD_map rs).put _ _
theorem sizeD_at (i : Int) : ∀ rs, (sizeD rs).atKey (ki i) (vi 0) = vi (sizeAt rs i)
  | [] => rfl
  | r :: rs => by
    unfold sizeD sizeAt
    by_cases h : i = r.1
    · rw [if_pos h, h, atKey_put_same (sizeD_map rs) (ki_key _)]
    · rw [if_neg h, atKey_put_other (ki_ne h), sizeD_at i rs]
/-- All the sizes. -/
def sizeRows : List (Int × Int) := [(7, 1460), (6, 1440), (5, 1400), (4, 1300), (3, 1024), (2, 536), (1, 256), (0, 64)]
def sizesD : DataW Unit := sizeD sizeRows
theorem sizesD_at (i : Int) : sizesD.atKey (ki i) (vi 0) = vi (mssAt i) := by
  unfold sizesD
  rw [sizeD_at]
  congr 2
  unfold sizeRows mssAt
  simp only [sizeAt]
  by_cases h : 0 ≤ i ∧ i ≤ 7
  · have : i = 0 ∨ i = 1 ∨ i = 2 ∨ i = 3 ∨ i = 4 ∨ i = 5 ∨ i = 6 ∨ i = 7 := by omega
    rcases this with rfl | rfl | rfl | rfl | rfl | rfl | rfl | rfl <;> rfl
  · repeat rw [if_neg (by omega)]

/-- A literal's entry runs as a store into the map. -/
theorem wpList_insert_as {P : Program} {ops : Array Oper} {rest : List Oper} {o : Oper} {a : Act} {w : World} {Q : Exit → Act → World → Prop} (t : TypeId) (m x v : Operand) (hop : o.op = Op.insert t m x v)
    (h : wpList P ops Q ({ o with op := Op.mapUpdate t m x v } :: rest) a w) : wpList P ops Q (o :: rest) a w := by
  cases o
  cases hop
  exact h

theorem int_key {i : Int} (h : (Lit.int .i64 i).wf = true) : keyOf Try.prog 3 (.int .i64 i) = some (ki i) := keyOf_int_mk Try.underlying3 h

/-- A map that the call made, at the place where the heap ended when the call began. -/
def Ent (w0 W : World) (n : Nat) (D : DataW Unit) : Prop := W.ownsMap Try.prog 3 (plainElem Try.prog 3) w0.heap.size n D ∧ Below w0.heap.size w0 W
theorem Ent.made (w : World) : Ent w (w.alloc (.map #[] 0)) 0 (.map []) := ⟨World.ownsMap_made _ _ _ _, (Below.refl _ _).alloc (Nat.le_refl _) _⟩

/-- An entry of two numbers. -/
theorem insertI {ops : Array Oper} {rest : List Oper} {o : Oper} {a : Act} {w0 w : World} {Q : Exit → Act → World → Prop} (hg : o.guard = none) (m : Operand) (i v : Int) (n : Nat) (D : DataW Unit)
    (hop : o.op = Op.insert 62 m (.const (.int .i64 i)) (.const (.int .i64 v))) (hm : a.eval m = .map (some w0.heap.size))
    (hown : Ent w0 w n D) (hn : n < 100) (hi : (Lit.int .i64 i).wf = true) (hv : (Lit.int .i64 v).wf = true)
    (hK : ∀ w', Ent w0 w' (n + 1) (D.put (ki i) (vi v)) → wpList Try.prog ops Q rest (a.put o.dst undef) w') :
    wpList Try.prog ops Q (o :: rest) a w :=
  wpList_insert_as 62 _ _ _ hop (wpList_mapUpdate_own w hg _ _ _ 62 rfl 3 3 (int_keyed Try.underlying3) Try.underlying62 _ w0.heap.size n D hm hown.1 (by unfold maxLen; omega) _ _ (ki i) rfl rfl (int_key hi) (vi v) [] (plainElem_int Try.underlying3 hv)
    fun w' h1 h2 => hK w' ⟨h1, hown.2.grown h2 hown.2.size (fun j hj => by cases hj; exact Nat.le_refl _)⟩)

end Go.Proofs.Ytifgaojgnaafbaa
