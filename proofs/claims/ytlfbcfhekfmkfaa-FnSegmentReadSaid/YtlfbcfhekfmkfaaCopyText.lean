/- A string copied into a row of bytes that is known whole. Nothing here is a claim. -/
import Derived.Test.YtlfbcfhekfmkfaaCurA
import Derived.Test.YtlfbcfhekfmkfaaKit
import Derived.Lib.BufferWrite
import Derived.Laws.CopyOwn
import Derived.Test.YtlfbcfhekfmkfaaCurKit
import Derived.Laws.AppendOwn
namespace Go.Proofs.Ytlfbcfhekfmkfaa
open Go.RowKit Go.Lib

/-- The bytes l with x laid over them from place o on. -/
def lay (l : List UInt8) (o : Nat) (x : ByteArray) : List UInt8 := l.take o ++ (x.data.toList ++ l.drop (o + x.size))
theorem lay_length (l : List UInt8) (o : Nat) (x : ByteArray) (h : o + x.size ≤ l.length) : (lay l o x).length = l.length := by
  have e : x.data.toList.length = x.size := by simp
  unfold lay
  simp only [List.length_append, List.length_take, List.length_drop, e]
  omega
theorem lay_nothing (l : List UInt8) (o : Nat) (x : ByteArray) (h : x.size = 0) : lay l o x = l := by
  have e : x.data.toList = [] := List.eq_nil_of_length_eq_zero (by simpa using h)
  unfold lay
  rw [e, h, Nat.add_zero, List.nil_append, List.take_append_drop]
theorem lay_cells (l : List UInt8) (o : Nat) (x : ByteArray) : byteCells (lay l o x) = (byteCells l).take o ++ byteCells x.data.toList ++ (byteCells l).drop (o + x.size) := by
  unfold lay byteCells
  simp [List.map_append, List.map_take, List.map_drop]
theorem run_copy_text {P : Program} (w : World) (dT sT ty elem : TypeId) (dp : Option Addr) (dLen dCap : Nat) (x : ByteArray) (g off : Nat) (l : List UInt8)
    (hu : P.underlying dT = some (.slice elem)) (hs : (P.info? elem).map (·.size) = some 1) (hb : Blk w g (byteCells l)) (hle : x.size ≤ dLen) (hfit : off + x.size ≤ l.length) (hpos : 0 < x.size → dp = some ⟨g, off, none⟩) :
    ∃ w', (Builtin.copy_ #[dT, sT] ty #[.slice dp dLen dCap, .string x]).run P w = .ok (goInt x.size) w' ∧ Blk w' g (byteCells (lay l off x)) ∧ w.grownBy w' (some g) := by
  by_cases h0 : x.size = 0
  · refine ⟨w, ?_, ?_, ?_⟩
    · rw [h0]
      exact run_copy_empty_string w dT sT ty elem dp dLen dCap x hu (by cases hq : P.info? elem <;> simp [hq] at hs ⊢) h0
    · rw [lay_nothing l off x h0]; exact hb
    · exact ⟨rfl, rfl, rfl, Nat.le_refl _, fun _ _ _ => rfl⟩
  · obtain rfl := hpos (by omega)
    obtain ⟨t, hg⟩ := hb
    have el : (byteCells l).toArray.size = l.length := by simp [byteCells]
    refine ⟨_, run_copy_row_string w dT sT ty elem g off dLen dCap x _ t hu hs hg hle (by rw [el]; exact hfit), ⟨t, ?_⟩, ?_⟩
    · rw [setRow_heap w g _ _ t _ hg, lay_cells]
    · exact ⟨rfl, rfl, rfl, by simp [World.setRow], fun k _ hk => setRow_other w g k _ (fun e => hk (by rw [e]))⟩
theorem wpList_copy_text {P : Program} {w : World} {ops : Array Oper} {rest : List Oper} {o : Oper} {a : Act} {Q : Exit → Act → World → Prop} (hgd : o.guard = none) (d s : Operand) (dT sT : TypeId)
    (ho : o.op = .call { callee := .builtin .copy, args := #[d, s], argTypes := #[dT, sT] }) (elem : TypeId) (hu : P.underlying dT = some (.slice elem)) (hsz : (P.info? elem).map (·.size) = some 1)
    (dp : Option Addr) (dLen dCap : Nat) (x : ByteArray) (hd : a.eval d = .slice dp dLen dCap) (hs : a.eval s = .string x) (g off : Nat) (l : List UInt8)
    (hb : Blk w g (byteCells l)) (hle : x.size ≤ dLen) (hfit : off + x.size ≤ l.length) (hpos : 0 < x.size → dp = some ⟨g, off, none⟩)
    (h : ∀ w', Hid (Blk w' g (byteCells (lay l off x))) → Hid (w.grownBy w' (some g)) → wpList P ops Q rest (a.put o.dst (goInt x.size)) w') :
    wpList P ops Q (o :: rest) a w := by
  refine wpList_plain hgd fun K hK => ?_
  obtain ⟨w', hrun, h1, h2⟩ := run_copy_text (P := P) w dT sT o.type elem dp dLen dCap x g off l hu hsz hb hle hfit hpos
  unfold Oper.wp
  simp [execOp, ho, resolve, invoke, builtin, hd, hs, hrun, Result.andThen]
  exact hK _ _ (h w' h1 h2)
theorem step_copy_text {P : Program} {ops : Array Oper} {o : Oper} {a : Act} {w : World} {K : Act → World → Prop} {Q : Exit → Act → World → Prop} {E : Prop} (hgd : o.guard = none) (d s : Operand) (dT sT : TypeId)
    (ho : o.op = .call { callee := .builtin .copy, args := #[d, s], argTypes := #[dT, sT] }) (elem : TypeId) (hu : P.underlying dT = some (.slice elem)) (hsz : (P.info? elem).map (·.size) = some 1)
    (dp : Option Addr) (dLen dCap : Nat) (x : ByteArray) (hd : a.eval d = .slice dp dLen dCap) (hs : a.eval s = .string x) (g off : Nat) (l : List UInt8)
    (hb : Blk w g (byteCells l)) (hle : x.size ≤ dLen) (hfit : off + x.size ≤ l.length) (hpos : 0 < x.size → dp = some ⟨g, off, none⟩)
    (h : ∀ w', Hid (Blk w' g (byteCells (lay l off x))) → Hid (w.grownBy w' (some g)) → K (a.put o.dst (goInt x.size)) w') :
    if Region.wanted o (yielded ops a.tmps) = true then Oper.wp P o a w K Q else E := by
  have hw : Region.wanted o (yielded ops a.tmps) = true := by simp [Region.wanted, hgd]
  rw [if_pos hw]
  obtain ⟨w', hrun, h1, h2⟩ := run_copy_text (P := P) w dT sT o.type elem dp dLen dCap x g off l hu hsz hb hle hfit hpos
  unfold Oper.wp
  simp [execOp, ho, resolve, invoke, builtin, hd, hs, hrun, Result.andThen]
  exact h w' h1 h2
theorem HasC.grown {w w' : World} {g r : Nat} {vs : List Value} (h : HasC w g vs) (hg : w.grownBy w' (some r)) (hne : g ≠ r) : HasC w' g vs :=
  ⟨Nat.lt_of_lt_of_le h.1 hg.size, fun j v hj => hg.cell (a := ⟨g, j, none⟩) (h.2 j v hj) (fun e => hne (by injection e))⟩
/-- A call that stores into row g alone, and makes memory of its own. -/
theorem below_row {B g : Nat} {a w w' : World} (h : Below B a w) (hg : w.grownBy w' (some g)) (hB : B ≤ w.heap.size) (hr : B ≤ g) : Below B a w' :=
  h.grown hg hB (fun k e => by injection e with e; omega)
theorem row_below {w w1 w2 : World} {g : Nat} (hb : Below w.heap.size w w1) (hg : w1.grownBy w2 (some g)) : w.grownBy w2 (some g) :=
  ⟨hg.os.trans hb.os, hg.tape.trans hb.tape, hg.output.trans hb.output, Nat.le_trans hb.size hg.size, fun k hk hne => (hg.block k (Nat.lt_of_lt_of_le hk hb.size) hne).trans (hb.block k hk)⟩
end Go.Proofs.Ytlfbcfhekfmkfaa
namespace Go.Proofs.Ytlfbcfhekfmkfaa
open Go.RowKit Go.Lib

/-- The text D, followed by zeros, M bytes in all. -/
def zeroed (D : ByteArray) (M : Nat) : List UInt8 := D.data.toList ++ List.replicate (M - D.size) 0
theorem zeroed_length (D : ByteArray) (M : Nat) (h : D.size ≤ M) : (zeroed D M).length = M := by
  have e : D.data.toList.length = D.size := by simp
  unfold zeroed
  rw [List.length_append, List.length_replicate, e]; omega
theorem empty_add (x : ByteArray) : (⟨#[]⟩ : ByteArray) ++ x = x := ByteArray.empty_append
theorem len_list (x : ByteArray) : x.data.toList.length = x.size := by simp
theorem zeroed_full (D : ByteArray) (M : Nat) (h : D.size = M) : zeroed D M = D.data.toList := by
  unfold zeroed
  rw [h, Nat.sub_self]; simp
theorem zeroed_empty (M : Nat) : zeroed ⟨#[]⟩ M = List.replicate M 0 := rfl
theorem zeroed_lay (D x : ByteArray) (M o : Nat) (ho : D.size = o) (h : D.size + x.size ≤ M) : lay (zeroed D M) o x = zeroed (D ++ x) M := by
  have e : D.data.toList.length = D.size := by simp
  subst ho
  unfold lay zeroed
  rw [List.take_append_of_le_length (by omega), List.take_of_length_le (by omega), List.drop_append, List.drop_eq_nil_of_le (by omega), e, ByteArray.size_append]
  simp only [ByteArray.data_append, Array.toList_append, List.nil_append, List.append_assoc, List.drop_replicate]
  rw [show M - D.size - (D.size + x.size - D.size) = M - (D.size + x.size) by omega]
theorem lay_mid (A m x E : ByteArray) (h : m.size = x.size) : lay (A ++ m ++ E).data.toList A.size x = (A ++ x ++ E).data.toList := by
  have e : A.data.toList.length = A.size := by simp
  have e2 : m.data.toList.length = m.size := by simp
  unfold lay
  simp only [ByteArray.data_append, Array.toList_append, List.append_assoc]
  rw [List.take_append_of_le_length (by omega), List.take_of_length_le (by omega), List.drop_append, List.drop_eq_nil_of_le (by omega), List.nil_append, e, List.drop_append, List.drop_eq_nil_of_le (by omega), List.nil_append, e2, show A.size + x.size - A.size - m.size = 0 by omega]
  rfl
theorem blk_made {w : World} {B g n : Nat} {e : TypeId} (h : w.ownsRow B e 1 (.slice (some ⟨g, 0, none⟩) n n) n (madeCells (Value.int .u8 0).cells (n * 1)).toList) : Blk w g (byteCells (List.replicate n 0)) := by
  obtain ⟨_, h⟩ := h
  rcases h with ⟨h, _⟩ | ⟨g', cap, cur, hv, _, hg, _, _, hsz, htk⟩
  · cases h
  · injection hv with h1 h2 h3
    injection h1 with h1
    injection h1 with h1
    subst h1 h3
    refine ⟨e, hg.trans ?_⟩
    have e1 : cur.toList = byteCells (List.replicate n 0) := by
      rw [List.take_of_length_le (by rw [Array.length_toList, hsz]; exact Nat.le_refl _)] at htk
      rw [htk]
      apply List.ext_getElem
      · simp [madeCells, byteCells]
      · intro i _ _
        simp [madeCells, byteCells, Value.cells, Nat.mod_one]
    rw [← e1]
theorem Blk.laid8 {w : World} {g : Nat} {l : List UInt8} (h : Blk w g (byteCells l)) : Laid8 w g l :=
  ⟨fun j hj => h.cell j _ (by unfold byteCells; rw [List.getElem?_map, List.getElem?_eq_getElem hj]; rfl), fun j _ => h.open j⟩
theorem blk_conv {P : Program} {w : World} {g : Nat} {D : ByteArray} (h : Blk w g (byteCells D.data.toList)) (src dst e : TypeId) (cap k : Nat) (hk : D.size = k) (hs : P.underlying src = some (.slice e)) (he : P.underlying e = some (.int .u8)) (hd : P.underlying dst = some .string) :
    (convert src dst (.slice (some ⟨g, 0, none⟩) k cap)).run P w = .ok (.string D) w := by
  have hl : D.data.toList.length = D.size := by simp
  have := h.laid8.conv (P := P) src dst e cap k (by omega) hs he hd
  rw [List.take_of_length_le (by omega)] at this
  rw [this]
end Go.Proofs.Ytlfbcfhekfmkfaa
