/- Texts of a proof that belong together, joined. Nothing here is a claim. -/
import Derived.Test.YtkkimgjcefojdaaGreatDoorPkLk13
namespace Go.Proofs.YtkkimgjcefojdaaGreatDoor
open Go.RowKit Go.Lib

theorem byteCells_append (a b : List UInt8) : byteCells (a ++ b) = byteCells a ++ byteCells b := by simp [byteCells]

end Go.Proofs.YtkkimgjcefojdaaGreatDoor
namespace Go.Proofs.YtkkimgjcefojdaaGreatDoor
open Go.RowKit Go.Lib

end Go.Proofs.YtkkimgjcefojdaaGreatDoor
namespace Go.Proofs.YtkkimgjcefojdaaGreatDoor
open Go.RowKit Go.Lib

theorem half_bd (c : UInt8) : -1 ≤ half c ∧ half c ≤ 15 := by unfold half; split <;> (try split) <;> omega

def pairB (s : ByteArray) (j : Nat) : UInt8 := UInt8.ofNat (16 * half (at8 s (2 * j)) + half (at8 s (2 * j + 1))).toNat
def pairs (s : ByteArray) (j : Nat) : List UInt8 := (List.range j).map (pairB s)
theorem pairs_succ (s : ByteArray) (j : Nat) : pairs s (j + 1) = pairs s j ++ [pairB s j] := by simp [pairs, List.range_succ]

theorem Read.byte {s : ByteArray} {j k : Nat} (h : Read s j k) (a b : Int) (ha : half (at8 s k) = a) (hb : half (at8 s (k + 1)) = b) (a0 : 0 ≤ a) (b0 : 0 ≤ b) :
  byteCells (pairs s j) ++ [Value.int .u8 (16 * a + b)] = byteCells (pairs s (j + 1)) := by
 obtain ⟨rfl, _⟩ := h
 have h1 := half_bd (at8 s (2 * j))
 have h2 := half_bd (at8 s (2 * j + 1))
 rw [pairs_succ, byteCells_append]
 have e : ((pairB s j).toNat : Int) = 16 * a + b := by
  unfold pairB
  rw [UInt8.toNat_ofNat', ha, hb]; omega
 simp only [byteCells, List.map_cons, List.map_nil, e]
end Go.Proofs.YtkkimgjcefojdaaGreatDoor
namespace Go.Proofs.YtkkimgjcefojdaaGreatDoor
open Go.RowKit Go.Lib

end Go.Proofs.YtkkimgjcefojdaaGreatDoor
namespace Go.Proofs.YtkkimgjcefojdaaGreatDoor
open Go.RowKit Go.Lib

end Go.Proofs.YtkkimgjcefojdaaGreatDoor
namespace Go.Proofs.YtkkimgjcefojdaaGreatDoor
open Go.RowKit Go.Lib

theorem gw_put (s : ByteArray) (a m k : Nat) (hm : m < 256 ^ k) (h : ∀ i, i < k → at8 s (a + i) = wbAt m k i) (j : Nat) (hj : j ≤ k) : gw s a j = m / 256 ^ (k - j) := by
 induction j with
 | zero => simp only [gw, Nat.sub_zero]; exact (Nat.div_eq_of_lt hm).symm
 | succ j ih =>
  simp only [gw]
  rw [ih (by omega), h j (by omega), wbAt_nat, show k - (j + 1) = k - 1 - j by omega, show k - j = (k - 1 - j) + 1 by omega, Nat.pow_succ, ← Nat.div_div_eq_div_mul]
  omega
/-- What PutWord answers, told apart: nothing, for no word; or k bytes. -/
theorem putW_cases (n s : Int) : (putW n s = ⟨#[]⟩ ∧ (wordOk n (8 * s) = false ∨ s < 1 ∨ 6 < s)) ∨
  (∃ m k : Nat, n = m ∧ s = k ∧ (1 ≤ k ∧ k ≤ 6) ∧ m < 256 ^ k ∧ putW n s = ⟨(wb m k).toArray⟩ ∧ wordOk n (8 * s) = true) := by
 by_cases h : 1 ≤ s ∧ s ≤ 6
 ·cases hw : wordOk n (8 * s) with
  | false => exact .inl ⟨putW_ok n s h hw, .inl rfl⟩
  | true =>
   refine .inr ⟨n.toNat, s.toNat, ?_, by omega, by omega, ?_, putW_yes n s h hw, rfl⟩
   ·have := wordOk_bd hw; omega
   ·have h2 := (of_decide_eq_true hw).2
    rw [show (8 * s).toNat = 8 * s.toNat by omega] at h2
    have h3 : n.toNat < 2 ^ (8 * s.toNat) := by
     have h4 : (n.toNat : Int) < ((2 ^ (8 * s.toNat) : Nat) : Int) := by
      rw [Int.toNat_of_nonneg h2.1]; simpa using h2.2
     exact_mod_cast h4
    rw [pow8] at h3; exact h3
 ·exact .inl ⟨putW_no n s h, .inr (by omega)⟩
theorem get_put (m k : Nat) (hk : 1 ≤ k ∧ k ≤ 6) (hm : m < 256 ^ k) (p q : ByteArray) :
  getW (p ++ ⟨(wb m k).toArray⟩ ++ q) p.size k = ((m : Int), true) := by
 have hsz : (p ++ (⟨(wb m k).toArray⟩ : ByteArray) ++ q).size = p.size + k + q.size := by
  rw [ByteArray.size_append, ByteArray.size_append]; show p.size + (wb m k).toArray.size + q.size = _; rw [List.size_toArray, wb_length]
 rw [getW_yes _ _ _ hk (by rw [hsz]; omega)]
 rw [gw_put _ p.size m k hm (fun i hi => ?_) k (Nat.le_refl _)]
 ·simp
 ·unfold at8
  have e : (p ++ (⟨(wb m k).toArray⟩ : ByteArray) ++ q).data.toList = p.data.toList ++ wb m k ++ q.data.toList := by simp
  rw [e, List.append_assoc, List.getD_eq_getElem?_getD, List.getElem?_append_right (by simp), List.getElem?_append_left (by rw [wb_length]; simp; omega)]
  rw [show p.size + i - p.data.toList.length = i by simp, wb_get m k i hi]; rfl
end Go.Proofs.YtkkimgjcefojdaaGreatDoor
namespace Go.Proofs.YtkkimgjcefojdaaGreatDoor
open Go.RowKit Go.Lib

theorem putW_word (n : Int) (k : Nat) (hk : 1 ≤ k ∧ k ≤ 6) (h : wordOk n (8 * k) = true) : ∃ m : Nat, n = m ∧ m < 256 ^ k ∧ putW n k = ⟨(wb m k).toArray⟩ ∧ (putW n k).size = k := by
 rcases putW_cases n k with ⟨_, h1⟩ | ⟨m, k', rfl, e, _, hm, hp, _⟩
 ·rcases h1 with h1 | h1 | h1
  ·rw [h] at h1; cases h1
  ·omega
  ·omega
 ·have e' : k = k' := by omega
  subst e'
  refine ⟨m, rfl, hm, hp, ?_⟩
  rw [hp]; show (wb m k).toArray.size = k; rw [List.size_toArray, wb_length]
theorem gw_at (n : Int) (k : Nat) (hk : 1 ≤ k ∧ k ≤ 6) (h : wordOk n (8 * k) = true) (p q : ByteArray) : ((gw (p ++ putW n k ++ q) p.size k : Nat) : Int) = n := by
 obtain ⟨m, rfl, hm, hp, _⟩ := putW_word n k hk h
 rw [hp]
 have h1 := get_put m k hk hm p q
 rw [getW_yes _ _ _ hk (by rw [ByteArray.size_append, ByteArray.size_append]; show p.size + k ≤ p.size + (wb m k).toArray.size + q.size; rw [List.size_toArray, wb_length]; omega)] at h1
 exact (Prod.mk.inj h1).1
end Go.Proofs.YtkkimgjcefojdaaGreatDoor
namespace Go.Proofs.YtkkimgjcefojdaaGreatDoor
open Go.RowKit Go.Lib

end Go.Proofs.YtkkimgjcefojdaaGreatDoor
namespace Go.Proofs.YtkkimgjcefojdaaGreatDoor
open Go.RowKit Go.Lib

end Go.Proofs.YtkkimgjcefojdaaGreatDoor
namespace Go.Proofs.YtkkimgjcefojdaaGreatDoor
open Go.RowKit Go.Lib

theorem sumOf_bd (s : ByteArray) : 0 ≤ sumOf s ∧ sumOf s ≤ 65535 := by
 have := foldI_bd (wsum s); unfold sumOf; omega
end Go.Proofs.YtkkimgjcefojdaaGreatDoor
namespace Go.Proofs.YtkkimgjcefojdaaGreatDoor
open Go.RowKit Go.Lib

end Go.Proofs.YtkkimgjcefojdaaGreatDoor
namespace Go.Proofs.YtkkimgjcefojdaaGreatDoor
open Go.RowKit Go.Lib

end Go.Proofs.YtkkimgjcefojdaaGreatDoor
namespace Go.Proofs.YtkkimgjcefojdaaGreatDoor
open Go.RowKit Go.Lib

end Go.Proofs.YtkkimgjcefojdaaGreatDoor
namespace Go.Proofs.YtkkimgjcefojdaaGreatDoor
open Go.RowKit Go.Lib

/-- 6 cells of a block, kept over a call that makes memory of its own. -/
theorem keep6 {w w' : World} {g : Nat} {v0 v1 v2 v3 v4 v5 : Value} (h : g < w.heap.size ∧ w.cell? ⟨g, 0, none⟩ = some v0 ∧ w.cell? ⟨g, 1, none⟩ = some v1 ∧ w.cell? ⟨g, 2, none⟩ = some v2 ∧ w.cell? ⟨g, 3, none⟩ = some v3 ∧ w.cell? ⟨g, 4, none⟩ = some v4 ∧ w.cell? ⟨g, 5, none⟩ = some v5) (hb : Below w.heap.size w w') :
  g < w'.heap.size ∧ w'.cell? ⟨g, 0, none⟩ = some v0 ∧ w'.cell? ⟨g, 1, none⟩ = some v1 ∧ w'.cell? ⟨g, 2, none⟩ = some v2 ∧ w'.cell? ⟨g, 3, none⟩ = some v3 ∧ w'.cell? ⟨g, 4, none⟩ = some v4 ∧ w'.cell? ⟨g, 5, none⟩ = some v5 :=
 ⟨Nat.lt_of_lt_of_le h.1 hb.size, (hb.cell (p := ⟨g, 0, none⟩) h.1).trans h.2.1, (hb.cell (p := ⟨g, 1, none⟩) h.1).trans h.2.2.1, (hb.cell (p := ⟨g, 2, none⟩) h.1).trans h.2.2.2.1, (hb.cell (p := ⟨g, 3, none⟩) h.1).trans h.2.2.2.2.1, (hb.cell (p := ⟨g, 4, none⟩) h.1).trans h.2.2.2.2.2.1, (hb.cell (p := ⟨g, 5, none⟩) h.1).trans h.2.2.2.2.2.2⟩
end Go.Proofs.YtkkimgjcefojdaaGreatDoor
namespace Go.Proofs.YtkkimgjcefojdaaGreatDoor
open Go.RowKit Go.Lib

end Go.Proofs.YtkkimgjcefojdaaGreatDoor
namespace Go.Proofs.YtkkimgjcefojdaaGreatDoor
open Go.RowKit Go.Lib

end Go.Proofs.YtkkimgjcefojdaaGreatDoor
namespace Go.Proofs.YtkkimgjcefojdaaGreatDoor
open Go.RowKit Go.Lib

end Go.Proofs.YtkkimgjcefojdaaGreatDoor
namespace Go.Proofs.YtkkimgjcefojdaaGreatDoor
open Go.RowKit Go.Lib

end Go.Proofs.YtkkimgjcefojdaaGreatDoor
namespace Go.Proofs.YtkkimgjcefojdaaGreatDoor
open Go.RowKit Go.Lib

end Go.Proofs.YtkkimgjcefojdaaGreatDoor
namespace Go.Proofs.YtkkimgjcefojdaaGreatDoor
open Go

end Go.Proofs.YtkkimgjcefojdaaGreatDoor
namespace Go.Proofs.YtkkimgjcefojdaaGreatDoor
open Go.RowKit Go.Lib

/-- The cache one step later. -/
def stepE (r : ER) : Option ER := if r.age < 9 then some ⟨r.ip, r.hw, r.age + 1⟩ else none
def agedE (rs : List ER) : List ER := rs.filterMap stepE
theorem agedE_next {rs : List ER} {k : Nat} (h : k < rs.length) : agedE (rs.take (k + 1)) = agedE (rs.take k) ++ (if rs[k].age < 9 then [⟨rs[k].ip, rs[k].hw, rs[k].age + 1⟩] else []) := by
 rw [agedE, agedE, List.take_succ_eq_append_getElem h, List.filterMap_append]
 congr 1
 simp only [List.filterMap_cons, List.filterMap_nil, stepE]
 split <;> simp_all
theorem agedE_length (rs : List ER) : (agedE rs).length ≤ rs.length := List.length_filterMap_le _ _
theorem goodE_age {r : ER} (h : goodE r) : -9223372036854775808 ≤ r.age ∧ r.age ≤ 9223372036854775807 := by
 have h1 := h.2.2
 have e1 : IntKind.i64.min = -9223372036854775808 := rfl
 have e2 : IntKind.i64.max = 9223372036854775807 := rfl
 simp only [Lit.wf, Bool.and_eq_true, decide_eq_true_eq] at h1
 omega
theorem wf_int {n : Int} (h0 : -9223372036854775808 ≤ n) (h1 : n ≤ 9223372036854775807) : (Lit.int .i64 n).wf = true := by
 have e1 : IntKind.i64.min = -9223372036854775808 := rfl
 have e2 : IntKind.i64.max = 9223372036854775807 := rfl
 simp only [Lit.wf, Bool.and_eq_true, decide_eq_true_eq]
 omega
theorem goodE_step {r : ER} (h : goodE r) (h9 : r.age < 9) : goodE ⟨r.ip, r.hw, r.age + 1⟩ := ⟨h.1, h.2.1, by have := goodE_age h; exact wf_int (n := r.age + 1) (by omega) (by omega)⟩
theorem goodE_aged {rs : List ER} (h : ∀ r ∈ rs, goodE r) : ∀ r ∈ agedE rs, goodE r := by
 intro r hr
 obtain ⟨q, hq, he⟩ := List.mem_filterMap.1 hr
 unfold stepE at he
 split at he
 ·cases he
  exact goodE_step (h q hq) (by assumption)
 ·cases he
theorem goodE_put {rs : List ER} {q : ER} (h : ∀ r ∈ rs, goodE r) (hq : goodE q) : ∀ r ∈ putE rs q, goodE r := by
 intro r hr
 unfold putE at hr
 split at hr
 ·rcases List.mem_or_eq_of_mem_set hr with h1 | h1
  ·exact h r h1
  ·rw [h1]; exact hq
 ·split at hr
  ·rcases List.mem_append.1 hr with h1 | h1
   ·exact h r (List.mem_of_mem_eraseIdx h1)
   ·rw [List.mem_singleton.1 h1]; exact hq
  ·rcases List.mem_append.1 hr with h1 | h1
   ·exact h r h1
   ·rw [List.mem_singleton.1 h1]; exact hq
theorem goodE_learn {rs : List ER} {ip hw : Int} (h : ∀ r ∈ rs, goodE r) (h1 : (Lit.int .i64 ip).wf = true) (h2 : (Lit.int .i64 hw).wf = true) : ∀ r ∈ learnE rs ip hw, goodE r := by
 unfold learnE
 split
 ·exact goodE_put h ⟨h1, h2, rfl⟩
 ·exact h
end Go.Proofs.YtkkimgjcefojdaaGreatDoor
namespace Go.Proofs.YtkkimgjcefojdaaGreatDoor
open Go.RowKit Go.Lib

theorem frameText_le (d s t : Int) (b : ByteArray) : (frameText d s t b).size ≤ 1604 := by
 unfold frameText
 split
 ·rename_i h
  have h1 := frameOk_body h
  have h2 := putW_le d 6
  have h3 := putW_le s 6
  have h4 := putW_le t 2
  rw [ByteArray.size_append, ByteArray.size_append, ByteArray.size_append]; omega
 ·decide
end Go.Proofs.YtkkimgjcefojdaaGreatDoor
namespace Go.Proofs.YtkkimgjcefojdaaGreatDoor
open Go.RowKit Go.Lib

theorem mask_bd (x : Int) (m : Nat) (hm : m < 9223372036854775808) : 0 ≤ bits .and .i64 x m ∧ bits .and .i64 x m ≤ m := by
 have h1 : (BitVec.ofInt 64 (m : Int)).toNat = m := by
  rw [BitVec.ofInt_natCast, BitVec.toNat_ofNat]; exact Nat.mod_eq_of_lt (by omega)
 have h2 : (BitVec.ofInt 64 x &&& BitVec.ofInt 64 (m : Int)).toNat ≤ m := by
  rw [BitVec.toNat_and, h1]; exact Nat.and_le_right
 have h3 : bits .and .i64 x m = IntKind.i64.wrap ((BitVec.ofInt 64 x &&& BitVec.ofInt 64 (m : Int)).toNat : Int) := rfl
 rw [h3, IntKind.wrap_i64]
 omega
theorem mask255 (x : Int) : 0 ≤ bits .and .i64 x 255 ∧ bits .and .i64 x 255 ≤ 255 := mask_bd x 255 (by decide)

theorem grown_draws {a b : World} {row : Option Nat} (h : a.grownBy b row) (n : Nat) : a.grownBy (b.drewN n) row := ⟨h.os, h.tape, h.output, h.size, h.block⟩
theorem grown_set {a b : World} {g : Nat} (h : a.grownBy b (some g)) (k : Nat) (v : Value) : a.grownBy (b.setCell ⟨g, k, none⟩ v) (some g) :=
 ⟨h.os, h.tape, h.output, by rw [show (b.setCell ⟨g, k, none⟩ v).heap.size = b.heap.size by simp [World.setCell]]; exact h.size, fun i hi hne => by
  rw [Below.heap_setCell b ⟨g, k, none⟩ v i (fun e => hne (by rw [e]))]; exact h.block i hi hne⟩
theorem grown_new {a b : World} {row : Option Nat} (h : a.grownBy b row) (o : Obj) : a.grownBy (b.alloc o) row :=
 ⟨h.os, h.tape, h.output, Nat.le_trans h.size (by simp), fun i hi hne => (Below.heap_alloc b o i (Nat.lt_of_lt_of_le hi h.size)).trans (h.block i hi hne)⟩
/-- The cursor's two numbers, set anew. -/
theorem cur_set {w : World} {B g : Nat} {a : Option Addr} {bs : List UInt8} {cap : Nat} {i h : Int} (hB : B ≤ g)
  (hh : w.heap[g]? = some (.cells #[.slice a bs.length cap, .int .i64 i, .int .i64 h] 90 (0, 0))) (hi : 0 ≤ i ∧ i ≤ 1048576) (hbs : bs.length ≤ 1048576) (hrow : Row w B a (byteCells bs)) (x : Int) : CurB (w.setCell ⟨g, 2, none⟩ (.int .i64 x)) B g :=
 ⟨hB, a, bs, cap, i, x, (set_whole hh).trans rfl, hi, hbs, hrow.below ((Below.refl B w).setCell (p := ⟨g, 2, none⟩) hB _)⟩
theorem cur_step {w : World} {B g : Nat} {a : Option Addr} {bs : List UInt8} {cap : Nat} {i h : Int} (hB : B ≤ g)
  (hh : w.heap[g]? = some (.cells #[.slice a bs.length cap, .int .i64 i, .int .i64 h] 90 (0, 0))) (hbs : bs.length ≤ 1048576) (hrow : Row w B a (byteCells bs)) (x i' : Int) (hi : 0 ≤ i' ∧ i' ≤ 1048576) : CurB ((w.setCell ⟨g, 2, none⟩ (.int .i64 x)).setCell ⟨g, 1, none⟩ (.int .i64 i')) B g :=
 ⟨hB, a, bs, cap, i', x, (set_whole (set_whole hh)).trans rfl, hi, hbs, hrow.below (((Below.refl B w).setCell (p := ⟨g, 2, none⟩) hB _).setCell (p := ⟨g, 1, none⟩) hB _)⟩
theorem Row.byte {w : World} {B : Nat} {a : Option Addr} {bs : List UInt8} (h : Row w B a (byteCells bs)) {k : Nat} (hk : k < bs.length) :
  ∃ b off, a = some ⟨b, off, none⟩ ∧ b < B ∧ ∀ j (hj : j < bs.length), w.cell? ⟨b, off + j, none⟩ = some (.int .u8 bs[j].toNat) := by
 obtain ⟨b, off, ha, hb, hc⟩ := h (fun e => by have := congrArg List.length e; simp [byteCells] at this; subst this; simp at hk)
 exact ⟨b, off, ha, hb, fun j hj => hc j _ (by simp [byteCells, hj])⟩
theorem cur_new {w : World} {a : Option Addr} {bs : List UInt8} {cap : Nat} (hrow : Row w w.heap.size a (byteCells bs)) (hbs : bs.length ≤ 1048576) (x : Int) :
  CurB (w.alloc (.cells #[.slice a bs.length cap, .int .i64 0, .int .i64 x] 90)) w.heap.size w.heap.size :=
 ⟨Nat.le_refl _, a, bs, cap, 0, x, heap_alloc_new w _, ⟨by omega, by omega⟩, hbs, hrow.below ((Below.refl _ _).alloc (Nat.le_refl _) _)⟩
/-- What a pick hands back: one of the list's elements; only the cursor has turned. -/
def PickEnd (w : World) (B g : Nat) (vs : List Value) (e : Ending) (w' : World) : Prop :=
 ∃ v, v ∈ vs ∧ e = .returned v ∧ CurB w' B g ∧ w.grownBy w' (some g)
/-- What l1Byte and l1Below hand back: an integer from 0 to m; only the cursor has turned. -/
def DrawEnd (w : World) (B g : Nat) (m : Int) (e : Ending) (w' : World) : Prop :=
 ∃ r : Int, e = .returned (.int .i64 r) ∧ (0 ≤ r ∧ r ≤ m) ∧ CurB w' B g ∧ w.grownBy w' (some g)
end Go.Proofs.YtkkimgjcefojdaaGreatDoor
namespace Go.Proofs.YtkkimgjcefojdaaGreatDoor
open Go.RowKit Go.Lib

end Go.Proofs.YtkkimgjcefojdaaGreatDoor
namespace Go.Proofs.YtkkimgjcefojdaaGreatDoor
open Go.RowKit Go.Lib

end Go.Proofs.YtkkimgjcefojdaaGreatDoor
namespace Go.Proofs.YtkkimgjcefojdaaGreatDoor
open Go.RowKit Go.Lib

/-- An int. -/
def I64 (n : Int) : Prop := -9223372036854775808 ≤ n ∧ n ≤ 9223372036854775807
def WholeEnd (w : World) (B g : Nat) (e : Ending) (w' : World) : Prop := ∃ n : Int, e = .returned (.int .i64 n) ∧ I64 n ∧ CurB w' B g ∧ w.grownBy w' (some g)
theorem below_new {w w1 w2 : World} {g : Nat} (hb : Below w.heap.size w w1) (hc : CurB w1 w.heap.size g) (hg : w1.grownBy w2 (some g)) : Below w.heap.size w w2 :=
 hb.trans (grown_below hg hc.1 hb.size)
end Go.Proofs.YtkkimgjcefojdaaGreatDoor
namespace Go.Proofs.YtkkimgjcefojdaaGreatDoor
open Go.RowKit Go.Lib

set_option maxRecDepth 100000 in
set_option maxHeartbeats 1000000 in
theorem l1Byte_any (B g : Nat) (w : World) (hc : CurB w B g) : Calls Tryz.prog 88 #[.pointer (some ⟨g, 0, none⟩)] w (DrawEnd w B g 255) := by
 obtain ⟨hB, a, bs, cap, i, h, hh, ⟨hi0, hi1⟩, hbs, hrow⟩ := hc
 have c0 : w.cell? ⟨g, 0, none⟩ = some (.slice a bs.length cap) := by rw [cell_of_row w g 0 _ _ _ hh]; rfl
 have c1 : w.cell? ⟨g, 1, none⟩ = some (.int .i64 i) := by rw [cell_of_row w g 1 _ _ _ hh]; rfl
 have c2 : w.cell? ⟨g, 2, none⟩ = some (.int .i64 h) := by rw [cell_of_row w g 2 _ _ _ hh]; rfl
 have f1 : w.frozen? ⟨g, 1, none⟩ = false := by simp [World.frozen?, hh]
 have f2 : w.frozen? ⟨g, 2, none⟩ = false := by simp [World.frozen?, hh]
 have HH := Lib.hid hh
 have HR := Lib.hid hrow
 clear hh hrow
 by_cases hlt : i < bs.length
 ·obtain ⟨k, rfl⟩ : ∃ k : Nat, i = (k : Int) := ⟨i.toNat, by omega⟩
  have hk : k < bs.length := by omega
  obtain ⟨b, off, rfl, hb, hcs⟩ := HR.out.byte hk
  have c3 := hcs k hk
  have hne : ¬ b = g := by omega
  have h8 : bs[k].toNat < 256 := bs[k].toNat_lt
  clear hcs
  go_enter Tryz.func88, Tryz.ntmps88
  go_wp2_with fail
  go_quiet (fail)
  go_wp2_with fail
  go_quiet (fail)
  go_wp2_with fail
  go_quiet (fail)
  go_wp2_with fail
  go_ret
  refine ⟨_, rfl, mask255 _, ?_, ?_⟩
  ·exact cur_step hB HH.out hbs HR.out _ _ (by omega)
  ·exact grown_set (grown_draws (grown_set (World.grownBy.refl w (some g)) 2 _) _) 1 _
 ·go_enter Tryz.func88, Tryz.ntmps88
  go_wp2_with fail
  go_quiet (fail)
  go_wp2_with fail
  go_quiet (fail)
  go_wp2_with fail
  go_ret
  refine ⟨_, rfl, mask255 _, ?_, ?_⟩
  ·exact cur_set hB HH.out ⟨hi0, hi1⟩ hbs HR.out _
  ·exact grown_draws (grown_draws (grown_set (World.grownBy.refl w (some g)) 2 _) _) _
end Go.Proofs.YtkkimgjcefojdaaGreatDoor
namespace Go.Proofs.YtkkimgjcefojdaaGreatDoor
open Go.RowKit Go.Lib

set_option maxHeartbeats 1000000 in
theorem l1Below_small (B g : Nat) (w : World) (hc : CurB w B g) (n : Int) (h0 : 0 < n) (h1 : n ≤ 256) : Calls Tryz.prog 47 #[.pointer (some ⟨g, 0, none⟩), .int .i64 n] w (DrawEnd w B g (n - 1)) := by
 have C := Lib.hid (l1Byte_any B g w hc)
 clear hc
 have hn0 : (n == 0) = false := by simp; omega
 go_enter Tryz.func47, Tryz.ntmps47
 go_wp2_with fail
 refine C.out.mono ?_
 rintro e w1 ⟨r, rfl, ⟨r0, r1⟩, hc1, hg1⟩
 have HC := Lib.hid hc1
 have HG := Lib.hid hg1
 clear hc1 hg1
 go_wp2_with fail
 go_ret
 exact ⟨_, rfl, ⟨Int.emod_nonneg _ (by omega), by have := Int.emod_lt_of_pos r h0; omega⟩, HC.out, HG.out⟩

set_option maxHeartbeats 1000000 in
theorem l1Below_big (B g : Nat) (w : World) (hc : CurB w B g) (n : Int) (h0 : 256 < n) (h1 : n ≤ 4000000000) : Calls Tryz.prog 47 #[.pointer (some ⟨g, 0, none⟩), .int .i64 n] w (DrawEnd w B g (n - 1)) := by
 have hn0 : (n == 0) = false := by simp; omega
 have C := Lib.hid hc
 clear hc
 go_enter Tryz.func47, Tryz.ntmps47
 go_wp2_with fail
 refine (l1Byte_any B g w C.out).mono ?_
 rintro e w1 ⟨a, rfl, ⟨a0, a1⟩, hc1, hg1⟩
 have C1 := Lib.hid hc1
 have G1 := Lib.hid hg1
 clear hc1 hg1
 go_wp2_with fail
 refine (l1Byte_any B g w1 C1.out).mono ?_
 rintro e w2 ⟨b, rfl, ⟨b0, b1⟩, hc2, hg2⟩
 have C2 := Lib.hid hc2
 have G2 := Lib.hid (grown_tr G1.out hg2)
 clear hc2 hg2
 go_wp2_with fail
 refine (l1Byte_any B g w2 C2.out).mono ?_
 rintro e w3 ⟨c, rfl, ⟨c0, c1⟩, hc3, hg3⟩
 have C3 := Lib.hid hc3
 have G3 := Lib.hid (grown_tr G2.out hg3)
 clear hc3 hg3
 go_wp2_with fail
 refine (l1Byte_any B g w3 C3.out).mono ?_
 rintro e w4 ⟨d, rfl, ⟨d0, d1⟩, hc4, hg4⟩
 have C4 := Lib.hid hc4
 have G4 := Lib.hid (grown_tr G3.out hg4)
 clear hc4 hg4
 go_wp2_with fail
 go_ret
 exact ⟨_, rfl, ⟨Int.emod_nonneg _ (by omega), by have := Int.emod_lt_of_pos (a * 16777216 + b * 65536 + c * 256 + d) (show (0 : Int) < n by omega); omega⟩, C4.out, G4.out⟩

theorem l1Below_pos (B g : Nat) (w : World) (hc : CurB w B g) (n : Int) (h0 : 0 < n) (h1 : n ≤ 4000000000) : Calls Tryz.prog 47 #[.pointer (some ⟨g, 0, none⟩), .int .i64 n] w (DrawEnd w B g (n - 1)) := by
 by_cases h : n ≤ 256
 ·exact l1Below_small B g w hc n h0 h
 ·exact l1Below_big B g w hc n (by omega) h1
/-- What l1New hands back: a new cursor. -/
def NewEnd (w : World) (e : Ending) (w' : World) : Prop := ∃ g, e = .returned (.pointer (some ⟨g, 0, none⟩)) ∧ CurB w' w.heap.size g ∧ Below w.heap.size w w'

set_option maxRecDepth 100000 in
set_option maxHeartbeats 1000000 in
theorem l1New_any (a : Option Addr) (bs : List UInt8) (cap : Nat) (w : World) (hrow : Row w w.heap.size a (byteCells bs)) (hbs : bs.length ≤ 1048576) : Calls Tryz.prog 26 #[.slice a bs.length cap] w (NewEnd w) := by
 go_enter Tryz.func26, Tryz.ntmps26
 go_wp2_with fail
 go_loop [3, 4] (fun h i => ∃ k : Nat, k ≤ bs.length ∧ i = .int .i64 k ∧ ∃ x : Int, h = .int .i64 x) (fun _ i => bs.length - (RowKit.intOf i).toNat)
 case atStart => exact ⟨0, Nat.zero_le _, rfl, _, rfl⟩
 case round =>
  obtain ⟨k, hk, rfl, x, rfl⟩ := hrel
  by_cases hlt : k < bs.length ∧ k < 4000
  ·obtain ⟨hlt, h4⟩ := hlt
   obtain ⟨b, off, rfl, hb, hcs⟩ := hrow.byte hlt
   have hc := hcs k hlt
   have h8 : bs[k].toNat < 256 := bs[k].toNat_lt
   clear hcs hrow
   go_wp2_with fail
   go_round
   case rel => exact ⟨k + 1, by omega, by go_num, _, rfl⟩
   case measure => simp [RowKit.intOf]; omega
  ·have HR := Lib.hid hrow
   clear hrow
   by_cases h1 : k < bs.length
   ·have h4 : ¬ k < 4000 := fun h => hlt ⟨h1, h⟩
    clear hlt
    go_wp2_with fail
    go_ret
    exact ⟨w.heap.size, rfl, cur_new HR.out hbs x, (Below.refl _ _).alloc (Nat.le_refl _) _⟩
   ·clear hlt
    go_wp2_with fail
    go_ret
    exact ⟨w.heap.size, rfl, cur_new HR.out hbs x, (Below.refl _ _).alloc (Nat.le_refl _) _⟩
end Go.Proofs.YtkkimgjcefojdaaGreatDoor
namespace Go.Proofs.YtkkimgjcefojdaaGreatDoor
open Go.RowKit Go.Lib

/-- An append to a row of the call's own leaves the cursor, and all that was there but the cursor. -/
theorem app_keeps {w w1 w2 : World} {B g base : Nat} {e : TypeId} {v : Value} {n : Nat} {xs : List Value} {o : Obj} (hc : CurB w1 B g) (hgb : g < base) (hB : B ≤ base) (hw : base = w.heap.size) (hg1 : w.grownBy w1 (some g)) (hown : w1.ownsRow base e 1 v n xs) (hg : (w1.alloc o).grownBy w2 v.ownBlock) :
  CurB w2 B g ∧ w.grownBy w2 (some g) := by
 have hlt := hc.lt
 have hv : ∀ k, k < base → some k ≠ v.ownBlock := fun k hk e => by have := (hown.lt k e.symm).1; omega
 have hk : ∀ k, k < w1.heap.size → k < base → w2.heap[k]? = w1.heap[k]? := fun k h1 h2 =>
  (hg.block k (by simp; omega) (hv k h2)).trans (Below.heap_alloc w1 o k h1)
 refine ⟨hc.keep (hk g hlt hgb) ⟨hg.os, hg.tape, hg.output, Nat.le_trans (by simp) hg.size, fun k h => hk k (by have := hc.1; omega) (by omega)⟩, ?_⟩
 exact ⟨hg.os.trans hg1.os, hg.tape.trans hg1.tape, hg.output.trans hg1.output, Nat.le_trans hg1.size (Nat.le_trans (by simp) hg.size), fun k h1 h2 =>
  (hk k (Nat.lt_of_lt_of_le h1 hg1.size) (by omega)).trans (hg1.block k h1 h2)⟩
end Go.Proofs.YtkkimgjcefojdaaGreatDoor
namespace Go.Proofs.YtkkimgjcefojdaaGreatDoor
open Go.RowKit Go.Lib

/-- A store into a block that is new. -/
theorem grown_setNew {a b : World} {row : Option Nat} (h : a.grownBy b row) (q : Addr) (v : Value) (hq : a.heap.size ≤ q.block) : a.grownBy (b.setCell q v) row :=
 ⟨h.os, h.tape, h.output, by rw [show (b.setCell q v).heap.size = b.heap.size by simp [World.setCell]]; exact h.size, fun i hi hne => by
  rw [Below.heap_setCell b q v i (by omega)]; exact h.block i hi hne⟩
end Go.Proofs.YtkkimgjcefojdaaGreatDoor
namespace Go.Proofs.YtkkimgjcefojdaaGreatDoor
open Go.RowKit Go.Lib

end Go.Proofs.YtkkimgjcefojdaaGreatDoor
namespace Go.Proofs.YtkkimgjcefojdaaGreatDoor
open Go.RowKit Go.Lib

end Go.Proofs.YtkkimgjcefojdaaGreatDoor
namespace Go.Proofs.YtkkimgjcefojdaaGreatDoor
open Go.RowKit Go.Lib

end Go.Proofs.YtkkimgjcefojdaaGreatDoor
namespace Go.Proofs.YtkkimgjcefojdaaGreatDoor
open Go.RowKit Go.Lib

end Go.Proofs.YtkkimgjcefojdaaGreatDoor
namespace Go.Proofs.YtkkimgjcefojdaaGreatDoor
open Go.RowKit Go.Lib

/-- Whether a packet of these six fields is valid. -/
def packOk (s d t p i : Int) (b : ByteArray) : Bool := wordOk s 32 && (wordOk d 32 && (decide (1 ≤ t ∧ t ≤ 255) && (wordOk p 8 && (wordOk i 16 && decide (b.size ≤ 1480)))))
theorem ttl_word (t : Int) (h : 1 ≤ t) : wordOk t 8 = decide (1 ≤ t ∧ t ≤ 255) := by
 unfold wordOk
 rw [decide_eq_decide, show (2 : Int) ^ (8 : Int).toNat = 256 from rfl]
 omega

set_option maxHeartbeats 2000000 in
theorem packOkS (s d t p i : Int) (b : ByteArray) (w : World) :
  Calls Tryz.prog 93 #[.agg #[.int .i64 s, .int .i64 d, .int .i64 t, .int .i64 p, .int .i64 i, .string b]] w fun e w' => e = .returned (.bool (packOk s d t p i b)) ∧ Below w.heap.size w w' := by
 have C1 := Lib.hid (fun w => wordOkS s 32 w)
 have C2 := Lib.hid (fun w => wordOkS d 32 w)
 have C4 := Lib.hid (fun w => wordOkS p 8 w)
 have C5 := Lib.hid (fun w => wordOkS i 16 w)
 have D : Hid (packOk s d t p i b = (wordOk s 32 && (wordOk d 32 && (decide (1 ≤ t ∧ t ≤ 255) && (wordOk p 8 && (wordOk i 16 && decide (b.size ≤ 1480))))))) := rfl
 obtain ⟨x1, hx1⟩ : ∃ x, wordOk s 32 = x := ⟨_, rfl⟩
 rw [hx1] at C1 D
 clear hx1
 obtain ⟨x2, hx2⟩ : ∃ x, wordOk d 32 = x := ⟨_, rfl⟩
 rw [hx2] at C2 D
 clear hx2
 obtain ⟨x4, hx4⟩ : ∃ x, wordOk p 8 = x := ⟨_, rfl⟩
 rw [hx4] at C4 D
 clear hx4
 obtain ⟨x5, hx5⟩ : ∃ x, wordOk i 16 = x := ⟨_, rfl⟩
 rw [hx5] at C5 D
 clear hx5
 have C3 := Lib.hid (fun w => l1In_any t 1 255 w)
 obtain ⟨x3, hx3⟩ : ∃ x, decide (1 ≤ t ∧ t ≤ 255) = x := ⟨_, rfl⟩
 rw [hx3] at C3 D
 clear hx3
 rw [D.out]
 clear D
 cases x1 with
 | false =>
  go_enter Tryz.func93, Tryz.ntmps93
  go_wp2_with fail
  refine (C1.out _).mono ?_
  rintro e w1 ⟨rfl, rfl⟩
  go_wp2_with fail
  go_ret
  exact ⟨ret_bool (by simp), (Below.refl _ _).alloc (Nat.le_refl _) _⟩
 | true =>
  cases x2 with
  | false =>
   go_enter Tryz.func93, Tryz.ntmps93
   go_wp2_with fail
   refine (C1.out _).mono ?_
   rintro e w1 ⟨rfl, rfl⟩
   go_wp2_with fail
   refine (C2.out _).mono ?_
   rintro e w1 ⟨rfl, rfl⟩
   go_wp2_with fail
   go_ret
   exact ⟨ret_bool (by simp), (Below.refl _ _).alloc (Nat.le_refl _) _⟩
  | true =>
   cases x3 with
   | false =>
    go_enter Tryz.func93, Tryz.ntmps93
    go_wp2_with fail
    refine (C1.out _).mono ?_
    rintro e w1 ⟨rfl, rfl⟩
    go_wp2_with fail
    refine (C2.out _).mono ?_
    rintro e w1 ⟨rfl, rfl⟩
    go_wp2_with fail
    refine (C3.out _).mono ?_
    rintro e w1 ⟨rfl, rfl⟩
    go_wp2_with fail
    go_ret
    exact ⟨ret_bool (by simp), (Below.refl _ _).alloc (Nat.le_refl _) _⟩
   | true =>
    cases x4 with
    | false =>
     go_enter Tryz.func93, Tryz.ntmps93
     go_wp2_with fail
     refine (C1.out _).mono ?_
     rintro e w1 ⟨rfl, rfl⟩
     go_wp2_with fail
     refine (C2.out _).mono ?_
     rintro e w1 ⟨rfl, rfl⟩
     go_wp2_with fail
     refine (C3.out _).mono ?_
     rintro e w1 ⟨rfl, rfl⟩
     go_wp2_with fail
     refine (C4.out _).mono ?_
     rintro e w1 ⟨rfl, rfl⟩
     go_wp2_with fail
     go_ret
     exact ⟨ret_bool (by simp), (Below.refl _ _).alloc (Nat.le_refl _) _⟩
    | true =>
     cases x5 with
     | false =>
      go_enter Tryz.func93, Tryz.ntmps93
      go_wp2_with fail
      refine (C1.out _).mono ?_
      rintro e w1 ⟨rfl, rfl⟩
      go_wp2_with fail
      refine (C2.out _).mono ?_
      rintro e w1 ⟨rfl, rfl⟩
      go_wp2_with fail
      refine (C3.out _).mono ?_
      rintro e w1 ⟨rfl, rfl⟩
      go_wp2_with fail
      refine (C4.out _).mono ?_
      rintro e w1 ⟨rfl, rfl⟩
      go_wp2_with fail
      refine (C5.out _).mono ?_
      rintro e w1 ⟨rfl, rfl⟩
      go_wp2_with fail
      go_ret
      exact ⟨ret_bool (by simp), (Below.refl _ _).alloc (Nat.le_refl _) _⟩
     | true =>
      go_enter Tryz.func93, Tryz.ntmps93
      go_wp2_with fail
      refine (C1.out _).mono ?_
      rintro e w1 ⟨rfl, rfl⟩
      go_wp2_with fail
      refine (C2.out _).mono ?_
      rintro e w1 ⟨rfl, rfl⟩
      go_wp2_with fail
      refine (C3.out _).mono ?_
      rintro e w1 ⟨rfl, rfl⟩
      go_wp2_with fail
      refine (C4.out _).mono ?_
      rintro e w1 ⟨rfl, rfl⟩
      go_wp2_with fail
      refine (C5.out _).mono ?_
      rintro e w1 ⟨rfl, rfl⟩
      go_wp2_with fail
      go_ret
      exact ⟨ret_bool (by simp only [Bool.true_and]; rw [decide_eq_decide]; omega), (Below.refl _ _).alloc (Nat.le_refl _) _⟩

end Go.Proofs.YtkkimgjcefojdaaGreatDoor
namespace Go.Proofs.YtkkimgjcefojdaaGreatDoor
open Go.RowKit Go.Lib

theorem packOk_all {s d t p i : Int} {b : ByteArray} (h : packOk s d t p i b = true) : wordOk s 32 = true ∧ wordOk d 32 = true ∧ (1 ≤ t ∧ t ≤ 255) ∧ wordOk p 8 = true ∧ wordOk i 16 = true ∧ b.size ≤ 1480 := by
 unfold packOk at h
 simp only [Bool.and_eq_true, decide_eq_true_eq] at h
 exact h
/-- The two parts of a packet's head, without the sum that stands between them. -/
def packHead (n i t p : Int) : ByteArray := ⟨#[69, 0]⟩ ++ putW n 2 ++ putW i 2 ++ ⟨#[0, 0]⟩ ++ putW t 1 ++ putW p 1
def packTail (s d : Int) : ByteArray := putW s 4 ++ putW d 4
/-- What PacketText answers. -/
def packText (s d t p i : Int) (b : ByteArray) : ByteArray :=
 if packOk s d t p i b then packHead (20 + b.size) i t p ++ putW (sumOf (packHead (20 + b.size) i t p ++ packTail s d)) 2 ++ packTail s d ++ b else ⟨#[]⟩
theorem len_word (b : ByteArray) (h : b.size ≤ 1480) : wordOk (20 + b.size) 16 = true := by
 unfold wordOk; apply decide_eq_true; refine ⟨by omega, by omega, ?_⟩
 show (20 : Int) + b.size < 65536
 omega
theorem packHead_size {s d t p i : Int} {b : ByteArray} (h : packOk s d t p i b = true) : (packHead (20 + b.size) i t p).size = 10 := by
 obtain ⟨hs, hd, ht, hp, hi, hb⟩ := packOk_all h
 obtain ⟨_, _, _, _, z1⟩ := putW_word (20 + b.size) 2 (by omega) (len_word b hb)
 obtain ⟨_, _, _, _, z2⟩ := putW_word i 2 (by omega) hi
 obtain ⟨_, _, _, _, z3⟩ := putW_word t 1 (by omega) (by rw [show (8 * ((1 : Nat) : Int)) = 8 from rfl, ttl_word t ht.1]; exact decide_eq_true ht)
 obtain ⟨_, _, _, _, z4⟩ := putW_word p 1 (by omega) hp
 unfold packHead
 have e1 : ((2 : Nat) : Int) = 2 := rfl
 have e2 : ((1 : Nat) : Int) = 1 := rfl
 rw [e1] at z1 z2
 rw [e2] at z3 z4
 simp only [ByteArray.size_append, z1, z2, z3, z4]
 rfl
theorem packTail_size {s d t p i : Int} {b : ByteArray} (h : packOk s d t p i b = true) : (packTail s d).size = 8 := by
 obtain ⟨hs, hd, ht, hp, hi, hb⟩ := packOk_all h
 obtain ⟨_, _, _, _, z1⟩ := putW_word s 4 (by omega) hs
 obtain ⟨_, _, _, _, z2⟩ := putW_word d 4 (by omega) hd
 have e1 : ((4 : Nat) : Int) = 4 := rfl
 rw [e1] at z1 z2
 unfold packTail
 rw [ByteArray.size_append, z1, z2]
theorem packText_yes {s d t p i : Int} {b : ByteArray} (h : packOk s d t p i b = true) : packText s d t p i b = packHead (20 + b.size) i t p ++ putW (sumOf (packHead (20 + b.size) i t p ++ packTail s d)) 2 ++ packTail s d ++ b := by
 unfold packText; rw [if_pos h]
theorem packText_no {s d t p i : Int} {b : ByteArray} (h : packOk s d t p i b = false) : packText s d t p i b = ⟨#[]⟩ := by
 unfold packText; rw [if_neg (by rw [h]; decide)]
theorem sum_word (s : ByteArray) : wordOk (sumOf s) 16 = true := by
 have := sumOf_bd s
 unfold wordOk; apply decide_eq_true; refine ⟨by omega, by omega, ?_⟩
 show sumOf s < 65536
 omega
end Go.Proofs.YtkkimgjcefojdaaGreatDoor
namespace Go.Proofs.YtkkimgjcefojdaaGreatDoor
open Go.RowKit Go.Lib

end Go.Proofs.YtkkimgjcefojdaaGreatDoor
namespace Go.Proofs.YtkkimgjcefojdaaGreatDoor
open Go.RowKit Go.Lib

/-- The Hw of the first entry with this address, and whether there is one. -/
def hwE (rs : List ER) (ip : Int) : Int := match rs[atE rs ip]? with | some r => r.hw | none => 0
noncomputable def hasE (rs : List ER) (ip : Int) : Bool := decide (atE rs ip < rs.length)
def HwEnd (rs : List ER) (ip : Int) (w : World) (e : Ending) (w' : World) : Prop := e = .returned (.tuple #[.int .i64 (hwE rs ip), .bool (hasE rs ip)]) ∧ Below w.heap.size w w'

set_option maxHeartbeats 1000000 in
theorem hwOfI (a : Option Addr) (cap : Nat) (rs : List ER) (ip : Int) (w : World) (hrow : Row w w.heap.size a (ers rs)) (hl : rs.length ≤ 1048577) :
  Calls Tryz.prog 12 #[.slice a rs.length cap, .int .i64 ip] w (HwEnd rs ip w) := by
 have HR := Lib.hid hrow
 clear hrow
 have C := Lib.hid (fun w1 h => findI a cap rs 4 9 ip w1 h hl)
 by_cases h : atE rs ip < rs.length
 ·have HP : HwEnd rs ip w = fun e w' => e = .returned (.tuple #[.int .i64 rs[atE rs ip].hw, .bool true]) ∧ Below w.heap.size w w' := by
   funext e w'
   unfold HwEnd hwE hasE
   rw [List.getElem?_eq_getElem h, decide_eq_true h]
  rw [HP]
  rw [placeE_yes h] at C
  generalize hk : atE rs ip = k at C h ⊢
  clear HP hk
  go_enter Tryz.func12, Tryz.ntmps12
  go_wp2_with fail
  refine (cacheOfI a rs.length cap w).mono ?_
  rintro e w1 ⟨rfl, hb⟩
  have B1 := Lib.hid hb
  clear hb
  go_wp2_with fail
  refine (C.out w1 ((HR.out.below B1.out).mono B1.out.size)).mono ?_
  rintro e w2 ⟨rfl, hb⟩
  have B2 := Lib.hid (B1.out.trans (hb.mono B1.out.size))
  clear hb B1
  obtain ⟨b, off, rfl, hbb, hcs⟩ := (HR.out.below B2.out).er h
  obtain ⟨hc0, hc1, hc2⟩ := hcs k h
  have hk0 : (0 : Int) ≤ (k : Int) := Int.natCast_nonneg _
  have hk1 : (k : Int) < (rs.length : Int) := by omega
  clear hcs
  go_wp2_with fail
  exact bodyPost_ret (v := .tuple #[.int .i64 rs[k].hw, .bool true]) (by simp [results, Tryz.results12, go_sem]) rfl ⟨rfl, B2.out⟩
 ·have HP : HwEnd rs ip w = fun e w' => e = .returned (.tuple #[.int .i64 0, .bool false]) ∧ Below w.heap.size w w' := by
   funext e w'
   unfold HwEnd hwE hasE
   rw [List.getElem?_eq_none (by omega), decide_eq_false h]
  rw [HP]
  rw [placeE_no h] at C
  clear HP
  go_enter Tryz.func12, Tryz.ntmps12
  go_wp2_with fail
  refine (cacheOfI a rs.length cap w).mono ?_
  rintro e w1 ⟨rfl, hb⟩
  have B1 := Lib.hid hb
  clear hb
  go_wp2_with fail
  refine (C.out w1 ((HR.out.below B1.out).mono B1.out.size)).mono ?_
  rintro e w2 ⟨rfl, hb⟩
  have B2 := Lib.hid (B1.out.trans (hb.mono B1.out.size))
  clear hb B1
  go_wp2_with fail
  exact bodyPost_ret (v := .tuple #[.int .i64 0, .bool false]) (by simp [results, Tryz.results12, go_sem]) rfl ⟨rfl, B2.out⟩

end Go.Proofs.YtkkimgjcefojdaaGreatDoor
namespace Go.Proofs.YtkkimgjcefojdaaGreatDoor
open Go.RowKit Go.Lib

theorem aged_le (rs : List ER) (k : Nat) (h : k ≤ rs.length) : (agedE (rs.take k)).length ≤ k := by
 have := agedE_length (rs.take k)
 rw [List.length_take] at this
 omega
set_option maxRecDepth 100000 in
set_option maxHeartbeats 2000000 in
theorem agedN (a : Option Addr) (cap : Nat) (rs : List ER) (w : World) (hrow : Row w w.heap.size a (ers rs)) (hl : rs.length ≤ 1048577) (hg : ∀ r ∈ rs, goodE r) :
  Calls Tryz.prog 116 #[.slice a rs.length cap] w (NewS (agedE rs) w) := by
 obtain ⟨i0, hi, hz0, hz1, hz2⟩ := info_parts Tryz.info71
 have HR := Lib.hid hrow
 have HG := Lib.hid hg
 clear hrow hg
 have O0 := Lib.hid (World.ownsRow_lit (base := w.heap.size) (e := 71) (size := 3) w #[] 0 (Nat.le_refl _) (Nat.zero_le _) rfl)
 have B0 := Lib.hid (show Below w.heap.size w (w.alloc (.cells #[] 71)) from (Below.refl _ _).alloc (Nat.le_refl _) _)
 go_enter Tryz.func116, Tryz.ntmps116
 go_wp2_with fail
 go_loopw [3, 4] (fun v i wr => ∃ k : Nat, k ≤ rs.length ∧ i = .int .i64 k ∧ ∃ (gg cp : Nat), v = .slice (some ⟨gg, 0, none⟩) (agedE (rs.take k)).length cp ∧ Hid (wr.ownsRow w.heap.size 71 3 (.slice (some ⟨gg, 0, none⟩) (agedE (rs.take k)).length cp) (agedE (rs.take k)).length (ers (agedE (rs.take k)))) ∧ Hid (Below w.heap.size w wr))
  (fun _ i _ => rs.length - (RowKit.intOf i).toNat)
 case atStart => exact ⟨0, Nat.zero_le _, rfl, w.heap.size, 0, rfl, O0, B0⟩
 case round =>
  obtain ⟨k, hk, rfl, gg, cp, rfl, hO, hB⟩ := hrel
  clear O0 B0
  by_cases hlt : k < rs.length
  ·obtain ⟨b, off, rfl, hbb, hcs⟩ := (HR.out.below hB.out).er hlt
   obtain ⟨hc0, hc1, hc2⟩ := hcs k hlt
   have hk0 : (0 : Int) ≤ (k : Int) := Int.natCast_nonneg _
   have hk1 : (k : Int) < (rs.length : Int) := by omega
   clear hcs
   have hn := agedE_next hlt
   have hal := aged_le rs k hk
   have hbs : b < wr.heap.size := Nat.lt_of_lt_of_le hbb hB.out.size
   by_cases h9 : rs[k].age < 9
   ·rw [if_pos h9] at hn
    have HN := Lib.hid hn
    clear hn
    have hga := goodE_age (HG.out rs[k] (List.getElem_mem hlt))
    have hw : IntKind.i64.wrap (rs[k].age + 1) = rs[k].age + 1 := IntWalk.i64_in _ (by omega)
    have hnw := Lib.hid (show ((wr.alloc (.cells #[.int .i64 rs[k].ip, .int .i64 rs[k].hw, .int .i64 (rs[k].age + 1)] 71)).alloc (.cells #[.int .i64 rs[k].ip, .int .i64 rs[k].hw, .int .i64 (rs[k].age + 1)] 71)).heap[wr.heap.size + 1]? = some (.cells #[.int .i64 rs[k].ip, .int .i64 rs[k].hw, .int .i64 (rs[k].age + 1)] 71 (0, 0)) by
     have h0 := heap_alloc_new (wr.alloc (.cells #[.int .i64 rs[k].ip, .int .i64 rs[k].hw, .int .i64 (rs[k].age + 1)] 71)) (.cells #[.int .i64 rs[k].ip, .int .i64 rs[k].hw, .int .i64 (rs[k].age + 1)] 71)
     rwa [show (wr.alloc (.cells #[.int .i64 rs[k].ip, .int .i64 rs[k].hw, .int .i64 (rs[k].age + 1)] 71)).heap.size = wr.heap.size + 1 by simp] at h0)
    have hB2 := Lib.hid (show Below wr.heap.size wr ((wr.alloc (.cells #[.int .i64 rs[k].ip, .int .i64 rs[k].hw, .int .i64 (rs[k].age + 1)] 71)).alloc (.cells #[.int .i64 rs[k].ip, .int .i64 rs[k].hw, .int .i64 (rs[k].age + 1)] 71)) from ((Below.refl _ _).alloc (Nat.le_refl _) _).alloc (by simp) _)
    have hO2 := Lib.hid (own_below hO.out hB2.out)
    have hbz := hB.out.size
    go_wp2_with (at_builtin; refine wpList_append_lies _ rfl _ _ _ rfl w.heap.size 71 i0 _ 3 24 Tryz.underlying24 hi hz0 hz1 hz2 rfl (by omega) _ (agedE (rs.take k)).length _ rfl hO2.out ⟨wr.heap.size + 1, 0, none⟩ 1 1 [.int .i64 rs[k].ip, .int .i64 rs[k].hw, .int .i64 (rs[k].age + 1)] rfl rfl (World.news_of_block (cs := #[.int .i64 rs[k].ip, .int .i64 rs[k].hw, .int .i64 (rs[k].age + 1)]) (t := 71) (fr := (0, 0)) hnw.out) (by simp [Value.oneCell']) (by omega) (by unfold maxLen; omega) (by omega) (by simp; omega) (wr.heap.size + 2) (by simp) ?_; intro gg' cap' w4 hown4 hgrow hat hlt')
    have hB4 : Below w.heap.size w w4 := (hB.out.trans (hB2.out.mono hbz)).grown hgrow (Nat.le_trans hbz hB2.out.size) (fun j e => (hO2.out.lt j e).1)
    have e5 : agedE (rs.take k) ++ [⟨rs[k].ip, rs[k].hw, rs[k].age + 1⟩] = agedE (rs.take (k + 1)) := HN.out.symm
    have e6 : (agedE (rs.take (k + 1))).length = (agedE (rs.take k)).length + 1 := by rw [HN.out, List.length_append]; rfl
    rw [show ers (agedE (rs.take k)) ++ [.int .i64 rs[k].ip, .int .i64 rs[k].hw, .int .i64 (rs[k].age + 1)] = ers (agedE (rs.take (k + 1))) by rw [← e5, ers_append]; rfl, ← e6] at hown4
    rw [← e6]
    clear hgrow hat hlt' hO hB hO2 hB2 hnw
    go_roundw
    case rel => exact ⟨k + 1, by omega, by go_num, gg', cap', rfl, hown4, hB4⟩
    case measure => simp [RowKit.intOf]; omega
   ·rw [if_neg h9, List.append_nil] at hn
    have HN := Lib.hid hn
    clear hn
    go_wp2_with fail
    go_roundw
    case rel => exact ⟨k + 1, by omega, by go_num, gg, cp, by rw [HN.out], by rw [HN.out]; exact own_below hO.out ((Below.refl _ _).alloc (Nat.le_refl _) _), hB.out.alloc hB.out.size _⟩
    case measure => simp [RowKit.intOf]; omega
  ·obtain rfl : k = rs.length := by omega
   rw [List.take_length] at hO ⊢
   go_wp2_with fail
   go_ret
   exact ⟨gg, cp, rfl, hO.out, hB.out⟩
end Go.Proofs.YtkkimgjcefojdaaGreatDoor
namespace Go.Proofs.YtkkimgjcefojdaaGreatDoor
open Go.RowKit Go.Lib

set_option maxHeartbeats 1000000 in
theorem l1PickInt_any (B g r : Nat) (w : World) (hc : CurB w B g) (cs : Array Value) (h : w.heap[r]? = some (.cells cs 3 (0, 0))) (hne : r ≠ g) (h0 : 0 < cs.size) (h1 : cs.size ≤ 1000000) (hall : ∀ v ∈ cs.toList, ∃ x, v = .int .i64 x) :
  Calls Tryz.prog 63 #[.pointer (some ⟨g, 0, none⟩), .slice (some ⟨r, 0, none⟩) cs.size cs.size] w (PickEnd w B g cs.toList) := by
 have C := Lib.hid (l1Below_pos B g w hc cs.size (by omega) (by omega))
 have hr : r < w.heap.size := by
  rcases Nat.lt_or_ge r w.heap.size with hlt | hge
  ·exact hlt
  ·rw [Array.getElem?_eq_none hge] at h; cases h
 have HH := Lib.hid h
 have HA := Lib.hid hall
 clear hc h hall
 go_enter Tryz.func63, Tryz.ntmps63
 go_wp2_with fail
 refine C.out.mono ?_
 rintro e w1 ⟨q, rfl, ⟨q0, q1⟩, hc1, hg1⟩
 obtain ⟨k, rfl⟩ : ∃ k : Nat, q = (k : Int) := ⟨q.toNat, by omega⟩
 have hk : k < cs.size := by omega
 have h' : w1.heap[r]? = some (.cells cs 3 (0, 0)) := (hg1.block r hr (fun e => hne (by injection e))).trans HH.out
 have hcell := row_at h' hk
 obtain ⟨x, hx⟩ := HA.out cs[k] (by simp)
 have hmem : Hid (Value.int .i64 x ∈ cs.toList) := by show _ ∈ _; rw [← hx]; simp
 rw [hx] at hcell
 have C1 := Lib.hid hc1
 have G1 := Lib.hid hg1
 clear hc1 hg1 h' hx
 go_wp2_with fail
 go_ret
 exact ⟨_, hmem.out, rfl, C1.out, G1.out⟩

end Go.Proofs.YtkkimgjcefojdaaGreatDoor
namespace Go.Proofs.YtkkimgjcefojdaaGreatDoor
open Go.RowKit Go.Lib

/-- A pick out of a new list of ints. -/
theorem pickNew (B g : Nat) (w : World) (hc : CurB w B g) (cs : Array Value) (hs : 0 < cs.size) (hs1 : cs.size ≤ 1000000) (hbd : ∀ v ∈ cs.toList, ∃ x, v = .int .i64 x ∧ I64 x) :
  Calls Tryz.prog 63 #[.pointer (some ⟨g, 0, none⟩), .slice (some ⟨w.heap.size, 0, none⟩) cs.size cs.size] (w.alloc (.cells cs 3)) (WholeEnd w B g) := by
 have hlt := hc.lt
 refine (l1PickInt_any B g w.heap.size _ (hc.new _) cs (heap_alloc_new w _) (by omega) hs hs1 (fun v hv => (hbd v hv).imp fun _ h => h.1)).mono ?_
 rintro e w' ⟨v, hv, rfl, h1, h2⟩
 obtain ⟨x, rfl, hx⟩ := hbd v hv
 exact ⟨x, rfl, hx, h1, grown_tr (World.grownBy_alloc w _ _) h2⟩
end Go.Proofs.YtkkimgjcefojdaaGreatDoor
namespace Go.Proofs.YtkkimgjcefojdaaGreatDoor
open Go.RowKit Go.Lib

theorem made_zero (k : Nat) : (madeCells (Value.int IntKind.u8 0).cells (k * 1)).toList = byteCells (List.replicate k (0 : UInt8)) := by
 apply List.ext_getElem?
 intro j
 by_cases hj : j < k
 ·simp [madeCells, byteCells, hj, Value.cells, Nat.mod_one]
 ·simp [madeCells, byteCells, hj]

set_option maxHeartbeats 400000 in
theorem l5Long_any (k : Nat) (hk : k ≤ 1000000) (w : World) :
  Calls Tryz.prog 50 #[.int .i64 k] w fun e w' => ∃ b : ByteArray, e = .returned (.string b) ∧ b.size = k ∧ Below w.heap.size w w' := by
 obtain ⟨i0, hi, hz0, hz1, hz2⟩ := info_parts Tryz.info5
 go_enter Tryz.func50, Tryz.ntmps50
 go_wp2_with (at_make; refine wpList_make_full _ rfl _ _ _ rfl w.heap.size 5 i0 _ 1 Tryz.underlying22 hi hz0 hz1 _ _ _ _ k rfl rfl rfl rfl (by rw [hz2]; omega) (by unfold maxLen; omega) (Nat.le_refl _) ?_; intro w1 hown hgrow; rw [made_zero] at hown; have hcv := run_string_own (P := Tryz.prog) Tryz.underlying22 Tryz.underlying5 Tryz.underlying9 hown)
 go_ret
 exact ⟨_, rfl, by simp [ByteArray.size], below_made hgrow⟩
end Go.Proofs.YtkkimgjcefojdaaGreatDoor
