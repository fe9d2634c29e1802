/- Plain words on TCP options (chapter 8 of the document). Nothing here is a claim. -/
import Derived.Test.YtlfbcfhekfmkfaaGetKit
namespace Go.Proofs.Ytlfbcfhekfmkfaa
open Go.RowKit Go.Lib

/-- The six fields of an Options value. -/
structure Opt where
  m : Int
  c : Int
  k : Bool
  t : Bool
  v : Int
  e : Int
/-- The cells of an Options value. -/
def Opt.cs (o : Opt) : Array Value := #[.int .i64 o.m, .int .i64 o.c, .bool o.k, .bool o.t, .int .i64 o.v, .int .i64 o.e]
def optNo : Opt := ⟨0, -1, false, false, 0, 0⟩
/-- Whether an Options value is valid. -/
def optOk (o : Opt) : Bool := wordOk o.m 16 && decide (-1 ≤ o.c ∧ o.c ≤ 14) && bif o.t then wordOk o.v 32 && wordOk o.e 32 else decide (o.v = 0 ∧ o.e = 0)
theorem optOk_no : optOk optNo = true := by decide +kernel

/-- The parts of an Options value's text. -/
def optM (o : Opt) : ByteArray := if o.m = 0 then ⟨#[]⟩ else ⟨#[2, 4]⟩ ++ putW o.m 2
def optC (o : Opt) : ByteArray := if o.c = -1 then ⟨#[]⟩ else ⟨#[3, 3]⟩ ++ putW o.c 1
def optK (o : Opt) : ByteArray := bif o.k then ⟨#[4, 2]⟩ else ⟨#[]⟩
def optT (o : Opt) : ByteArray := bif o.t then ⟨#[8, 10]⟩ ++ putW o.v 4 ++ putW o.e 4 else ⟨#[]⟩
def optBody (o : Opt) : ByteArray := optM o ++ optC o ++ optK o ++ optT o
def ones (n : Nat) : ByteArray := ⟨(List.replicate n 1).toArray⟩
/-- What OptionsText answers. -/
def optText (o : Opt) : ByteArray := if optOk o then optBody o ++ ones ((4 - (optBody o).size % 4) % 4) else ⟨#[]⟩

/-- The option that stands in x, laid into o. -/
def optLay (o : Opt) (x : ByteArray) : Opt :=
  if (at8 x 0).toNat = 2 ∧ x.size = 4 then { o with m := (gw x 2 2 : Nat) }
  else if (at8 x 0).toNat = 3 ∧ x.size = 3 then { o with c := (min (at8 x 2).toNat 14 : Nat) }
  else if (at8 x 0).toNat = 4 ∧ x.size = 2 then { o with k := true }
  else if (at8 x 0).toNat = 8 ∧ x.size = 10 then { o with t := true, v := (gw x 2 4 : Nat), e := (gw x 6 4 : Nat) }
  else o
/-- Whether no option stands at a: its length is missing, too small or too large. -/
def optBad (s : ByteArray) (a : Nat) : Prop := s.size ≤ a + 1 ∨ (at8 s (a + 1)).toNat < 2 ∨ s.size < a + (at8 s (a + 1)).toNat
instance (s : ByteArray) (a : Nat) : Decidable (optBad s a) := by unfold optBad; infer_instance
/-- What ReadOptions answers from a on, in at most f steps. -/
def optRd (s : ByteArray) : Nat → Nat → Opt → Opt × Bool
  | 0, _, o => (o, true)
  | f + 1, a, o =>
    if s.size ≤ a ∨ (at8 s a).toNat = 0 then (o, true)
    else if (at8 s a).toNat = 1 then optRd s f (a + 1) o
    else if optBad s a then (optNo, false)
    else optRd s f (a + (at8 s (a + 1)).toNat) (optLay o (s.extract a (a + (at8 s (a + 1)).toNat)))
def optRead (s : ByteArray) : Opt × Bool := optRd s s.size 0 optNo
theorem optRd_end (s : ByteArray) (f a : Nat) (o : Opt) (h : s.size ≤ a ∨ (at8 s a).toNat = 0) : optRd s f a o = (o, true) := by
  cases f with
  | zero => rfl
  | succ f => simp only [optRd]; rw [if_pos h]
theorem optRd_pad (s : ByteArray) (f a : Nat) (o : Opt) (h : a < s.size) (h1 : (at8 s a).toNat = 1) : optRd s (f + 1) a o = optRd s f (a + 1) o := by
  simp only [optRd]; rw [if_neg (by omega), if_pos h1]
theorem optRd_bad (s : ByteArray) (f a : Nat) (o : Opt) (h : a < s.size) (h0 : ¬ (at8 s a).toNat = 0) (h1 : ¬ (at8 s a).toNat = 1) (hb : optBad s a) : optRd s (f + 1) a o = (optNo, false) := by
  simp only [optRd]; rw [if_neg (by omega), if_neg h1, if_pos hb]
theorem optRd_next (s : ByteArray) (f a : Nat) (o : Opt) (h : a < s.size) (h0 : ¬ (at8 s a).toNat = 0) (h1 : ¬ (at8 s a).toNat = 1) (hb : ¬ optBad s a) :
    optRd s (f + 1) a o = optRd s f (a + (at8 s (a + 1)).toNat) (optLay o (s.extract a (a + (at8 s (a + 1)).toNat))) := by
  simp only [optRd]; rw [if_neg (by omega), if_neg h1, if_neg hb]
theorem head2 (x : ByteArray) (h : 2 ≤ x.size) : x.extract 0 2 = ⟨#[at8 x 0, at8 x 1]⟩ := by
  apply ByteArray.ext
  apply Array.toList_inj.1
  have hl : x.data.toList.length = x.size := by simp
  unfold at8
  generalize hx : x.data.toList = l at hl
  rw [ByteArray.data_extract, Array.toList_extract, hx, List.extract_eq_take_drop]
  match l, hl with
  | [], hl => simp at hl; omega
  | [_], hl => simp at hl; omega
  | a :: b :: r, _ => rfl
theorem head_is {x : ByteArray} (h : x.extract 0 2 = ⟨#[at8 x 0, at8 x 1]⟩) {a b : Nat} (ha : (at8 x 0).toNat = a) (hb : (at8 x 1).toNat = b) : x.extract 0 2 = ⟨#[UInt8.ofNat a, UInt8.ofNat b]⟩ := by
  rw [h, ← ha, ← hb, UInt8.ofNat_toNat, UInt8.ofNat_toNat]
theorem head_not {x : ByteArray} (h : x.extract 0 2 = ⟨#[at8 x 0, at8 x 1]⟩) {a b : Nat} (hx : (at8 x 1).toNat = x.size) (hn : ¬ ((at8 x 0).toNat = a ∧ x.size = b)) {p q : UInt8} (hp : p.toNat = a := by rfl) (hq : q.toNat = b := by rfl) : ¬ x.extract 0 2 = ⟨#[p, q]⟩ := by
  rw [h]
  intro e
  have e1 : #[at8 x 0, at8 x 1] = #[p, q] := congrArg ByteArray.data e
  have e2 : [at8 x 0, at8 x 1] = [p, q] := congrArg Array.toList e1
  have e3 : at8 x 0 = p := by injection e2
  have e4 : at8 x 1 = q := by injection e2 with _ h4; injection h4
  exact hn ⟨by rw [e3, hp], by rw [← hx, e4, hq]⟩
theorem at8_extract (s : ByteArray) (a b i : Nat) (h : a + i < b) : at8 (s.extract a b) i = at8 s (a + i) := by
  unfold at8
  rw [ByteArray.data_extract, Array.toList_extract, List.extract_eq_take_drop, List.getD_eq_getElem?_getD, List.getD_eq_getElem?_getD, List.getElem?_take, if_pos (by omega), List.getElem?_drop]
/-- The option that stands at a. -/
theorem opt_cut (s : ByteArray) (a : Nat) (hb : ¬ optBad s a) : 2 ≤ (s.extract a (a + (at8 s (a + 1)).toNat)).size ∧ (at8 (s.extract a (a + (at8 s (a + 1)).toNat)) 1).toNat = (s.extract a (a + (at8 s (a + 1)).toNat)).size ∧ (s.extract a (a + (at8 s (a + 1)).toNat)).size = (at8 s (a + 1)).toNat := by
  unfold optBad at hb
  have e : (s.extract a (a + (at8 s (a + 1)).toNat)).size = (at8 s (a + 1)).toNat := by rw [ByteArray.size_extract]; omega
  refine ⟨by omega, ?_, e⟩
  rw [e, at8_extract _ _ _ _ (by omega)]
end Go.Proofs.Ytlfbcfhekfmkfaa
