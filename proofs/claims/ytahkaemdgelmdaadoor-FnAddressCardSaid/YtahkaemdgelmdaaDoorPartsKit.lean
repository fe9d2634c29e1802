/- Plain lemmas on cutting a text at a byte. Nothing here is a claim. -/
import Derived.Test.YtahkaemdgelmdaaDoorJoinKit
import Derived.Lib.SplitLaws
import Derived.Lib.IndexBytes
namespace Go.Proofs.YtahkaemdgelmdaaDoor
open Go.RowKit Go.Lib

theorem data_length (s : ByteArray) : s.data.toList.length = s.size := by simp
/-- l, cut at every c. -/
def cuts (c : UInt8) : List UInt8 → List (List UInt8)
  | [] => [[]]
  | x :: l => if x = c then [] :: cuts c l else match cuts c l with
    | [] => [[x]]
    | h :: t => (x :: h) :: t
theorem cuts_ne (c : UInt8) (l : List UInt8) : cuts c l ≠ [] := by
  cases l with
  | nil => simp [cuts]
  | cons x l => unfold cuts; split <;> (try split) <;> simp
/-- A part without c, then c. -/
theorem cuts_hit (c : UInt8) (a b : List UInt8) (h : c ∉ a) : cuts c (a ++ c :: b) = a :: cuts c b := by
  induction a with
  | nil => simp [cuts]
  | cons x a ih =>
    have hx : ¬ x = c := fun e => h (by simp [e])
    have ha : c ∉ a := fun e => h (by simp [e])
    rw [List.cons_append, cuts, if_neg hx, ih ha]
theorem cuts_miss (c : UInt8) (a : List UInt8) (h : c ∉ a) : cuts c a = [a] := by
  induction a with
  | nil => rfl
  | cons x a ih =>
    have hx : ¬ x = c := fun e => h (by simp [e])
    have ha : c ∉ a := fun e => h (by simp [e])
    rw [cuts, if_neg hx, ih ha]
theorem cuts_length (c : UInt8) (l : List UInt8) : (cuts c l).length ≤ l.length + 1 := by
  induction l with
  | nil => simp [cuts]
  | cons x l ih =>
    unfold cuts
    split
    · simp; omega
    · split
      · simp
      · rename_i h t e; rw [e] at ih; simp at ih ⊢; omega

/-- What strings.Split gives at a separator of one byte. -/
theorem split_cuts (c : UInt8) : ∀ (n : Nat) (l : List UInt8), l.length ≤ n → splitK [c] 0 (count l [c]) l = cuts c l
  | n, l, hn => by
    rcases Int.lt_or_le (indexByte l c) 0 with h | h
    · have he : indexByte l c = -1 := by have := indexByte_ge l c; omega
      have hno : c ∉ l := fun hm => by
        obtain ⟨k, hk⟩ := List.getElem?_of_mem hm
        exact indexByte_none he k hk
      rw [cuts_miss c l hno]
      have hi : index l [c] = -1 := (index_one l c).trans he
      rw [count_miss hi]; rfl
    · obtain ⟨o, ho⟩ : ∃ o : Nat, indexByte l c = o := ⟨(indexByte l c).toNat, by omega⟩
      obtain ⟨h1, h2⟩ := indexByte_some ho
      have hlt : o < l.length := (List.getElem?_eq_some_iff.1 h1).1
      have hel : l[o] = c := (List.getElem?_eq_some_iff.1 h1).2
      have hi : index l [c] = (o : Int) := (index_one l c).trans ho
      have hsp : l = l.take o ++ c :: l.drop (o + 1) := by
        rw [← hel, ← List.drop_eq_getElem_cons hlt, List.take_append_drop]
      have hno : c ∉ l.take o := fun hm => by
        obtain ⟨k, hk⟩ := List.getElem?_of_mem hm
        have hk2 : k < o := by
          have := (List.getElem?_eq_some_iff.1 hk).1
          simp at this; omega
        rw [List.getElem?_take, if_pos hk2] at hk
        exact h2 k hk2 hk
      cases n with
      | zero => omega
      | succ n =>
        have ih := split_cuts c n (l.drop (o + 1)) (by simp; omega)
        rw [count_hit (by simp) hi]
        rw [show 1 + count (l.drop (o + [c].length)) [c] = count (l.drop (o + 1)) [c] + 1 by simp; omega]
        rw [splitK, if_neg (by rw [hi]; simp), hi]
        simp only [Int.toNat_natCast, Nat.add_zero, List.length_singleton]
        rw [ih]
        conv => rhs; rw [hsp]
        rw [cuts_hit c _ _ hno]
theorem join_cuts (c : UInt8) (l : List UInt8) : Lib.join (cuts c l) [c] = l := by
  induction l with
  | nil => rfl
  | cons x l ih =>
    have hne := cuts_ne c l
    unfold cuts
    match hc : cuts c l, hne with
    | h :: t, _ =>
      rw [hc, join_cons] at ih
      split
      · rename_i e
        subst e
        rw [join_cons]
        simp only [joinTail, List.map_cons, List.flatten_cons, List.nil_append] at ih ⊢
        rw [show [x] ++ h ++ (t.map fun y => [x] ++ y).flatten = x :: (h ++ (t.map fun y => [x] ++ y).flatten) by simp, ih]
      · rw [join_cons, List.cons_append, ih]

/-- The pieces, as strings. -/
def pieces (s : ByteArray) (c : UInt8) : List ByteArray := (cuts c s.data.toList).map fun x => ⟨x.toArray⟩
theorem pieces_data (s : ByteArray) (c : UInt8) : bytesOf (pieces s c) = cuts c s.data.toList := by
  unfold bytesOf pieces
  rw [List.map_map]
  conv => rhs; rw [← List.map_id (cuts c s.data.toList)]
  rfl
theorem pieces_length (s : ByteArray) (c : UInt8) : (pieces s c).length ≤ s.size + 1 := by
  have := cuts_length c s.data.toList
  rw [data_length] at this
  simpa [pieces] using this
theorem pieces_join (s : ByteArray) (c : UInt8) : jn (pieces s c) ⟨#[c]⟩ (pieces s c).length = s.data.toList := by
  unfold jn
  rw [List.take_of_length_le (Nat.le_refl _), pieces_data]
  exact join_cuts c _
theorem back_data (xs : List ByteArray) : (bytesOf xs).map (fun x => (⟨x.toArray⟩ : ByteArray)) = xs := by
  unfold bytesOf
  rw [List.map_map]
  conv => rhs; rw [← List.map_id xs]
  rfl
theorem split_pieces (s : ByteArray) (c : UInt8) : Lib.splitB ⟨#[c]⟩ 0 (countB s ⟨#[c]⟩) s = pieces s c := by
  rw [← back_data (Lib.splitB ⟨#[c]⟩ 0 (countB s ⟨#[c]⟩) s)]
  unfold pieces
  congr 1
  unfold bytesOf
  rw [splitB_data]
  exact split_cuts c _ _ (Nat.le_refl _)
theorem count_pieces (s : ByteArray) (c : UInt8) : countB s ⟨#[c]⟩ + 1 = (pieces s c).length := by
  rw [← split_pieces]
  exact (splitB_all ⟨#[c]⟩ (Nat.le_refl 1) 0 _ s rfl).symm
theorem lens_pieces (s : ByteArray) (c : UInt8) : lens (bytesOf (pieces s c)) ≤ s.size := by
  have h := pieces_data s c
  have hj := join_cuts c s.data.toList
  rw [h]
  match hc : cuts c s.data.toList with
  | [] => simp [lens]
  | x :: r =>
    rw [hc] at hj
    have := join_length x r [c]
    rw [hj, Array.length_toList, ByteArray.size_data] at this
    omega

theorem strVals_snoc (out : List ByteArray) (x : ByteArray) : strVals out ++ [.string x] = strVals (out ++ [x]) := by simp [strVals]

/-! ### The model's loop -/
/-- out and what begins at 'from' make up the whole; between 'from' and k there is no c. -/
def Cut (s : ByteArray) (c : UInt8) (from_ k : Nat) (out : List ByteArray) : Prop :=
  from_ ≤ k ∧ bytesOf out ++ cuts c (s.data.toList.drop from_) = cuts c s.data.toList ∧ ∀ j, from_ ≤ j → j < k → s.data.toList[j]? ≠ some c
theorem Cut.start (s : ByteArray) (c : UInt8) : Cut s c 0 0 [] := ⟨Nat.le_refl _, by simp [bytesOf], fun j h1 h2 => by omega⟩
theorem not_mem_piece {l : List UInt8} {c : UInt8} {a k : Nat} (h : ∀ j, a ≤ j → j < k → l[j]? ≠ some c) : c ∉ (l.drop a).take (k - a) := fun hm => by
  obtain ⟨j, hj⟩ := List.getElem?_of_mem hm
  have hlt : j < k - a := by
    have := (List.getElem?_eq_some_iff.1 hj).1
    simp at this; omega
  rw [List.getElem?_take, if_pos hlt, List.getElem?_drop] at hj
  exact h (a + j) (by omega) (by omega) hj
theorem extract_piece (s : ByteArray) (a k : Nat) : (s.extract a k).data.toList = (s.data.toList.drop a).take (k - a) := by
  rw [extract_data]
/-- At c. -/
theorem Cut.hit {s : ByteArray} {c : UInt8} {a k : Nat} {out : List ByteArray} (h : Cut s c a k out) (hk : k < s.size) (hc : s[k] = c) : Cut s c (k + 1) (k + 1) (out ++ [s.extract a k]) := by
  obtain ⟨h1, h2, h3⟩ := h
  refine ⟨Nat.le_refl _, ?_, fun j h4 h5 => by omega⟩
  have hkl : k < s.data.toList.length := by simpa using hk
  have hel : s.data.toList[k] = c := hc
  have hsp : s.data.toList.drop a = (s.data.toList.drop a).take (k - a) ++ c :: s.data.toList.drop (k + 1) := by
    conv => lhs; rw [← List.take_append_drop (k - a) (s.data.toList.drop a)]
    rw [List.drop_drop, show a + (k - a) = k by omega, List.drop_eq_getElem_cons hkl, hel]
  rw [← h2]
  conv => rhs; rw [hsp]
  rw [cuts_hit c _ _ (not_mem_piece h3)]
  unfold bytesOf
  rw [List.map_append, List.map_cons, List.map_nil, extract_piece s a k]
  simp
/-- At another byte. -/
theorem Cut.pass {s : ByteArray} {c : UInt8} {a k : Nat} {out : List ByteArray} (h : Cut s c a k out) (hk : k < s.size) (hc : ¬ s[k] = c) : Cut s c a (k + 1) out := by
  obtain ⟨h1, h2, h3⟩ := h
  refine ⟨by omega, h2, fun j h4 h5 => ?_⟩
  by_cases e : j = k
  · subst e
    have hkl : j < s.data.toList.length := by simpa using hk
    rw [List.getElem?_eq_getElem hkl]
    exact fun e => hc (Option.some.inj e)
  · exact h3 j h4 (by omega)
/-- At the end. -/
theorem Cut.last {s : ByteArray} {c : UInt8} {a : Nat} {out : List ByteArray} (h : Cut s c a s.size out) : out ++ [s.extract a s.size] = pieces s c := by
  obtain ⟨h1, h2, h3⟩ := h
  have hno : c ∉ s.data.toList.drop a := by
    have := not_mem_piece h3
    rwa [List.take_of_length_le (by simp)] at this
  rw [cuts_miss c _ hno] at h2
  have e : bytesOf (out ++ [s.extract a s.size]) = cuts c s.data.toList := by
    rw [← h2]
    unfold bytesOf
    rw [List.map_append, List.map_cons, List.map_nil, extract_piece s a s.size, List.take_of_length_le (by simp)]
  rw [← back_data (out ++ [s.extract a s.size]), e]
  rfl
theorem Cut.len {s : ByteArray} {c : UInt8} {a k : Nat} {out : List ByteArray} (h : Cut s c a k out) : out.length ≤ s.size + 1 := by
  have h1 := congrArg List.length h.2.1
  have h2 := cuts_length c s.data.toList
  rw [List.length_append] at h1
  rw [data_length] at h2
  have h3 : (bytesOf out).length = out.length := by simp [bytesOf]
  omega
end Go.Proofs.YtahkaemdgelmdaaDoor
