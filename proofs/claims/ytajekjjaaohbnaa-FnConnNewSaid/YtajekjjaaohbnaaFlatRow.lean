/- Rows of structs: k cells an element, one element behind another. Nothing here is a claim. -/
import Derived.Test.YtajekjjaaohbnaaKit
import Derived.Laws.MakeOwn
import Derived.Below
namespace Go.Proofs.Ytajekjjaaohbnaa
open Go.RowKit Go.Lib

section
variable {α : Type} {f : α → List Value} {k : Nat}
/-- The cells of a row of structs. -/
def flat (f : α → List Value) (xs : List α) : List Value := xs.flatMap f
theorem flat_nil : flat f [] = [] := rfl
theorem flat_cons (x : α) (xs : List α) : flat f (x :: xs) = f x ++ flat f xs := rfl
theorem flat_append (xs ys : List α) : flat f (xs ++ ys) = flat f xs ++ flat f ys := by simp [flat]
theorem flat_length (hk : ∀ x, (f x).length = k) (xs : List α) : (flat f xs).length = xs.length * k := by
  induction xs with
  | nil => simp [flat]
  | cons x xs ih => rw [flat_cons, List.length_append, hk, ih, List.length_cons, Nat.add_mul]; omega
theorem flat_at (hk : ∀ x, (f x).length = k) : ∀ (xs : List α) (i j : Nat) (hi : i < xs.length), j < k → (flat f xs)[i * k + j]? = (f xs[i])[j]?
  | x :: xs, 0, j, _, hj => by rw [flat_cons, Nat.zero_mul, Nat.zero_add, List.getElem?_append_left (by rw [hk]; exact hj)]; rfl
  | x :: xs, i + 1, j, hi, hj => by
    rw [flat_cons, List.getElem?_append_right (by rw [hk, Nat.add_mul]; omega), hk, show (i + 1) * k + j - k = i * k + j by rw [Nat.add_mul]; omega]
    exact flat_at hk xs i j (by simpa using hi) hj
theorem flat_set (hk : ∀ x, (f x).length = k) (y : α) : ∀ (xs : List α) (i j : Nat) (v : Value) (hi : i < xs.length), j < k → f y = (f xs[i]).set j v → (flat f xs).set (i * k + j) v = flat f (xs.set i y)
  | x :: xs, 0, j, v, _, hj, he => by
    rw [flat_cons, Nat.zero_mul, Nat.zero_add, List.set_append_left _ _ (by rw [hk]; exact hj), List.set_cons_zero, flat_cons]
    rw [show f y = (f x).set j v from he]
  | x :: xs, i + 1, j, v, hi, hj, he => by
    rw [flat_cons, List.set_append_right _ _ (by rw [hk, Nat.add_mul]; omega), hk, show (i + 1) * k + j - k = i * k + j by rw [Nat.add_mul]; omega, List.set_cons_succ, flat_cons]
    rw [flat_set hk y xs i j v (by simpa using hi) hj he]
/-- An element of a row of structs. -/
theorem Row.flat {w : World} {B : Nat} {a : Option Addr} {xs : List α} (hk : ∀ x, (f x).length = k) (h0 : 0 < k) (h : Row w B a (flat f xs)) {i : Nat} (hi : i < xs.length) :
    ∃ b off, a = some ⟨b, off, none⟩ ∧ b < B ∧ ∀ j (hj : j < xs.length) (c : Nat), c < k → ∀ v, (f xs[j])[c]? = some v → w.cell? ⟨b, off + (j * k + c), none⟩ = some v := by
  obtain ⟨b, off, ha, hb, hc⟩ := h (fun e => by have := flat_length hk xs; rw [e] at this; have h1 : 1 ≤ xs.length * k := Nat.mul_pos (by omega) h0; simp at this; omega)
  exact ⟨b, off, ha, hb, fun j hj c hck v hv => hc _ _ (by rw [flat_at hk xs j c hj hck]; exact hv)⟩
end
theorem Row.ownK {w : World} {base : Nat} {e : TypeId} {n cap g k : Nat} {xs : List Value} (h : w.ownsRow base e k (.slice (some ⟨g, 0, none⟩) n cap) n xs) : Row w w.heap.size (some ⟨g, 0, none⟩) xs := fun hx => by
  have hn : 0 < n := by
    rcases Nat.eq_zero_or_pos n with h0 | h0
    · have := h.1; rw [h0, Nat.zero_mul] at this; exact absurd (List.eq_nil_of_length_eq_zero this) hx
    · exact h0
  obtain ⟨g', cap', hv, _, hlt⟩ := h.form hn
  have e : g = g' := by injection hv with h1; injection h1 with h1; injection h1
  subst e
  refine ⟨g, 0, rfl, hlt, fun j u hu => ?_⟩
  have := h.cells (g := g) rfl j u hu
  rw [Nat.zero_add]
  rwa [show (⟨g, 0, none⟩ : Addr).add j = ⟨g, j, none⟩ by unfold Addr.add; split <;> simp_all] at this
/-- The row of a slice that the call owns, whatever slice. -/
theorem Row.ownV {w : World} {base : Nat} {e : TypeId} {n m cap k : Nat} {a : Option Addr} {xs : List Value} (h : w.ownsRow base e k (.slice a m cap) n xs) : Row w w.heap.size a xs := by
  rcases h.2 with ⟨hv, hn⟩ | ⟨g, cap', cur, hv, _⟩
  · subst hn
    have := h.1
    rw [Nat.zero_mul] at this
    rw [List.eq_nil_of_length_eq_zero this]
    exact Row.nil
  · injection hv with h1 h2 h3
    subst h1 h2
    exact Row.ownK h

theorem own_down {w : World} {base base' size n : Nat} {e : TypeId} {v : Value} {xs : List Value} (h : w.ownsRow base e size v n xs) (hb : base' ≤ base) : w.ownsRow base' e size v n xs :=
  ⟨h.1, h.2.imp id fun ⟨g, cap, cur, h1, h2, h3⟩ => ⟨g, cap, cur, h1, Nat.le_trans hb h2, h3⟩⟩
theorem own_set {w : World} {base size n : Nat} {e : TypeId} {v : Value} {xs : List Value} (h : w.ownsRow base e size v n xs) (g k : Nat) (hg : g < base) (u : Value) : (w.setCell ⟨g, k, none⟩ u).ownsRow base e size v n xs :=
  h.kept (row := some g) ⟨rfl, rfl, rfl, by simp, fun j hj hne => Below.heap_setCell w ⟨g, k, none⟩ u j (fun e => hne (by rw [e]))⟩ (.inr (fun e => by have := (h.lt _ e).1; omega))

/-- A row of a table: its text, its value. -/
structure MR where
  s : ByteArray
  v : Int
noncomputable instance : DecidableEq MR := fun _ _ => Classical.propDecidable _
theorem below_drawn {B : Nat} {w w' : World} (h : Below B w w') (n : Nat) : Below B w (w'.drewN n) := h.trans ⟨rfl, rfl, rfl, Nat.le_refl _, fun _ _ => rfl⟩
def MR.cs (r : MR) : List Value := [.string r.s, .int .i64 r.v]
theorem MR.two (r : MR) : r.cs.length = 2 := rfl
def mrs (rs : List MR) : List Value := flat MR.cs rs
theorem mrs_length (rs : List MR) : (mrs rs).length = rs.length * 2 := flat_length MR.two rs
theorem mrs_s (rs : List MR) (i : Nat) (hi : i < rs.length) : (mrs rs)[i * 2]? = some (.string rs[i].s) := flat_at MR.two rs i 0 hi (by decide)
theorem mrs_v (rs : List MR) (i : Nat) (hi : i < rs.length) : (mrs rs)[i * 2 + 1]? = some (.int .i64 rs[i].v) := flat_at MR.two rs i 1 hi (by decide)
theorem Row.mr {w : World} {B : Nat} {a : Option Addr} {rs : List MR} (h : Row w B a (mrs rs)) {i : Nat} (hi : i < rs.length) :
    ∃ b off, a = some ⟨b, off, none⟩ ∧ b < B ∧ ∀ j (hj : j < rs.length), w.cell? ⟨b, off + j * 2, none⟩ = some (.string rs[j].s) ∧ w.cell? ⟨b, off + j * 2 + 1, none⟩ = some (.int .i64 rs[j].v) := by
  obtain ⟨b, off, ha, hb, hc⟩ := Row.flat MR.two (by decide) h hi
  refine ⟨b, off, ha, hb, fun j hj => ⟨hc j hj 0 (by decide) _ rfl, ?_⟩⟩
  have := hc j hj 1 (by decide) _ rfl
  rwa [← Nat.add_assoc] at this
/-- The bytes of the texts of a table. -/
def mlens (rs : List MR) : Nat := (rs.map fun r => r.s.size).sum
theorem mlens_take (rs : List MR) (k : Nat) (h : k < rs.length) : mlens (rs.take (k + 1)) = mlens (rs.take k) + rs[k].s.size := by
  unfold mlens
  rw [List.take_succ_eq_append_getElem h]
  simp only [List.map_append, List.sum_append, List.map_cons, List.map_nil, List.sum_cons, List.sum_nil, Nat.add_zero]
theorem mlens_mem (rs : List MR) (r : MR) (h : r ∈ rs) : r.s.size ≤ mlens rs := by
  induction rs with
  | nil => cases h
  | cons x xs ih =>
    simp only [mlens, List.map_cons, List.sum_cons]
    rcases List.mem_cons.1 h with rfl | h
    · omega
    · have := ih h; unfold mlens at this; omega
theorem mrs_set_s (rs : List MR) (i : Nat) (hi : i < rs.length) (x : ByteArray) : (mrs rs).set (i * 2) (.string x) = mrs (rs.set i ⟨x, rs[i].v⟩) := flat_set MR.two ⟨x, rs[i].v⟩ rs i 0 _ hi (by decide) rfl
theorem mrs_set_v (rs : List MR) (i : Nat) (hi : i < rs.length) (x : Int) : (mrs rs).set (i * 2 + 1) (.int .i64 x) = mrs (rs.set i ⟨rs[i].s, x⟩) := flat_set MR.two ⟨rs[i].s, x⟩ rs i 1 _ hi (by decide) rfl
theorem mrs_set (rs : List MR) (i : Nat) (hi : i < rs.length) (r : MR) : ((mrs rs).set (i * 2) (.string r.s)).set (i * 2 + 1) (.int .i64 r.v) = mrs (rs.set i r) := by
  rw [mrs_set_s rs i hi, mrs_set_v _ i (by simpa using hi), List.set_set]
  congr 2
  simp
/-- The first k rows of a table, then empty ones. -/
def fillM (rs : List MR) (k : Nat) : List MR := rs.take k ++ List.replicate (rs.length - k) ⟨⟨#[]⟩, 0⟩
theorem fillM_length (rs : List MR) (k : Nat) (h : k ≤ rs.length) : (fillM rs k).length = rs.length := by simp [fillM]; omega
theorem fillM_zero (rs : List MR) : fillM rs 0 = List.replicate rs.length ⟨⟨#[]⟩, 0⟩ := by simp [fillM]
theorem fillM_all (rs : List MR) (k : Nat) (h : rs.length ≤ k) : fillM rs k = rs := by simp [fillM, List.take_of_length_le h, Nat.sub_eq_zero_of_le h]
theorem fillM_set (rs : List MR) (k : Nat) (h : k < rs.length) : (fillM rs k).set k rs[k] = fillM rs (k + 1) := by
  unfold fillM
  rw [List.set_append_right _ _ (by simp; omega)]
  have e : k - (rs.take k).length = 0 := by simp; omega
  rw [e, show rs.length - k = (rs.length - (k + 1)) + 1 by omega, List.replicate_succ, List.set_cons_zero, List.take_succ_eq_append_getElem h, List.append_assoc]
  rfl
theorem flat_made {α : Type} {f : α → List Value} {k : Nat} (hk : ∀ x, (f x).length = k) (h0 : 0 < k) (z : Array Value) (x : α) (hz : z.toList = f x) (n : Nat) : (madeCells z (n * k)).toList = flat f (List.replicate n x) := by
  have hs : z.size = k := by rw [← Array.length_toList, hz, hk]
  apply List.ext_getElem?
  intro p
  rcases Nat.lt_or_ge p (n * k) with h | h
  · have e1 : p = p / k * k + p % k := by rw [Nat.mul_comm]; exact (Nat.div_add_mod p k).symm
    have hi : p / k < (List.replicate n x).length := by rw [List.length_replicate]; exact (Nat.div_lt_iff_lt_mul h0).2 h
    have hj : p % k < k := Nat.mod_lt _ h0
    have e2 := flat_at hk (List.replicate n x) (p / k) (p % k) hi hj
    rw [← e1] at e2
    rw [e2, List.getElem_replicate, ← hz]
    have hl : p % k < z.size := by rw [hs]; exact hj
    simp [madeCells, h, hs]
    rw [getElem!_pos z (p % k) hl, Array.getElem?_eq_getElem hl]
  · rw [List.getElem?_eq_none (by simp [madeCells]; exact h), List.getElem?_eq_none (by rw [flat_length hk, List.length_replicate]; exact h)]
theorem madeM (n : Nat) : (madeCells (Value.agg #[.string ⟨#[]⟩, .int .i64 0]).cells (n * 2)).toList = mrs (List.replicate n ⟨⟨#[]⟩, 0⟩) := flat_made MR.two (by decide) #[.string ⟨#[]⟩, .int .i64 0] ⟨⟨#[]⟩, 0⟩ rfl n
end Go.Proofs.Ytajekjjaaohbnaa
