/- A region that draws its order, whose last store hits a cell that it loads: a condition on the world that is asked only TILL number L (the store) has come up. A load that L waits for may be taken first. Nothing here is a claim. -/
import Derived.Deep.RegionHeld
namespace Go.Proofs.Ytpbnkkgfjmkcdaa
open Go

section
variable {P : Program} {ops : Array Oper} {Q : Exit → Act → World → Prop} {md : Region.Mode} {S T : World → Prop} {L : Nat}

/-- As long as number L has not come up, S holds. -/
def Till (S : World → Prop) (L : Nat) (ls : Array Bool) (w : World) : Prop := ls.getD L true = false → S w
/-- Whether number L waits for number i. -/
def waits (md : Region.Mode) (ops : Array Oper) (L i : Nat) : Bool :=
  match ops[L]? with
  | some o => o.after.any fun e => Region.binds md e && e.on == i
  | none => false
/-- Every order from here on, S being kept up till number L. -/
def wpTill (P : Program) (md : Region.Mode) (ops : Array Oper) (Q : Exit → Act → World → Prop) (S : World → Prop) (L : Nat) : Nat → Array Bool → Act → World → Prop
  | 0, ls, a, w => Region.ready md ops ls = [] ∧ Q .normal a w
  | n + 1, ls, a, w => (Region.ready md ops ls = [] → Q .normal a w) ∧
      ∀ i ∈ Region.ready md ops ls, wpOp P ops Q i (fun b u => Till S L (ls.setIfInBounds i true) u ∧ wpTill P md ops Q S L n (ls.setIfInBounds i true) b u) a w
theorem wpAny_of_till : ∀ (n : Nat) (ls : Array Bool) (a : Act) (w : World), wpTill P md ops Q S L n ls a w → wpAny P md ops Q n ls a w := by
  intro n
  induction n with
  | zero => exact fun _ _ _ h => h
  | succ n ih => exact fun _ _ _ h => ⟨h.1, fun i hi => wpOp_mono (fun _ _ k => ih _ _ _ k.2) (h.2 i hi)⟩
theorem waits_not {ls : Array Bool} {i : Nat} (hw : waits md ops L i = true) (hr : i ∈ Region.ready md ops ls) : L ∉ Region.ready md ops ls := by
  intro hL
  obtain ⟨hu, _, _, _⟩ := mem_ready.1 hr
  obtain ⟨_, oL, hoL, hall⟩ := mem_ready.1 hL
  unfold waits at hw
  rw [hoL] at hw
  obtain ⟨k, hk, he⟩ := Array.any_eq_true.1 hw
  rw [Bool.and_eq_true] at he
  have h1 := hall _ (Array.getElem_mem hk) he.1
  rw [eq_of_beq he.2] at h1
  rcases Nat.lt_or_ge i ls.size with h' | h'
  · simp [h'] at hu h1; rw [hu] at h1; cases h1
  · simp [Array.getElem?_eq_none h'] at h1
theorem till_set {ls : Array Bool} {i : Nat} {w : World} (hne : i ≠ L) : Till S L (ls.setIfInBounds i true) w ↔ Till S L ls w := by
  unfold Till
  rw [getD_set_ne true hne]
/-- A step that may come up and yields its value in every world that meets T may be taken first, if T holds wherever it may still come up. -/
theorem wpTill_first {i : Nat} {oi : Oper} {v : Value} (hi : ops[i]? = some oi) (hsel : ∀ (j : Nat) (o : Oper) cs b, ops[j]? = some o → o.op ≠ .select cs b)
    (hQ : ∀ c a w, Q (.panic c) (a.put oi.dst v) w → Q (.panic c) a w) (hne : i ≠ L)
    (hT : (∀ w, T w) ∨ ((∀ w, S w → T w) ∧ waits md ops L i = true)) :
    ∀ (n : Nat) (ls : Array Bool) (a : Act) (w : World),
      (∀ j oj, ops[j]? = some oj → j ≠ i → ls.getD j true = false → (∀ e ∈ oj.after, Region.binds md e = true → e.on ≠ i) → oi.apart ops oj = true) →
      i ∈ Region.ready md ops ls → YieldsIf P ops T oi v a → ls.getD L true = false ∨ (∀ w, T w) → T w → Till S L ls w →
      wpTill P md ops Q S L n (ls.setIfInBounds i true) (a.put oi.dst v) w → wpTill P md ops Q S L (n + 1) ls a w := by
  intro n
  induction n with
  | zero =>
    intro ls a w _ hr hy _ hTw hw H
    refine ⟨fun h => (by rw [h] at hr; cases hr), fun j hj => ?_⟩
    by_cases hji : j = i
    · subst hji
      exact hy.wpOp hi hTw ⟨(till_set hne).2 hw, H⟩
    · have h := ready_mono hj hji
      rw [H.1] at h
      cases h
  | succ n ih =>
    intro ls a w hfree hr hy hLs hTw hw H
    refine ⟨fun h => (by rw [h] at hr; cases hr), fun j hj => ?_⟩
    by_cases hji : j = i
    · subst hji
      exact hy.wpOp hi hTw ⟨(till_set hne).2 hw, H⟩
    have H1 := H.2 j (ready_mono hj hji)
    obtain ⟨hju, oj, hoj, hall⟩ := mem_ready.1 hj
    have hno : ∀ e ∈ oj.after, Region.binds md e = true → e.on ≠ i := by
      intro e he hb hei
      have k1 := hall e he hb
      have k0 := (mem_ready.1 hr).1
      rw [hei] at k1
      rcases Nat.lt_or_ge i ls.size with h' | h'
      · simp [h'] at k0 k1; rw [k0] at k1; cases k1
      · simp [Array.getElem?_eq_none h'] at k1
    refine wpOp_mono (fun b u h3 => ?_) (wpOp_putIf hoj (hfree j oj hoj hji hju hno) (fun cs c => hsel i oi cs c hi) (fun cs c => hsel j oj cs c hoj) hQ hy H1)
    obtain ⟨hy2, ht, hrest⟩ := h3
    rw [Array.setIfInBounds_comm _ _ (Ne.symm hji)] at ht hrest
    have ht2 := (till_set hne).1 ht
    have hL2 : (ls.setIfInBounds j true).getD L true = false ∨ (∀ w, T w) := by
      rcases hT with hT | ⟨_, hwt⟩
      · exact .inr hT
      · rcases hLs with h | h
        · refine .inl ?_
          have hjL : j ≠ L := fun e => waits_not hwt hr (e ▸ hj)
          rw [getD_set_ne true hjL]
          exact h
        · exact .inr h
    have hTu : T u := by
      rcases hL2 with h | h
      · rcases hT with hT | ⟨hST, _⟩
        · exact hT u
        · exact hST u (ht2 h)
      · exact h u
    refine ⟨ht2, ih (ls.setIfInBounds j true) b u (fun k ok hk hki hun hn => ?_) (ready_mono hr (Ne.symm hji)) hy2 hL2 hTu ht2 hrest⟩
    refine hfree k ok hk hki ?_ hn
    by_cases hjk : j = k
    · subst hjk; exact hju
    · rw [getD_set_ne true hjk] at hun; exact hun
/-- A load that number L waits for, while L has not come up. -/
theorem wpTill_take {i : Nat} {oi : Oper} {v : Value} {n : Nat} {ls : Array Bool} {a : Act} {w : World} (hi : ops[i]? = some oi)
    (hs : Region.noSelect ops = true) (hf : Region.free md ops ls i = true) (hr : (Region.ready md ops ls).contains i = true) (hne : (i == L) = false) (hwt : waits md ops L i = true) (hL : ls.getD L true = false)
    (hQ : ∀ c a w, Q (.panic c) (a.put oi.dst v) w → Q (.panic c) a w) (hy : YieldsIf P ops S oi v a) (hS : Till S L ls w)
    (h : wpTill P md ops Q S L n (ls.setIfInBounds i true) (a.put oi.dst v) w) : wpTill P md ops Q S L (n + 1) ls a w :=
  wpTill_first (T := S) hi (Region.noSelect_spec hs) hQ (by simpa using hne) (.inr ⟨fun _ h => h, hwt⟩) n ls a w (Region.free_spec hi hf) (by simpa using hr) hy (.inl hL) (hS hL) hS h
/-- What looks at no world. -/
theorem wpTill_takeU {i : Nat} {oi : Oper} {v : Value} {n : Nat} {ls : Array Bool} {a : Act} {w : World} (hi : ops[i]? = some oi)
    (hs : Region.noSelect ops = true) (hf : Region.free md ops ls i = true) (hr : (Region.ready md ops ls).contains i = true) (hne : (i == L) = false)
    (hQ : ∀ c a w, Q (.panic c) (a.put oi.dst v) w → Q (.panic c) a w) (hy : YieldsIf P ops (fun _ => True) oi v a) (hS : Till S L ls w)
    (h : wpTill P md ops Q S L n (ls.setIfInBounds i true) (a.put oi.dst v) w) : wpTill P md ops Q S L (n + 1) ls a w :=
  wpTill_first (T := fun _ => True) hi (Region.noSelect_spec hs) hQ (by simpa using hne) (.inl fun _ => trivial) n ls a w (Region.free_spec hi hf) (by simpa using hr) hy (.inr fun _ => trivial) trivial hS h
/-- The one step that may come up. -/
theorem wpTill_one {i : Nat} {o : Oper} {n : Nat} {ls : Array Bool} {a : Act} {w : World} (hr : Region.ready md ops ls = [i]) (ho : ops[i]? = some o)
    (h : ∀ K : Act → World → Prop, Shut (∀ b u, Till S L (ls.setIfInBounds i true) u → (Till S L (ls.setIfInBounds i true) u → wpTill P md ops Q S L n (ls.setIfInBounds i true) b u) → K b u) → if Region.wanted o (yielded ops a.tmps) = true then Oper.wp P o a w K Q else K (a.put o.dst undef) w) :
    wpTill P md ops Q S L (n + 1) ls a w := by
  refine ⟨fun h0 => (by rw [hr] at h0; cases h0), fun j hj => ?_⟩
  rw [hr] at hj
  obtain rfl := List.mem_singleton.1 hj
  exact wpOp_step ho (fun K hK => h K (fun b u hS hW => hK b u ⟨hS, hW hS⟩))
/-- Number L itself: behind it nothing is asked. -/
theorem wpTill_store {o : Oper} {n : Nat} {ls : Array Bool} {a : Act} {w : World} (hr : Region.ready md ops ls = [L]) (ho : ops[L]? = some o) (hl : (ls.setIfInBounds L true).getD L true = true)
    (h : ∀ K : Act → World → Prop, Shut (∀ b u, wpTill P md ops Q S L n (ls.setIfInBounds L true) b u → K b u) → if Region.wanted o (yielded ops a.tmps) = true then Oper.wp P o a w K Q else K (a.put o.dst undef) w) :
    wpTill P md ops Q S L (n + 1) ls a w :=
  wpTill_one hr ho (fun K hK => h K (fun b u hW => hK.out b u (fun h0 => by rw [hl] at h0; cases h0) (fun _ => hW)))
theorem wpTill_done {ls : Array Bool} {a : Act} {w : World} (hr : Region.ready md ops ls = []) (h : Q .normal a w) : ∀ n, wpTill P md ops Q S L n ls a w
  | 0 => ⟨hr, h⟩
  | _ + 1 => ⟨fun _ => h, by rw [hr]; simp⟩
theorem wp_region_till {id : Nat} {a : Act} {w : World} (L : Nat) (hm : P.follows .mixedOrders = true) (hS : S w.drew)
    (h : Till S L (Array.replicate ops.size false) w.drew → wpTill P .any ops Q S L ops.size (Array.replicate ops.size false) a w.drew) : (Code.region id ops true).wp P Q a w :=
  wp_region_any hm (wpAny_of_till _ _ _ _ (h fun _ => hS))
end
end Go.Proofs.Ytpbnkkgfjmkcdaa
