/- Plain lemmas on decimal numerals. Nothing here is a claim. -/
import Derived.Test.YtajekjjaaohbnaaKit
import Derived.Lib.ItoaNum
namespace Go.Proofs.Ytajekjjaaohbnaa
open Go.RowKit Go.Lib

/-- The digits of v; none for 0. -/
def dd (v : Nat) : List UInt8 := if v = 0 then [] else decDigits v
theorem dd_zero : dd 0 = [] := rfl
theorem dd_pos {v : Nat} (h : v ≠ 0) : dd v = decDigits v := if_neg h
theorem dd_step {v : Nat} (h : v ≠ 0) : dd v = dd (v / 10) ++ [UInt8.ofNat (48 + v % 10)] := by
  rw [dd_pos h, decDigits]
  by_cases h10 : v < 10
  · rw [dif_pos h10, show v / 10 = 0 by omega, dd_zero, show v % 10 = v by omega]; rfl
  · rw [dif_neg h10, dd_pos (by omega)]

/-- out is what has been laid of u's digits while v is still to come. -/
def Rest (u v : Nat) (out : ByteArray) : Prop := dd v ++ out.data.toList = decDigits u
theorem Rest.start {u : Nat} (h : u ≠ 0) : Rest u u ⟨#[]⟩ := by unfold Rest; rw [dd_pos h]; simp
def digB (v : Nat) : UInt8 := UInt8.ofNat (48 + v % 10)
theorem digB_nat (v : Nat) : 48 + ((v : Int) % 10) = ((digB v).toNat : Int) := by unfold digB; rw [UInt8.toNat_ofNat']; omega
theorem Rest.next {u v : Nat} {out : ByteArray} (h : Rest u v out) (hv : v ≠ 0) : Rest u (v / 10) (⟨#[digB v]⟩ ++ out) := by
  unfold Rest digB at *
  rw [dd_step hv] at h
  rw [← h]; simp [ByteArray.data_append]
theorem Rest.last {u : Nat} {out : ByteArray} (h : Rest u 0 out) : out = ⟨(decDigits u).toArray⟩ := by
  unfold Rest at h
  rw [dd_zero, List.nil_append] at h
  cases out; rename_i d; simp at h; rw [← h]

def isDig (c : UInt8) : Prop := 48 ≤ c.toNat ∧ c.toNat ≤ 57
def val (l : List UInt8) : Nat := l.foldl (fun n c => 10 * n + (c.toNat - 48)) 0
theorem val_snoc (l : List UInt8) (c : UInt8) : val (l ++ [c]) = 10 * val l + (c.toNat - 48) := by simp [val]
theorem snoc_ind {α : Type} {P : List α → Prop} (h0 : P []) (h1 : ∀ l c, P l → P (l ++ [c])) (l : List α) : P l := by
  have h : ∀ r : List α, P r.reverse := fun r => by
    induction r with
    | nil => exact h0
    | cons c r ih => rw [List.reverse_cons]; exact h1 _ _ ih
  simpa using h l.reverse
def allDig (l : List UInt8) : Prop := ∀ c ∈ l, isDig c
theorem allDig_snoc {l : List UInt8} {c : UInt8} : allDig (l ++ [c]) ↔ allDig l ∧ isDig c := by
  constructor
  · intro h; exact ⟨fun x hx => h x (by simp [hx]), h c (by simp)⟩
  · rintro ⟨h1, h2⟩ x hx
    rcases List.mem_append.1 hx with h | h
    · exact h1 x h
    · rw [List.mem_singleton.1 h]; exact h2
theorem val_lt (l : List UInt8) : allDig l → val l < 10 ^ l.length := by
  refine snoc_ind (P := fun l => allDig l → val l < 10 ^ l.length) (fun _ => by decide) (fun l c ih h => ?_) l
  obtain ⟨h1, h2⟩ := allDig_snoc.1 h
  have := ih h1
  rw [val_snoc, List.length_append, List.length_singleton, Nat.pow_succ]
  unfold isDig at h2; omega
theorem dig_eq {c : UInt8} (h : isDig c) : UInt8.ofNat (48 + (c.toNat - 48)) = c := by
  unfold isDig at h
  rw [show 48 + (c.toNat - 48) = c.toNat by omega]; simp
theorem val_zero (l : List UInt8) : allDig l → val l = 0 → l ≠ [] → l.head? = some 48 := by
  refine snoc_ind (P := fun l => allDig l → val l = 0 → l ≠ [] → l.head? = some 48) (fun _ _ h => absurd rfl h) (fun l c ih h hv _ => ?_) l
  obtain ⟨h1, h2⟩ := allDig_snoc.1 h
  rw [val_snoc] at hv
  by_cases hl : l = []
  · subst hl
    have := dig_eq h2
    rw [show c.toNat - 48 = 0 by omega] at this
    simp [← this]
  · have := ih h1 (by omega) hl
    cases l with
    | nil => exact absurd rfl hl
    | cons x l => simpa using this
/-- A numeral with a leading zero that is not 0 itself. -/
def lead0 (l : List UInt8) : Prop := l.head? = some 48 ∧ 1 < l.length
theorem dec_val (l : List UInt8) : allDig l → l ≠ [] → (decDigits (val l) = l ↔ ¬ lead0 l) := by
  refine snoc_ind (P := fun l => allDig l → l ≠ [] → (decDigits (val l) = l ↔ ¬ lead0 l)) (fun _ h => absurd rfl h) (fun l c ih h _ => ?_) l
  obtain ⟨h1, h2⟩ := allDig_snoc.1 h
  have hc := dig_eq h2
  have hd : c.toNat - 48 < 10 := by unfold isDig at h2; omega
  by_cases hl : l = []
  · subst hl
    constructor
    · rintro - ⟨_, h⟩; simp at h
    · intro _
      rw [val_snoc, show 10 * val [] + (c.toNat - 48) = c.toNat - 48 by simp [val], decDigits, dif_pos hd, hc]; rfl
  · have hhead : (l ++ [c]).head? = l.head? := by cases l with
      | nil => exact absurd rfl hl
      | cons x l => rfl
    have hlen : 0 < l.length := List.length_pos_iff.2 hl
    rw [val_snoc]
    by_cases hz : val l = 0
    · have hh := val_zero l h1 hz hl
      constructor
      · intro he
        rw [hz, show 10 * 0 + (c.toNat - 48) = c.toNat - 48 by omega, decDigits, dif_pos hd] at he
        have := congrArg List.length he
        simp only [List.length_append, List.length_singleton] at this; omega
      · intro hn
        exact absurd ⟨hhead.trans hh, by simp; omega⟩ hn
    · rw [decDigits, dif_neg (by omega), show (10 * val l + (c.toNat - 48)) / 10 = val l by omega, show (10 * val l + (c.toNat - 48)) % 10 = c.toNat - 48 by omega, hc]
      have ih' := ih h1 hl
      constructor
      · intro he hn
        have e : decDigits (val l) = l := List.append_cancel_right he
        refine ih'.1 e ⟨hhead.symm.trans hn.1, ?_⟩
        rcases Nat.lt_or_ge 1 l.length with g | g
        · exact g
        · exfalso
          have h48 := hhead.symm.trans hn.1
          match l, hl, h48, g with
          | [x], _, h48, _ =>
            have : x = 48 := by simpa using h48
            subst this
            exact hz rfl
      · intro hn
        rw [ih'.2 (fun hh => hn ⟨hhead.trans hh.1, by simp; omega⟩)]

open Classical in
/-- What Number answers. -/
noncomputable def numOut (s : ByteArray) : Int × Bool :=
  if (1 ≤ s.size ∧ s.size ≤ 12) ∧ allDig s.data.toList ∧ ¬ lead0 s.data.toList then ((val s.data.toList : Int), true) else (0, false)
theorem numOut_len (s : ByteArray) (h : s.size < 1 ∨ 12 < s.size) : numOut s = (0, false) := by unfold numOut; rw [if_neg (fun hh => by omega)]
theorem numOut_dig (s : ByteArray) (k : Nat) (hk : k < s.size) (h : ¬ isDig s[k]) : numOut s = (0, false) := by
  unfold numOut; rw [if_neg (fun hh => h (hh.2.1 _ (by
    have h2 : k < s.data.toList.length := by simpa using hk
    exact List.getElem_mem h2)))]
theorem numOut_lead (s : ByteArray) (h : lead0 s.data.toList) : numOut s = (0, false) := by unfold numOut; rw [if_neg (fun hh => hh.2.2 h)]
theorem numOut_good (s : ByteArray) (h1 : 1 ≤ s.size) (h2 : s.size ≤ 12) (hd : allDig s.data.toList) (hl : ¬ lead0 s.data.toList) : numOut s = ((val s.data.toList : Int), true) := by
  unfold numOut; rw [if_pos ⟨⟨h1, h2⟩, hd, hl⟩]

/-- What is known at the head of a round that reads a number: k digits are read, n is their value. -/
def Got (s : ByteArray) (k n : Nat) : Prop := allDig (s.data.toList.take k) ∧ n = val (s.data.toList.take k)
theorem Got.start (s : ByteArray) : Got s 0 0 := ⟨fun _ h => by simp at h, rfl⟩
theorem Got.bd {s : ByteArray} {k n : Nat} (h : Got s k n) (hk : k ≤ s.size) (h12 : s.size ≤ 12) : n < 1000000000000 := by
  have h1 := val_lt _ h.1
  rw [← h.2] at h1
  have h2 : (s.data.toList.take k).length = k := by simp; omega
  rw [h2] at h1
  exact Nat.lt_of_lt_of_le h1 (Nat.le_trans (Nat.pow_le_pow_right (by decide) (show k ≤ 12 by omega)) (by decide))
theorem Got.next {s : ByteArray} {k n : Nat} (h : Got s k n) (hk : k < s.size) (hd : isDig s[k]) : Got s (k + 1) (10 * n + (s[k].toNat - 48)) := by
  unfold Got
  rw [take_snoc s k hk]
  exact ⟨allDig_snoc.2 ⟨h.1, hd⟩, by rw [val_snoc, ← h.2]⟩
theorem Got.all {s : ByteArray} {k n : Nat} (h : Got s k n) (hk : s.size ≤ k) : allDig s.data.toList ∧ n = val s.data.toList := by
  have e : s.data.toList.take k = s.data.toList := List.take_of_length_le (by simpa using hk)
  unfold Got at h; rw [e] at h; exact h
end Go.Proofs.Ytajekjjaaohbnaa
