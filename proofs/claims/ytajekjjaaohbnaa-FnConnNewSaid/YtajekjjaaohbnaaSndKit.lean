/- Senders (pure). Nothing here is a claim. -/
import Derived.Test.YtajekjjaaohbnaaSeqKit
import Derived.Test.YtajekjjaaohbnaaKit
import Derived.Test.YtajekjjaaohbnaaBase
namespace Go.Proofs.Ytajekjjaaohbnaa
open Go.RowKit Go.Lib

/-- A sender: the first place not known to have come, what is held, how much of it is sent, three marks. -/
structure Snd where
  u : Int
  d : ByteArray
  t : Int
  f : Bool
  g : Bool
  h : Bool
def Snd.cs (s : Snd) : Array Value := #[.int .i64 s.u, .string s.d, .int .i64 s.t, .bool s.f, .bool s.g, .bool s.h]
def SndB (b : Bool) (w : World) (e : Ending) (w' : World) : Prop := e = .returned (.bool b) ∧ Below w.heap.size w w'
def SndI (n : Int) (w : World) (e : Ending) (w' : World) : Prop := e = .returned (.int .i64 n) ∧ Below w.heap.size w w'
/-- What SenderOk answers. -/
def sndOk (s : Snd) : Bool :=
  wordOk s.u 32 && (decide (s.d.size ≤ 48 ∧ 0 ≤ s.t ∧ s.t ≤ s.d.size) && ((!s.g || (s.f && decide (s.t = s.d.size))) && (!s.h || (s.f && (!s.g && decide (s.d.size = 0))))))
theorem sndOk_iff {s : Snd} : sndOk s = true ↔ wordOk s.u 32 = true ∧ (s.d.size ≤ 48 ∧ 0 ≤ s.t ∧ s.t ≤ s.d.size) ∧ (s.g = true → s.f = true ∧ s.t = s.d.size) ∧ (s.h = true → s.f = true ∧ s.g = false ∧ s.d.size = 0) := by
  unfold sndOk
  cases s.g <;> cases s.h <;> cases s.f <;> simp [Bool.and_eq_true]
theorem sndOk_no {s : Snd} (k : ¬ (wordOk s.u 32 = true ∧ (s.d.size ≤ 48 ∧ 0 ≤ s.t ∧ s.t ≤ s.d.size) ∧ (s.g = true → s.f = true ∧ s.t = s.d.size) ∧ (s.h = true → s.f = true ∧ s.g = false ∧ s.d.size = 0))) : sndOk s = false := by
  cases e : sndOk s with
  | false => rfl
  | true => exact absurd (sndOk_iff.1 e) k
theorem sndOk_mk {u : Int} {d : ByteArray} {t : Int} {f g h : Bool} (hw : wordOk u 32 = true) (h1 : d.size ≤ 48) (h2 : 0 ≤ t) (h3 : t ≤ d.size) (h4 : g = true → f = true ∧ t = d.size) (h5 : h = true → f = true ∧ g = false ∧ d.size = 0) : sndOk ⟨u, d, t, f, g, h⟩ = true :=
  sndOk_iff.2 ⟨hw, ⟨h1, h2, h3⟩, h4, h5⟩
theorem sndOk_of {u : Int} {d : ByteArray} {t : Int} {f g h : Bool} (k : sndOk ⟨u, d, t, f, g, h⟩ = true) : wordOk u 32 = true ∧ (d.size ≤ 48 ∧ 0 ≤ t ∧ t ≤ d.size) ∧ (g = true → f = true ∧ t = d.size) ∧ (h = true → f = true ∧ g = false ∧ d.size = 0) := sndOk_iff.1 k
theorem sndOk_not {u : Int} {d : ByteArray} {t : Int} {f g h : Bool} (k : wordOk u 32 = true → d.size ≤ 48 → 0 ≤ t → t ≤ d.size → (g = true → f = true ∧ t = d.size) → (h = true → f = true ∧ g = false ∧ d.size = 0) → False) : sndOk ⟨u, d, t, f, g, h⟩ = false :=
  sndOk_no (fun q => k q.1 q.2.1.1 q.2.1.2.1 q.2.1.2.2 q.2.2.1 q.2.2.2)
/-- How many places are in use. -/
def fl (t : Int) (g : Bool) : Int := bif g then wrap64 (t + 1) else t
theorem fl_in {t : Int} {g : Bool} (h0 : 0 ≤ t) (h1 : t ≤ 1000000) : fl t g = bif g then t + 1 else t := by
  unfold fl
  cases g
  · rfl
  · simp only [cond_true]; rw [wrap64_is]; omega
/-- What NextOf answers. -/
def nxt (u t : Int) (g : Bool) : Int := pl (u + fl t g)
theorem snd_empty {x : ByteArray} (h : x.size = 0) : x = ⟨#[]⟩ := by
  obtain ⟨⟨l⟩⟩ := x
  cases l with
  | nil => rfl
  | cons a l => simp [ByteArray.size] at h
theorem snd_isEmpty {x : ByteArray} : x.toList.isEmpty = decide (x.size = 0) := by
  by_cases h : x.size = 0
  · rw [snd_empty h]; decide +kernel
  · rw [decide_eq_false h]
    have h2 : x.toList.length = x.size := by rw [ByteArray.toList_eq]; rfl
    cases e : x.toList with
    | nil => rw [e] at h2; exact absurd h2.symm h
    | cons a l => rfl
end Go.Proofs.Ytajekjjaaohbnaa
namespace Go.Proofs.Ytajekjjaaohbnaa
open Go.RowKit Go.Lib

theorem l1Min_s (a b : Int) (w : World) : Calls Try.prog 77 #[.int .i64 a, .int .i64 b] w (SndI (min a b) w) := (l1Min_mm a b w).mono fun _ _ h => ⟨h.1, by rw [← h.2]; exact Below.refl _ _⟩
theorem l1Max_s (a b : Int) (w : World) : Calls Try.prog 50 #[.int .i64 a, .int .i64 b] w (SndI (max a b) w) := (l1Max_mm a b w).mono fun _ _ h => ⟨h.1, by rw [← h.2]; exact Below.refl _ _⟩
end Go.Proofs.Ytajekjjaaohbnaa
