/- What a sender may send next (pure). Nothing here is a claim. -/
import Derived.Test.YtkigkfedkjnkeaaSndKit
namespace Go.Proofs.Ytkigkfedkjnkeaa
open Go.RowKit Go.Lib

structure Chk where
  q : Int
  x : ByteArray
  f : Bool
def Chk.cs (c : Chk) : Array Value := #[.int .i64 c.q, .string c.x, .bool c.f]
/-- What the window has room for. -/
def ckW (s : Snd) (v : Int) : Int := max 0 (max 0 (min v 1000000) - fl s.t s.g)
/-- How many bytes are sent. -/
def ckN (s : Snd) (v m : Int) : Nat := (min (min m (ckW s v)) (s.d.size - s.t)).toNat
def ckF (s : Snd) (v m : Int) : Bool := (s.f && (!s.g && !s.h)) && (decide (s.t + ckN s v m = s.d.size) && decide ((ckN s v m : Int) < ckW s v))
def ckOk (s : Snd) (v m : Int) : Bool := sndOk s && (decide (ckN s v m ≠ 0) || ckF s v m)
def chk (s : Snd) (v m : Int) : Chk := if ckOk s v m then ⟨nxt s.u s.t s.g, s.d.extract s.t.toNat (s.t.toNat + ckN s v m), ckF s v m⟩ else ⟨0, ⟨#[]⟩, false⟩
def EndNx (s : Snd) (v m : Int) (w : World) (e : Ending) (w' : World) : Prop := e = .returned (.tuple #[.agg (chk s v m).cs, .bool (ckOk s v m)]) ∧ Below w.heap.size w w'
theorem ck_bad {s : Snd} {v m : Int} (h : sndOk s = false) : ckOk s v m = false ∧ chk s v m = ⟨0, ⟨#[]⟩, false⟩ := by
  have e : ckOk s v m = false := by unfold ckOk; rw [h]; rfl
  exact ⟨e, by unfold chk; rw [e]; rfl⟩
theorem ck_ok {s : Snd} {v m : Int} (h : sndOk s = true) : ckOk s v m = (decide (ckN s v m ≠ 0) || ckF s v m) := by unfold ckOk; rw [h]; rfl
theorem chk_yes {s : Snd} {v m : Int} (h : ckOk s v m = true) : chk s v m = ⟨nxt s.u s.t s.g, s.d.extract s.t.toNat (s.t.toNat + ckN s v m), ckF s v m⟩ := by unfold chk; rw [if_pos h]
theorem chk_no {s : Snd} {v m : Int} (h : ckOk s v m = false) : chk s v m = ⟨0, ⟨#[]⟩, false⟩ := by unfold chk; rw [h]; rfl
/-- The places in use of a valid sender. -/
theorem fl_bd {s : Snd} (h : sndOk s = true) : 0 ≤ fl s.t s.g ∧ fl s.t s.g ≤ 49 ∧ s.t ≤ fl s.t s.g ∧ fl s.t s.g ≤ s.t + 1 := by
  obtain ⟨_, ⟨h1, h2, h3⟩, _, _⟩ := sndOk_iff.1 h
  rw [fl_in h2 (by omega)]
  cases s.g
  · simp only [cond_false]; omega
  · simp only [cond_true]; omega
theorem extract_two (d : ByteArray) (p k : Nat) (h : p + k ≤ d.size) : (d.extract p d.size).extract 0 k = d.extract p (p + k) := by
  apply ByteArray.ext
  simp only [ByteArray.data_extract, Array.extract_extract]
  congr 1
  have h2 : d.data.size = d.size := rfl
  omega
end Go.Proofs.Ytkigkfedkjnkeaa
