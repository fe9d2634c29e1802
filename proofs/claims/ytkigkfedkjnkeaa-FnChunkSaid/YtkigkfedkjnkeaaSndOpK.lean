/- What is done to a sender (pure). Nothing here is a claim. -/
import Derived.Test.YtkigkfedkjnkeaaSndNK
namespace Go.Proofs.Ytkigkfedkjnkeaa
open Go.RowKit Go.Lib

def qn (s : Snd) (x : ByteArray) : Nat := if (sndOk s && !s.f) = true then min x.size (48 - s.d.size) else 0
def queued (s : Snd) (x : ByteArray) : Snd := if (sndOk s && !s.f) = true then ⟨s.u, s.d ++ x.extract 0 (qn s x), s.t, s.f, s.g, s.h⟩ else s
def EndQ (s : Snd) (x : ByteArray) (w : World) (e : Ending) (w' : World) : Prop := e = .returned (.tuple #[.agg (queued s x).cs, .int .i64 (qn s x)]) ∧ Below w.heap.size w w'
theorem qn_no {s : Snd} {x : ByteArray} (h : (sndOk s && !s.f) = false) : qn s x = 0 ∧ queued s x = s := by
  unfold queued qn; rw [h]; exact ⟨rfl, rfl⟩
theorem qn_yes {s : Snd} {x : ByteArray} (h : (sndOk s && !s.f) = true) : qn s x = min x.size (48 - s.d.size) ∧ queued s x = ⟨s.u, s.d ++ x.extract 0 (qn s x), s.t, s.f, s.g, s.h⟩ := by
  constructor
  · unfold qn; rw [if_pos h]
  · unfold queued; rw [if_pos h]
/-- The sender behind what is sent. -/
def offS (s : Snd) (c : Chk) : Snd := ⟨s.u, s.d, wrap64 (s.t + c.x.size), s.f, s.g || c.f, s.h⟩
def sentOff (s : Snd) (c : Chk) : Snd := if (sndOk s && sndOk (offS s c)) = true then offS s c else s
def EndS (s : Snd) (w : World) (e : Ending) (w' : World) : Prop := e = .returned (.agg s.cs) ∧ Below w.heap.size w w'
theorem off_no {s : Snd} {c : Chk} (h : (sndOk s && sndOk (offS s c)) = false) : sentOff s c = s := by unfold sentOff; rw [h]; rfl
theorem off_yes {s : Snd} {c : Chk} (h : (sndOk s && sndOk (offS s c)) = true) : sentOff s c = offS s c := by unfold sentOff; rw [if_pos h]
/-- Whether an acknowledgment is taken. -/
def akOk (s : Snd) (a : Int) : Bool := sndOk s && decide (0 ≤ df a s.u ∧ df a s.u ≤ fl s.t s.g)
def acked (s : Snd) (a : Int) : Snd :=
  if akOk s a = true then
    if s.t < df a s.u then ⟨pl (s.u + df a s.u), s.d.extract s.t.toNat s.d.size, 0, s.f, false, true⟩
    else ⟨pl (s.u + df a s.u), s.d.extract (df a s.u).toNat s.d.size, s.t - df a s.u, s.f, s.g, s.h⟩
  else s
def EndA (s : Snd) (b : Bool) (w : World) (e : Ending) (w' : World) : Prop := e = .returned (.tuple #[.agg s.cs, .bool b]) ∧ Below w.heap.size w w'
theorem ak_no {s : Snd} {a : Int} (h : akOk s a = false) : acked s a = s := by unfold acked; rw [h]; rfl
theorem ak_fin {s : Snd} {a : Int} (h : akOk s a = true) (k : s.t < df a s.u) : acked s a = ⟨pl (s.u + df a s.u), s.d.extract s.t.toNat s.d.size, 0, s.f, false, true⟩ := by unfold acked; rw [if_pos h, if_pos k]
theorem ak_yes {s : Snd} {a : Int} (h : akOk s a = true) (k : ¬ s.t < df a s.u) : acked s a = ⟨pl (s.u + df a s.u), s.d.extract (df a s.u).toNat s.d.size, s.t - df a s.u, s.f, s.g, s.h⟩ := by unfold acked; rw [if_pos h, if_neg k]
def rewound (s : Snd) : Snd := if sndOk s = true then ⟨s.u, s.d, 0, s.f, false, s.h⟩ else s
end Go.Proofs.Ytkigkfedkjnkeaa
