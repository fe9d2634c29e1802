/- Texts of a proof that belong together, joined. Nothing here is a claim. -/
import Derived.Test.YtkkimgjcefojdaaGreatDoorPkLk20
namespace Go.Proofs.YtkkimgjcefojdaaGreatDoor
open Go.RowKit Go.Lib

/-- As LinkEnd, never nil. -/
def LinkEndS (m ip : Int) (q : Option Arr) (rs : List ER) (w : World) (e : Ending) (w' : World) : Prop :=
 ∃ g cap, e = .returned (.tuple #[.agg #[.int .i64 m, .int .i64 ip, .slice (some ⟨g, 0, none⟩) (linkRs q rs).length cap], .int .i64 (q.getD Arr.zero).kind, .agg #[.int .i64 (q.getD Arr.zero).s, .int .i64 (q.getD Arr.zero).d, .int .i64 (q.getD Arr.zero).t, .int .i64 (q.getD Arr.zero).p, .int .i64 (q.getD Arr.zero).i, .string (q.getD Arr.zero).b], .string (q.getD Arr.zero).ans]) ∧
  w'.ownsRow w.heap.size 71 3 (.slice (some ⟨g, 0, none⟩) (linkRs q rs).length cap) (linkRs q rs).length (ers (linkRs q rs)) ∧ Below w.heap.size w w'
/-- An ARP message brings no packet. -/
theorem arp_pk {m ip : Int} {b : ByteArray} {o : Arr} (h : arpIn m ip b = some o) : o.s = 0 ∧ o.d = 0 ∧ o.t = 0 ∧ o.p = 0 ∧ o.i = 0 ∧ o.b = ⟨#[]⟩ := by
 unfold arpIn arpMsg at h
 split at h
 ·split at h
  ·obtain rfl := (Option.some.inj h).symm
   split <;> exact ⟨rfl, rfl, rfl, rfl, rfl, rfl⟩
  ·cases h
 ·cases h
end Go.Proofs.YtkkimgjcefojdaaGreatDoor
