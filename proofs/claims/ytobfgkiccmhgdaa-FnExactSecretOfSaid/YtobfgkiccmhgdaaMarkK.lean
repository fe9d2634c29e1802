/- The laws' own markKeys. Nothing here is a claim. -/
import Derived.Test.YtobfgkiccmhgdaaMarkM
import Derived.Test.YtobfgkiccmhgdaaKeysLaw
namespace Go.Proofs.Ytobfgkiccmhgdaa
open Go.RowKit Go.Lib

/-- Both tables are marked; nothing else has turned. -/
def MarkK (p q : M) (B g h c d u : Nat) (w : World) (x : Ending) (w' : World) : Prop :=
  x = .returned (.int .i64 (u + 2 * p.rs.length + 2 * q.rs.length : Nat)) ∧ w'.ownsRow B 92 2 (.slice (some ⟨g, 0, none⟩) p.rs.length c) p.rs.length (mrs (marksM u p.rs.length)) ∧ w'.ownsRow B 92 2 (.slice (some ⟨h, 0, none⟩) q.rs.length d) q.rs.length (mrs (marksM (u + 2 * p.rs.length) q.rs.length)) ∧ ∃ w1, w.grownBy w1 (some g) ∧ w1.grownBy w' (some h)

set_option maxRecDepth 100000 in
set_option maxHeartbeats 4000000 in
theorem markKeys_any (e : Int) (p q : M) (t : Bool) (B g h c d u : Nat) (w : World) (op : w.ownsRow B 92 2 (.slice (some ⟨g, 0, none⟩) p.rs.length c) p.rs.length (mrs p.rs)) (oq : w.ownsRow B 92 2 (.slice (some ⟨h, 0, none⟩) q.rs.length d) q.rs.length (mrs q.rs)) (hne : g ≠ h) (h0 : 0 < u) (h1 : u + 2 * p.rs.length ≤ 1000000000) (h2 : p.rs.length ≤ 1048577) (h3 : q.rs.length ≤ 1048577) :
    Calls Try.prog 32 #[.agg #[.int .i64 e, .bool p.u, .int .u64 (n64 p.k), .int .u64 (n64 p.l), .slice (some ⟨g, 0, none⟩) p.rs.length c, .bool q.u, .int .u64 (n64 q.k), .int .u64 (n64 q.l), .slice (some ⟨h, 0, none⟩) q.rs.length d, .bool t], .int .i64 u] w (MarkK p q B g h c d u w) := by
  have LP := Lib.hid (op.lt g rfl).2
  have OP := Lib.hid (op.alloc (.cells #[.int .i64 e, .bool p.u, .int .u64 (n64 p.k), .int .u64 (n64 p.l), .slice (some ⟨g, 0, none⟩) p.rs.length c, .bool q.u, .int .u64 (n64 q.k), .int .u64 (n64 q.l), .slice (some ⟨h, 0, none⟩) q.rs.length d, .bool t] 29))
  have OQ := Lib.hid (oq.alloc (.cells #[.int .i64 e, .bool p.u, .int .u64 (n64 p.k), .int .u64 (n64 p.l), .slice (some ⟨g, 0, none⟩) p.rs.length c, .bool q.u, .int .u64 (n64 q.k), .int .u64 (n64 q.l), .slice (some ⟨h, 0, none⟩) q.rs.length d, .bool t] 29))
  clear op oq
  go_enter Try.func32, Try.ntmps32
  go_wp2_with fail
  refine (markMac_any p.u (n64 p.k) (n64 p.l) B g p.rs.length c u p.rs _ rfl OP.out h0 (by omega) h2).mono ?_
  rintro x v1 ⟨rfl, ho, hg⟩
  have E1 := Lib.hid ((Blk.new w [.int .i64 e, .bool p.u, .int .u64 (n64 p.k), .int .u64 (n64 p.l), .slice (some ⟨g, 0, none⟩) p.rs.length c, .bool q.u, .int .u64 (n64 q.k), .int .u64 (n64 q.l), .slice (some ⟨h, 0, none⟩) q.rs.length d, .bool t] 29).grown hg (fun e => by have := LP.out; omega))
  have OQ1 := Lib.hid (OQ.out.kept hg (.inr (own_ne (fun e => hne e.symm))))
  have OP1 := Lib.hid ho
  have G1 := Lib.hid (grown_tr (grown_new (World.grownBy.refl w (some g)) (.cells #[.int .i64 e, .bool p.u, .int .u64 (n64 p.k), .int .u64 (n64 p.l), .slice (some ⟨g, 0, none⟩) p.rs.length c, .bool q.u, .int .u64 (n64 q.k), .int .u64 (n64 q.l), .slice (some ⟨h, 0, none⟩) q.rs.length d, .bool t] 29)) hg)
  clear ho hg OP OQ
  obtain ⟨⟨c0, c1, c2, c3, c4, c5, c6, c7, c8, c9⟩, d0, d1, d2, d3, d4, d5, d6, d7, d8, d9⟩ := E1.out.of10
  go_wp2_with fail
  clear c0 c1 c2 c3 c4 c5 c6 c7 c8 c9 d0 d1 d2 d3 d4 d5 d6 d7 d8 d9
  refine (markMac_any q.u (n64 q.k) (n64 q.l) B h q.rs.length d (u + 2 * p.rs.length) q.rs _ rfl OQ1.out (by omega) h1 h3).mono ?_
  rintro x v2 ⟨rfl, ho, hg⟩
  have OP2 := Lib.hid (OP1.out.kept hg (.inr (own_ne hne)))
  have OQ2 := Lib.hid ho
  have G2 := Lib.hid hg
  clear ho hg E1 OP1 OQ1
  go_wp2_with fail
  go_ret
  exact ⟨rfl, OP2.out, OQ2.out, v1, G1.out, G2.out⟩

end Go.Proofs.Ytobfgkiccmhgdaa
