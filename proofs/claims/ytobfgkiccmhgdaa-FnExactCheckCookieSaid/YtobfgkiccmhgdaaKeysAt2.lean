/- CheckCookie, Rotated where the rows lie elsewhere. Nothing here is a claim. -/
import Derived.Test.YtobfgkiccmhgdaaKeysAt
import Derived.Test.YtobfgkiccmhgdaaKeysE
import Derived.Test.YtobfgkiccmhgdaaKeysF
namespace Go.Proofs.Ytobfgkiccmhgdaa
open Go.RowKit Go.Lib

theorem checkI_at (e : Int) (p q : M) (t : Bool) (x y z s c : Int) (a b : Option Addr) (k l : Nat) (w : World) (o1 : (p.at a k).On w) (o2 : (q.at b l).On w) (f1 : p.Fit) (f2 : q.Fit) :
    Calls Try.prog 20 #[.agg #[.int .i64 e, .bool p.u, .int .u64 (n64 p.k), .int .u64 (n64 p.l), .slice a p.rs.length k, .bool q.u, .int .u64 (n64 q.k), .int .u64 (n64 q.l), .slice b q.rs.length l, .bool t], .agg #[.int .i64 x, .int .i64 y, .int .i64 z], .int .i64 s, .int .i64 c] w (EndC (ck e p q t x y z s c) w) :=
  checkI e (p.at a k) (q.at b l) t x y z s c w o1 o2 f1 f2

theorem checkS_at (e : Int) (p q : M) (t : Bool) (x y z s c : Int) (a b : Option Addr) (k l : Nat) (w : World) (o1 : (p.at a k).On w) (o2 : (q.at b l).On w) (f1 : p.Fit) (f2 : q.Fit) :
    Calls Try.prog 40 #[.agg #[.int .i64 e, .bool p.u, .int .u64 (n64 p.k), .int .u64 (n64 p.l), .slice a p.rs.length k, .bool q.u, .int .u64 (n64 q.k), .int .u64 (n64 q.l), .slice b q.rs.length l, .bool t], .agg #[.int .i64 x, .int .i64 y, .int .i64 z], .int .i64 s, .int .i64 c] w (EndC (ck e p q t x y z s c) w) :=
  checkS e (p.at a k) (q.at b l) t x y z s c w o1 o2 f1 f2

/-- Keys that are handed back, the rows in new memory, none nil. -/
def KeysG (e : Int) (p q : M) (t : Bool) (w : World) (x : Ending) (w' : World) : Prop :=
  ∃ g h c d, g ≠ h ∧ x = .returned (.agg #[.int .i64 e, .bool p.u, .int .u64 (n64 p.k), .int .u64 (n64 p.l), .slice (some ⟨g, 0, none⟩) p.rs.length c, .bool q.u, .int .u64 (n64 q.k), .int .u64 (n64 q.l), .slice (some ⟨h, 0, none⟩) q.rs.length d, .bool t]) ∧ w'.ownsRow w.heap.size 92 2 (.slice (some ⟨g, 0, none⟩) p.rs.length c) p.rs.length (mrs p.rs) ∧ w'.ownsRow w.heap.size 92 2 (.slice (some ⟨h, 0, none⟩) q.rs.length d) q.rs.length (mrs q.rs) ∧ Below w.heap.size w w'
theorem rotYesI_at (e : Int) (p q m : M) (t : Bool) (g1 g2 g3 c1 c2 c3 : Nat) (w : World) (o1 : (p.at (some ⟨g1, 0, none⟩) c1).On w) (o2 : (q.at (some ⟨g2, 0, none⟩) c2).On w) (o3 : (m.at (some ⟨g3, 0, none⟩) c3).On w) (f1 : p.Fit) (f2 : q.Fit) (f3 : m.Fit) (hr : rotOk e p q m t = true) :
    Calls Try.prog 21 #[.agg #[.int .i64 e, .bool p.u, .int .u64 (n64 p.k), .int .u64 (n64 p.l), .slice (some ⟨g1, 0, none⟩) p.rs.length c1, .bool q.u, .int .u64 (n64 q.k), .int .u64 (n64 q.l), .slice (some ⟨g2, 0, none⟩) q.rs.length c2, .bool t], .agg #[.bool m.u, .int .u64 (n64 m.k), .int .u64 (n64 m.l), .slice (some ⟨g3, 0, none⟩) m.rs.length c3]] w (KeysG (e + 1) m p true w) := by
  refine (rotatedI e (p.at (some ⟨g1, 0, none⟩) c1) (q.at (some ⟨g2, 0, none⟩) c2) (m.at (some ⟨g3, 0, none⟩) c3) t w o1 o2 o3 f1 f2 f3).mono ?_
  rw [RotI.yes (show rotOk e (p.at (some ⟨g1, 0, none⟩) c1) (q.at (some ⟨g2, 0, none⟩) c2) (m.at (some ⟨g3, 0, none⟩) c3) t = true from hr)]
  rintro x w' ⟨a, c, b, d, hx, ho1, ho2, hn1, hn2, hd, hb⟩
  rcases hn1 with ⟨h1, _⟩ | ⟨g, rfl⟩
  · cases h1
  rcases hn2 with ⟨h1, _⟩ | ⟨h, rfl⟩
  · cases h1
  exact ⟨g, h, c, d, hd g h rfl rfl, hx, ho1, ho2, hb⟩

theorem rotNoI_at (e : Int) (p q m : M) (t : Bool) (g1 g2 g3 c1 c2 c3 : Nat) (w : World) (o1 : (p.at (some ⟨g1, 0, none⟩) c1).On w) (o2 : (q.at (some ⟨g2, 0, none⟩) c2).On w) (o3 : (m.at (some ⟨g3, 0, none⟩) c3).On w) (f1 : p.Fit) (f2 : q.Fit) (f3 : m.Fit) (hr : rotOk e p q m t = false) :
    Calls Try.prog 21 #[.agg #[.int .i64 e, .bool p.u, .int .u64 (n64 p.k), .int .u64 (n64 p.l), .slice (some ⟨g1, 0, none⟩) p.rs.length c1, .bool q.u, .int .u64 (n64 q.k), .int .u64 (n64 q.l), .slice (some ⟨g2, 0, none⟩) q.rs.length c2, .bool t], .agg #[.bool m.u, .int .u64 (n64 m.k), .int .u64 (n64 m.l), .slice (some ⟨g3, 0, none⟩) m.rs.length c3]] w (KeysG e p q t w) := by
  refine (rotatedI e (p.at (some ⟨g1, 0, none⟩) c1) (q.at (some ⟨g2, 0, none⟩) c2) (m.at (some ⟨g3, 0, none⟩) c3) t w o1 o2 o3 f1 f2 f3).mono ?_
  rw [RotI.no (show rotOk e (p.at (some ⟨g1, 0, none⟩) c1) (q.at (some ⟨g2, 0, none⟩) c2) (m.at (some ⟨g3, 0, none⟩) c3) t = false from hr)]
  rintro x w' ⟨a, c, b, d, hx, ho1, ho2, hn1, hn2, hd, hb⟩
  rcases hn1 with ⟨h1, _⟩ | ⟨g, rfl⟩
  · cases h1
  rcases hn2 with ⟨h1, _⟩ | ⟨h, rfl⟩
  · cases h1
  exact ⟨g, h, c, d, hd g h rfl rfl, hx, ho1, ho2, hb⟩

theorem rotYesS_at (e : Int) (p q m : M) (t : Bool) (g1 g2 g3 c1 c2 c3 : Nat) (w : World) (o1 : (p.at (some ⟨g1, 0, none⟩) c1).On w) (o2 : (q.at (some ⟨g2, 0, none⟩) c2).On w) (o3 : (m.at (some ⟨g3, 0, none⟩) c3).On w) (f1 : p.Fit) (f2 : q.Fit) (f3 : m.Fit) (hr : rotOk e p q m t = true) :
    Calls Try.prog 41 #[.agg #[.int .i64 e, .bool p.u, .int .u64 (n64 p.k), .int .u64 (n64 p.l), .slice (some ⟨g1, 0, none⟩) p.rs.length c1, .bool q.u, .int .u64 (n64 q.k), .int .u64 (n64 q.l), .slice (some ⟨g2, 0, none⟩) q.rs.length c2, .bool t], .agg #[.bool m.u, .int .u64 (n64 m.k), .int .u64 (n64 m.l), .slice (some ⟨g3, 0, none⟩) m.rs.length c3]] w (KeysG (e + 1) m p true w) := by
  refine (rotatedS e (p.at (some ⟨g1, 0, none⟩) c1) (q.at (some ⟨g2, 0, none⟩) c2) (m.at (some ⟨g3, 0, none⟩) c3) t w o1 o2 o3 f1 f2 f3).mono ?_
  rw [RotS.yes (show rotOk e (p.at (some ⟨g1, 0, none⟩) c1) (q.at (some ⟨g2, 0, none⟩) c2) (m.at (some ⟨g3, 0, none⟩) c3) t = true from hr)]
  rintro x w' ⟨g, c, h, d, hx, ho1, ho2, hne, hb⟩
  exact ⟨g, h, c, d, hne, hx, ho1, ho2, hb⟩

theorem rotNoS_at (e : Int) (p q m : M) (t : Bool) (g1 g2 g3 c1 c2 c3 : Nat) (w : World) (o1 : (p.at (some ⟨g1, 0, none⟩) c1).On w) (o2 : (q.at (some ⟨g2, 0, none⟩) c2).On w) (o3 : (m.at (some ⟨g3, 0, none⟩) c3).On w) (f1 : p.Fit) (f2 : q.Fit) (f3 : m.Fit) (hr : rotOk e p q m t = false) :
    Calls Try.prog 41 #[.agg #[.int .i64 e, .bool p.u, .int .u64 (n64 p.k), .int .u64 (n64 p.l), .slice (some ⟨g1, 0, none⟩) p.rs.length c1, .bool q.u, .int .u64 (n64 q.k), .int .u64 (n64 q.l), .slice (some ⟨g2, 0, none⟩) q.rs.length c2, .bool t], .agg #[.bool m.u, .int .u64 (n64 m.k), .int .u64 (n64 m.l), .slice (some ⟨g3, 0, none⟩) m.rs.length c3]] w (KeysG e p q t w) := by
  refine (rotatedS e (p.at (some ⟨g1, 0, none⟩) c1) (q.at (some ⟨g2, 0, none⟩) c2) (m.at (some ⟨g3, 0, none⟩) c3) t w o1 o2 o3 f1 f2 f3).mono ?_
  rw [RotS.no (show rotOk e (p.at (some ⟨g1, 0, none⟩) c1) (q.at (some ⟨g2, 0, none⟩) c2) (m.at (some ⟨g3, 0, none⟩) c3) t = false from hr)]
  rintro x w' ⟨g, c, h, d, hx, ho1, ho2, hne, hb⟩
  exact ⟨g, h, c, d, hne, hx, ho1, ho2, hb⟩

end Go.Proofs.Ytobfgkiccmhgdaa
