/- The contracts of chapter 13 where the rows lie elsewhere. Nothing here is a claim. -/
import Derived.Test.YtobfgkiccmhgdaaKeysLaw
import Derived.Test.YtobfgkiccmhgdaaKeysC
namespace Go.Proofs.Ytobfgkiccmhgdaa
open Go.RowKit Go.Lib

/-- A Mac and true are handed back, the rows in new memory, not nil. -/
def SecG (m : M) (w : World) (x : Ending) (w' : World) : Prop :=
  ∃ g c, x = .returned (.tuple #[.agg #[.bool m.u, .int .u64 (n64 m.k), .int .u64 (n64 m.l), .slice (some ⟨g, 0, none⟩) m.rs.length c], .bool true]) ∧ w'.ownsRow w.heap.size 92 2 (.slice (some ⟨g, 0, none⟩) m.rs.length c) m.rs.length (mrs m.rs) ∧ Below w.heap.size w w'

theorem sameKeysI_at (e1 : Int) (p1 q1 : M) (t1 : Bool) (e2 : Int) (p2 q2 : M) (t2 : Bool) (a1 b1 a2 b2 : Option Addr) (c1 d1 c2 d2 : Nat) (w : World) (o1 : (p1.at a1 c1).On w) (o2 : (q1.at b1 d1).On w) (o3 : (p2.at a2 c2).On w) (o4 : (q2.at b2 d2).On w) (f1 : p1.Fit) (f2 : q1.Fit) :
    Calls Try.prog 43 #[.agg #[.int .i64 e1, .bool p1.u, .int .u64 (n64 p1.k), .int .u64 (n64 p1.l), .slice a1 p1.rs.length c1, .bool q1.u, .int .u64 (n64 q1.k), .int .u64 (n64 q1.l), .slice b1 q1.rs.length d1, .bool t1], .agg #[.int .i64 e2, .bool p2.u, .int .u64 (n64 p2.k), .int .u64 (n64 p2.l), .slice a2 p2.rs.length c2, .bool q2.u, .int .u64 (n64 q2.k), .int .u64 (n64 q2.l), .slice b2 q2.rs.length d2, .bool t2]] w (EndB (sameK e1 e2 p1 q1 p2 q2 t1 t2) w) :=
  sameKeysI e1 e2 (p1.at a1 c1) (q1.at b1 d1) (p2.at a2 c2) (q2.at b2 d2) t1 t2 w o1 o2 o3 o4 f1 f2

theorem cookieOfI_at (m : M) (a : Option Addr) (c : Nat) (p q r s t i : Int) (w : World) (om : (m.at a c).On w) (f : m.Fit) :
    Calls Try.prog 19 #[.agg #[.bool m.u, .int .u64 (n64 m.k), .int .u64 (n64 m.l), .slice a m.rs.length c], .agg #[.int .i64 p, .int .i64 q, .int .i64 r], .int .i64 s, .int .i64 t, .int .i64 i] w (EndN (cookieOf m p q r s t i) w) :=
  cookieOfI (m.at a c) p q r s t i w om f

theorem secNowOneI_at (e : Int) (p q : M) (g h c d : Nat) (w : World) (o1 : (p.at (some ⟨g, 0, none⟩) c).On w) (o2 : (q.at (some ⟨h, 0, none⟩) d).On w) (f : p.Fit) :
    Calls Try.prog 30 #[.agg #[.int .i64 e, .bool p.u, .int .u64 (n64 p.k), .int .u64 (n64 p.l), .slice (some ⟨g, 0, none⟩) p.rs.length c, .bool q.u, .int .u64 (n64 q.k), .int .u64 (n64 q.l), .slice (some ⟨h, 0, none⟩) q.rs.length d, .bool false], .int .i64 e] w (SecG p w) :=
  (secNowOneI e (p.at (some ⟨g, 0, none⟩) c) (q.at (some ⟨h, 0, none⟩) d) w o1 o2 f).mono fun _ _ ⟨a, c', hx, ho, hn', hb⟩ => by
    rcases hn' with ⟨h1, _⟩ | ⟨g', rfl⟩
    · cases h1
    · exact ⟨g', c', hx, ho, hb⟩

theorem secNowTwoI_at (e : Int) (p q : M) (g h c d : Nat) (w : World) (o1 : (p.at (some ⟨g, 0, none⟩) c).On w) (o2 : (q.at (some ⟨h, 0, none⟩) d).On w) (f : p.Fit) :
    Calls Try.prog 30 #[.agg #[.int .i64 e, .bool p.u, .int .u64 (n64 p.k), .int .u64 (n64 p.l), .slice (some ⟨g, 0, none⟩) p.rs.length c, .bool q.u, .int .u64 (n64 q.k), .int .u64 (n64 q.l), .slice (some ⟨h, 0, none⟩) q.rs.length d, .bool true], .int .i64 e] w (SecG p w) :=
  (secNowTwoI e (p.at (some ⟨g, 0, none⟩) c) (q.at (some ⟨h, 0, none⟩) d) w o1 o2 f).mono fun _ _ ⟨a, c', hx, ho, hn', hb⟩ => by
    rcases hn' with ⟨h1, _⟩ | ⟨g', rfl⟩
    · cases h1
    · exact ⟨g', c', hx, ho, hb⟩

theorem secBefI_at (e n : Int) (p q : M) (g h c d : Nat) (w : World) (o1 : (p.at (some ⟨g, 0, none⟩) c).On w) (o2 : (q.at (some ⟨h, 0, none⟩) d).On w) (f : q.Fit) (hn : (n == e) = false) (hw : n = wrap64 (e - 1)) :
    Calls Try.prog 30 #[.agg #[.int .i64 e, .bool p.u, .int .u64 (n64 p.k), .int .u64 (n64 p.l), .slice (some ⟨g, 0, none⟩) p.rs.length c, .bool q.u, .int .u64 (n64 q.k), .int .u64 (n64 q.l), .slice (some ⟨h, 0, none⟩) q.rs.length d, .bool true], .int .i64 n] w (SecG q w) :=
  (secBefI e n (p.at (some ⟨g, 0, none⟩) c) (q.at (some ⟨h, 0, none⟩) d) w o1 o2 f hn hw).mono fun _ _ ⟨a, c', hx, ho, hn', hb⟩ => by
    rcases hn' with ⟨h1, _⟩ | ⟨g', rfl⟩
    · cases h1
    · exact ⟨g', c', hx, ho, hb⟩

theorem secNoOneI_at (e n : Int) (p q : M) (g h c d : Nat) (w : World) (hn : (n == e) = false) :
    Calls Try.prog 30 #[.agg #[.int .i64 e, .bool p.u, .int .u64 (n64 p.k), .int .u64 (n64 p.l), .slice (some ⟨g, 0, none⟩) p.rs.length c, .bool q.u, .int .u64 (n64 q.k), .int .u64 (n64 q.l), .slice (some ⟨h, 0, none⟩) q.rs.length d, .bool false], .int .i64 n] w (SecNo w) :=
  secNoOneI e n (p.at (some ⟨g, 0, none⟩) c) (q.at (some ⟨h, 0, none⟩) d) w hn

theorem secNoTwoI_at (e n : Int) (p q : M) (g h c d : Nat) (w : World) (hn : (n == e) = false) (hw : (n == wrap64 (e - 1)) = false) :
    Calls Try.prog 30 #[.agg #[.int .i64 e, .bool p.u, .int .u64 (n64 p.k), .int .u64 (n64 p.l), .slice (some ⟨g, 0, none⟩) p.rs.length c, .bool q.u, .int .u64 (n64 q.k), .int .u64 (n64 q.l), .slice (some ⟨h, 0, none⟩) q.rs.length d, .bool true], .int .i64 n] w (SecNo w) :=
  secNoTwoI e n (p.at (some ⟨g, 0, none⟩) c) (q.at (some ⟨h, 0, none⟩) d) w hn hw

theorem sameKeysS_at (e1 : Int) (p1 q1 : M) (t1 : Bool) (e2 : Int) (p2 q2 : M) (t2 : Bool) (a1 b1 a2 b2 : Option Addr) (c1 d1 c2 d2 : Nat) (w : World) (o1 : (p1.at a1 c1).On w) (o2 : (q1.at b1 d1).On w) (o3 : (p2.at a2 c2).On w) (o4 : (q2.at b2 d2).On w) (f1 : p1.Fit) (f2 : q1.Fit) :
    Calls Try.prog 23 #[.agg #[.int .i64 e1, .bool p1.u, .int .u64 (n64 p1.k), .int .u64 (n64 p1.l), .slice a1 p1.rs.length c1, .bool q1.u, .int .u64 (n64 q1.k), .int .u64 (n64 q1.l), .slice b1 q1.rs.length d1, .bool t1], .agg #[.int .i64 e2, .bool p2.u, .int .u64 (n64 p2.k), .int .u64 (n64 p2.l), .slice a2 p2.rs.length c2, .bool q2.u, .int .u64 (n64 q2.k), .int .u64 (n64 q2.l), .slice b2 q2.rs.length d2, .bool t2]] w (EndB (sameK e1 e2 p1 q1 p2 q2 t1 t2) w) :=
  sameKeysS e1 e2 (p1.at a1 c1) (q1.at b1 d1) (p2.at a2 c2) (q2.at b2 d2) t1 t2 w o1 o2 o3 o4 f1 f2

theorem cookieOfS_at (m : M) (a : Option Addr) (c : Nat) (p q r s t i : Int) (w : World) (om : (m.at a c).On w) (f : m.Fit) :
    Calls Try.prog 36 #[.agg #[.bool m.u, .int .u64 (n64 m.k), .int .u64 (n64 m.l), .slice a m.rs.length c], .agg #[.int .i64 p, .int .i64 q, .int .i64 r], .int .i64 s, .int .i64 t, .int .i64 i] w (EndN (cookieOf m p q r s t i) w) :=
  cookieOfS (m.at a c) p q r s t i w om f

theorem secNowOneS_at (e : Int) (p q : M) (g h c d : Nat) (w : World) (o1 : (p.at (some ⟨g, 0, none⟩) c).On w) (o2 : (q.at (some ⟨h, 0, none⟩) d).On w) (f : p.Fit) :
    Calls Try.prog 29 #[.agg #[.int .i64 e, .bool p.u, .int .u64 (n64 p.k), .int .u64 (n64 p.l), .slice (some ⟨g, 0, none⟩) p.rs.length c, .bool q.u, .int .u64 (n64 q.k), .int .u64 (n64 q.l), .slice (some ⟨h, 0, none⟩) q.rs.length d, .bool false], .int .i64 e] w (SecG p w) :=
  (secNowOneS e (p.at (some ⟨g, 0, none⟩) c) (q.at (some ⟨h, 0, none⟩) d) w o1 o2 f).mono fun _ _ ⟨g', c', hx, ho, hb⟩ => ⟨g', c', hx, ho, hb⟩

theorem secNowTwoS_at (e : Int) (p q : M) (g h c d : Nat) (w : World) (o1 : (p.at (some ⟨g, 0, none⟩) c).On w) (o2 : (q.at (some ⟨h, 0, none⟩) d).On w) (f : p.Fit) :
    Calls Try.prog 29 #[.agg #[.int .i64 e, .bool p.u, .int .u64 (n64 p.k), .int .u64 (n64 p.l), .slice (some ⟨g, 0, none⟩) p.rs.length c, .bool q.u, .int .u64 (n64 q.k), .int .u64 (n64 q.l), .slice (some ⟨h, 0, none⟩) q.rs.length d, .bool true], .int .i64 e] w (SecG p w) :=
  (secNowTwoS e (p.at (some ⟨g, 0, none⟩) c) (q.at (some ⟨h, 0, none⟩) d) w o1 o2 f).mono fun _ _ ⟨g', c', hx, ho, hb⟩ => ⟨g', c', hx, ho, hb⟩

theorem secBefS_at (e n : Int) (p q : M) (g h c d : Nat) (w : World) (o1 : (p.at (some ⟨g, 0, none⟩) c).On w) (o2 : (q.at (some ⟨h, 0, none⟩) d).On w) (f : q.Fit) (hn : (n == e) = false) (hw : n = wrap64 (e - 1)) :
    Calls Try.prog 29 #[.agg #[.int .i64 e, .bool p.u, .int .u64 (n64 p.k), .int .u64 (n64 p.l), .slice (some ⟨g, 0, none⟩) p.rs.length c, .bool q.u, .int .u64 (n64 q.k), .int .u64 (n64 q.l), .slice (some ⟨h, 0, none⟩) q.rs.length d, .bool true], .int .i64 n] w (SecG q w) :=
  (secBefS e n (p.at (some ⟨g, 0, none⟩) c) (q.at (some ⟨h, 0, none⟩) d) w o1 o2 f hn hw).mono fun _ _ ⟨g', c', hx, ho, hb⟩ => ⟨g', c', hx, ho, hb⟩

theorem secNoOneS_at (e n : Int) (p q : M) (g h c d : Nat) (w : World) (hn : (n == e) = false) :
    Calls Try.prog 29 #[.agg #[.int .i64 e, .bool p.u, .int .u64 (n64 p.k), .int .u64 (n64 p.l), .slice (some ⟨g, 0, none⟩) p.rs.length c, .bool q.u, .int .u64 (n64 q.k), .int .u64 (n64 q.l), .slice (some ⟨h, 0, none⟩) q.rs.length d, .bool false], .int .i64 n] w (SecNo w) :=
  secNoOneS e n (p.at (some ⟨g, 0, none⟩) c) (q.at (some ⟨h, 0, none⟩) d) w hn

theorem secNoTwoS_at (e n : Int) (p q : M) (g h c d : Nat) (w : World) (hn : (n == e) = false) (hw : (n == wrap64 (e - 1)) = false) :
    Calls Try.prog 29 #[.agg #[.int .i64 e, .bool p.u, .int .u64 (n64 p.k), .int .u64 (n64 p.l), .slice (some ⟨g, 0, none⟩) p.rs.length c, .bool q.u, .int .u64 (n64 q.k), .int .u64 (n64 q.l), .slice (some ⟨h, 0, none⟩) q.rs.length d, .bool true], .int .i64 n] w (SecNo w) :=
  secNoTwoS e n (p.at (some ⟨g, 0, none⟩) c) (q.at (some ⟨h, 0, none⟩) d) w hn hw

end Go.Proofs.Ytobfgkiccmhgdaa
