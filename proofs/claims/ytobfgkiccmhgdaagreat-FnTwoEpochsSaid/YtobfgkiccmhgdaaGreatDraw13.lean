/- The draws of chapter 13: l13Keys, l13Bent. Nothing here is a claim. -/
import Derived.Test.YtobfgkiccmhgdaaGreatKeysA
import Derived.Test.YtobfgkiccmhgdaaGreatDrawMac
import Derived.Test.YtobfgkiccmhgdaaGreatPickNew
namespace Go.Proofs.YtobfgkiccmhgdaaGreat
open Go.RowKit Go.Lib

/-- A Mac that was drawn: a small table in memory between lo and hi, not the cursor's; or none. -/
def DrawnM (lo hi g : Nat) (m : M) (w : World) : Prop :=
  (m.rs.length ≤ 4 ∧ ∀ r ∈ m.rs, goodM r) ∧ ((m.a = none ∧ m.c = 0 ∧ m.rs = []) ∨ ∃ b, m.a = some ⟨b, 0, none⟩ ∧ b ≠ g ∧ lo ≤ b ∧ b < hi ∧ w.ownsRow 0 72 2 (.slice (some ⟨b, 0, none⟩) m.rs.length m.c) m.rs.length (mrs m.rs))
theorem DrawnM.on {lo hi g : Nat} {m : M} {w : World} (h : DrawnM lo hi g m w) : m.On w := by
  rcases h.2 with h1 | ⟨b, h1, _, _, _, h5⟩
  · exact .inl h1
  · exact .inr ⟨b, 0, h1, Row.ownK h5⟩
theorem DrawnM.fit {lo hi g : Nat} {m : M} {w : World} (h : DrawnM lo hi g m w) : m.Fit := ⟨by have := h.1.1; omega, h.1.2⟩
theorem DrawnM.grown {lo hi g : Nat} {m : M} {w w' : World} (h : DrawnM lo hi g m w) (hg : w.grownBy w' (some g)) : DrawnM lo hi g m w' := by
  refine ⟨h.1, ?_⟩
  rcases h.2 with h1 | ⟨b, h1, h2, h3, h4, h5⟩
  · exact .inl h1
  · exact .inr ⟨b, h1, h2, h3, h4, h5.kept hg (.inr (own_ne h2))⟩
theorem DrawnM.below {lo hi g : Nat} {m : M} {w w' : World} (h : DrawnM lo hi g m w) (hb : Below w.heap.size w w') : DrawnM lo hi g m w' := by
  refine ⟨h.1, ?_⟩
  rcases h.2 with h1 | ⟨b, h1, h2, h3, h4, h5⟩
  · exact .inl h1
  · exact .inr ⟨b, h1, h2, h3, h4, h5.kept (below_any (row := none) hb) (Classical.em _)⟩
theorem DrawnM.alloc {lo hi g : Nat} {m : M} {w : World} (h : DrawnM lo hi g m w) (o : Obj) : DrawnM lo hi g m (w.alloc o) := h.below ((Below.refl _ _).alloc (Nat.le_refl _) o)
theorem DrawnM.set {lo hi g : Nat} {m : M} {w : World} (h : DrawnM lo hi g m w) {r : Nat} (k : Nat) (u : Value) (hr : r < lo ∨ hi ≤ r) : DrawnM lo hi g m (w.setCell ⟨r, k, none⟩ u) := by
  refine ⟨h.1, ?_⟩
  rcases h.2 with h1 | ⟨b, h1, h2, h3, h4, h5⟩
  · exact .inl h1
  · exact .inr ⟨b, h1, h2, h3, h4, own_set' h5 k u (by omega)⟩
theorem DrawnM.top {lo lo' hi g : Nat} {m : M} {w : World} (h : DrawnM lo hi g m w) (hl : lo' ≤ lo) : DrawnM lo' w.heap.size g m w := by
  refine ⟨h.1, ?_⟩
  rcases h.2 with h1 | ⟨b, h1, h2, h3, _, h5⟩
  · exact .inl h1
  · exact .inr ⟨b, h1, h2, Nat.le_trans hl h3, (h5.lt b rfl).2, h5⟩
theorem DrawnM.nil (lo hi g : Nat) (u : Bool) (k l : BitVec 64) (w : World) : DrawnM lo hi g ⟨u, k, l, none, 0, []⟩ w := ⟨⟨Nat.zero_le _, fun _ h => by cases h⟩, .inl ⟨rfl, rfl, rfl⟩⟩
theorem DrawnM.of_tab {g : Nat} {u : Bool} {k l : BitVec 64} {a : Option Addr} {c : Nat} {rs : List MR} {w w' : World} (h : TabOf w w' g a c rs) : DrawnM w.heap.size w'.heap.size g ⟨u, k, l, a, c, rs⟩ w' := by
  refine ⟨h.1, ?_⟩
  rcases h.2 with ⟨h1, h2, h3⟩ | ⟨b, h1, h2, h3⟩
  · exact .inl ⟨h1, h3, h2⟩
  · exact .inr ⟨b, h1, h2, (h3.lt b rfl).1, (h3.lt b rfl).2, own_down h3 (Nat.zero_le _)⟩
/-- What l13Keys and l13Bent hand back. -/
def KeysEnd (w : World) (B g : Nat) (e : Ending) (w' : World) : Prop :=
  ∃ (x : Int) (p q : M) (t : Bool), e = .returned (.agg #[.int .i64 x, .bool p.u, .int .u64 (n64 p.k), .int .u64 (n64 p.l), .slice p.a p.rs.length p.c, .bool q.u, .int .u64 (n64 q.k), .int .u64 (n64 q.l), .slice q.a q.rs.length q.c, .bool t]) ∧ I64 x ∧ DrawnM w.heap.size w'.heap.size g p w' ∧ DrawnM w.heap.size w'.heap.size g q w' ∧ CurB w' B g ∧ w.grownBy w' (some g)

def epCs : Array Value := #[.int .i64 0, .int .i64 1, .int .i64 2, .int .i64 30, .int .i64 31, .int .i64 32, .int .i64 33, .int .i64 4294967295]
theorem epCs_bd : ∀ v ∈ epCs.toList, ∃ x, v = .int .i64 x ∧ I64 x := by
  intro v hv
  simp only [epCs, List.mem_cons, List.mem_nil_iff, or_false] at hv
  unfold I64
  rcases hv with rfl | rfl | rfl | rfl | rfl | rfl | rfl | rfl <;> exact ⟨_, rfl, by decide⟩
theorem pickEp (B g : Nat) (w : World) (hc : CurB w B g) : Calls Tryz.prog 36 #[.pointer (some ⟨g, 0, none⟩), .slice (some ⟨w.heap.size, 0, none⟩) 8 8] (w.alloc (.cells epCs 3)) (WholeEnd w B g) :=
  pickNew B g w hc epCs (by decide) (by decide) epCs_bd
def bentCs : Array Value := #[.int .i64 (-1), .int .i64 0, .int .i64 4294967296]
theorem bentCs_bd : ∀ v ∈ bentCs.toList, ∃ x, v = .int .i64 x ∧ I64 x := by
  intro v hv
  simp only [bentCs, List.mem_cons, List.mem_nil_iff, or_false] at hv
  unfold I64
  rcases hv with rfl | rfl | rfl <;> exact ⟨_, rfl, by decide⟩
theorem pickBent (B g : Nat) (w : World) (hc : CurB w B g) : Calls Tryz.prog 36 #[.pointer (some ⟨g, 0, none⟩), .slice (some ⟨w.heap.size, 0, none⟩) 3 3] (w.alloc (.cells bentCs 3)) (WholeEnd w B g) :=
  pickNew B g w hc bentCs (by decide) (by decide) bentCs_bd
set_option maxRecDepth 100000 in
set_option maxHeartbeats 8000000 in
theorem l13Keys_any (B g : Nat) (w : World) (hc : CurB w B g) : Calls Tryz.prog 35 #[.pointer (some ⟨g, 0, none⟩)] w (KeysEnd w B g) := by
  go_enter Tryz.func35, Tryz.ntmps35
  have hlt := hc.lt
  have hBg := hc.1
  have C0 := Lib.hid (show CurB (w.alloc (.cells #[.int .i64 0, .bool false, .int .u64 0, .int .u64 0, .slice none 0 0, .bool false, .int .u64 0, .int .u64 0, .slice none 0 0, .bool false] 29)) B g from (hc.new (.cells #[.int .i64 0, .bool false, .int .u64 0, .int .u64 0, .slice none 0 0, .bool false, .int .u64 0, .int .u64 0, .slice none 0 0, .bool false] 29)))
  have G0 := Lib.hid (show w.grownBy (w.alloc (.cells #[.int .i64 0, .bool false, .int .u64 0, .int .u64 0, .slice none 0 0, .bool false, .int .u64 0, .int .u64 0, .slice none 0 0, .bool false] 29)) (some g) from (grown_new (World.grownBy.refl w (some g)) (.cells #[.int .i64 0, .bool false, .int .u64 0, .int .u64 0, .slice none 0 0, .bool false, .int .u64 0, .int .u64 0, .slice none 0 0, .bool false] 29)))
  clear hc
  have KR0 := Lib.hid (show Blk (w.alloc (.cells #[.int .i64 0, .bool false, .int .u64 0, .int .u64 0, .slice none 0 0, .bool false, .int .u64 0, .int .u64 0, .slice none 0 0, .bool false] 29)) (w.heap.size) [.int .i64 0, .bool false, .int .u64 0, .int .u64 0, .slice none 0 0, .bool false, .int .u64 0, .int .u64 0, .slice none 0 0, .bool false] from ((Blk.new w [.int .i64 0, .bool false, .int .u64 0, .int .u64 0, .slice none 0 0, .bool false, .int .u64 0, .int .u64 0, .slice none 0 0, .bool false] 29)))
  go_upto_region 1 with fail
  generalize w.alloc (.cells #[.int .i64 0, .bool false, .int .u64 0, .int .u64 0, .slice none 0 0, .bool false, .int .u64 0, .int .u64 0, .slice none 0 0, .bool false] 29) = v0 at C0 G0 KR0 ⊢
  generalize hh_R : w.heap.size = g_R at KR0 ⊢
  have l_R : w.heap.size ≤ g_R := by omega
  have b_R : B ≤ g_R := by omega
  have c_R : g_R ≠ g := by omega
  clear hh_R
  go_wp2_with fail
  refine (pickEp B g v0 C0.out).mono ?_
  rintro e v1 ⟨x, rfl, hx, hcu, hgr⟩
  have HX := Lib.hid hx
  clear hx
  have KR1 := Lib.hid (KR0.out.grown hgr c_R)
  have G1 := Lib.hid (grown_tr G0.out hgr)
  have C1 := Lib.hid hcu
  clear hcu hgr KR0 G0 C0
  obtain ⟨⟨cR0, cR1, cR2, cR3, cR4, cR5, cR6, cR7, cR8, cR9⟩, dR0, dR1, dR2, dR3, dR4, dR5, dR6, dR7, dR8, dR9⟩ := KR1.out.of10
  go_wp2_with fail
  clear cR0 cR1 cR2 cR3 cR4 cR5 cR6 cR7 cR8 cR9 dR0 dR1 dR2 dR3 dR4 dR5 dR6 dR7 dR8 dR9
  refine (l10Key_any B g v1 C1.out).mono ?_
  rintro e v2 ⟨k, rfl, hcu, hgr⟩
  have KR2 := Lib.hid (KR1.out.grown hgr c_R)
  have G2 := Lib.hid (grown_tr G1.out hgr)
  have C2 := Lib.hid hcu
  clear hcu hgr KR1 G1 C1
  obtain ⟨⟨cR0, cR1, cR2, cR3, cR4, cR5, cR6, cR7, cR8, cR9⟩, dR0, dR1, dR2, dR3, dR4, dR5, dR6, dR7, dR8, dR9⟩ := KR2.out.of10
  go_wp2_with fail
  clear cR0 cR1 cR2 cR3 cR4 cR5 cR6 cR7 cR8 cR9 dR0 dR1 dR2 dR3 dR4 dR5 dR6 dR7 dR8 dR9
  refine (l10Key_any B g v2 C2.out).mono ?_
  rintro e v3 ⟨l, rfl, hcu, hgr⟩
  have KR3 := Lib.hid (KR2.out.grown hgr c_R)
  have G3 := Lib.hid (grown_tr G2.out hgr)
  have C3 := Lib.hid hcu
  clear hcu hgr KR2 G2 C2
  obtain ⟨⟨cR0, cR1, cR2, cR3, cR4, cR5, cR6, cR7, cR8, cR9⟩, dR0, dR1, dR2, dR3, dR4, dR5, dR6, dR7, dR8, dR9⟩ := KR3.out.of10
  go_wp2_with fail
  clear cR0 cR1 cR2 cR3 cR4 cR5 cR6 cR7 cR8 cR9 dR0 dR1 dR2 dR3 dR4 dR5 dR6 dR7 dR8 dR9
  refine (keyMacS (n64 k) (n64 l) _).mono ?_
  rintro e v4 ⟨rfl, hb⟩
  have KR4 := Lib.hid (KR3.out.below hb)
  have G4 := Lib.hid (grown_tr G3.out (below_any hb))
  have C4 := Lib.hid (C3.out.below hb)
  clear hb KR3 G3 C3
  have KR5 := Lib.hid (KR4.out.alloc (.cells #[.int .i64 x, .bool false, .int .u64 (n64 k), .int .u64 (n64 l), .slice none 0 0, .bool false, .int .u64 0, .int .u64 0, .slice none 0 0, .bool false] 29))
  have n_R_K : g_R ≠ v4.heap.size := by have h1 := KR4.out.lt; omega
  have KK5 := Lib.hid (Blk.new v4 [.int .i64 x, .bool false, .int .u64 (n64 k), .int .u64 (n64 l), .slice none 0 0, .bool false, .int .u64 0, .int .u64 0, .slice none 0 0, .bool false] 29)
  have G5 := Lib.hid (grown_new G4.out (.cells #[.int .i64 x, .bool false, .int .u64 (n64 k), .int .u64 (n64 l), .slice none 0 0, .bool false, .int .u64 0, .int .u64 0, .slice none 0 0, .bool false] 29))
  have C5 := Lib.hid (C4.out.new (.cells #[.int .i64 x, .bool false, .int .u64 (n64 k), .int .u64 (n64 l), .slice none 0 0, .bool false, .int .u64 0, .int .u64 0, .slice none 0 0, .bool false] 29))
  have l_K : w.heap.size ≤ v4.heap.size := G4.out.size
  have c_K : v4.heap.size ≠ g := Nat.ne_of_gt C4.out.lt
  have b_K : B ≤ v4.heap.size := by have h1 := C4.out.lt; omega
  clear KR4 G4 C4
  obtain ⟨⟨cR0, cR1, cR2, cR3, cR4, cR5, cR6, cR7, cR8, cR9⟩, dR0, dR1, dR2, dR3, dR4, dR5, dR6, dR7, dR8, dR9⟩ := KR5.out.of10
  obtain ⟨⟨cK0, cK1, cK2, cK3, cK4, cK5, cK6, cK7, cK8, cK9⟩, dK0, dK1, dK2, dK3, dK4, dK5, dK6, dK7, dK8, dK9⟩ := KK5.out.of10
  go_upto_region 2 with fail
  clear cR0 cR1 cR2 cR3 cR4 cR5 cR6 cR7 cR8 cR9 dR0 dR1 dR2 dR3 dR4 dR5 dR6 dR7 dR8 dR9 cK0 cK1 cK2 cK3 cK4 cK5 cK6 cK7 cK8 cK9 dK0 dK1 dK2 dK3 dK4 dK5 dK6 dK7 dK8 dK9
  generalize v4.alloc (.cells #[.int .i64 x, .bool false, .int .u64 (n64 k), .int .u64 (n64 l), .slice none 0 0, .bool false, .int .u64 0, .int .u64 0, .slice none 0 0, .bool false] 29) = v5 at KR5 KK5 C5 G5 ⊢
  generalize hh : v4.heap.size = g_K at KK5 l_K c_K b_K n_R_K  ⊢
  clear hh
  by_cases hx : 0 < x
  · obtain ⟨⟨cR0, cR1, cR2, cR3, cR4, cR5, cR6, cR7, cR8, cR9⟩, dR0, dR1, dR2, dR3, dR4, dR5, dR6, dR7, dR8, dR9⟩ := KR5.out.of10
    obtain ⟨⟨cK0, cK1, cK2, cK3, cK4, cK5, cK6, cK7, cK8, cK9⟩, dK0, dK1, dK2, dK3, dK4, dK5, dK6, dK7, dK8, dK9⟩ := KK5.out.of10
    go_wp2_with fail
    clear cR0 cR1 cR2 cR3 cR4 cR5 cR6 cR7 cR8 cR9 dR0 dR1 dR2 dR3 dR4 dR5 dR6 dR7 dR8 dR9 cK0 cK1 cK2 cK3 cK4 cK5 cK6 cK7 cK8 cK9 dK0 dK1 dK2 dK3 dK4 dK5 dK6 dK7 dK8 dK9
    refine (l1Once_any B g v5 C5.out 2 (by omega) (by omega)).mono ?_
    rintro e v6 ⟨b2, rfl, hcu, hgr⟩
    have KR6 := Lib.hid (KR5.out.grown hgr c_R)
    have KK6 := Lib.hid (KK5.out.grown hgr c_K)
    have G6 := Lib.hid (grown_tr G5.out hgr)
    have C6 := Lib.hid hcu
    clear hcu hgr KR5 KK5 G5 C5
    cases b2
    · obtain ⟨⟨cR0, cR1, cR2, cR3, cR4, cR5, cR6, cR7, cR8, cR9⟩, dR0, dR1, dR2, dR3, dR4, dR5, dR6, dR7, dR8, dR9⟩ := KR6.out.of10
      obtain ⟨⟨cK0, cK1, cK2, cK3, cK4, cK5, cK6, cK7, cK8, cK9⟩, dK0, dK1, dK2, dK3, dK4, dK5, dK6, dK7, dK8, dK9⟩ := KK6.out.of10
      go_wp2_with fail
      clear cR0 cR1 cR2 cR3 cR4 cR5 cR6 cR7 cR8 cR9 dR0 dR1 dR2 dR3 dR4 dR5 dR6 dR7 dR8 dR9 cK0 cK1 cK2 cK3 cK4 cK5 cK6 cK7 cK8 cK9 dK0 dK1 dK2 dK3 dK4 dK5 dK6 dK7 dK8 dK9
      refine (l1Once_any B g v6 C6.out 3 (by omega) (by omega)).mono ?_
      rintro e v7 ⟨b3, rfl, hcu, hgr⟩
      have KR7 := Lib.hid (KR6.out.grown hgr c_R)
      have KK7 := Lib.hid (KK6.out.grown hgr c_K)
      have G7 := Lib.hid (grown_tr G6.out hgr)
      have C7 := Lib.hid hcu
      clear hcu hgr KR6 KK6 G6 C6
      cases b3
      · obtain ⟨⟨cR0, cR1, cR2, cR3, cR4, cR5, cR6, cR7, cR8, cR9⟩, dR0, dR1, dR2, dR3, dR4, dR5, dR6, dR7, dR8, dR9⟩ := KR7.out.of10
        obtain ⟨⟨cK0, cK1, cK2, cK3, cK4, cK5, cK6, cK7, cK8, cK9⟩, dK0, dK1, dK2, dK3, dK4, dK5, dK6, dK7, dK8, dK9⟩ := KK7.out.of10
        go_wp2_with fail
        refine bodyPost_ret (v := .agg #[.int .i64 x, .bool false, .int .u64 (n64 k), .int .u64 (n64 l), .slice none 0 0, .bool false, .int .u64 0, .int .u64 0, .slice none 0 0, .bool false]) (by simp [results, Tryz.results35, go_sem, cR0, cR1, cR2, cR3, cR4, cR5, cR6, cR7, cR8, cR9]) rfl ⟨x, ⟨false, k, l, none, 0, []⟩, ⟨false, 0, 0, none, 0, []⟩, false, rfl, HX.out, ?_, ?_, ?_, ?_⟩
        · exact DrawnM.nil _ _ _ _ _ _ _
        · exact DrawnM.nil _ _ _ _ _ _ _
        · exact ((((((((((C7.out.setOther _ _ b_R c_R).setOther _ _ b_R c_R).setOther _ _ b_R c_R).setOther _ _ b_R c_R).setOther _ _ b_R c_R).setOther _ _ b_R c_R).setOther _ _ b_R c_R).setOther _ _ b_R c_R).setOther _ _ b_R c_R).setOther _ _ b_R c_R)
        · exact (grown_setNew (grown_setNew (grown_setNew (grown_setNew (grown_setNew (grown_setNew (grown_setNew (grown_setNew (grown_setNew (grown_setNew G7.out _ _ l_R) _ _ l_R) _ _ l_R) _ _ l_R) _ _ l_R) _ _ l_R) _ _ l_R) _ _ l_R) _ _ l_R) _ _ l_R)
      · obtain ⟨⟨cR0, cR1, cR2, cR3, cR4, cR5, cR6, cR7, cR8, cR9⟩, dR0, dR1, dR2, dR3, dR4, dR5, dR6, dR7, dR8, dR9⟩ := KR7.out.of10
        obtain ⟨⟨cK0, cK1, cK2, cK3, cK4, cK5, cK6, cK7, cK8, cK9⟩, dK0, dK1, dK2, dK3, dK4, dK5, dK6, dK7, dK8, dK9⟩ := KK7.out.of10
        go_wp2_with fail
        clear cR0 cR1 cR2 cR3 cR4 cR5 cR6 cR7 cR8 cR9 dR0 dR1 dR2 dR3 dR4 dR5 dR6 dR7 dR8 dR9 cK0 cK1 cK2 cK3 cK4 cK5 cK6 cK7 cK8 cK9 dK0 dK1 dK2 dK3 dK4 dK5 dK6 dK7 dK8 dK9
        have TM : Calls Tryz.prog 56 #[.slice (some ⟨v7.heap.size, 0, none⟩) 0 0] (v7.alloc (.cells #[] 72)) (TabEnd [] (v7.alloc (.cells #[] 72))) := tableMacS v7.heap.size 0 0 [] (v7.alloc (.cells #[] 72)) Row.nil (by decide)
        refine TM.mono ?_
        rintro e v8 ⟨b, c, rfl, ho, hb⟩
        replace hb := ((Below.refl v7.heap.size v7).alloc (Nat.le_refl _) (.cells #[] 72)).trans (hb.mono (by simp))
        replace ho := own_down ho (show v7.heap.size ≤ (v7.alloc (.cells #[] 72)).heap.size by simp)
        have KR8 := Lib.hid (KR7.out.below hb)
        have KK8 := Lib.hid (KK7.out.below hb)
        have hbg : b ≠ g := by have h1 := (ho.lt b rfl).1; have h2 := C7.out.lt; omega
        have Dp8 : Hid (DrawnM v7.heap.size v8.heap.size g ⟨true, 0, 0, some ⟨b, 0, none⟩, c, []⟩ v8) := ⟨⟨Nat.zero_le _, fun _ h => by cases h⟩, .inr ⟨b, rfl, hbg, (ho.lt b rfl).1, (ho.lt b rfl).2, own_down ho (Nat.zero_le _)⟩⟩
        have p_p_R : g_R < v7.heap.size ∨ v8.heap.size ≤ g_R := .inl KR7.out.lt
        have p_p_K : g_K < v7.heap.size ∨ v8.heap.size ≤ g_K := .inl KK7.out.lt
        have hlo : w.heap.size ≤ v7.heap.size := G7.out.size
        have G8 := Lib.hid (grown_tr G7.out (below_any hb))
        have C8 := Lib.hid (C7.out.below hb)
        clear hb ho TM KR7 KK7 G7 C7
        obtain ⟨⟨cR0, cR1, cR2, cR3, cR4, cR5, cR6, cR7, cR8, cR9⟩, dR0, dR1, dR2, dR3, dR4, dR5, dR6, dR7, dR8, dR9⟩ := KR8.out.of10
        obtain ⟨⟨cK0, cK1, cK2, cK3, cK4, cK5, cK6, cK7, cK8, cK9⟩, dK0, dK1, dK2, dK3, dK4, dK5, dK6, dK7, dK8, dK9⟩ := KK8.out.of10
        go_wp2_with fail
        refine bodyPost_ret (v := .agg #[.int .i64 x, .bool true, .int .u64 0, .int .u64 0, .slice (some ⟨b, 0, none⟩) 0 c, .bool false, .int .u64 0, .int .u64 0, .slice none 0 0, .bool false]) (by simp [results, Tryz.results35, go_sem, cR0, cR1, cR2, cR3, cR4, cR5, cR6, cR7, cR8, cR9]) rfl ⟨x, ⟨true, 0, 0, some ⟨b, 0, none⟩, c, []⟩, ⟨false, 0, 0, none, 0, []⟩, false, rfl, HX.out, ?_, ?_, ?_, ?_⟩
        · exact (((((((((((((((Dp8.out.set 1 (.bool true) p_p_K).set 2 (.int .u64 0) p_p_K).set 3 (.int .u64 0) p_p_K).set 4 (.slice (some ⟨b, 0, none⟩) 0 c) p_p_K).set _ _ p_p_R).set _ _ p_p_R).set _ _ p_p_R).set _ _ p_p_R).set _ _ p_p_R).set _ _ p_p_R).set _ _ p_p_R).set _ _ p_p_R).set _ _ p_p_R).set _ _ p_p_R)).top hlo
        · exact DrawnM.nil _ _ _ _ _ _ _
        · exact ((((((((((((((C8.out.setOther ⟨g_K, 1, none⟩ (.bool true) b_K c_K).setOther ⟨g_K, 2, none⟩ (.int .u64 0) b_K c_K).setOther ⟨g_K, 3, none⟩ (.int .u64 0) b_K c_K).setOther ⟨g_K, 4, none⟩ (.slice (some ⟨b, 0, none⟩) 0 c) b_K c_K).setOther _ _ b_R c_R).setOther _ _ b_R c_R).setOther _ _ b_R c_R).setOther _ _ b_R c_R).setOther _ _ b_R c_R).setOther _ _ b_R c_R).setOther _ _ b_R c_R).setOther _ _ b_R c_R).setOther _ _ b_R c_R).setOther _ _ b_R c_R)
        · exact (grown_setNew (grown_setNew (grown_setNew (grown_setNew (grown_setNew (grown_setNew (grown_setNew (grown_setNew (grown_setNew (grown_setNew (grown_setNew (grown_setNew (grown_setNew (grown_setNew G8.out ⟨g_K, 1, none⟩ (.bool true) l_K) ⟨g_K, 2, none⟩ (.int .u64 0) l_K) ⟨g_K, 3, none⟩ (.int .u64 0) l_K) ⟨g_K, 4, none⟩ (.slice (some ⟨b, 0, none⟩) 0 c) l_K) _ _ l_R) _ _ l_R) _ _ l_R) _ _ l_R) _ _ l_R) _ _ l_R) _ _ l_R) _ _ l_R) _ _ l_R) _ _ l_R)
    · obtain ⟨⟨cR0, cR1, cR2, cR3, cR4, cR5, cR6, cR7, cR8, cR9⟩, dR0, dR1, dR2, dR3, dR4, dR5, dR6, dR7, dR8, dR9⟩ := KR6.out.of10
      obtain ⟨⟨cK0, cK1, cK2, cK3, cK4, cK5, cK6, cK7, cK8, cK9⟩, dK0, dK1, dK2, dK3, dK4, dK5, dK6, dK7, dK8, dK9⟩ := KK6.out.of10
      have KR7 := Lib.hid (show Blk (v6.setCell ⟨g_K, 9, none⟩ (.bool true)) g_R [.int .i64 0, .bool false, .int .u64 0, .int .u64 0, .slice none 0 0, .bool false, .int .u64 0, .int .u64 0, .slice none 0 0, .bool false] from (KR6.out.setOther ⟨g_K, 9, none⟩ (.bool true) (n_R_K)))
      have KK7 := Lib.hid (show Blk (v6.setCell ⟨g_K, 9, none⟩ (.bool true)) g_K [.int .i64 x, .bool false, .int .u64 (n64 k), .int .u64 (n64 l), .slice none 0 0, .bool false, .int .u64 0, .int .u64 0, .slice none 0 0, .bool true] from (KK6.out.set 9 (.bool true)))
      have C7 := Lib.hid (C6.out.setOther ⟨g_K, 9, none⟩ (.bool true) b_K c_K)
      have G7 := Lib.hid (grown_setNew G6.out ⟨g_K, 9, none⟩ (.bool true) l_K)
      clear KR6 KK6 C6 G6
      go_wp2_with fail
      clear cR0 cR1 cR2 cR3 cR4 cR5 cR6 cR7 cR8 cR9 dR0 dR1 dR2 dR3 dR4 dR5 dR6 dR7 dR8 dR9 cK0 cK1 cK2 cK3 cK4 cK5 cK6 cK7 cK8 cK9 dK0 dK1 dK2 dK3 dK4 dK5 dK6 dK7 dK8 dK9
      generalize v6.setCell ⟨g_K, 9, none⟩ (.bool true) = v7 at KR7 KK7 C7 G7 ⊢
      refine (l10Key_any B g v7 C7.out).mono ?_
      rintro e v8 ⟨k2, rfl, hcu, hgr⟩
      have KR8 := Lib.hid (KR7.out.grown hgr c_R)
      have KK8 := Lib.hid (KK7.out.grown hgr c_K)
      have G8 := Lib.hid (grown_tr G7.out hgr)
      have C8 := Lib.hid hcu
      clear hcu hgr KR7 KK7 G7 C7
      obtain ⟨⟨cR0, cR1, cR2, cR3, cR4, cR5, cR6, cR7, cR8, cR9⟩, dR0, dR1, dR2, dR3, dR4, dR5, dR6, dR7, dR8, dR9⟩ := KR8.out.of10
      obtain ⟨⟨cK0, cK1, cK2, cK3, cK4, cK5, cK6, cK7, cK8, cK9⟩, dK0, dK1, dK2, dK3, dK4, dK5, dK6, dK7, dK8, dK9⟩ := KK8.out.of10
      go_wp2_with fail
      clear cR0 cR1 cR2 cR3 cR4 cR5 cR6 cR7 cR8 cR9 dR0 dR1 dR2 dR3 dR4 dR5 dR6 dR7 dR8 dR9 cK0 cK1 cK2 cK3 cK4 cK5 cK6 cK7 cK8 cK9 dK0 dK1 dK2 dK3 dK4 dK5 dK6 dK7 dK8 dK9
      refine (l10Key_any B g v8 C8.out).mono ?_
      rintro e v9 ⟨l2, rfl, hcu, hgr⟩
      have KR9 := Lib.hid (KR8.out.grown hgr c_R)
      have KK9 := Lib.hid (KK8.out.grown hgr c_K)
      have G9 := Lib.hid (grown_tr G8.out hgr)
      have C9 := Lib.hid hcu
      clear hcu hgr KR8 KK8 G8 C8
      obtain ⟨⟨cR0, cR1, cR2, cR3, cR4, cR5, cR6, cR7, cR8, cR9⟩, dR0, dR1, dR2, dR3, dR4, dR5, dR6, dR7, dR8, dR9⟩ := KR9.out.of10
      obtain ⟨⟨cK0, cK1, cK2, cK3, cK4, cK5, cK6, cK7, cK8, cK9⟩, dK0, dK1, dK2, dK3, dK4, dK5, dK6, dK7, dK8, dK9⟩ := KK9.out.of10
      go_wp2_with fail
      clear cR0 cR1 cR2 cR3 cR4 cR5 cR6 cR7 cR8 cR9 dR0 dR1 dR2 dR3 dR4 dR5 dR6 dR7 dR8 dR9 cK0 cK1 cK2 cK3 cK4 cK5 cK6 cK7 cK8 cK9 dK0 dK1 dK2 dK3 dK4 dK5 dK6 dK7 dK8 dK9
      refine (keyMacS (n64 k2) (n64 l2) _).mono ?_
      rintro e v10 ⟨rfl, hb⟩
      have KR10 := Lib.hid (KR9.out.below hb)
      have KK10 := Lib.hid (KK9.out.below hb)
      have G10 := Lib.hid (grown_tr G9.out (below_any hb))
      have C10 := Lib.hid (C9.out.below hb)
      clear hb KR9 KK9 G9 C9
      obtain ⟨⟨cR0, cR1, cR2, cR3, cR4, cR5, cR6, cR7, cR8, cR9⟩, dR0, dR1, dR2, dR3, dR4, dR5, dR6, dR7, dR8, dR9⟩ := KR10.out.of10
      obtain ⟨⟨cK0, cK1, cK2, cK3, cK4, cK5, cK6, cK7, cK8, cK9⟩, dK0, dK1, dK2, dK3, dK4, dK5, dK6, dK7, dK8, dK9⟩ := KK10.out.of10
      have KR11 := Lib.hid (show Blk ((((v10.setCell ⟨g_K, 5, none⟩ (.bool false)).setCell ⟨g_K, 6, none⟩ (.int .u64 (n64 k2))).setCell ⟨g_K, 7, none⟩ (.int .u64 (n64 l2))).setCell ⟨g_K, 8, none⟩ (.slice none 0 0)) g_R [.int .i64 0, .bool false, .int .u64 0, .int .u64 0, .slice none 0 0, .bool false, .int .u64 0, .int .u64 0, .slice none 0 0, .bool false] from ((((KR10.out.setOther ⟨g_K, 5, none⟩ (.bool false) (n_R_K)).setOther ⟨g_K, 6, none⟩ (.int .u64 (n64 k2)) (n_R_K)).setOther ⟨g_K, 7, none⟩ (.int .u64 (n64 l2)) (n_R_K)).setOther ⟨g_K, 8, none⟩ (.slice none 0 0) (n_R_K)))
      have KK11 := Lib.hid (show Blk ((((v10.setCell ⟨g_K, 5, none⟩ (.bool false)).setCell ⟨g_K, 6, none⟩ (.int .u64 (n64 k2))).setCell ⟨g_K, 7, none⟩ (.int .u64 (n64 l2))).setCell ⟨g_K, 8, none⟩ (.slice none 0 0)) g_K [.int .i64 x, .bool false, .int .u64 (n64 k), .int .u64 (n64 l), .slice none 0 0, .bool false, .int .u64 (n64 k2), .int .u64 (n64 l2), .slice none 0 0, .bool true] from ((((KK10.out.set 5 (.bool false)).set 6 (.int .u64 (n64 k2))).set 7 (.int .u64 (n64 l2))).set 8 (.slice none 0 0)))
      have C11 := Lib.hid ((((C10.out.setOther ⟨g_K, 5, none⟩ (.bool false) b_K c_K).setOther ⟨g_K, 6, none⟩ (.int .u64 (n64 k2)) b_K c_K).setOther ⟨g_K, 7, none⟩ (.int .u64 (n64 l2)) b_K c_K).setOther ⟨g_K, 8, none⟩ (.slice none 0 0) b_K c_K)
      have G11 := Lib.hid (grown_setNew (grown_setNew (grown_setNew (grown_setNew G10.out ⟨g_K, 5, none⟩ (.bool false) l_K) ⟨g_K, 6, none⟩ (.int .u64 (n64 k2)) l_K) ⟨g_K, 7, none⟩ (.int .u64 (n64 l2)) l_K) ⟨g_K, 8, none⟩ (.slice none 0 0) l_K)
      clear KR10 KK10 C10 G10
      go_wp2_with fail
      clear cR0 cR1 cR2 cR3 cR4 cR5 cR6 cR7 cR8 cR9 dR0 dR1 dR2 dR3 dR4 dR5 dR6 dR7 dR8 dR9 cK0 cK1 cK2 cK3 cK4 cK5 cK6 cK7 cK8 cK9 dK0 dK1 dK2 dK3 dK4 dK5 dK6 dK7 dK8 dK9
      generalize (((v10.setCell ⟨g_K, 5, none⟩ (.bool false)).setCell ⟨g_K, 6, none⟩ (.int .u64 (n64 k2))).setCell ⟨g_K, 7, none⟩ (.int .u64 (n64 l2))).setCell ⟨g_K, 8, none⟩ (.slice none 0 0) = v11 at KR11 KK11 C11 G11 ⊢
      refine (l1Once_any B g v11 C11.out 3 (by omega) (by omega)).mono ?_
      rintro e v12 ⟨b3, rfl, hcu, hgr⟩
      have KR12 := Lib.hid (KR11.out.grown hgr c_R)
      have KK12 := Lib.hid (KK11.out.grown hgr c_K)
      have G12 := Lib.hid (grown_tr G11.out hgr)
      have C12 := Lib.hid hcu
      clear hcu hgr KR11 KK11 G11 C11
      cases b3
      · obtain ⟨⟨cR0, cR1, cR2, cR3, cR4, cR5, cR6, cR7, cR8, cR9⟩, dR0, dR1, dR2, dR3, dR4, dR5, dR6, dR7, dR8, dR9⟩ := KR12.out.of10
        obtain ⟨⟨cK0, cK1, cK2, cK3, cK4, cK5, cK6, cK7, cK8, cK9⟩, dK0, dK1, dK2, dK3, dK4, dK5, dK6, dK7, dK8, dK9⟩ := KK12.out.of10
        go_wp2_with fail
        refine bodyPost_ret (v := .agg #[.int .i64 x, .bool false, .int .u64 (n64 k), .int .u64 (n64 l), .slice none 0 0, .bool false, .int .u64 (n64 k2), .int .u64 (n64 l2), .slice none 0 0, .bool true]) (by simp [results, Tryz.results35, go_sem, cR0, cR1, cR2, cR3, cR4, cR5, cR6, cR7, cR8, cR9]) rfl ⟨x, ⟨false, k, l, none, 0, []⟩, ⟨false, k2, l2, none, 0, []⟩, true, rfl, HX.out, ?_, ?_, ?_, ?_⟩
        · exact DrawnM.nil _ _ _ _ _ _ _
        · exact DrawnM.nil _ _ _ _ _ _ _
        · exact ((((((((((C12.out.setOther _ _ b_R c_R).setOther _ _ b_R c_R).setOther _ _ b_R c_R).setOther _ _ b_R c_R).setOther _ _ b_R c_R).setOther _ _ b_R c_R).setOther _ _ b_R c_R).setOther _ _ b_R c_R).setOther _ _ b_R c_R).setOther _ _ b_R c_R)
        · exact (grown_setNew (grown_setNew (grown_setNew (grown_setNew (grown_setNew (grown_setNew (grown_setNew (grown_setNew (grown_setNew (grown_setNew G12.out _ _ l_R) _ _ l_R) _ _ l_R) _ _ l_R) _ _ l_R) _ _ l_R) _ _ l_R) _ _ l_R) _ _ l_R) _ _ l_R)
      · obtain ⟨⟨cR0, cR1, cR2, cR3, cR4, cR5, cR6, cR7, cR8, cR9⟩, dR0, dR1, dR2, dR3, dR4, dR5, dR6, dR7, dR8, dR9⟩ := KR12.out.of10
        obtain ⟨⟨cK0, cK1, cK2, cK3, cK4, cK5, cK6, cK7, cK8, cK9⟩, dK0, dK1, dK2, dK3, dK4, dK5, dK6, dK7, dK8, dK9⟩ := KK12.out.of10
        go_wp2_with fail
        clear cR0 cR1 cR2 cR3 cR4 cR5 cR6 cR7 cR8 cR9 dR0 dR1 dR2 dR3 dR4 dR5 dR6 dR7 dR8 dR9 cK0 cK1 cK2 cK3 cK4 cK5 cK6 cK7 cK8 cK9 dK0 dK1 dK2 dK3 dK4 dK5 dK6 dK7 dK8 dK9
        have TM : Calls Tryz.prog 56 #[.slice (some ⟨v12.heap.size, 0, none⟩) 0 0] (v12.alloc (.cells #[] 72)) (TabEnd [] (v12.alloc (.cells #[] 72))) := tableMacS v12.heap.size 0 0 [] (v12.alloc (.cells #[] 72)) Row.nil (by decide)
        refine TM.mono ?_
        rintro e v13 ⟨b, c, rfl, ho, hb⟩
        replace hb := ((Below.refl v12.heap.size v12).alloc (Nat.le_refl _) (.cells #[] 72)).trans (hb.mono (by simp))
        replace ho := own_down ho (show v12.heap.size ≤ (v12.alloc (.cells #[] 72)).heap.size by simp)
        have KR13 := Lib.hid (KR12.out.below hb)
        have KK13 := Lib.hid (KK12.out.below hb)
        have hbg : b ≠ g := by have h1 := (ho.lt b rfl).1; have h2 := C12.out.lt; omega
        have Dp13 : Hid (DrawnM v12.heap.size v13.heap.size g ⟨true, 0, 0, some ⟨b, 0, none⟩, c, []⟩ v13) := ⟨⟨Nat.zero_le _, fun _ h => by cases h⟩, .inr ⟨b, rfl, hbg, (ho.lt b rfl).1, (ho.lt b rfl).2, own_down ho (Nat.zero_le _)⟩⟩
        have p_p_R : g_R < v12.heap.size ∨ v13.heap.size ≤ g_R := .inl KR12.out.lt
        have p_p_K : g_K < v12.heap.size ∨ v13.heap.size ≤ g_K := .inl KK12.out.lt
        have hlo : w.heap.size ≤ v12.heap.size := G12.out.size
        have G13 := Lib.hid (grown_tr G12.out (below_any hb))
        have C13 := Lib.hid (C12.out.below hb)
        clear hb ho TM KR12 KK12 G12 C12
        obtain ⟨⟨cR0, cR1, cR2, cR3, cR4, cR5, cR6, cR7, cR8, cR9⟩, dR0, dR1, dR2, dR3, dR4, dR5, dR6, dR7, dR8, dR9⟩ := KR13.out.of10
        obtain ⟨⟨cK0, cK1, cK2, cK3, cK4, cK5, cK6, cK7, cK8, cK9⟩, dK0, dK1, dK2, dK3, dK4, dK5, dK6, dK7, dK8, dK9⟩ := KK13.out.of10
        go_wp2_with fail
        refine bodyPost_ret (v := .agg #[.int .i64 x, .bool true, .int .u64 0, .int .u64 0, .slice (some ⟨b, 0, none⟩) 0 c, .bool false, .int .u64 (n64 k2), .int .u64 (n64 l2), .slice none 0 0, .bool true]) (by simp [results, Tryz.results35, go_sem, cR0, cR1, cR2, cR3, cR4, cR5, cR6, cR7, cR8, cR9]) rfl ⟨x, ⟨true, 0, 0, some ⟨b, 0, none⟩, c, []⟩, ⟨false, k2, l2, none, 0, []⟩, true, rfl, HX.out, ?_, ?_, ?_, ?_⟩
        · exact (((((((((((((((Dp13.out.set 1 (.bool true) p_p_K).set 2 (.int .u64 0) p_p_K).set 3 (.int .u64 0) p_p_K).set 4 (.slice (some ⟨b, 0, none⟩) 0 c) p_p_K).set _ _ p_p_R).set _ _ p_p_R).set _ _ p_p_R).set _ _ p_p_R).set _ _ p_p_R).set _ _ p_p_R).set _ _ p_p_R).set _ _ p_p_R).set _ _ p_p_R).set _ _ p_p_R)).top hlo
        · exact DrawnM.nil _ _ _ _ _ _ _
        · exact ((((((((((((((C13.out.setOther ⟨g_K, 1, none⟩ (.bool true) b_K c_K).setOther ⟨g_K, 2, none⟩ (.int .u64 0) b_K c_K).setOther ⟨g_K, 3, none⟩ (.int .u64 0) b_K c_K).setOther ⟨g_K, 4, none⟩ (.slice (some ⟨b, 0, none⟩) 0 c) b_K c_K).setOther _ _ b_R c_R).setOther _ _ b_R c_R).setOther _ _ b_R c_R).setOther _ _ b_R c_R).setOther _ _ b_R c_R).setOther _ _ b_R c_R).setOther _ _ b_R c_R).setOther _ _ b_R c_R).setOther _ _ b_R c_R).setOther _ _ b_R c_R)
        · exact (grown_setNew (grown_setNew (grown_setNew (grown_setNew (grown_setNew (grown_setNew (grown_setNew (grown_setNew (grown_setNew (grown_setNew (grown_setNew (grown_setNew (grown_setNew (grown_setNew G13.out ⟨g_K, 1, none⟩ (.bool true) l_K) ⟨g_K, 2, none⟩ (.int .u64 0) l_K) ⟨g_K, 3, none⟩ (.int .u64 0) l_K) ⟨g_K, 4, none⟩ (.slice (some ⟨b, 0, none⟩) 0 c) l_K) _ _ l_R) _ _ l_R) _ _ l_R) _ _ l_R) _ _ l_R) _ _ l_R) _ _ l_R) _ _ l_R) _ _ l_R) _ _ l_R)
  · obtain ⟨⟨cR0, cR1, cR2, cR3, cR4, cR5, cR6, cR7, cR8, cR9⟩, dR0, dR1, dR2, dR3, dR4, dR5, dR6, dR7, dR8, dR9⟩ := KR5.out.of10
    obtain ⟨⟨cK0, cK1, cK2, cK3, cK4, cK5, cK6, cK7, cK8, cK9⟩, dK0, dK1, dK2, dK3, dK4, dK5, dK6, dK7, dK8, dK9⟩ := KK5.out.of10
    go_wp2_with fail
    clear cR0 cR1 cR2 cR3 cR4 cR5 cR6 cR7 cR8 cR9 dR0 dR1 dR2 dR3 dR4 dR5 dR6 dR7 dR8 dR9 cK0 cK1 cK2 cK3 cK4 cK5 cK6 cK7 cK8 cK9 dK0 dK1 dK2 dK3 dK4 dK5 dK6 dK7 dK8 dK9
    refine (l1Once_any B g v5 C5.out 3 (by omega) (by omega)).mono ?_
    rintro e v6 ⟨b3, rfl, hcu, hgr⟩
    have KR6 := Lib.hid (KR5.out.grown hgr c_R)
    have KK6 := Lib.hid (KK5.out.grown hgr c_K)
    have G6 := Lib.hid (grown_tr G5.out hgr)
    have C6 := Lib.hid hcu
    clear hcu hgr KR5 KK5 G5 C5
    cases b3
    · obtain ⟨⟨cR0, cR1, cR2, cR3, cR4, cR5, cR6, cR7, cR8, cR9⟩, dR0, dR1, dR2, dR3, dR4, dR5, dR6, dR7, dR8, dR9⟩ := KR6.out.of10
      obtain ⟨⟨cK0, cK1, cK2, cK3, cK4, cK5, cK6, cK7, cK8, cK9⟩, dK0, dK1, dK2, dK3, dK4, dK5, dK6, dK7, dK8, dK9⟩ := KK6.out.of10
      go_wp2_with fail
      refine bodyPost_ret (v := .agg #[.int .i64 x, .bool false, .int .u64 (n64 k), .int .u64 (n64 l), .slice none 0 0, .bool false, .int .u64 0, .int .u64 0, .slice none 0 0, .bool false]) (by simp [results, Tryz.results35, go_sem, cR0, cR1, cR2, cR3, cR4, cR5, cR6, cR7, cR8, cR9]) rfl ⟨x, ⟨false, k, l, none, 0, []⟩, ⟨false, 0, 0, none, 0, []⟩, false, rfl, HX.out, ?_, ?_, ?_, ?_⟩
      · exact DrawnM.nil _ _ _ _ _ _ _
      · exact DrawnM.nil _ _ _ _ _ _ _
      · exact ((((((((((C6.out.setOther _ _ b_R c_R).setOther _ _ b_R c_R).setOther _ _ b_R c_R).setOther _ _ b_R c_R).setOther _ _ b_R c_R).setOther _ _ b_R c_R).setOther _ _ b_R c_R).setOther _ _ b_R c_R).setOther _ _ b_R c_R).setOther _ _ b_R c_R)
      · exact (grown_setNew (grown_setNew (grown_setNew (grown_setNew (grown_setNew (grown_setNew (grown_setNew (grown_setNew (grown_setNew (grown_setNew G6.out _ _ l_R) _ _ l_R) _ _ l_R) _ _ l_R) _ _ l_R) _ _ l_R) _ _ l_R) _ _ l_R) _ _ l_R) _ _ l_R)
    · obtain ⟨⟨cR0, cR1, cR2, cR3, cR4, cR5, cR6, cR7, cR8, cR9⟩, dR0, dR1, dR2, dR3, dR4, dR5, dR6, dR7, dR8, dR9⟩ := KR6.out.of10
      obtain ⟨⟨cK0, cK1, cK2, cK3, cK4, cK5, cK6, cK7, cK8, cK9⟩, dK0, dK1, dK2, dK3, dK4, dK5, dK6, dK7, dK8, dK9⟩ := KK6.out.of10
      go_wp2_with fail
      clear cR0 cR1 cR2 cR3 cR4 cR5 cR6 cR7 cR8 cR9 dR0 dR1 dR2 dR3 dR4 dR5 dR6 dR7 dR8 dR9 cK0 cK1 cK2 cK3 cK4 cK5 cK6 cK7 cK8 cK9 dK0 dK1 dK2 dK3 dK4 dK5 dK6 dK7 dK8 dK9
      have TM : Calls Tryz.prog 56 #[.slice (some ⟨v6.heap.size, 0, none⟩) 0 0] (v6.alloc (.cells #[] 72)) (TabEnd [] (v6.alloc (.cells #[] 72))) := tableMacS v6.heap.size 0 0 [] (v6.alloc (.cells #[] 72)) Row.nil (by decide)
      refine TM.mono ?_
      rintro e v7 ⟨b, c, rfl, ho, hb⟩
      replace hb := ((Below.refl v6.heap.size v6).alloc (Nat.le_refl _) (.cells #[] 72)).trans (hb.mono (by simp))
      replace ho := own_down ho (show v6.heap.size ≤ (v6.alloc (.cells #[] 72)).heap.size by simp)
      have KR7 := Lib.hid (KR6.out.below hb)
      have KK7 := Lib.hid (KK6.out.below hb)
      have hbg : b ≠ g := by have h1 := (ho.lt b rfl).1; have h2 := C6.out.lt; omega
      have Dp7 : Hid (DrawnM v6.heap.size v7.heap.size g ⟨true, 0, 0, some ⟨b, 0, none⟩, c, []⟩ v7) := ⟨⟨Nat.zero_le _, fun _ h => by cases h⟩, .inr ⟨b, rfl, hbg, (ho.lt b rfl).1, (ho.lt b rfl).2, own_down ho (Nat.zero_le _)⟩⟩
      have p_p_R : g_R < v6.heap.size ∨ v7.heap.size ≤ g_R := .inl KR6.out.lt
      have p_p_K : g_K < v6.heap.size ∨ v7.heap.size ≤ g_K := .inl KK6.out.lt
      have hlo : w.heap.size ≤ v6.heap.size := G6.out.size
      have G7 := Lib.hid (grown_tr G6.out (below_any hb))
      have C7 := Lib.hid (C6.out.below hb)
      clear hb ho TM KR6 KK6 G6 C6
      obtain ⟨⟨cR0, cR1, cR2, cR3, cR4, cR5, cR6, cR7, cR8, cR9⟩, dR0, dR1, dR2, dR3, dR4, dR5, dR6, dR7, dR8, dR9⟩ := KR7.out.of10
      obtain ⟨⟨cK0, cK1, cK2, cK3, cK4, cK5, cK6, cK7, cK8, cK9⟩, dK0, dK1, dK2, dK3, dK4, dK5, dK6, dK7, dK8, dK9⟩ := KK7.out.of10
      go_wp2_with fail
      refine bodyPost_ret (v := .agg #[.int .i64 x, .bool true, .int .u64 0, .int .u64 0, .slice (some ⟨b, 0, none⟩) 0 c, .bool false, .int .u64 0, .int .u64 0, .slice none 0 0, .bool false]) (by simp [results, Tryz.results35, go_sem, cR0, cR1, cR2, cR3, cR4, cR5, cR6, cR7, cR8, cR9]) rfl ⟨x, ⟨true, 0, 0, some ⟨b, 0, none⟩, c, []⟩, ⟨false, 0, 0, none, 0, []⟩, false, rfl, HX.out, ?_, ?_, ?_, ?_⟩
      · exact (((((((((((((((Dp7.out.set 1 (.bool true) p_p_K).set 2 (.int .u64 0) p_p_K).set 3 (.int .u64 0) p_p_K).set 4 (.slice (some ⟨b, 0, none⟩) 0 c) p_p_K).set _ _ p_p_R).set _ _ p_p_R).set _ _ p_p_R).set _ _ p_p_R).set _ _ p_p_R).set _ _ p_p_R).set _ _ p_p_R).set _ _ p_p_R).set _ _ p_p_R).set _ _ p_p_R)).top hlo
      · exact DrawnM.nil _ _ _ _ _ _ _
      · exact ((((((((((((((C7.out.setOther ⟨g_K, 1, none⟩ (.bool true) b_K c_K).setOther ⟨g_K, 2, none⟩ (.int .u64 0) b_K c_K).setOther ⟨g_K, 3, none⟩ (.int .u64 0) b_K c_K).setOther ⟨g_K, 4, none⟩ (.slice (some ⟨b, 0, none⟩) 0 c) b_K c_K).setOther _ _ b_R c_R).setOther _ _ b_R c_R).setOther _ _ b_R c_R).setOther _ _ b_R c_R).setOther _ _ b_R c_R).setOther _ _ b_R c_R).setOther _ _ b_R c_R).setOther _ _ b_R c_R).setOther _ _ b_R c_R).setOther _ _ b_R c_R)
      · exact (grown_setNew (grown_setNew (grown_setNew (grown_setNew (grown_setNew (grown_setNew (grown_setNew (grown_setNew (grown_setNew (grown_setNew (grown_setNew (grown_setNew (grown_setNew (grown_setNew G7.out ⟨g_K, 1, none⟩ (.bool true) l_K) ⟨g_K, 2, none⟩ (.int .u64 0) l_K) ⟨g_K, 3, none⟩ (.int .u64 0) l_K) ⟨g_K, 4, none⟩ (.slice (some ⟨b, 0, none⟩) 0 c) l_K) _ _ l_R) _ _ l_R) _ _ l_R) _ _ l_R) _ _ l_R) _ _ l_R) _ _ l_R) _ _ l_R) _ _ l_R) _ _ l_R)

set_option maxRecDepth 100000 in
set_option maxHeartbeats 8000000 in
theorem l13Bent_any (B g : Nat) (w : World) (hc : CurB w B g) : Calls Tryz.prog 16 #[.pointer (some ⟨g, 0, none⟩)] w (KeysEnd w B g) := by
  go_enter Tryz.func16, Tryz.ntmps16
  have hlt := hc.lt
  have hBg := hc.1
  have C0 := Lib.hid (show CurB (w.alloc (.cells #[.int .i64 0, .bool false, .int .u64 0, .int .u64 0, .slice none 0 0, .bool false, .int .u64 0, .int .u64 0, .slice none 0 0, .bool false] 29)) B g from (hc.new (.cells #[.int .i64 0, .bool false, .int .u64 0, .int .u64 0, .slice none 0 0, .bool false, .int .u64 0, .int .u64 0, .slice none 0 0, .bool false] 29)))
  have G0 := Lib.hid (show w.grownBy (w.alloc (.cells #[.int .i64 0, .bool false, .int .u64 0, .int .u64 0, .slice none 0 0, .bool false, .int .u64 0, .int .u64 0, .slice none 0 0, .bool false] 29)) (some g) from (grown_new (World.grownBy.refl w (some g)) (.cells #[.int .i64 0, .bool false, .int .u64 0, .int .u64 0, .slice none 0 0, .bool false, .int .u64 0, .int .u64 0, .slice none 0 0, .bool false] 29)))
  clear hc
  have KR0 := Lib.hid (show Blk (w.alloc (.cells #[.int .i64 0, .bool false, .int .u64 0, .int .u64 0, .slice none 0 0, .bool false, .int .u64 0, .int .u64 0, .slice none 0 0, .bool false] 29)) (w.heap.size) [.int .i64 0, .bool false, .int .u64 0, .int .u64 0, .slice none 0 0, .bool false, .int .u64 0, .int .u64 0, .slice none 0 0, .bool false] from ((Blk.new w [.int .i64 0, .bool false, .int .u64 0, .int .u64 0, .slice none 0 0, .bool false, .int .u64 0, .int .u64 0, .slice none 0 0, .bool false] 29)))
  go_upto_region 1 with fail
  generalize w.alloc (.cells #[.int .i64 0, .bool false, .int .u64 0, .int .u64 0, .slice none 0 0, .bool false, .int .u64 0, .int .u64 0, .slice none 0 0, .bool false] 29) = v0 at C0 G0 KR0 ⊢
  generalize hh_R : w.heap.size = g_R at KR0 ⊢
  have l_R : w.heap.size ≤ g_R := by omega
  have b_R : B ≤ g_R := by omega
  have c_R : g_R ≠ g := by omega
  clear hh_R
  have hlo := G0.out.size
  go_wp2_with fail
  refine (l13Keys_any B g v0 C0.out).mono ?_
  rintro e v1 ⟨x, p, q, t, rfl, hx, hp, hq, hcu, hgr⟩
  have HX := Lib.hid hx
  clear hx
  have KR1 := Lib.hid (KR0.out.grown hgr c_R)
  have Dp1 := Lib.hid (hp)
  have p_p_R : g_R < v0.heap.size ∨ v1.heap.size ≤ g_R := .inl KR0.out.lt
  have Dq1 := Lib.hid (hq)
  have p_q_R : g_R < v0.heap.size ∨ v1.heap.size ≤ g_R := .inl KR0.out.lt
  have G1 := Lib.hid (grown_tr G0.out hgr)
  have C1 := Lib.hid hcu
  clear hcu hgr KR0 hp hq G0 C0
  have KR2 := Lib.hid (KR1.out.alloc (.cells #[.int .i64 x, .bool p.u, .int .u64 (n64 p.k), .int .u64 (n64 p.l), .slice p.a p.rs.length p.c, .bool q.u, .int .u64 (n64 q.k), .int .u64 (n64 q.l), .slice q.a q.rs.length q.c, .bool t] 29))
  have n_R_K : g_R ≠ v1.heap.size := by have h1 := KR1.out.lt; omega
  have Dp2 := Lib.hid (Dp1.out.alloc (.cells #[.int .i64 x, .bool p.u, .int .u64 (n64 p.k), .int .u64 (n64 p.l), .slice p.a p.rs.length p.c, .bool q.u, .int .u64 (n64 q.k), .int .u64 (n64 q.l), .slice q.a q.rs.length q.c, .bool t] 29))
  have Dq2 := Lib.hid (Dq1.out.alloc (.cells #[.int .i64 x, .bool p.u, .int .u64 (n64 p.k), .int .u64 (n64 p.l), .slice p.a p.rs.length p.c, .bool q.u, .int .u64 (n64 q.k), .int .u64 (n64 q.l), .slice q.a q.rs.length q.c, .bool t] 29))
  have KK2 := Lib.hid (Blk.new v1 [.int .i64 x, .bool p.u, .int .u64 (n64 p.k), .int .u64 (n64 p.l), .slice p.a p.rs.length p.c, .bool q.u, .int .u64 (n64 q.k), .int .u64 (n64 q.l), .slice q.a q.rs.length q.c, .bool t] 29)
  have G2 := Lib.hid (grown_new G1.out (.cells #[.int .i64 x, .bool p.u, .int .u64 (n64 p.k), .int .u64 (n64 p.l), .slice p.a p.rs.length p.c, .bool q.u, .int .u64 (n64 q.k), .int .u64 (n64 q.l), .slice q.a q.rs.length q.c, .bool t] 29))
  have C2 := Lib.hid (C1.out.new (.cells #[.int .i64 x, .bool p.u, .int .u64 (n64 p.k), .int .u64 (n64 p.l), .slice p.a p.rs.length p.c, .bool q.u, .int .u64 (n64 q.k), .int .u64 (n64 q.l), .slice q.a q.rs.length q.c, .bool t] 29))
  have l_K : w.heap.size ≤ v1.heap.size := G1.out.size
  have c_K : v1.heap.size ≠ g := Nat.ne_of_gt C1.out.lt
  have b_K : B ≤ v1.heap.size := by have h1 := C1.out.lt; omega
  clear KR1 Dp1 Dq1 G1 C1
  obtain ⟨⟨cR0, cR1, cR2, cR3, cR4, cR5, cR6, cR7, cR8, cR9⟩, dR0, dR1, dR2, dR3, dR4, dR5, dR6, dR7, dR8, dR9⟩ := KR2.out.of10
  obtain ⟨⟨cK0, cK1, cK2, cK3, cK4, cK5, cK6, cK7, cK8, cK9⟩, dK0, dK1, dK2, dK3, dK4, dK5, dK6, dK7, dK8, dK9⟩ := KK2.out.of10
  go_wp2_with fail
  clear cR0 cR1 cR2 cR3 cR4 cR5 cR6 cR7 cR8 cR9 dR0 dR1 dR2 dR3 dR4 dR5 dR6 dR7 dR8 dR9 cK0 cK1 cK2 cK3 cK4 cK5 cK6 cK7 cK8 cK9 dK0 dK1 dK2 dK3 dK4 dK5 dK6 dK7 dK8 dK9
  generalize v1.alloc (.cells #[.int .i64 x, .bool p.u, .int .u64 (n64 p.k), .int .u64 (n64 p.l), .slice p.a p.rs.length p.c, .bool q.u, .int .u64 (n64 q.k), .int .u64 (n64 q.l), .slice q.a q.rs.length q.c, .bool t] 29) = v2 at KR2 KK2 Dp2 Dq2 C2 G2 ⊢
  generalize hh : v1.heap.size = g_K at KK2 l_K c_K b_K n_R_K Dp2 Dq2 p_p_R p_q_R ⊢
  have p_p_K : g_K < v0.heap.size ∨ g_K ≤ g_K := .inr (Nat.le_refl _)
  have p_q_K : g_K < v0.heap.size ∨ g_K ≤ g_K := .inr (Nat.le_refl _)
  clear hh
  refine (l1Below_pos B g v2 C2.out 10 (by omega) (by omega)).mono ?_
  rintro e v3 ⟨r, rfl, ⟨r0, r1⟩, hcu, hgr⟩
  have KR3 := Lib.hid (KR2.out.grown hgr c_R)
  have KK3 := Lib.hid (KK2.out.grown hgr c_K)
  have Dp3 := Lib.hid (Dp2.out.grown hgr)
  have Dq3 := Lib.hid (Dq2.out.grown hgr)
  have G3 := Lib.hid (grown_tr G2.out hgr)
  have C3 := Lib.hid hcu
  clear hcu hgr KR2 KK2 Dp2 Dq2 G2 C2
  have hr : r = 0 ∨ r = 1 ∨ r = 2 ∨ r = 3 ∨ 4 ≤ r := by omega
  clear r0
  rcases hr with rfl | rfl | rfl | rfl | hr
  · obtain ⟨⟨cR0, cR1, cR2, cR3, cR4, cR5, cR6, cR7, cR8, cR9⟩, dR0, dR1, dR2, dR3, dR4, dR5, dR6, dR7, dR8, dR9⟩ := KR3.out.of10
    obtain ⟨⟨cK0, cK1, cK2, cK3, cK4, cK5, cK6, cK7, cK8, cK9⟩, dK0, dK1, dK2, dK3, dK4, dK5, dK6, dK7, dK8, dK9⟩ := KK3.out.of10
    go_wp2_with fail
    clear cR0 cR1 cR2 cR3 cR4 cR5 cR6 cR7 cR8 cR9 dR0 dR1 dR2 dR3 dR4 dR5 dR6 dR7 dR8 dR9 cK0 cK1 cK2 cK3 cK4 cK5 cK6 cK7 cK8 cK9 dK0 dK1 dK2 dK3 dK4 dK5 dK6 dK7 dK8 dK9
    refine (pickBent B g v3 C3.out).mono ?_
    rintro e v4 ⟨y, rfl, hy, hcu, hgr⟩
    have HY := Lib.hid hy
    clear hy
    have KR4 := Lib.hid (KR3.out.grown hgr c_R)
    have KK4 := Lib.hid (KK3.out.grown hgr c_K)
    have Dp4 := Lib.hid (Dp3.out.grown hgr)
    have Dq4 := Lib.hid (Dq3.out.grown hgr)
    have G4 := Lib.hid (grown_tr G3.out hgr)
    have C4 := Lib.hid hcu
    clear hcu hgr KR3 KK3 Dp3 Dq3 G3 C3
    obtain ⟨⟨cR0, cR1, cR2, cR3, cR4, cR5, cR6, cR7, cR8, cR9⟩, dR0, dR1, dR2, dR3, dR4, dR5, dR6, dR7, dR8, dR9⟩ := KR4.out.of10
    obtain ⟨⟨cK0, cK1, cK2, cK3, cK4, cK5, cK6, cK7, cK8, cK9⟩, dK0, dK1, dK2, dK3, dK4, dK5, dK6, dK7, dK8, dK9⟩ := KK4.out.of10
    go_wp2_with fail
    refine bodyPost_ret (v := .agg #[.int .i64 y, .bool p.u, .int .u64 (n64 p.k), .int .u64 (n64 p.l), .slice p.a p.rs.length p.c, .bool q.u, .int .u64 (n64 q.k), .int .u64 (n64 q.l), .slice q.a q.rs.length q.c, .bool t]) (by simp [results, Tryz.results16, go_sem, cR0, cR1, cR2, cR3, cR4, cR5, cR6, cR7, cR8, cR9]) rfl ⟨y, p, q, t, rfl, HY.out, ((((((((((((Dp4.out.set 0 (.int .i64 y) p_p_K).set _ _ p_p_R).set _ _ p_p_R).set _ _ p_p_R).set _ _ p_p_R).set _ _ p_p_R).set _ _ p_p_R).set _ _ p_p_R).set _ _ p_p_R).set _ _ p_p_R).set _ _ p_p_R)).top hlo, ((((((((((((Dq4.out.set 0 (.int .i64 y) p_q_K).set _ _ p_q_R).set _ _ p_q_R).set _ _ p_q_R).set _ _ p_q_R).set _ _ p_q_R).set _ _ p_q_R).set _ _ p_q_R).set _ _ p_q_R).set _ _ p_q_R).set _ _ p_q_R)).top hlo, ?_, ?_⟩
    · exact (((((((((((C4.out.setOther ⟨g_K, 0, none⟩ (.int .i64 y) b_K c_K).setOther _ _ b_R c_R).setOther _ _ b_R c_R).setOther _ _ b_R c_R).setOther _ _ b_R c_R).setOther _ _ b_R c_R).setOther _ _ b_R c_R).setOther _ _ b_R c_R).setOther _ _ b_R c_R).setOther _ _ b_R c_R).setOther _ _ b_R c_R)
    · exact (grown_setNew (grown_setNew (grown_setNew (grown_setNew (grown_setNew (grown_setNew (grown_setNew (grown_setNew (grown_setNew (grown_setNew (grown_setNew G4.out ⟨g_K, 0, none⟩ (.int .i64 y) l_K) _ _ l_R) _ _ l_R) _ _ l_R) _ _ l_R) _ _ l_R) _ _ l_R) _ _ l_R) _ _ l_R) _ _ l_R) _ _ l_R)
  · obtain ⟨⟨cR0, cR1, cR2, cR3, cR4, cR5, cR6, cR7, cR8, cR9⟩, dR0, dR1, dR2, dR3, dR4, dR5, dR6, dR7, dR8, dR9⟩ := KR3.out.of10
    obtain ⟨⟨cK0, cK1, cK2, cK3, cK4, cK5, cK6, cK7, cK8, cK9⟩, dK0, dK1, dK2, dK3, dK4, dK5, dK6, dK7, dK8, dK9⟩ := KK3.out.of10
    go_wp2_with fail
    refine bodyPost_ret (v := .agg #[.int .i64 x, .bool p.u, .int .u64 (n64 p.k), .int .u64 (n64 p.l), .slice p.a p.rs.length p.c, .bool q.u, .int .u64 (n64 q.k), .int .u64 (n64 q.l), .slice q.a q.rs.length q.c, .bool !t]) (by simp [results, Tryz.results16, go_sem, cR0, cR1, cR2, cR3, cR4, cR5, cR6, cR7, cR8, cR9]) rfl ⟨x, p, q, (!t), rfl, HX.out, ((((((((((((Dp3.out.set 9 (.bool !t) p_p_K).set _ _ p_p_R).set _ _ p_p_R).set _ _ p_p_R).set _ _ p_p_R).set _ _ p_p_R).set _ _ p_p_R).set _ _ p_p_R).set _ _ p_p_R).set _ _ p_p_R).set _ _ p_p_R)).top hlo, ((((((((((((Dq3.out.set 9 (.bool !t) p_q_K).set _ _ p_q_R).set _ _ p_q_R).set _ _ p_q_R).set _ _ p_q_R).set _ _ p_q_R).set _ _ p_q_R).set _ _ p_q_R).set _ _ p_q_R).set _ _ p_q_R).set _ _ p_q_R)).top hlo, ?_, ?_⟩
    · exact (((((((((((C3.out.setOther ⟨g_K, 9, none⟩ (.bool !t) b_K c_K).setOther _ _ b_R c_R).setOther _ _ b_R c_R).setOther _ _ b_R c_R).setOther _ _ b_R c_R).setOther _ _ b_R c_R).setOther _ _ b_R c_R).setOther _ _ b_R c_R).setOther _ _ b_R c_R).setOther _ _ b_R c_R).setOther _ _ b_R c_R)
    · exact (grown_setNew (grown_setNew (grown_setNew (grown_setNew (grown_setNew (grown_setNew (grown_setNew (grown_setNew (grown_setNew (grown_setNew (grown_setNew G3.out ⟨g_K, 9, none⟩ (.bool !t) l_K) _ _ l_R) _ _ l_R) _ _ l_R) _ _ l_R) _ _ l_R) _ _ l_R) _ _ l_R) _ _ l_R) _ _ l_R) _ _ l_R)
  · obtain ⟨⟨cR0, cR1, cR2, cR3, cR4, cR5, cR6, cR7, cR8, cR9⟩, dR0, dR1, dR2, dR3, dR4, dR5, dR6, dR7, dR8, dR9⟩ := KR3.out.of10
    obtain ⟨⟨cK0, cK1, cK2, cK3, cK4, cK5, cK6, cK7, cK8, cK9⟩, dK0, dK1, dK2, dK3, dK4, dK5, dK6, dK7, dK8, dK9⟩ := KK3.out.of10
    go_wp2_with fail
    clear cR0 cR1 cR2 cR3 cR4 cR5 cR6 cR7 cR8 cR9 dR0 dR1 dR2 dR3 dR4 dR5 dR6 dR7 dR8 dR9 cK0 cK1 cK2 cK3 cK4 cK5 cK6 cK7 cK8 cK9 dK0 dK1 dK2 dK3 dK4 dK5 dK6 dK7 dK8 dK9
    have hlo2 := G3.out.size
    refine (l11Mac_any B g v3 C3.out).mono ?_
    rintro e v4 ⟨u, k, l, a, c, rs, rfl, ht, hcu, hgr⟩
    have KR4 := Lib.hid (KR3.out.grown hgr c_R)
    have KK4 := Lib.hid (KK3.out.grown hgr c_K)
    have Dp4 := Lib.hid (Dp3.out.grown hgr)
    have Dq4 := Lib.hid (Dq3.out.grown hgr)
    have Dm4 := Lib.hid (DrawnM.of_tab (u := u) (k := k) (l := l) ht)
    have p_m_R : g_R < v3.heap.size ∨ v4.heap.size ≤ g_R := .inl KR3.out.lt
    have p_m_K : g_K < v3.heap.size ∨ v4.heap.size ≤ g_K := .inl KK3.out.lt
    have G4 := Lib.hid (grown_tr G3.out hgr)
    have C4 := Lib.hid hcu
    clear hcu hgr KR3 KK3 Dp3 Dq3 ht G3 C3
    obtain ⟨⟨cR0, cR1, cR2, cR3, cR4, cR5, cR6, cR7, cR8, cR9⟩, dR0, dR1, dR2, dR3, dR4, dR5, dR6, dR7, dR8, dR9⟩ := KR4.out.of10
    obtain ⟨⟨cK0, cK1, cK2, cK3, cK4, cK5, cK6, cK7, cK8, cK9⟩, dK0, dK1, dK2, dK3, dK4, dK5, dK6, dK7, dK8, dK9⟩ := KK4.out.of10
    go_wp2_with fail
    refine bodyPost_ret (v := .agg #[.int .i64 x, .bool u, .int .u64 (n64 k), .int .u64 (n64 l), .slice a rs.length c, .bool q.u, .int .u64 (n64 q.k), .int .u64 (n64 q.l), .slice q.a q.rs.length q.c, .bool t]) (by simp [results, Tryz.results16, go_sem, cR0, cR1, cR2, cR3, cR4, cR5, cR6, cR7, cR8, cR9]) rfl ⟨x, ⟨u, k, l, a, c, rs⟩, q, t, rfl, HX.out, (((((((((((((((Dm4.out.set 1 (.bool u) p_m_K).set 2 (.int .u64 (n64 k)) p_m_K).set 3 (.int .u64 (n64 l)) p_m_K).set 4 (.slice a rs.length c) p_m_K).set _ _ p_m_R).set _ _ p_m_R).set _ _ p_m_R).set _ _ p_m_R).set _ _ p_m_R).set _ _ p_m_R).set _ _ p_m_R).set _ _ p_m_R).set _ _ p_m_R).set _ _ p_m_R)).top hlo2, (((((((((((((((Dq4.out.set 1 (.bool u) p_q_K).set 2 (.int .u64 (n64 k)) p_q_K).set 3 (.int .u64 (n64 l)) p_q_K).set 4 (.slice a rs.length c) p_q_K).set _ _ p_q_R).set _ _ p_q_R).set _ _ p_q_R).set _ _ p_q_R).set _ _ p_q_R).set _ _ p_q_R).set _ _ p_q_R).set _ _ p_q_R).set _ _ p_q_R).set _ _ p_q_R)).top hlo, ?_, ?_⟩
    · exact ((((((((((((((C4.out.setOther ⟨g_K, 1, none⟩ (.bool u) b_K c_K).setOther ⟨g_K, 2, none⟩ (.int .u64 (n64 k)) b_K c_K).setOther ⟨g_K, 3, none⟩ (.int .u64 (n64 l)) b_K c_K).setOther ⟨g_K, 4, none⟩ (.slice a rs.length c) b_K c_K).setOther _ _ b_R c_R).setOther _ _ b_R c_R).setOther _ _ b_R c_R).setOther _ _ b_R c_R).setOther _ _ b_R c_R).setOther _ _ b_R c_R).setOther _ _ b_R c_R).setOther _ _ b_R c_R).setOther _ _ b_R c_R).setOther _ _ b_R c_R)
    · exact (grown_setNew (grown_setNew (grown_setNew (grown_setNew (grown_setNew (grown_setNew (grown_setNew (grown_setNew (grown_setNew (grown_setNew (grown_setNew (grown_setNew (grown_setNew (grown_setNew G4.out ⟨g_K, 1, none⟩ (.bool u) l_K) ⟨g_K, 2, none⟩ (.int .u64 (n64 k)) l_K) ⟨g_K, 3, none⟩ (.int .u64 (n64 l)) l_K) ⟨g_K, 4, none⟩ (.slice a rs.length c) l_K) _ _ l_R) _ _ l_R) _ _ l_R) _ _ l_R) _ _ l_R) _ _ l_R) _ _ l_R) _ _ l_R) _ _ l_R) _ _ l_R)
  · obtain ⟨⟨cR0, cR1, cR2, cR3, cR4, cR5, cR6, cR7, cR8, cR9⟩, dR0, dR1, dR2, dR3, dR4, dR5, dR6, dR7, dR8, dR9⟩ := KR3.out.of10
    obtain ⟨⟨cK0, cK1, cK2, cK3, cK4, cK5, cK6, cK7, cK8, cK9⟩, dK0, dK1, dK2, dK3, dK4, dK5, dK6, dK7, dK8, dK9⟩ := KK3.out.of10
    go_wp2_with fail
    clear cR0 cR1 cR2 cR3 cR4 cR5 cR6 cR7 cR8 cR9 dR0 dR1 dR2 dR3 dR4 dR5 dR6 dR7 dR8 dR9 cK0 cK1 cK2 cK3 cK4 cK5 cK6 cK7 cK8 cK9 dK0 dK1 dK2 dK3 dK4 dK5 dK6 dK7 dK8 dK9
    have hlo2 := G3.out.size
    refine (l11Mac_any B g v3 C3.out).mono ?_
    rintro e v4 ⟨u, k, l, a, c, rs, rfl, ht, hcu, hgr⟩
    have KR4 := Lib.hid (KR3.out.grown hgr c_R)
    have KK4 := Lib.hid (KK3.out.grown hgr c_K)
    have Dp4 := Lib.hid (Dp3.out.grown hgr)
    have Dq4 := Lib.hid (Dq3.out.grown hgr)
    have Dm4 := Lib.hid (DrawnM.of_tab (u := u) (k := k) (l := l) ht)
    have p_m_R : g_R < v3.heap.size ∨ v4.heap.size ≤ g_R := .inl KR3.out.lt
    have p_m_K : g_K < v3.heap.size ∨ v4.heap.size ≤ g_K := .inl KK3.out.lt
    have G4 := Lib.hid (grown_tr G3.out hgr)
    have C4 := Lib.hid hcu
    clear hcu hgr KR3 KK3 Dp3 Dq3 ht G3 C3
    obtain ⟨⟨cR0, cR1, cR2, cR3, cR4, cR5, cR6, cR7, cR8, cR9⟩, dR0, dR1, dR2, dR3, dR4, dR5, dR6, dR7, dR8, dR9⟩ := KR4.out.of10
    obtain ⟨⟨cK0, cK1, cK2, cK3, cK4, cK5, cK6, cK7, cK8, cK9⟩, dK0, dK1, dK2, dK3, dK4, dK5, dK6, dK7, dK8, dK9⟩ := KK4.out.of10
    go_wp2_with fail
    refine bodyPost_ret (v := .agg #[.int .i64 x, .bool p.u, .int .u64 (n64 p.k), .int .u64 (n64 p.l), .slice p.a p.rs.length p.c, .bool u, .int .u64 (n64 k), .int .u64 (n64 l), .slice a rs.length c, .bool t]) (by simp [results, Tryz.results16, go_sem, cR0, cR1, cR2, cR3, cR4, cR5, cR6, cR7, cR8, cR9]) rfl ⟨x, p, ⟨u, k, l, a, c, rs⟩, t, rfl, HX.out, (((((((((((((((Dp4.out.set 5 (.bool u) p_p_K).set 6 (.int .u64 (n64 k)) p_p_K).set 7 (.int .u64 (n64 l)) p_p_K).set 8 (.slice a rs.length c) p_p_K).set _ _ p_p_R).set _ _ p_p_R).set _ _ p_p_R).set _ _ p_p_R).set _ _ p_p_R).set _ _ p_p_R).set _ _ p_p_R).set _ _ p_p_R).set _ _ p_p_R).set _ _ p_p_R)).top hlo, (((((((((((((((Dm4.out.set 5 (.bool u) p_m_K).set 6 (.int .u64 (n64 k)) p_m_K).set 7 (.int .u64 (n64 l)) p_m_K).set 8 (.slice a rs.length c) p_m_K).set _ _ p_m_R).set _ _ p_m_R).set _ _ p_m_R).set _ _ p_m_R).set _ _ p_m_R).set _ _ p_m_R).set _ _ p_m_R).set _ _ p_m_R).set _ _ p_m_R).set _ _ p_m_R)).top hlo2, ?_, ?_⟩
    · exact ((((((((((((((C4.out.setOther ⟨g_K, 5, none⟩ (.bool u) b_K c_K).setOther ⟨g_K, 6, none⟩ (.int .u64 (n64 k)) b_K c_K).setOther ⟨g_K, 7, none⟩ (.int .u64 (n64 l)) b_K c_K).setOther ⟨g_K, 8, none⟩ (.slice a rs.length c) b_K c_K).setOther _ _ b_R c_R).setOther _ _ b_R c_R).setOther _ _ b_R c_R).setOther _ _ b_R c_R).setOther _ _ b_R c_R).setOther _ _ b_R c_R).setOther _ _ b_R c_R).setOther _ _ b_R c_R).setOther _ _ b_R c_R).setOther _ _ b_R c_R)
    · exact (grown_setNew (grown_setNew (grown_setNew (grown_setNew (grown_setNew (grown_setNew (grown_setNew (grown_setNew (grown_setNew (grown_setNew (grown_setNew (grown_setNew (grown_setNew (grown_setNew G4.out ⟨g_K, 5, none⟩ (.bool u) l_K) ⟨g_K, 6, none⟩ (.int .u64 (n64 k)) l_K) ⟨g_K, 7, none⟩ (.int .u64 (n64 l)) l_K) ⟨g_K, 8, none⟩ (.slice a rs.length c) l_K) _ _ l_R) _ _ l_R) _ _ l_R) _ _ l_R) _ _ l_R) _ _ l_R) _ _ l_R) _ _ l_R) _ _ l_R) _ _ l_R)
  · have nr0 : (r == 0) = false := by simp; omega
    have nr1 : (r == 1) = false := by simp; omega
    have nr2 : (r == 2) = false := by simp; omega
    have nr3 : (r == 3) = false := by simp; omega
    obtain ⟨⟨cR0, cR1, cR2, cR3, cR4, cR5, cR6, cR7, cR8, cR9⟩, dR0, dR1, dR2, dR3, dR4, dR5, dR6, dR7, dR8, dR9⟩ := KR3.out.of10
    obtain ⟨⟨cK0, cK1, cK2, cK3, cK4, cK5, cK6, cK7, cK8, cK9⟩, dK0, dK1, dK2, dK3, dK4, dK5, dK6, dK7, dK8, dK9⟩ := KK3.out.of10
    go_wp2_with fail
    refine bodyPost_ret (v := .agg #[.int .i64 x, .bool p.u, .int .u64 (n64 p.k), .int .u64 (n64 p.l), .slice p.a p.rs.length p.c, .bool q.u, .int .u64 (n64 q.k), .int .u64 (n64 q.l), .slice q.a q.rs.length q.c, .bool t]) (by simp [results, Tryz.results16, go_sem, cR0, cR1, cR2, cR3, cR4, cR5, cR6, cR7, cR8, cR9]) rfl ⟨x, p, q, t, rfl, HX.out, (((((((((((Dp3.out.set _ _ p_p_R).set _ _ p_p_R).set _ _ p_p_R).set _ _ p_p_R).set _ _ p_p_R).set _ _ p_p_R).set _ _ p_p_R).set _ _ p_p_R).set _ _ p_p_R).set _ _ p_p_R)).top hlo, (((((((((((Dq3.out.set _ _ p_q_R).set _ _ p_q_R).set _ _ p_q_R).set _ _ p_q_R).set _ _ p_q_R).set _ _ p_q_R).set _ _ p_q_R).set _ _ p_q_R).set _ _ p_q_R).set _ _ p_q_R)).top hlo, ?_, ?_⟩
    · exact ((((((((((C3.out.setOther _ _ b_R c_R).setOther _ _ b_R c_R).setOther _ _ b_R c_R).setOther _ _ b_R c_R).setOther _ _ b_R c_R).setOther _ _ b_R c_R).setOther _ _ b_R c_R).setOther _ _ b_R c_R).setOther _ _ b_R c_R).setOther _ _ b_R c_R)
    · exact (grown_setNew (grown_setNew (grown_setNew (grown_setNew (grown_setNew (grown_setNew (grown_setNew (grown_setNew (grown_setNew (grown_setNew G3.out _ _ l_R) _ _ l_R) _ _ l_R) _ _ l_R) _ _ l_R) _ _ l_R) _ _ l_R) _ _ l_R) _ _ l_R) _ _ l_R)

end Go.Proofs.YtobfgkiccmhgdaaGreat
