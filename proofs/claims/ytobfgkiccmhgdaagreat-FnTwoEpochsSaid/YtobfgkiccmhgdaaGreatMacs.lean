/- A Mac as one word: its fields, where its rows lie; the copies of one, of the model and of the program. Nothing here is a claim. -/
import Derived.Test.YtobfgkiccmhgdaaGreatTabMac
import Derived.Test.YtobfgkiccmhgdaaGreatSameMac
import Derived.Test.YtobfgkiccmhgdaaGreatMacKit
import Derived.Test.YtobfgkiccmhgdaaGreatOpenM
namespace Go.Proofs.YtobfgkiccmhgdaaGreat
open Go.RowKit Go.Lib

/-- A Mac: its fields, its rows' address and capacity, its rows. -/
structure M where
  u : Bool
  k : BitVec 64
  l : BitVec 64
  a : Option Addr
  c : Nat
  rs : List MR
/-- Its rows lie in this world; or it has none, and its slice is nil. -/
def M.On (m : M) (w : World) : Prop := (m.a = none ∧ m.c = 0 ∧ m.rs = []) ∨ ∃ b off, m.a = some ⟨b, off, none⟩ ∧ Row w w.heap.size (some ⟨b, off, none⟩) (mrs m.rs)
/-- Its rows are those of a Go value. -/
def M.Fit (m : M) : Prop := m.rs.length ≤ 1048577 ∧ ∀ r ∈ m.rs, goodM r
theorem M.On.row {m : M} {w : World} (h : m.On w) : Row w w.heap.size m.a (mrs m.rs) := by
  rcases h with ⟨_, _, h⟩ | ⟨b, off, e, h⟩
  · rw [h]; exact Row.nil
  · rw [e]; exact h
theorem M.On.below {m : M} {w w' : World} (h : m.On w) (hb : Below w.heap.size w w') : m.On w' := by
  rcases h with h | ⟨b, off, e, h⟩
  · exact .inl h
  · exact .inr ⟨b, off, e, (h.below hb).mono hb.size⟩
theorem M.On.drew {m : M} {w : World} (h : m.On w) : m.On w.drew := h.below (Below.refl _ _).drew
theorem M.On.alloc {m : M} {w : World} (h : m.On w) (o : Obj) : m.On (w.alloc o) := h.below ((Below.refl _ _).alloc (Nat.le_refl _) o)
noncomputable def M.ok (m : M) : Bool := macOk m.u (n64 m.k) (n64 m.l) m.rs
/-- Whether it is the zero Mac. -/
noncomputable def M.zero (m : M) : Bool := sameM m.u false (n64 m.k) 0 (n64 m.l) 0 m.rs []
noncomputable def M.same (m q : M) : Bool := sameM m.u q.u (n64 m.k) (n64 q.k) (n64 m.l) (n64 q.l) m.rs q.rs
theorem M.zero_ok {m : M} (h : m.zero = true) : m.ok = true := by
  unfold M.zero sameM at h
  simp only [Bool.and_eq_true, beq_iff_eq] at h
  obtain ⟨⟨⟨h1, _⟩, _⟩, h2⟩ := h
  unfold sameR at h2
  have h3 := of_decide_eq_true h2
  unfold M.ok
  rw [h1, macOk_key, h3]
  rfl
/-- The copy that the program makes: new rows, nil where they were nil. -/
def CopyI (m : M) (w : World) (e : Ending) (w' : World) : Prop :=
  ∃ a c, e = .returned (.agg #[.bool m.u, .int .u64 (n64 m.k), .int .u64 (n64 m.l), .slice a m.rs.length c]) ∧ w'.ownsRow w.heap.size 72 2 (.slice a m.rs.length c) m.rs.length (mrs m.rs) ∧ ((m.a = none ∧ a = none ∧ c = 0 ∧ m.rs = []) ∨ ∃ g, a = some ⟨g, 0, none⟩) ∧ Below w.heap.size w w'
/-- The copy that the model makes: new rows. -/
def CopyS (m : M) (w : World) (e : Ending) (w' : World) : Prop :=
  ∃ g c, e = .returned (.agg #[.bool m.u, .int .u64 (n64 m.k), .int .u64 (n64 m.l), .slice (some ⟨g, 0, none⟩) m.rs.length c]) ∧ w'.ownsRow w.heap.size 72 2 (.slice (some ⟨g, 0, none⟩) m.rs.length c) m.rs.length (mrs m.rs) ∧ Below w.heap.size w w'
theorem M.on_own {u : Bool} {k l : BitVec 64} {rs : List MR} {w : World} {B g c : Nat} {e : TypeId} (h : w.ownsRow B e 2 (.slice (some ⟨g, 0, none⟩) rs.length c) rs.length (mrs rs)) : (M.mk u k l (some ⟨g, 0, none⟩) c rs).On w :=
  .inr ⟨g, 0, rfl, Row.ownK h⟩
/-- The same Mac, its rows elsewhere. -/
def M.at (m : M) (a : Option Addr) (c : Nat) : M := ⟨m.u, m.k, m.l, a, c, m.rs⟩
theorem M.on_at {m : M} {w : World} {B g c : Nat} {e : TypeId} (h : w.ownsRow B e 2 (.slice (some ⟨g, 0, none⟩) m.rs.length c) m.rs.length (mrs m.rs)) : (m.at (some ⟨g, 0, none⟩) c).On w :=
  .inr ⟨g, 0, rfl, Row.ownK h⟩
theorem own_set' {w : World} {base size n m c g : Nat} {e : TypeId} {xs : List Value} (h : w.ownsRow base e size (.slice (some ⟨g, 0, none⟩) m c) n xs) {b : Nat} (k : Nat) (u : Value) (hne : b ≠ g) : (w.setCell ⟨b, k, none⟩ u).ownsRow base e size (.slice (some ⟨g, 0, none⟩) m c) n xs :=
  h.kept (row := some b) ⟨rfl, rfl, rfl, by simp, fun j _ hj => Below.heap_setCell w ⟨b, k, none⟩ u j (fun e => hj (by rw [e]))⟩ (.inr (fun e => hne (by simpa [Value.ownBlock] using e.symm)))
theorem own_up {w : World} {base base' size n m c g : Nat} {e : TypeId} {xs : List Value} (h : w.ownsRow base e size (.slice (some ⟨g, 0, none⟩) m c) n xs) (hb : base' ≤ g) : w.ownsRow base' e size (.slice (some ⟨g, 0, none⟩) m c) n xs := by
  refine ⟨h.1, ?_⟩
  rcases h.2 with ⟨h1, _⟩ | ⟨g', cap, cur, h1, h2, h3⟩
  · cases h1
  · have e1 : g = g' := by injection h1 with h1; injection h1 with h1; injection h1
    subst e1
    exact .inr ⟨g, cap, cur, h1, hb, h3⟩

set_option maxRecDepth 100000 in
theorem cloneNil (w : World) : Calls Tryz.prog 45 #[.slice none 0 0] w fun e w' => e = .returned (.slice none 0 0) ∧ w' = w := by
  have hq := Lib.run_eql_slice_nil (P := Tryz.prog) w 25 72 none 0 0 0 0 Tryz.underlying25
  go_enter Tryz.func45, Tryz.ntmps45
  go_wp2_with fail
  go_ret
  exact ⟨rfl, rfl⟩

set_option maxRecDepth 100000 in
set_option maxHeartbeats 2000000 in
theorem copyMacI (m : M) (w : World) (hm : m.On w) (hl : m.rs.length ≤ 1048577) :
    Calls Tryz.prog 26 #[.agg #[.bool m.u, .int .u64 (n64 m.k), .int .u64 (n64 m.l), .slice m.a m.rs.length m.c]] w (CopyI m w) := by
  obtain ⟨m_u, m_k, m_l, m_a, m_c, m_rs⟩ := m
  unfold CopyI
  rcases hm with ⟨e1, e2, e3⟩ | ⟨b, off, e1, hrow⟩
  · dsimp only at e1 e2 e3 ⊢
    subst e1 e2 e3
    simp only [List.length_nil]
    clear hl
    have s1 : (w.alloc (.cells #[.bool m_u, .int .u64 (n64 m_k), .int .u64 (n64 m_l), .slice none 0 0] 27)).heap.size = w.heap.size + 1 := by simp
    have B2 := Lib.hid (show Below w.heap.size w ((w.alloc (.cells #[.bool m_u, .int .u64 (n64 m_k), .int .u64 (n64 m_l), .slice none 0 0] 27)).alloc (.cells #[.bool false, .int .u64 0, .int .u64 0, .slice none 0 0] 27)) from ((Below.refl _ w).alloc (Nat.le_refl _) _).alloc (by simp) _)
    have E1 := Lib.hid (show Blk ((w.alloc (.cells #[.bool m_u, .int .u64 (n64 m_k), .int .u64 (n64 m_l), .slice none 0 0] 27)).alloc (.cells #[.bool false, .int .u64 0, .int .u64 0, .slice none 0 0] 27)) w.heap.size [.bool m_u, .int .u64 (n64 m_k), .int .u64 (n64 m_l), .slice none 0 0] from (Blk.new w [.bool m_u, .int .u64 (n64 m_k), .int .u64 (n64 m_l), .slice none 0 0] 27).alloc _)
    have E2 := Lib.hid (show Blk ((w.alloc (.cells #[.bool m_u, .int .u64 (n64 m_k), .int .u64 (n64 m_l), .slice none 0 0] 27)).alloc (.cells #[.bool false, .int .u64 0, .int .u64 0, .slice none 0 0] 27)) (w.heap.size + 1) [.bool false, .int .u64 0, .int .u64 0, .slice none 0 0] by
      have := Blk.new (w.alloc (.cells #[.bool m_u, .int .u64 (n64 m_k), .int .u64 (n64 m_l), .slice none 0 0] 27)) [.bool false, .int .u64 0, .int .u64 0, .slice none 0 0] 27
      rwa [s1] at this)
    clear s1
    go_enter Tryz.func26, Tryz.ntmps26
    go_wp2_with fail
    generalize (w.alloc (.cells #[.bool m_u, .int .u64 (n64 m_k), .int .u64 (n64 m_l), .slice none 0 0] 27)).alloc (.cells #[.bool false, .int .u64 0, .int .u64 0, .slice none 0 0] 27) = w2 at B2 E1 E2 ⊢
    have hz := B2.out.size
    have hl1 := E1.out.lt
    have hl2 := E2.out.lt
    refine (cloneNil w2).mono ?_
    rintro e w3 ⟨rfl, hw3⟩
    rw [hw3]
    clear hw3
    obtain ⟨⟨c0, c1, c2, c3⟩, f0, f1, f2, f3⟩ := E1.out.four
    obtain ⟨⟨d0, d1, d2, d3⟩, h0, h1, h2, h3⟩ := E2.out.four
    go_wp2_with fail
    refine bodyPost_ret (v := .agg #[.bool m_u, .int .u64 (n64 m_k), .int .u64 (n64 m_l), .slice none 0 0]) (by simp [results, Tryz.results26, go_sem, d0, d1, d2, d3]) rfl ⟨none, 0, rfl, ⟨rfl, .inl ⟨rfl, rfl⟩⟩, .inl (by simp), ?_⟩
    exact ((((B2.out.setCell (by simp <;> omega) _).setCell (by simp) _).setCell (by simp) _).setCell (by simp) _).setCell (by simp) _
  · dsimp only at e1 hrow hl ⊢
    subst e1
    have s1 : (w.alloc (.cells #[.bool m_u, .int .u64 (n64 m_k), .int .u64 (n64 m_l), .slice (some ⟨b, off, none⟩) m_rs.length m_c] 27)).heap.size = w.heap.size + 1 := by simp
    have B2 := Lib.hid (show Below w.heap.size w ((w.alloc (.cells #[.bool m_u, .int .u64 (n64 m_k), .int .u64 (n64 m_l), .slice (some ⟨b, off, none⟩) m_rs.length m_c] 27)).alloc (.cells #[.bool false, .int .u64 0, .int .u64 0, .slice none 0 0] 27)) from ((Below.refl _ w).alloc (Nat.le_refl _) _).alloc (by simp) _)
    have E1 := Lib.hid (show Blk ((w.alloc (.cells #[.bool m_u, .int .u64 (n64 m_k), .int .u64 (n64 m_l), .slice (some ⟨b, off, none⟩) m_rs.length m_c] 27)).alloc (.cells #[.bool false, .int .u64 0, .int .u64 0, .slice none 0 0] 27)) w.heap.size [.bool m_u, .int .u64 (n64 m_k), .int .u64 (n64 m_l), .slice (some ⟨b, off, none⟩) m_rs.length m_c] from (Blk.new w [.bool m_u, .int .u64 (n64 m_k), .int .u64 (n64 m_l), .slice (some ⟨b, off, none⟩) m_rs.length m_c] 27).alloc _)
    have E2 := Lib.hid (show Blk ((w.alloc (.cells #[.bool m_u, .int .u64 (n64 m_k), .int .u64 (n64 m_l), .slice (some ⟨b, off, none⟩) m_rs.length m_c] 27)).alloc (.cells #[.bool false, .int .u64 0, .int .u64 0, .slice none 0 0] 27)) (w.heap.size + 1) [.bool false, .int .u64 0, .int .u64 0, .slice none 0 0] by
      have := Blk.new (w.alloc (.cells #[.bool m_u, .int .u64 (n64 m_k), .int .u64 (n64 m_l), .slice (some ⟨b, off, none⟩) m_rs.length m_c] 27)) [.bool false, .int .u64 0, .int .u64 0, .slice none 0 0] 27
      rwa [s1] at this)
    clear s1
    have R := Lib.hid ((hrow.below B2.out).mono B2.out.size)
    clear hrow
    go_enter Tryz.func26, Tryz.ntmps26
    go_wp2_with fail
    generalize (w.alloc (.cells #[.bool m_u, .int .u64 (n64 m_k), .int .u64 (n64 m_l), .slice (some ⟨b, off, none⟩) m_rs.length m_c] 27)).alloc (.cells #[.bool false, .int .u64 0, .int .u64 0, .slice none 0 0] 27) = w2 at B2 E1 E2 R ⊢
    have hz := B2.out.size
    have hl1 := E1.out.lt
    have hl2 := E2.out.lt
    refine (cloneM b off m_c m_rs w2 R.out hl).mono ?_
    rintro e w3 ⟨g, c', rfl, hown, hb⟩
    have O := Lib.hid hown
    have F1 := Lib.hid (E1.out.below hb)
    have F2 := Lib.hid (E2.out.below hb)
    have B3 := Lib.hid (B2.out.trans (hb.mono B2.out.size))
    clear hown hb B2 E1 E2 R
    obtain ⟨⟨c0, c1, c2, c3⟩, f0, f1, f2, f3⟩ := F1.out.four
    obtain ⟨⟨d0, d1, d2, d3⟩, h0, h1, h2, h3⟩ := F2.out.four
    go_wp2_with fail
    refine bodyPost_ret (v := .agg #[.bool m_u, .int .u64 (n64 m_k), .int .u64 (n64 m_l), .slice (some ⟨g, 0, none⟩) m_rs.length c']) (by simp [results, Tryz.results26, go_sem, d0, d1, d2, d3]) rfl ⟨some ⟨g, 0, none⟩, c', rfl, ?_, .inr ⟨g, rfl⟩, ?_⟩
    · exact own_down (own_set (own_set (own_set (own_set (own_set O.out _ _ hl1 _) _ _ hl2 _) _ _ hl2 _) _ _ hl2 _) _ _ hl2 _) hz
    · exact ((((B3.out.setCell (by simp <;> omega) _).setCell (by simp) _).setCell (by simp) _).setCell (by simp) _).setCell (by simp) _

set_option maxRecDepth 100000 in
set_option maxHeartbeats 2000000 in
theorem copyMacS (m : M) (w : World) (hm : m.On w) (hl : m.rs.length ≤ 1048577) :
    Calls Tryz.prog 34 #[.agg #[.bool m.u, .int .u64 (n64 m.k), .int .u64 (n64 m.l), .slice m.a m.rs.length m.c]] w (CopyS m w) := by
  obtain ⟨i0, hi, hz0, hz1, hz2⟩ := info_parts Tryz.info72
  obtain ⟨m_u, m_k, m_l, m_a, m_c, m_rs⟩ := m
  unfold CopyS
  rcases hm with ⟨e1, e2, e3⟩ | ⟨b, off, e1, hrow⟩
  · dsimp only at e1 e2 e3 ⊢
    subst e1 e2 e3
    simp only [List.length_nil]
    clear hl
    have s1 : (w.alloc (.cells #[.bool m_u, .int .u64 (n64 m_k), .int .u64 (n64 m_l), .slice none 0 0] 27)).heap.size = w.heap.size + 1 := by simp
    have B2 := Lib.hid (show Below w.heap.size w ((w.alloc (.cells #[.bool m_u, .int .u64 (n64 m_k), .int .u64 (n64 m_l), .slice none 0 0] 27)).alloc (.cells #[.bool false, .int .u64 0, .int .u64 0, .slice none 0 0] 27)) from ((Below.refl _ w).alloc (Nat.le_refl _) _).alloc (by simp) _)
    have E1 := Lib.hid (show Blk ((w.alloc (.cells #[.bool m_u, .int .u64 (n64 m_k), .int .u64 (n64 m_l), .slice none 0 0] 27)).alloc (.cells #[.bool false, .int .u64 0, .int .u64 0, .slice none 0 0] 27)) w.heap.size [.bool m_u, .int .u64 (n64 m_k), .int .u64 (n64 m_l), .slice none 0 0] from (Blk.new w [.bool m_u, .int .u64 (n64 m_k), .int .u64 (n64 m_l), .slice none 0 0] 27).alloc _)
    have E2 := Lib.hid (show Blk ((w.alloc (.cells #[.bool m_u, .int .u64 (n64 m_k), .int .u64 (n64 m_l), .slice none 0 0] 27)).alloc (.cells #[.bool false, .int .u64 0, .int .u64 0, .slice none 0 0] 27)) (w.heap.size + 1) [.bool false, .int .u64 0, .int .u64 0, .slice none 0 0] by
      have := Blk.new (w.alloc (.cells #[.bool m_u, .int .u64 (n64 m_k), .int .u64 (n64 m_l), .slice none 0 0] 27)) [.bool false, .int .u64 0, .int .u64 0, .slice none 0 0] 27
      rwa [s1] at this)
    clear s1
    go_enter Tryz.func34, Tryz.ntmps34
    go_upto_region 1 with fail
    generalize (w.alloc (.cells #[.bool m_u, .int .u64 (n64 m_k), .int .u64 (n64 m_l), .slice none 0 0] 27)).alloc (.cells #[.bool false, .int .u64 0, .int .u64 0, .slice none 0 0] 27) = w3 at B2 E1 E2 ⊢
    have hz := B2.out.size
    have hl1 := E1.out.lt
    have hl2 := E2.out.lt
    have E3 := Lib.hid (E1.out.alloc (.cells #[] 72))
    obtain ⟨⟨x0, x1, x2, x3⟩, y0, y1, y2, y3⟩ := E3.out.four
    go_upto_region 2 with fail
    have F1 := Lib.hid (show Blk ((w3.setCell ⟨w.heap.size, 3, none⟩ (.slice (some ⟨w3.heap.size, 0, none⟩) 0 0)).alloc (.cells #[] 72)) w.heap.size [.bool m_u, .int .u64 (n64 m_k), .int .u64 (n64 m_l), .slice (some ⟨w3.heap.size, 0, none⟩) 0 0] from (E1.out.set 3 (.slice (some ⟨w3.heap.size, 0, none⟩) 0 0)).alloc _)
    have F2 := Lib.hid (show Blk ((w3.setCell ⟨w.heap.size, 3, none⟩ (.slice (some ⟨w3.heap.size, 0, none⟩) 0 0)).alloc (.cells #[] 72)) (w.heap.size + 1) [.bool false, .int .u64 0, .int .u64 0, .slice none 0 0] from (E2.out.setOther ⟨w.heap.size, 3, none⟩ (.slice (some ⟨w3.heap.size, 0, none⟩) 0 0) (by show w.heap.size + 1 ≠ w.heap.size; omega)).alloc _)
    have B3 := Lib.hid (show Below w.heap.size w ((w3.setCell ⟨w.heap.size, 3, none⟩ (.slice (some ⟨w3.heap.size, 0, none⟩) 0 0)).alloc (.cells #[] 72)) from (B2.out.setCell (Nat.le_refl _) _).alloc (by simp; omega) _)
    have O := Lib.hid (show (((w3.setCell ⟨w.heap.size, 3, none⟩ (.slice (some ⟨w3.heap.size, 0, none⟩) 0 0)).alloc (.cells #[] 72))).ownsRow w3.heap.size 72 2 (.slice (some ⟨w3.heap.size, 0, none⟩) 0 0) 0 [] by
      have h0 := World.ownsRow_lit (base := w3.heap.size) (e := 72) (size := 2) (w3.setCell ⟨w.heap.size, 3, none⟩ (.slice (some ⟨w3.heap.size, 0, none⟩) 0 0)) #[] 0 (by simp) (Nat.zero_le _) rfl
      simpa using h0)
    clear E1 E2 E3 B2 x0 x1 x2 x3 y0 y1 y2 y3
    generalize w3.heap.size = g at *
    obtain ⟨⟨c0, c1, c2, c3⟩, f0, f1, f2, f3⟩ := F1.out.four
    obtain ⟨⟨d0, d1, d2, d3⟩, h0, h1, h2, h3⟩ := F2.out.four
    go_wp2_with fail
    refine bodyPost_ret (v := .agg #[.bool m_u, .int .u64 (n64 m_k), .int .u64 (n64 m_l), .slice (some ⟨g, 0, none⟩) 0 0]) (by simp [results, Tryz.results34, go_sem, d0, d1, d2, d3]) rfl ⟨g, 0, rfl, ?_, ?_⟩
    · exact own_down (own_set (own_set (own_set (own_set O.out _ _ hl2 _) _ _ hl2 _) _ _ hl2 _) _ _ hl2 _) hz
    · exact (((B3.out.setCell (by simp) _).setCell (by simp) _).setCell (by simp) _).setCell (by simp) _
  · dsimp only at e1 hrow hl ⊢
    subst e1
    have s1 : (w.alloc (.cells #[.bool m_u, .int .u64 (n64 m_k), .int .u64 (n64 m_l), .slice (some ⟨b, off, none⟩) m_rs.length m_c] 27)).heap.size = w.heap.size + 1 := by simp
    have B2 := Lib.hid (show Below w.heap.size w ((w.alloc (.cells #[.bool m_u, .int .u64 (n64 m_k), .int .u64 (n64 m_l), .slice (some ⟨b, off, none⟩) m_rs.length m_c] 27)).alloc (.cells #[.bool false, .int .u64 0, .int .u64 0, .slice none 0 0] 27)) from ((Below.refl _ w).alloc (Nat.le_refl _) _).alloc (by simp) _)
    have E1 := Lib.hid (show Blk ((w.alloc (.cells #[.bool m_u, .int .u64 (n64 m_k), .int .u64 (n64 m_l), .slice (some ⟨b, off, none⟩) m_rs.length m_c] 27)).alloc (.cells #[.bool false, .int .u64 0, .int .u64 0, .slice none 0 0] 27)) w.heap.size [.bool m_u, .int .u64 (n64 m_k), .int .u64 (n64 m_l), .slice (some ⟨b, off, none⟩) m_rs.length m_c] from (Blk.new w [.bool m_u, .int .u64 (n64 m_k), .int .u64 (n64 m_l), .slice (some ⟨b, off, none⟩) m_rs.length m_c] 27).alloc _)
    have E2 := Lib.hid (show Blk ((w.alloc (.cells #[.bool m_u, .int .u64 (n64 m_k), .int .u64 (n64 m_l), .slice (some ⟨b, off, none⟩) m_rs.length m_c] 27)).alloc (.cells #[.bool false, .int .u64 0, .int .u64 0, .slice none 0 0] 27)) (w.heap.size + 1) [.bool false, .int .u64 0, .int .u64 0, .slice none 0 0] by
      have := Blk.new (w.alloc (.cells #[.bool m_u, .int .u64 (n64 m_k), .int .u64 (n64 m_l), .slice (some ⟨b, off, none⟩) m_rs.length m_c] 27)) [.bool false, .int .u64 0, .int .u64 0, .slice none 0 0] 27
      rwa [s1] at this)
    clear s1
    have R := Lib.hid ((hrow.below B2.out).mono B2.out.size)
    clear hrow
    go_enter Tryz.func34, Tryz.ntmps34
    go_upto_region 1 with fail
    generalize (w.alloc (.cells #[.bool m_u, .int .u64 (n64 m_k), .int .u64 (n64 m_l), .slice (some ⟨b, off, none⟩) m_rs.length m_c] 27)).alloc (.cells #[.bool false, .int .u64 0, .int .u64 0, .slice none 0 0] 27) = w3 at B2 E1 E2 R ⊢
    have hz := B2.out.size
    have hl1 := E1.out.lt
    have hl2 := E2.out.lt
    have HR := Lib.hid (row_adr ((R.out.below ((Below.refl _ _).alloc (Nat.le_refl _) (.cells #[] 72))).mono (B' := w3.heap.size) (by simp)))
    have O0 := Lib.hid (World.ownsRow_lit (base := w3.heap.size) (e := 72) (size := 2) w3 #[] 0 (Nat.le_refl _) (Nat.zero_le _) rfl)
    have E3 := Lib.hid (E1.out.alloc (.cells #[] 72))
    obtain ⟨⟨x0, x1, x2, x3⟩, y0, y1, y2, y3⟩ := E3.out.four
    go_wp2_with (at_builtin; refine wpList_append_own _ rfl _ _ 25 rfl w3.heap.size 72 i0 (.agg #[.string ⟨#[]⟩, .int .i64 0]) 2 24 Tryz.underlying25 hi hz0 hz1 hz2 rfl (by decide) (.slice (some ⟨w3.heap.size, 0, none⟩) 0 0) 0 [] rfl O0.out ⟨b, off, none⟩ m_rs.length m_c (mrs m_rs) rfl (mrs_length m_rs) HR.out (mrs_one m_rs) (by unfold maxLen; omega) (by omega) (by simp) ?_; intro v' w1 hown1 hgrow1 hnil1; simp only [Nat.zero_add, List.nil_append] at hown1; obtain ⟨g, c', rfl⟩ := own_shape hown1 (fun e => by have := (hnil1.1 e).1; cases this); have hb := ((Below.refl w3.heap.size w3).alloc (Nat.le_refl _) (.cells #[] 72)).grown hgrow1 (by simp) (fun j e => by cases e; exact Nat.le_refl _); clear hgrow1 hnil1 x0 x1 x2 x3 y0 y1 y2 y3; have F1 := Lib.hid (E1.out.below hb); have F2 := Lib.hid (E2.out.below hb); have B3 := Lib.hid (B2.out.trans (hb.mono B2.out.size)); have O := Lib.hid hown1; clear hb hown1; obtain ⟨⟨c0, c1, c2, c3⟩, f0, f1, f2, f3⟩ := F1.out.four; obtain ⟨⟨d0, d1, d2, d3⟩, h0, h1, h2, h3⟩ := F2.out.four)
    refine bodyPost_ret (v := .agg #[.bool m_u, .int .u64 (n64 m_k), .int .u64 (n64 m_l), .slice (some ⟨g, 0, none⟩) m_rs.length c']) (by simp [results, Tryz.results34, go_sem, d0, d1, d2, d3]) rfl ⟨g, c', rfl, ?_, ?_⟩
    · exact own_down (own_set (own_set (own_set (own_set (own_set O.out _ _ hl1 _) _ _ hl2 _) _ _ hl2 _) _ _ hl2 _) _ _ hl2 _) hz
    · exact ((((B3.out.setCell (by simp <;> omega) _).setCell (by simp) _).setCell (by simp) _).setCell (by simp) _).setCell (by simp) _
end Go.Proofs.YtobfgkiccmhgdaaGreat
