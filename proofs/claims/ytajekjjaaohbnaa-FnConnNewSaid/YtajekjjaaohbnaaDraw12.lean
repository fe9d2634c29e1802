/- The draws of chapter 12: l12Tuple, l12Bent, DrawMacInput. -/
import Derived.Test.YtajekjjaaohbnaaIp6
import Derived.Test.YtajekjjaaohbnaaCurA
namespace Go.Proofs.Ytajekjjaaohbnaa
open Go.RowKit Go.Lib

theorem Blk.of3 {w : World} {g : Nat} {v0 v1 v2 : Value} (h : Blk w g [v0, v1, v2]) : (w.cell? ⟨g, 0, none⟩ = some v0 ∧ w.cell? ⟨g, 1, none⟩ = some v1 ∧ w.cell? ⟨g, 2, none⟩ = some v2) ∧ w.frozen? ⟨g, 0, none⟩ = false ∧ w.frozen? ⟨g, 1, none⟩ = false ∧ w.frozen? ⟨g, 2, none⟩ = false :=
  ⟨⟨h.cell 0 _ rfl, h.cell 1 _ rfl, h.cell 2 _ rfl⟩, h.open 0, h.open 1, h.open 2⟩
def portCs : Array Value := #[.int .i64 40000, .int .i64 40001, .int .i64 40002]
theorem portCs_bd : ∀ v ∈ portCs.toList, ∃ x, v = .int .i64 x ∧ I64 x := by
  intro v hv
  simp only [portCs, List.mem_cons, List.mem_nil_iff, or_false] at hv
  unfold I64
  rcases hv with rfl | rfl | rfl <;> exact ⟨_, rfl, by decide⟩
theorem pickPort (B g : Nat) (w : World) (hc : CurB w B g) : Calls Try.prog 39 #[.pointer (some ⟨g, 0, none⟩), .slice (some ⟨w.heap.size, 0, none⟩) 3 3] (w.alloc (.cells portCs 3)) (WholeEnd w B g) :=
  pickNew B g w hc portCs (by decide) (by decide) portCs_bd
def numCs : Array Value := #[.int .i64 0, .int .i64 1, .int .i64 31, .int .i64 32, .int .i64 4294967295, .int .i64 4294967296, .int .i64 (-1)]
theorem numCs_bd : ∀ v ∈ numCs.toList, ∃ x, v = .int .i64 x ∧ I64 x := by
  intro v hv
  simp only [numCs, List.mem_cons, List.mem_nil_iff, or_false] at hv
  unfold I64
  rcases hv with rfl | rfl | rfl | rfl | rfl | rfl | rfl <;> exact ⟨_, rfl, by decide⟩
theorem pickNum (B g : Nat) (w : World) (hc : CurB w B g) : Calls Try.prog 39 #[.pointer (some ⟨g, 0, none⟩), .slice (some ⟨w.heap.size, 0, none⟩) 7 7] (w.alloc (.cells numCs 3)) (WholeEnd w B g) :=
  pickNew B g w hc numCs (by decide) (by decide) numCs_bd
/-- What l12Tuple and l12Bent hand back: a Tuple; only the cursor has turned. -/
def TupEnd (w : World) (B g : Nat) (e : Ending) (w' : World) : Prop := ∃ (p q r : Int), e = .returned (.agg #[.int .i64 p, .int .i64 q, .int .i64 r]) ∧ (I64 p ∧ I64 q ∧ I64 r) ∧ CurB w' B g ∧ w.grownBy w' (some g)

set_option maxRecDepth 100000 in
set_option maxHeartbeats 2000000 in
theorem l12Tuple_any (B g : Nat) (w : World) (hc : CurB w B g) : Calls Try.prog 78 #[.pointer (some ⟨g, 0, none⟩)] w (TupEnd w B g) := by
  have hlt := hc.lt
  have hBg := hc.1
  have P0 := Lib.hid (l6Ip_any B g (w.alloc (.cells #[.int .i64 0, .int .i64 0, .int .i64 0] 25)) (hc.new _))
  clear hc
  go_enter Try.func78, Try.ntmps78
  go_wp2_with fail
  refine P0.out.mono ?_
  rintro e w1 ⟨p, rfl, hp, hcu, hgr⟩
  have K1 := Lib.hid ((Blk.new w [.int .i64 0, .int .i64 0, .int .i64 0] 25).grown hgr (by omega))
  have G1 := Lib.hid (grown_tr (World.grownBy_alloc w (.cells #[.int .i64 0, .int .i64 0, .int .i64 0] 25) (some g)) hgr)
  have C1 := Lib.hid hcu
  have P := Lib.hid hp
  clear hcu hgr hp P0
  go_wp2_with fail
  refine (pickPort B g w1 C1.out).mono ?_
  rintro e w2 ⟨q, rfl, hq, hcu, hgr⟩
  have K2 := Lib.hid (K1.out.grown hgr (by omega))
  have G2 := Lib.hid (grown_tr G1.out hgr)
  have C2 := Lib.hid hcu
  have Q := Lib.hid hq
  clear hcu hgr hq K1 G1 C1
  have hrg : w.heap.size ≠ g := Nat.ne_of_gt hlt
  have hB : B ≤ w.heap.size := by omega
  have hrl : w.heap.size ≤ w.heap.size := Nat.le_refl _
  obtain ⟨⟨d0, d1, d2⟩, e0, e1, e2⟩ := K2.out.of3
  go_wp2_with fail
  refine bodyPost_ret (v := .agg #[.int .i64 p, .int .i64 q, .int .i64 80]) (by simp [results, Try.results78, go_sem, d0, d1, d2]) rfl ⟨_, _, _, rfl, ⟨P.out, Q.out, by unfold I64; omega⟩, ?_, ?_⟩
  · exact ((C2.out.setOther _ _ hB hrg).setOther _ _ hB hrg).setOther _ _ hB hrg
  · exact grown_setNew (grown_setNew (grown_setNew G2.out _ _ hrl) _ _ hrl) _ _ hrl

set_option maxRecDepth 100000 in
set_option maxHeartbeats 4000000 in
theorem l12Bent_any (B g : Nat) (w : World) (hc : CurB w B g) : Calls Try.prog 36 #[.pointer (some ⟨g, 0, none⟩)] w (TupEnd w B g) := by
  have hlt := hc.lt
  have hBg := hc.1
  have C0 := Lib.hid hc
  clear hc
  go_enter Try.func36, Try.ntmps36
  go_wp2_with fail
  refine (l12Tuple_any B g _ (C0.out.new (.cells #[.int .i64 0, .int .i64 0, .int .i64 0] 25))).mono ?_
  rintro e w1 ⟨p, q, r, rfl, hbd, hcu, hgr⟩
  have BD := Lib.hid hbd
  have K1 := Lib.hid ((Blk.new w [.int .i64 0, .int .i64 0, .int .i64 0] 25).grown hgr (by omega))
  have C1 := Lib.hid hcu
  have G1 := Lib.hid (grown_tr (World.grownBy_alloc w (.cells #[.int .i64 0, .int .i64 0, .int .i64 0] 25) (some g)) hgr)
  clear hcu hgr C0 hbd
  go_wp2_with fail
  have hr0 : w.heap.size < w1.heap.size := K1.out.lt
  have hgf : g < w1.heap.size := C1.out.lt
  have K2 := Lib.hid (K1.out.alloc (.cells #[.int .i64 p, .int .i64 q, .int .i64 r] 25))
  have F2 := Lib.hid (Blk.new w1 [.int .i64 p, .int .i64 q, .int .i64 r] 25)
  have C2 := Lib.hid (C1.out.new (.cells #[.int .i64 p, .int .i64 q, .int .i64 r] 25))
  have G2 := Lib.hid (grown_new G1.out (.cells #[.int .i64 p, .int .i64 q, .int .i64 r] 25))
  clear K1 C1 G1
  generalize w1.alloc (.cells #[.int .i64 p, .int .i64 q, .int .i64 r] 25) = w2 at K2 F2 C2 G2 ⊢
  generalize hf : w1.heap.size = f at hr0 F2 hgf ⊢
  clear hf
  have hfg : f ≠ g := Nat.ne_of_gt hgf
  have hrg : w.heap.size ≠ g := Nat.ne_of_gt hlt
  have hwf : w.heap.size ≠ f := Nat.ne_of_lt hr0
  have hwf2 : ¬ f = w.heap.size := fun e => hwf e.symm
  have hfl : w.heap.size ≤ f := Nat.le_of_lt hr0
  have hBf : B ≤ f := by omega
  have hB : B ≤ w.heap.size := by omega
  have hrl : w.heap.size ≤ w.heap.size := Nat.le_refl _
  refine (l1Below_pos B g w2 C2.out 10 (by omega) (by omega)).mono ?_
  rintro e w3 ⟨z, rfl, ⟨z0, z1⟩, hcu, hgr⟩
  have K3 := Lib.hid (K2.out.grown hgr hrg)
  have F3 := Lib.hid (F2.out.grown hgr hfg)
  have G3 := Lib.hid (grown_tr G2.out hgr)
  have C3 := Lib.hid (hcu)
  clear hcu hgr K2 F2 G2 C2
  have hq : z = 0 ∨ z = 1 ∨ z = 2 ∨ 3 ≤ z := by omega
  clear z0
  rcases hq with rfl | rfl | rfl | hq
  · go_wp2_with fail
    refine (l2Word_any B g w3 C3.out).mono ?_
    rintro e w4 ⟨x, rfl, hx, hcu, hgr⟩
    have X := Lib.hid hx
    have K4 := Lib.hid (K3.out.grown hgr hrg)
    have F4 := Lib.hid (F3.out.grown hgr hfg)
    have G4 := Lib.hid (grown_tr G3.out hgr)
    have C4 := Lib.hid (hcu)
    clear hcu hgr hx K3 F3 G3 C3
    obtain ⟨⟨c0, c1, c2⟩, f0, f1, f2⟩ := F4.out.of3
    obtain ⟨⟨d0, d1, d2⟩, e0, e1, e2⟩ := K4.out.of3
    go_wp2_with fail
    refine bodyPost_ret (v := .agg #[.int .i64 x, .int .i64 q, .int .i64 r]) (by simp [results, Try.results36, go_sem, d0, d1, d2]) rfl ⟨_, _, _, rfl, ⟨X.out, BD.out.2.1, BD.out.2.2⟩, ?_, ?_⟩
    · exact (((C4.out.setOther ⟨f, 0, none⟩ (.int .i64 x) hBf hfg).setOther _ _ hB hrg).setOther _ _ hB hrg).setOther _ _ hB hrg
    · exact grown_setNew (grown_setNew (grown_setNew (grown_setNew G4.out ⟨f, 0, none⟩ (.int .i64 x) hfl) _ _ hrl) _ _ hrl) _ _ hrl
  · go_wp2_with fail
    refine (l2Word_any B g w3 C3.out).mono ?_
    rintro e w4 ⟨x, rfl, hx, hcu, hgr⟩
    have X := Lib.hid hx
    have K4 := Lib.hid (K3.out.grown hgr hrg)
    have F4 := Lib.hid (F3.out.grown hgr hfg)
    have G4 := Lib.hid (grown_tr G3.out hgr)
    have C4 := Lib.hid (hcu)
    clear hcu hgr hx K3 F3 G3 C3
    obtain ⟨⟨c0, c1, c2⟩, f0, f1, f2⟩ := F4.out.of3
    obtain ⟨⟨d0, d1, d2⟩, e0, e1, e2⟩ := K4.out.of3
    go_wp2_with fail
    refine bodyPost_ret (v := .agg #[.int .i64 p, .int .i64 x, .int .i64 r]) (by simp [results, Try.results36, go_sem, d0, d1, d2]) rfl ⟨_, _, _, rfl, ⟨BD.out.1, X.out, BD.out.2.2⟩, ?_, ?_⟩
    · exact (((C4.out.setOther ⟨f, 1, none⟩ (.int .i64 x) hBf hfg).setOther _ _ hB hrg).setOther _ _ hB hrg).setOther _ _ hB hrg
    · exact grown_setNew (grown_setNew (grown_setNew (grown_setNew G4.out ⟨f, 1, none⟩ (.int .i64 x) hfl) _ _ hrl) _ _ hrl) _ _ hrl
  · go_wp2_with fail
    refine (l2Word_any B g w3 C3.out).mono ?_
    rintro e w4 ⟨x, rfl, hx, hcu, hgr⟩
    have X := Lib.hid hx
    have K4 := Lib.hid (K3.out.grown hgr hrg)
    have F4 := Lib.hid (F3.out.grown hgr hfg)
    have G4 := Lib.hid (grown_tr G3.out hgr)
    have C4 := Lib.hid (hcu)
    clear hcu hgr hx K3 F3 G3 C3
    obtain ⟨⟨c0, c1, c2⟩, f0, f1, f2⟩ := F4.out.of3
    obtain ⟨⟨d0, d1, d2⟩, e0, e1, e2⟩ := K4.out.of3
    go_wp2_with fail
    refine bodyPost_ret (v := .agg #[.int .i64 p, .int .i64 q, .int .i64 x]) (by simp [results, Try.results36, go_sem, d0, d1, d2]) rfl ⟨_, _, _, rfl, ⟨BD.out.1, BD.out.2.1, X.out⟩, ?_, ?_⟩
    · exact (((C4.out.setOther ⟨f, 2, none⟩ (.int .i64 x) hBf hfg).setOther _ _ hB hrg).setOther _ _ hB hrg).setOther _ _ hB hrg
    · exact grown_setNew (grown_setNew (grown_setNew (grown_setNew G4.out ⟨f, 2, none⟩ (.int .i64 x) hfl) _ _ hrl) _ _ hrl) _ _ hrl
  · have nq0 : (z == 0) = false := by simp; omega
    have nq1 : (z == 1) = false := by simp; omega
    have nq2 : (z == 2) = false := by simp; omega
    clear hq z1
    obtain ⟨⟨c0, c1, c2⟩, f0, f1, f2⟩ := F3.out.of3
    obtain ⟨⟨d0, d1, d2⟩, e0, e1, e2⟩ := K3.out.of3
    go_wp2_with fail
    refine bodyPost_ret (v := .agg #[.int .i64 p, .int .i64 q, .int .i64 r]) (by simp [results, Try.results36, go_sem, d0, d1, d2]) rfl ⟨_, _, _, rfl, BD.out, ?_, ?_⟩
    · exact ((C3.out.setOther _ _ hB hrg).setOther _ _ hB hrg).setOther _ _ hB hrg
    · exact grown_setNew (grown_setNew (grown_setNew G3.out _ _ hrl) _ _ hrl) _ _ hrl

end Go.Proofs.Ytajekjjaaohbnaa
