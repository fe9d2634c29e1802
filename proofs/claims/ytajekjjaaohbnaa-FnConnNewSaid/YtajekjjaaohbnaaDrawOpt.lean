/- The draws of chapter 8: l8Options, l8Bent, DrawOptionsText. -/
import Derived.Test.YtajekjjaaohbnaaOptOk
import Derived.Test.YtajekjjaaohbnaaCurA
import Derived.Deep.DeepCutAuto
namespace Go.Proofs.Ytajekjjaaohbnaa
open Go.RowKit Go.Lib

def mssCs : Array Value := #[.int .i64 536, .int .i64 1460, .int .i64 1300, .int .i64 64, .int .i64 65535, .int .i64 1]
theorem mssCs_bd : ∀ v ∈ mssCs.toList, ∃ x, v = .int .i64 x ∧ I64 x := by
  intro v hv
  simp only [mssCs, List.mem_cons, List.mem_nil_iff, or_false] at hv
  unfold I64
  rcases hv with rfl | rfl | rfl | rfl | rfl | rfl <;> exact ⟨_, rfl, by decide⟩
theorem pickMss (B g : Nat) (w : World) (hc : CurB w B g) : Calls Try.prog 39 #[.pointer (some ⟨g, 0, none⟩), .slice (some ⟨w.heap.size, 0, none⟩) 6 6] (w.alloc (.cells mssCs 3)) (WholeEnd w B g) :=
  pickNew B g w hc mssCs (by decide) (by decide) mssCs_bd
def scaleCs : Array Value := #[.int .i64 (-2), .int .i64 (-1), .int .i64 14, .int .i64 15]
theorem scaleCs_bd : ∀ v ∈ scaleCs.toList, ∃ x, v = .int .i64 x ∧ I64 x := by
  intro v hv
  simp only [scaleCs, List.mem_cons, List.mem_nil_iff, or_false] at hv
  unfold I64
  rcases hv with rfl | rfl | rfl | rfl <;> exact ⟨_, rfl, by decide⟩
theorem pickScale (B g : Nat) (w : World) (hc : CurB w B g) : Calls Try.prog 39 #[.pointer (some ⟨g, 0, none⟩), .slice (some ⟨w.heap.size, 0, none⟩) 4 4] (w.alloc (.cells scaleCs 3)) (WholeEnd w B g) :=
  pickNew B g w hc scaleCs (by decide) (by decide) scaleCs_bd
/-- What l8Options and l8Bent hand back: an Options value; only the cursor has turned. -/
def OptEnd (w : World) (B g : Nat) (e : Ending) (w' : World) : Prop := ∃ (m c : Int) (k t : Bool) (v u : Int), e = .returned (.agg #[.int .i64 m, .int .i64 c, .bool k, .bool t, .int .i64 v, .int .i64 u]) ∧ CurB w' B g ∧ w.grownBy w' (some g)
/-- What is known behind each 'if' of l8Options: the value's block f, the result's block, the cursor. -/
def OptRel (w : World) (B g f : Nat) (s : Value) (wx : World) : Prop := ∃ (m c : Int) (k t : Bool) (v u : Int), s = .pointer (some ⟨f, 0, none⟩) ∧ Blk wx f [.int .i64 m, .int .i64 c, .bool k, .bool t, .int .i64 v, .int .i64 u] ∧ Blk wx w.heap.size [.int .i64 0, .int .i64 0, .bool false, .bool false, .int .i64 0, .int .i64 0] ∧ CurB wx B g ∧ w.grownBy wx (some g)

set_option maxRecDepth 100000 in
set_option maxHeartbeats 8000000 in
theorem l8Options_any (B g : Nat) (w : World) (hc : CurB w B g) : Calls Try.prog 84 #[.pointer (some ⟨g, 0, none⟩)] w (OptEnd w B g) := by
  have hlt := hc.lt
  have hBg := hc.1
  have C0 := Lib.hid hc
  clear hc
  go_enter Try.func84, Try.ntmps84
  go_wp2_with fail
  refine (noOptionsS _).mono ?_
  rintro e w1 ⟨rfl, hb1⟩
  have K1 := Lib.hid ((Blk.new w [.int .i64 0, .int .i64 0, .bool false, .bool false, .int .i64 0, .int .i64 0] 27).below hb1)
  have C1 := Lib.hid ((C0.out.new (.cells #[.int .i64 0, .int .i64 0, .bool false, .bool false, .int .i64 0, .int .i64 0] 27)).below hb1)
  have G1 := Lib.hid (grown_tr (World.grownBy_alloc w (.cells #[.int .i64 0, .int .i64 0, .bool false, .bool false, .int .i64 0, .int .i64 0] 27) (some g)) (below_any (row := some g) hb1))
  clear hb1 C0
  go_wp2_with fail
  have hr0 : w.heap.size < w1.heap.size := K1.out.lt
  have hgf : g < w1.heap.size := C1.out.lt
  have K2 := Lib.hid (K1.out.alloc (.cells #[.int .i64 0, .int .i64 (-1), .bool false, .bool false, .int .i64 0, .int .i64 0] 27))
  have F2 := Lib.hid (Blk.new w1 [.int .i64 0, .int .i64 (-1), .bool false, .bool false, .int .i64 0, .int .i64 0] 27)
  have C2 := Lib.hid (C1.out.new (.cells #[.int .i64 0, .int .i64 (-1), .bool false, .bool false, .int .i64 0, .int .i64 0] 27))
  have G2 := Lib.hid (grown_new G1.out (.cells #[.int .i64 0, .int .i64 (-1), .bool false, .bool false, .int .i64 0, .int .i64 0] 27))
  clear K1 C1 G1
  generalize w1.alloc (.cells #[.int .i64 0, .int .i64 (-1), .bool false, .bool false, .int .i64 0, .int .i64 0] 27) = w2 at K2 F2 C2 G2 ⊢
  generalize hf : w1.heap.size = f at hr0 F2 hgf ⊢
  clear hf
  have hfg : f ≠ g := Nat.ne_of_gt hgf
  have hrg : w.heap.size ≠ g := Nat.ne_of_gt hlt
  have hwf : w.heap.size ≠ f := Nat.ne_of_lt hr0
  have hwf2 : ¬ f = w.heap.size := fun e => hwf e.symm
  have hfl : w.heap.size ≤ f := Nat.le_of_lt hr0
  have hBf : B ≤ f := by omega
  have hB : B ≤ w.heap.size := by omega
  have hrl : w.heap.size ≤ w.heap.size := Nat.le_refl _
  refine (l1Once_any B g w2 C2.out 3 (by omega) (by omega)).mono ?_
  rintro e w3 ⟨b, rfl, hcu, hgr⟩
  have K3 := Lib.hid (K2.out.grown hgr hrg)
  have F3 := Lib.hid (F2.out.grown hgr hfg)
  have G3 := Lib.hid (grown_tr G2.out hgr)
  have C3 := Lib.hid hcu
  clear hcu hgr K2 F2 G2 C2
  go_upto_if 7 with fail
  go_cut [3] (OptRel w B g f)
  case first =>
    cases b with
    | true =>
      go_wp2_with fail
      go_meet
      case rel => exact ⟨_, _, _, _, _, _, rfl, F3.out, K3.out, C3.out, G3.out⟩
    | false =>
      go_wp2_with fail
      refine (pickMss B g w3 C3.out).mono ?_
      rintro e w4 ⟨x, rfl, _, hcu, hgr⟩
      have K4 := Lib.hid (K3.out.grown hgr hrg)
      have F4 := Lib.hid (F3.out.grown hgr hfg)
      have G4 := Lib.hid (grown_tr G3.out hgr)
      have C4 := Lib.hid hcu
      clear hcu hgr K3 F3 G3 C3
      obtain ⟨⟨c0, c1, c2, c3, c4, c5⟩, f0, f1, f2, f3, f4, f5⟩ := F4.out.of6
      go_wp2_with fail
      go_meet
      case rel => exact ⟨_, _, _, _, _, _, rfl, (F4.out.set 0 (.int .i64 x)), (K4.out.setOther ⟨f, 0, none⟩ (.int .i64 x) hwf), (C4.out.setOther ⟨f, 0, none⟩ (.int .i64 x) hBf hfg), (grown_setNew G4.out ⟨f, 0, none⟩ (.int .i64 x) hfl)⟩
  case rest =>
    obtain ⟨m, c, k, t, v, u, rfl, hF, hK, hC, hG⟩ := hcut
    have F4 := Lib.hid hF
    have K4 := Lib.hid hK
    have C4 := Lib.hid hC
    have G4 := Lib.hid hG
    clear hF hK hC hG
    clear F3 K3 C3 G3
    go_wp2_with fail
    refine (l1Once_any B g wc C4.out 2 (by omega) (by omega)).mono ?_
    rintro e w5 ⟨b2, rfl, hcu, hgr⟩
    have K5 := Lib.hid (K4.out.grown hgr hrg)
    have F5 := Lib.hid (F4.out.grown hgr hfg)
    have G5 := Lib.hid (grown_tr G4.out hgr)
    have C5 := Lib.hid hcu
    clear hcu hgr K4 F4 G4 C4
    go_upto_if 13 with fail
    go_cut [3] (OptRel w B g f)
    case first =>
      cases b2 with
      | false =>
        go_wp2_with fail
        go_meet
        case rel => exact ⟨_, _, _, _, _, _, rfl, F5.out, K5.out, C5.out, G5.out⟩
      | true =>
        go_wp2_with fail
        refine (l1Below_pos B g w5 C5.out 15 (by omega) (by omega)).mono ?_
        rintro e w6 ⟨x, rfl, _, hcu, hgr⟩
        have K6 := Lib.hid (K5.out.grown hgr hrg)
        have F6 := Lib.hid (F5.out.grown hgr hfg)
        have G6 := Lib.hid (grown_tr G5.out hgr)
        have C6 := Lib.hid hcu
        clear hcu hgr K5 F5 G5 C5
        obtain ⟨⟨c0, c1, c2, c3, c4, c5⟩, f0, f1, f2, f3, f4, f5⟩ := F6.out.of6
        go_wp2_with fail
        go_meet
        case rel => exact ⟨_, _, _, _, _, _, rfl, (F6.out.set 1 (.int .i64 x)), (K6.out.setOther ⟨f, 1, none⟩ (.int .i64 x) hwf), (C6.out.setOther ⟨f, 1, none⟩ (.int .i64 x) hBf hfg), (grown_setNew G6.out ⟨f, 1, none⟩ (.int .i64 x) hfl)⟩
    case rest =>
      clear F5 K5 C5 G5
      obtain ⟨m, c, k, t, v, u, rfl, hF, hK, hC, hG⟩ := hcut
      have F5 := Lib.hid hF
      have K5 := Lib.hid hK
      have C5 := Lib.hid hC
      have G5 := Lib.hid hG
      clear hF hK hC hG
      go_wp2_with fail
      refine (l1Once_any B g wc C5.out 2 (by omega) (by omega)).mono ?_
      rintro e w6 ⟨b3, rfl, hcu, hgr⟩
      have K6 := Lib.hid (K5.out.grown hgr hrg)
      have F6 := Lib.hid (F5.out.grown hgr hfg)
      have G6 := Lib.hid (grown_tr G5.out hgr)
      have C6 := Lib.hid hcu
      clear hcu hgr K5 F5 G5 C5
      obtain ⟨⟨c0, c1, c2, c3, c4, c5⟩, f0, f1, f2, f3, f4, f5⟩ := F6.out.of6
      go_wp2_with fail
      have F7 := Lib.hid ((F6.out.set 2 (.bool b3)))
      have K7 := Lib.hid ((K6.out.setOther ⟨f, 2, none⟩ (.bool b3) hwf))
      have C7 := Lib.hid ((C6.out.setOther ⟨f, 2, none⟩ (.bool b3) hBf hfg))
      have G7 := Lib.hid ((grown_setNew G6.out ⟨f, 2, none⟩ (.bool b3) hfl))
      clear F6 K6 C6 G6 c0 c1 c2 c3 c4 c5 f0 f1 f2 f3 f4 f5
      generalize w6.setCell ⟨f, 2, none⟩ (.bool b3) = w7 at F7 K7 C7 G7 ⊢
      refine (l1Once_any B g w7 C7.out 2 (by omega) (by omega)).mono ?_
      rintro e w8 ⟨b4, rfl, hcu, hgr⟩
      have K8 := Lib.hid (K7.out.grown hgr hrg)
      have F8 := Lib.hid (F7.out.grown hgr hfg)
      have G8 := Lib.hid (grown_tr G7.out hgr)
      have C8 := Lib.hid hcu
      clear hcu hgr K7 F7 G7 C7
      have F8 := Lib.hid (show Blk w8 f [.int .i64 m, .int .i64 c, .bool b3, .bool t, .int .i64 v, .int .i64 u] from F8.out)
      cases b4 with
      | false =>
        obtain ⟨⟨d0, d1, d2, d3, d4, d5⟩, e0, e1, e2, e3, e4, e5⟩ := K8.out.of6
        obtain ⟨⟨c0, c1, c2, c3, c4, c5⟩, f0, f1, f2, f3, f4, f5⟩ := F8.out.of6
        go_wp2_with fail
        exact bodyPost_ret (v := .agg #[.int .i64 m, .int .i64 c, .bool b3, .bool t, .int .i64 v, .int .i64 u]) (by simp [results, Try.results84, go_sem, d0, d1, d2, d3, d4, d5]) rfl ⟨_, _, _, _, _, _, rfl, ((((((C8.out.setOther _ _ hB hrg).setOther _ _ hB hrg).setOther _ _ hB hrg).setOther _ _ hB hrg).setOther _ _ hB hrg).setOther _ _ hB hrg), (grown_setNew (grown_setNew (grown_setNew (grown_setNew (grown_setNew (grown_setNew G8.out _ _ hrl) _ _ hrl) _ _ hrl) _ _ hrl) _ _ hrl) _ _ hrl)⟩
      | true =>
        obtain ⟨⟨c0, c1, c2, c3, c4, c5⟩, f0, f1, f2, f3, f4, f5⟩ := F8.out.of6
        go_wp2_with fail
        have F9 := Lib.hid ((F8.out.set 3 (.bool true)))
        have K9 := Lib.hid ((K8.out.setOther ⟨f, 3, none⟩ (.bool true) hwf))
        have C9 := Lib.hid ((C8.out.setOther ⟨f, 3, none⟩ (.bool true) hBf hfg))
        have G9 := Lib.hid ((grown_setNew G8.out ⟨f, 3, none⟩ (.bool true) hfl))
        clear F8 K8 C8 G8 c0 c1 c2 c3 c4 c5 f0 f1 f2 f3 f4 f5
        generalize w8.setCell ⟨f, 3, none⟩ (.bool true) = w9 at F9 K9 C9 G9 ⊢
        refine (l2Deep_any B g w9 C9.out).mono ?_
        rintro e w10 ⟨x, rfl, _, hcu, hgr⟩
        have K10 := Lib.hid (K9.out.grown hgr hrg)
        have F10 := Lib.hid (F9.out.grown hgr hfg)
        have G10 := Lib.hid (grown_tr G9.out hgr)
        have C10 := Lib.hid hcu
        clear hcu hgr K9 F9 G9 C9
        obtain ⟨⟨c0, c1, c2, c3, c4, c5⟩, f0, f1, f2, f3, f4, f5⟩ := F10.out.of6
        go_wp2_with fail
        have F11 := Lib.hid ((F10.out.set 4 (.int .i64 x)))
        have K11 := Lib.hid ((K10.out.setOther ⟨f, 4, none⟩ (.int .i64 x) hwf))
        have C11 := Lib.hid ((C10.out.setOther ⟨f, 4, none⟩ (.int .i64 x) hBf hfg))
        have G11 := Lib.hid ((grown_setNew G10.out ⟨f, 4, none⟩ (.int .i64 x) hfl))
        clear F10 K10 C10 G10 c0 c1 c2 c3 c4 c5 f0 f1 f2 f3 f4 f5
        generalize w10.setCell ⟨f, 4, none⟩ (.int .i64 x) = w11 at F11 K11 C11 G11 ⊢
        refine (l2Deep_any B g w11 C11.out).mono ?_
        rintro e w12 ⟨y, rfl, _, hcu, hgr⟩
        have K12 := Lib.hid (K11.out.grown hgr hrg)
        have F12 := Lib.hid (F11.out.grown hgr hfg)
        have G12 := Lib.hid (grown_tr G11.out hgr)
        have C12 := Lib.hid hcu
        clear hcu hgr K11 F11 G11 C11
        have F12 := Lib.hid (show Blk w12 f [.int .i64 m, .int .i64 c, .bool b3, .bool true, .int .i64 x, .int .i64 u] from F12.out)
        obtain ⟨⟨d0, d1, d2, d3, d4, d5⟩, e0, e1, e2, e3, e4, e5⟩ := K12.out.of6
        obtain ⟨⟨c0, c1, c2, c3, c4, c5⟩, f0, f1, f2, f3, f4, f5⟩ := F12.out.of6
        go_wp2_with fail
        exact bodyPost_ret (v := .agg #[.int .i64 m, .int .i64 c, .bool b3, .bool true, .int .i64 x, .int .i64 y]) (by simp [results, Try.results84, go_sem, d0, d1, d2, d3, d4, d5]) rfl ⟨_, _, _, _, _, _, rfl, (((((((C12.out.setOther ⟨f, 5, none⟩ (.int .i64 y) hBf hfg).setOther _ _ hB hrg).setOther _ _ hB hrg).setOther _ _ hB hrg).setOther _ _ hB hrg).setOther _ _ hB hrg).setOther _ _ hB hrg), (grown_setNew (grown_setNew (grown_setNew (grown_setNew (grown_setNew (grown_setNew (grown_setNew G12.out ⟨f, 5, none⟩ (.int .i64 y) hfl) _ _ hrl) _ _ hrl) _ _ hrl) _ _ hrl) _ _ hrl) _ _ hrl)⟩

set_option maxRecDepth 100000 in
set_option maxHeartbeats 8000000 in
theorem l8Bent_any (B g : Nat) (w : World) (hc : CurB w B g) : Calls Try.prog 38 #[.pointer (some ⟨g, 0, none⟩)] w (OptEnd w B g) := by
  have hlt := hc.lt
  have hBg := hc.1
  have C0 := Lib.hid hc
  clear hc
  go_enter Try.func38, Try.ntmps38
  go_wp2_with fail
  refine (l8Options_any B g _ (C0.out.new (.cells #[.int .i64 0, .int .i64 0, .bool false, .bool false, .int .i64 0, .int .i64 0] 27))).mono ?_
  rintro e w1 ⟨m, c, k, t, v, u, rfl, hcu, hgr⟩
  have K1 := Lib.hid ((Blk.new w [.int .i64 0, .int .i64 0, .bool false, .bool false, .int .i64 0, .int .i64 0] 27).grown hgr (by omega))
  have C1 := Lib.hid hcu
  have G1 := Lib.hid (grown_tr (World.grownBy_alloc w (.cells #[.int .i64 0, .int .i64 0, .bool false, .bool false, .int .i64 0, .int .i64 0] 27) (some g)) hgr)
  clear hcu hgr C0
  go_wp2_with fail
  have hr0 : w.heap.size < w1.heap.size := K1.out.lt
  have hgf : g < w1.heap.size := C1.out.lt
  have K2 := Lib.hid (K1.out.alloc (.cells #[.int .i64 m, .int .i64 c, .bool k, .bool t, .int .i64 v, .int .i64 u] 27))
  have F2 := Lib.hid (Blk.new w1 [.int .i64 m, .int .i64 c, .bool k, .bool t, .int .i64 v, .int .i64 u] 27)
  have C2 := Lib.hid (C1.out.new (.cells #[.int .i64 m, .int .i64 c, .bool k, .bool t, .int .i64 v, .int .i64 u] 27))
  have G2 := Lib.hid (grown_new G1.out (.cells #[.int .i64 m, .int .i64 c, .bool k, .bool t, .int .i64 v, .int .i64 u] 27))
  clear K1 C1 G1
  generalize w1.alloc (.cells #[.int .i64 m, .int .i64 c, .bool k, .bool t, .int .i64 v, .int .i64 u] 27) = w2 at K2 F2 C2 G2 ⊢
  generalize hf : w1.heap.size = f at hr0 F2 hgf ⊢
  clear hf
  have hfg : f ≠ g := Nat.ne_of_gt hgf
  have hrg : w.heap.size ≠ g := Nat.ne_of_gt hlt
  have hwf : w.heap.size ≠ f := Nat.ne_of_lt hr0
  have hwf2 : ¬ f = w.heap.size := fun e => hwf e.symm
  have hfl : w.heap.size ≤ f := Nat.le_of_lt hr0
  have hBf : B ≤ f := by omega
  have hB : B ≤ w.heap.size := by omega
  have hrl : w.heap.size ≤ w.heap.size := Nat.le_refl _
  refine (l1Below_pos B g w2 C2.out 10 (by omega) (by omega)).mono ?_
  rintro e w3 ⟨q, rfl, ⟨q0, q1⟩, hcu, hgr⟩
  have K3 := Lib.hid (K2.out.grown hgr hrg)
  have F3 := Lib.hid (F2.out.grown hgr hfg)
  have G3 := Lib.hid (grown_tr G2.out hgr)
  have C3 := Lib.hid hcu
  clear hcu hgr K2 F2 G2 C2
  have hq : q = 0 ∨ q = 1 ∨ q = 2 ∨ q = 3 ∨ 4 ≤ q := by omega
  clear q0
  rcases hq with rfl | rfl | rfl | rfl | hq
  · go_wp2_with fail
    refine (l2Word_any B g w3 C3.out).mono ?_
    rintro e w4 ⟨x, rfl, _, hcu, hgr⟩
    have K4 := Lib.hid (K3.out.grown hgr hrg)
    have F4 := Lib.hid (F3.out.grown hgr hfg)
    have G4 := Lib.hid (grown_tr G3.out hgr)
    have C4 := Lib.hid hcu
    clear hcu hgr K3 F3 G3 C3
    obtain ⟨⟨d0, d1, d2, d3, d4, d5⟩, e0, e1, e2, e3, e4, e5⟩ := K4.out.of6
    obtain ⟨⟨c0, c1, c2, c3, c4, c5⟩, f0, f1, f2, f3, f4, f5⟩ := F4.out.of6
    go_wp2_with fail
    exact bodyPost_ret (v := .agg #[.int .i64 x, .int .i64 c, .bool k, .bool t, .int .i64 v, .int .i64 u]) (by simp [results, Try.results38, go_sem, d0, d1, d2, d3, d4, d5]) rfl ⟨_, _, _, _, _, _, rfl, (((((((C4.out.setOther ⟨f, 0, none⟩ (.int .i64 x) hBf hfg).setOther _ _ hB hrg).setOther _ _ hB hrg).setOther _ _ hB hrg).setOther _ _ hB hrg).setOther _ _ hB hrg).setOther _ _ hB hrg), (grown_setNew (grown_setNew (grown_setNew (grown_setNew (grown_setNew (grown_setNew (grown_setNew G4.out ⟨f, 0, none⟩ (.int .i64 x) hfl) _ _ hrl) _ _ hrl) _ _ hrl) _ _ hrl) _ _ hrl) _ _ hrl)⟩
  · go_wp2_with fail
    refine (pickScale B g w3 C3.out).mono ?_
    rintro e w4 ⟨x, rfl, _, hcu, hgr⟩
    have K4 := Lib.hid (K3.out.grown hgr hrg)
    have F4 := Lib.hid (F3.out.grown hgr hfg)
    have G4 := Lib.hid (grown_tr G3.out hgr)
    have C4 := Lib.hid hcu
    clear hcu hgr K3 F3 G3 C3
    obtain ⟨⟨d0, d1, d2, d3, d4, d5⟩, e0, e1, e2, e3, e4, e5⟩ := K4.out.of6
    obtain ⟨⟨c0, c1, c2, c3, c4, c5⟩, f0, f1, f2, f3, f4, f5⟩ := F4.out.of6
    go_wp2_with fail
    exact bodyPost_ret (v := .agg #[.int .i64 m, .int .i64 x, .bool k, .bool t, .int .i64 v, .int .i64 u]) (by simp [results, Try.results38, go_sem, d0, d1, d2, d3, d4, d5]) rfl ⟨_, _, _, _, _, _, rfl, (((((((C4.out.setOther ⟨f, 1, none⟩ (.int .i64 x) hBf hfg).setOther _ _ hB hrg).setOther _ _ hB hrg).setOther _ _ hB hrg).setOther _ _ hB hrg).setOther _ _ hB hrg).setOther _ _ hB hrg), (grown_setNew (grown_setNew (grown_setNew (grown_setNew (grown_setNew (grown_setNew (grown_setNew G4.out ⟨f, 1, none⟩ (.int .i64 x) hfl) _ _ hrl) _ _ hrl) _ _ hrl) _ _ hrl) _ _ hrl) _ _ hrl)⟩
  · obtain ⟨⟨d0, d1, d2, d3, d4, d5⟩, e0, e1, e2, e3, e4, e5⟩ := K3.out.of6
    obtain ⟨⟨c0, c1, c2, c3, c4, c5⟩, f0, f1, f2, f3, f4, f5⟩ := F3.out.of6
    go_wp2_with fail
    exact bodyPost_ret (v := .agg #[.int .i64 m, .int .i64 c, .bool k, .bool !t, .int .i64 v, .int .i64 u]) (by simp [results, Try.results38, go_sem, d0, d1, d2, d3, d4, d5]) rfl ⟨_, _, _, _, _, _, rfl, (((((((C3.out.setOther ⟨f, 3, none⟩ (.bool !t) hBf hfg).setOther _ _ hB hrg).setOther _ _ hB hrg).setOther _ _ hB hrg).setOther _ _ hB hrg).setOther _ _ hB hrg).setOther _ _ hB hrg), (grown_setNew (grown_setNew (grown_setNew (grown_setNew (grown_setNew (grown_setNew (grown_setNew G3.out ⟨f, 3, none⟩ (.bool !t) hfl) _ _ hrl) _ _ hrl) _ _ hrl) _ _ hrl) _ _ hrl) _ _ hrl)⟩
  · go_wp2_with fail
    refine (l2Word_any B g w3 C3.out).mono ?_
    rintro e w4 ⟨x, rfl, _, hcu, hgr⟩
    have K4 := Lib.hid (K3.out.grown hgr hrg)
    have F4 := Lib.hid (F3.out.grown hgr hfg)
    have G4 := Lib.hid (grown_tr G3.out hgr)
    have C4 := Lib.hid hcu
    clear hcu hgr K3 F3 G3 C3
    obtain ⟨⟨d0, d1, d2, d3, d4, d5⟩, e0, e1, e2, e3, e4, e5⟩ := K4.out.of6
    obtain ⟨⟨c0, c1, c2, c3, c4, c5⟩, f0, f1, f2, f3, f4, f5⟩ := F4.out.of6
    go_wp2_with fail
    exact bodyPost_ret (v := .agg #[.int .i64 m, .int .i64 c, .bool k, .bool t, .int .i64 x, .int .i64 u]) (by simp [results, Try.results38, go_sem, d0, d1, d2, d3, d4, d5]) rfl ⟨_, _, _, _, _, _, rfl, (((((((C4.out.setOther ⟨f, 4, none⟩ (.int .i64 x) hBf hfg).setOther _ _ hB hrg).setOther _ _ hB hrg).setOther _ _ hB hrg).setOther _ _ hB hrg).setOther _ _ hB hrg).setOther _ _ hB hrg), (grown_setNew (grown_setNew (grown_setNew (grown_setNew (grown_setNew (grown_setNew (grown_setNew G4.out ⟨f, 4, none⟩ (.int .i64 x) hfl) _ _ hrl) _ _ hrl) _ _ hrl) _ _ hrl) _ _ hrl) _ _ hrl)⟩
  · have nq0 : (q == 0) = false := by simp; omega
    have nq1 : (q == 1) = false := by simp; omega
    have nq2 : (q == 2) = false := by simp; omega
    have nq3 : (q == 3) = false := by simp; omega
    clear hq q1
    obtain ⟨⟨d0, d1, d2, d3, d4, d5⟩, e0, e1, e2, e3, e4, e5⟩ := K3.out.of6
    obtain ⟨⟨c0, c1, c2, c3, c4, c5⟩, f0, f1, f2, f3, f4, f5⟩ := F3.out.of6
    go_wp2_with fail
    exact bodyPost_ret (v := .agg #[.int .i64 m, .int .i64 c, .bool k, .bool t, .int .i64 v, .int .i64 u]) (by simp [results, Try.results38, go_sem, d0, d1, d2, d3, d4, d5]) rfl ⟨_, _, _, _, _, _, rfl, ((((((C3.out.setOther _ _ hB hrg).setOther _ _ hB hrg).setOther _ _ hB hrg).setOther _ _ hB hrg).setOther _ _ hB hrg).setOther _ _ hB hrg), (grown_setNew (grown_setNew (grown_setNew (grown_setNew (grown_setNew (grown_setNew G3.out _ _ hrl) _ _ hrl) _ _ hrl) _ _ hrl) _ _ hrl) _ _ hrl)⟩

end Go.Proofs.Ytajekjjaaohbnaa
