/- The draw of a bent sender: l17Bent. Nothing here is a claim. -/
import Derived.Test.YtkigkfedkjnkeaaDraw17
import Derived.Test.YtkigkfedkjnkeaaDrawWordA
import Derived.Test.YtkigkfedkjnkeaaPickNew
import Derived.Test.YtkigkfedkjnkeaaLong
namespace Go.Proofs.Ytkigkfedkjnkeaa
open Go.RowKit Go.Lib

/-- A drawn sender, perhaps bent; only the cursor has turned. -/
def SndBent (w : World) (B g : Nat) (e : Ending) (w' : World) : Prop :=
  ∃ (u : Int) (d : ByteArray) (t : Int) (b1 b2 b3 : Bool), e = .returned (.agg #[.int .i64 u, .string d, .int .i64 t, .bool b1, .bool b2, .bool b3]) ∧ d.size ≤ 49 ∧ CurB w' B g ∧ w.grownBy w' (some g)
theorem pickSent (B g : Nat) (w : World) (hc : CurB w B g) (n : Int) (h0 : 0 ≤ n) (h1 : n ≤ 100) : Calls Try.prog 52 #[.pointer (some ⟨g, 0, none⟩), .slice (some ⟨w.heap.size, 0, none⟩) 5 5] (w.alloc (.cells #[.int .i64 (-1), .int .i64 0, .int .i64 48, .int .i64 49, .int .i64 (n + 1)] 3)) (WholeEnd w B g) :=
  pickNew B g w hc #[.int .i64 (-1), .int .i64 0, .int .i64 48, .int .i64 49, .int .i64 (n + 1)] (by simp) (by simp) (by
    intro v hv
    simp only [List.mem_cons, List.mem_nil_iff, or_false] at hv
    unfold I64
    rcases hv with rfl | rfl | rfl | rfl | rfl <;> exact ⟨_, rfl, by omega⟩)

set_option maxRecDepth 100000 in
set_option maxHeartbeats 8000000 in
theorem l17Bent_any (B g : Nat) (w : World) (hc : CurB w B g) : Calls Try.prog 43 #[.pointer (some ⟨g, 0, none⟩)] w (SndBent w B g) := by
  go_enter Try.func43, Try.ntmps43
  have hlt := hc.lt
  have hBg := hc.1
  have C0 := Lib.hid (show CurB (w.alloc (.cells #[.int .i64 0, .string ⟨#[]⟩, .int .i64 0, .bool false, .bool false, .bool false] 25)) B g from (hc.new (.cells #[.int .i64 0, .string ⟨#[]⟩, .int .i64 0, .bool false, .bool false, .bool false] 25)))
  have G0 := Lib.hid (show w.grownBy (w.alloc (.cells #[.int .i64 0, .string ⟨#[]⟩, .int .i64 0, .bool false, .bool false, .bool false] 25)) (some g) from (grown_new (World.grownBy.refl w (some g)) (.cells #[.int .i64 0, .string ⟨#[]⟩, .int .i64 0, .bool false, .bool false, .bool false] 25)))
  clear hc
  have KR0 := Lib.hid (show Blk (w.alloc (.cells #[.int .i64 0, .string ⟨#[]⟩, .int .i64 0, .bool false, .bool false, .bool false] 25)) (w.heap.size) [.int .i64 0, .string ⟨#[]⟩, .int .i64 0, .bool false, .bool false, .bool false] from ((Blk.new w [.int .i64 0, .string ⟨#[]⟩, .int .i64 0, .bool false, .bool false, .bool false] 25)))
  go_upto_region 1 with fail
  generalize w.alloc (.cells #[.int .i64 0, .string ⟨#[]⟩, .int .i64 0, .bool false, .bool false, .bool false] 25) = v0 at C0 G0 KR0 ⊢
  generalize hh_R : w.heap.size = g_R at KR0 ⊢
  have l_R : w.heap.size ≤ g_R := by omega
  have b_R : B ≤ g_R := by omega
  have c_R : g_R ≠ g := by omega
  clear hh_R
  go_wp2_with fail
  refine (l17Sender_any B g v0 C0.out).mono ?_
  rintro e v1 ⟨u, d, t, b1, b2, b3, rfl, hsb, hcu, hgr⟩
  have hd := hsb.1
  simp only at hd
  clear hsb
  have KR1 := Lib.hid (KR0.out.grown hgr c_R)
  have G1 := Lib.hid (grown_tr G0.out hgr)
  have C1 := Lib.hid hcu
  clear hcu hgr KR0 G0 C0
  have KR2 := Lib.hid (KR1.out.alloc (.cells #[.int .i64 u, .string d, .int .i64 t, .bool b1, .bool b2, .bool b3] 25))
  have n_R_K : g_R ≠ v1.heap.size := by have h1 := KR1.out.lt; omega
  have KK2 := Lib.hid (Blk.new v1 [.int .i64 u, .string d, .int .i64 t, .bool b1, .bool b2, .bool b3] 25)
  have G2 := Lib.hid (grown_new G1.out (.cells #[.int .i64 u, .string d, .int .i64 t, .bool b1, .bool b2, .bool b3] 25))
  have C2 := Lib.hid (C1.out.new (.cells #[.int .i64 u, .string d, .int .i64 t, .bool b1, .bool b2, .bool b3] 25))
  have l_K : w.heap.size ≤ v1.heap.size := G1.out.size
  have c_K : v1.heap.size ≠ g := Nat.ne_of_gt C1.out.lt
  have b_K : B ≤ v1.heap.size := by have h1 := C1.out.lt; omega
  clear KR1 G1 C1
  obtain ⟨⟨cR0, cR1, cR2, cR3, cR4, cR5⟩, dR0, dR1, dR2, dR3, dR4, dR5⟩ := KR2.out.of6
  obtain ⟨⟨cK0, cK1, cK2, cK3, cK4, cK5⟩, dK0, dK1, dK2, dK3, dK4, dK5⟩ := KK2.out.of6
  go_wp2_with fail
  clear cR0 cR1 cR2 cR3 cR4 cR5 dR0 dR1 dR2 dR3 dR4 dR5 cK0 cK1 cK2 cK3 cK4 cK5 dK0 dK1 dK2 dK3 dK4 dK5
  generalize v1.alloc (.cells #[.int .i64 u, .string d, .int .i64 t, .bool b1, .bool b2, .bool b3] 25) = v2 at KR2 KK2 C2 G2 ⊢
  generalize hh : v1.heap.size = g_K at KK2 l_K c_K b_K n_R_K  ⊢
  clear hh
  refine (l1Below_pos B g v2 C2.out 10 (by omega) (by omega)).mono ?_
  rintro e v3 ⟨s, rfl, hs, hcu, hgr⟩
  have KR3 := Lib.hid (KR2.out.grown hgr c_R)
  have KK3 := Lib.hid (KK2.out.grown hgr c_K)
  have G3 := Lib.hid (grown_tr G2.out hgr)
  have C3 := Lib.hid hcu
  clear hcu hgr KR2 KK2 G2 C2
  by_cases h0 : s = 0
  case pos =>
    subst h0
    obtain ⟨⟨cR0, cR1, cR2, cR3, cR4, cR5⟩, dR0, dR1, dR2, dR3, dR4, dR5⟩ := KR3.out.of6
    obtain ⟨⟨cK0, cK1, cK2, cK3, cK4, cK5⟩, dK0, dK1, dK2, dK3, dK4, dK5⟩ := KK3.out.of6
    go_wp2_with fail
    clear cR0 cR1 cR2 cR3 cR4 cR5 dR0 dR1 dR2 dR3 dR4 dR5 cK0 cK1 cK2 cK3 cK4 cK5 dK0 dK1 dK2 dK3 dK4 dK5
    refine (l2Word_any B g v3 C3.out).mono ?_
    rintro e v4 ⟨x, rfl, hx, hcu, hgr⟩
    clear hx
    have KR4 := Lib.hid (KR3.out.grown hgr c_R)
    have KK4 := Lib.hid (KK3.out.grown hgr c_K)
    have G4 := Lib.hid (grown_tr G3.out hgr)
    have C4 := Lib.hid hcu
    clear hcu hgr KR3 KK3 G3 C3
    obtain ⟨⟨cR0, cR1, cR2, cR3, cR4, cR5⟩, dR0, dR1, dR2, dR3, dR4, dR5⟩ := KR4.out.of6
    obtain ⟨⟨cK0, cK1, cK2, cK3, cK4, cK5⟩, dK0, dK1, dK2, dK3, dK4, dK5⟩ := KK4.out.of6
    go_wp2_with fail
    exact bodyPost_ret (v := .agg #[.int .i64 x, .string d, .int .i64 t, .bool b1, .bool b2, .bool b3]) (by simp [results, Try.results43, go_sem, cR0, cR1, cR2, cR3, cR4, cR5]) rfl ⟨x, d, t, b1, b2, b3, rfl, by omega, (((((((C4.out.setOther _ _ b_K c_K).setOther _ _ b_R c_R).setOther _ _ b_R c_R).setOther _ _ b_R c_R).setOther _ _ b_R c_R).setOther _ _ b_R c_R).setOther _ _ b_R c_R), (grown_setNew (grown_setNew (grown_setNew (grown_setNew (grown_setNew (grown_setNew (grown_setNew G4.out _ _ l_K) _ _ l_R) _ _ l_R) _ _ l_R) _ _ l_R) _ _ l_R) _ _ l_R)⟩
  have h0' : (s == 0) = false := by simp [h0]
  by_cases h1 : s = 1
  case pos =>
    subst h1
    obtain ⟨⟨cR0, cR1, cR2, cR3, cR4, cR5⟩, dR0, dR1, dR2, dR3, dR4, dR5⟩ := KR3.out.of6
    obtain ⟨⟨cK0, cK1, cK2, cK3, cK4, cK5⟩, dK0, dK1, dK2, dK3, dK4, dK5⟩ := KK3.out.of6
    go_wp2_with fail
    clear cR0 cR1 cR2 cR3 cR4 cR5 dR0 dR1 dR2 dR3 dR4 dR5 cK0 cK1 cK2 cK3 cK4 cK5 dK0 dK1 dK2 dK3 dK4 dK5
    refine (pickSent B g v3 C3.out d.size (by omega) (by omega)).mono ?_
    rintro e v4 ⟨x, rfl, hx, hcu, hgr⟩
    clear hx
    have KR4 := Lib.hid (KR3.out.grown hgr c_R)
    have KK4 := Lib.hid (KK3.out.grown hgr c_K)
    have G4 := Lib.hid (grown_tr G3.out hgr)
    have C4 := Lib.hid hcu
    clear hcu hgr KR3 KK3 G3 C3
    obtain ⟨⟨cR0, cR1, cR2, cR3, cR4, cR5⟩, dR0, dR1, dR2, dR3, dR4, dR5⟩ := KR4.out.of6
    obtain ⟨⟨cK0, cK1, cK2, cK3, cK4, cK5⟩, dK0, dK1, dK2, dK3, dK4, dK5⟩ := KK4.out.of6
    go_wp2_with fail
    exact bodyPost_ret (v := .agg #[.int .i64 u, .string d, .int .i64 x, .bool b1, .bool b2, .bool b3]) (by simp [results, Try.results43, go_sem, cR0, cR1, cR2, cR3, cR4, cR5]) rfl ⟨u, d, x, b1, b2, b3, rfl, by omega, (((((((C4.out.setOther _ _ b_K c_K).setOther _ _ b_R c_R).setOther _ _ b_R c_R).setOther _ _ b_R c_R).setOther _ _ b_R c_R).setOther _ _ b_R c_R).setOther _ _ b_R c_R), (grown_setNew (grown_setNew (grown_setNew (grown_setNew (grown_setNew (grown_setNew (grown_setNew G4.out _ _ l_K) _ _ l_R) _ _ l_R) _ _ l_R) _ _ l_R) _ _ l_R) _ _ l_R)⟩
  have h1' : (s == 1) = false := by simp [h1]
  by_cases h2 : s = 2
  case pos =>
    subst h2
    obtain ⟨⟨cR0, cR1, cR2, cR3, cR4, cR5⟩, dR0, dR1, dR2, dR3, dR4, dR5⟩ := KR3.out.of6
    obtain ⟨⟨cK0, cK1, cK2, cK3, cK4, cK5⟩, dK0, dK1, dK2, dK3, dK4, dK5⟩ := KK3.out.of6
    go_wp2_with fail
    exact bodyPost_ret (v := .agg #[.int .i64 u, .string d, .int .i64 t, .bool b1, .bool (!b2), .bool b3]) (by simp [results, Try.results43, go_sem, cR0, cR1, cR2, cR3, cR4, cR5]) rfl ⟨u, d, t, b1, (!b2), b3, rfl, by omega, (((((((C3.out.setOther _ _ b_K c_K).setOther _ _ b_R c_R).setOther _ _ b_R c_R).setOther _ _ b_R c_R).setOther _ _ b_R c_R).setOther _ _ b_R c_R).setOther _ _ b_R c_R), (grown_setNew (grown_setNew (grown_setNew (grown_setNew (grown_setNew (grown_setNew (grown_setNew G3.out _ _ l_K) _ _ l_R) _ _ l_R) _ _ l_R) _ _ l_R) _ _ l_R) _ _ l_R)⟩
  have h2' : (s == 2) = false := by simp [h2]
  by_cases h3 : s = 3
  case pos =>
    subst h3
    obtain ⟨⟨cR0, cR1, cR2, cR3, cR4, cR5⟩, dR0, dR1, dR2, dR3, dR4, dR5⟩ := KR3.out.of6
    obtain ⟨⟨cK0, cK1, cK2, cK3, cK4, cK5⟩, dK0, dK1, dK2, dK3, dK4, dK5⟩ := KK3.out.of6
    go_wp2_with fail
    exact bodyPost_ret (v := .agg #[.int .i64 u, .string d, .int .i64 t, .bool b1, .bool b2, .bool (!b3)]) (by simp [results, Try.results43, go_sem, cR0, cR1, cR2, cR3, cR4, cR5]) rfl ⟨u, d, t, b1, b2, (!b3), rfl, by omega, (((((((C3.out.setOther _ _ b_K c_K).setOther _ _ b_R c_R).setOther _ _ b_R c_R).setOther _ _ b_R c_R).setOther _ _ b_R c_R).setOther _ _ b_R c_R).setOther _ _ b_R c_R), (grown_setNew (grown_setNew (grown_setNew (grown_setNew (grown_setNew (grown_setNew (grown_setNew G3.out _ _ l_K) _ _ l_R) _ _ l_R) _ _ l_R) _ _ l_R) _ _ l_R) _ _ l_R)⟩
  have h3' : (s == 3) = false := by simp [h3]
  by_cases h4 : s = 4
  case pos =>
    subst h4
    obtain ⟨⟨cR0, cR1, cR2, cR3, cR4, cR5⟩, dR0, dR1, dR2, dR3, dR4, dR5⟩ := KR3.out.of6
    obtain ⟨⟨cK0, cK1, cK2, cK3, cK4, cK5⟩, dK0, dK1, dK2, dK3, dK4, dK5⟩ := KK3.out.of6
    go_wp2_with fail
    clear cR0 cR1 cR2 cR3 cR4 cR5 dR0 dR1 dR2 dR3 dR4 dR5 cK0 cK1 cK2 cK3 cK4 cK5 dK0 dK1 dK2 dK3 dK4 dK5
    refine (l1Below_pos B g v3 C3.out 3 (by omega) (by omega)).mono ?_
    rintro e v4 ⟨q, rfl, hq, hcu, hgr⟩
    obtain ⟨m, rfl⟩ : ∃ n : Nat, q = (n : Int) := ⟨q.toNat, by omega⟩
    have hqw : IntKind.i64.wrap (47 + (m : Int)) = ((47 + m : Nat) : Int) := by rw [IntWalk.i64_in _ (by omega)]; omega
    have KR4 := Lib.hid (KR3.out.grown hgr c_R)
    have KK4 := Lib.hid (KK3.out.grown hgr c_K)
    have G4 := Lib.hid (grown_tr G3.out hgr)
    have C4 := Lib.hid hcu
    clear hcu hgr KR3 KK3 G3 C3
    obtain ⟨⟨cR0, cR1, cR2, cR3, cR4, cR5⟩, dR0, dR1, dR2, dR3, dR4, dR5⟩ := KR4.out.of6
    obtain ⟨⟨cK0, cK1, cK2, cK3, cK4, cK5⟩, dK0, dK1, dK2, dK3, dK4, dK5⟩ := KK4.out.of6
    go_wp2_with fail
    clear cR0 cR1 cR2 cR3 cR4 cR5 dR0 dR1 dR2 dR3 dR4 dR5 cK0 cK1 cK2 cK3 cK4 cK5 dK0 dK1 dK2 dK3 dK4 dK5
    refine (l5Long_any (47 + m) (by omega) _).mono ?_
    rintro e v5 ⟨x, rfl, hz, hb⟩
    have KR5 := Lib.hid (KR4.out.below hb)
    have KK5 := Lib.hid (KK4.out.below hb)
    have G5 := Lib.hid (grown_tr G4.out (below_any hb))
    have C5 := Lib.hid (C4.out.below hb)
    clear hb KR4 KK4 G4 C4
    clear hqw
    obtain ⟨⟨cR0, cR1, cR2, cR3, cR4, cR5⟩, dR0, dR1, dR2, dR3, dR4, dR5⟩ := KR5.out.of6
    obtain ⟨⟨cK0, cK1, cK2, cK3, cK4, cK5⟩, dK0, dK1, dK2, dK3, dK4, dK5⟩ := KK5.out.of6
    go_wp2_with fail
    exact bodyPost_ret (v := .agg #[.int .i64 u, .string x, .int .i64 t, .bool b1, .bool b2, .bool b3]) (by simp [results, Try.results43, go_sem, cR0, cR1, cR2, cR3, cR4, cR5]) rfl ⟨u, x, t, b1, b2, b3, rfl, by omega, (((((((C5.out.setOther _ _ b_K c_K).setOther _ _ b_R c_R).setOther _ _ b_R c_R).setOther _ _ b_R c_R).setOther _ _ b_R c_R).setOther _ _ b_R c_R).setOther _ _ b_R c_R), (grown_setNew (grown_setNew (grown_setNew (grown_setNew (grown_setNew (grown_setNew (grown_setNew G5.out _ _ l_K) _ _ l_R) _ _ l_R) _ _ l_R) _ _ l_R) _ _ l_R) _ _ l_R)⟩
  have h4' : (s == 4) = false := by simp [h4]
  clear h0 h1 h2 h3 h4
  obtain ⟨⟨cR0, cR1, cR2, cR3, cR4, cR5⟩, dR0, dR1, dR2, dR3, dR4, dR5⟩ := KR3.out.of6
  obtain ⟨⟨cK0, cK1, cK2, cK3, cK4, cK5⟩, dK0, dK1, dK2, dK3, dK4, dK5⟩ := KK3.out.of6
  go_wp2_with fail
  exact bodyPost_ret (v := .agg #[.int .i64 u, .string d, .int .i64 t, .bool b1, .bool b2, .bool b3]) (by simp [results, Try.results43, go_sem, cR0, cR1, cR2, cR3, cR4, cR5]) rfl ⟨u, d, t, b1, b2, b3, rfl, by omega, ((((((C3.out.setOther _ _ b_R c_R).setOther _ _ b_R c_R).setOther _ _ b_R c_R).setOther _ _ b_R c_R).setOther _ _ b_R c_R).setOther _ _ b_R c_R), (grown_setNew (grown_setNew (grown_setNew (grown_setNew (grown_setNew (grown_setNew G3.out _ _ l_R) _ _ l_R) _ _ l_R) _ _ l_R) _ _ l_R) _ _ l_R)⟩
end Go.Proofs.Ytkigkfedkjnkeaa
