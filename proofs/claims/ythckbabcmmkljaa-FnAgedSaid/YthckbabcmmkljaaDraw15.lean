/- The draws' own l15Cache, l15Bent, DrawAged, DrawLearned. Nothing here is a claim. -/
import Derived.Test.YthckbabcmmkljaaEntL
import Derived.Test.YthckbabcmmkljaaCurO
import Derived.Test.YthckbabcmmkljaaPickNew
import Derived.Test.YthckbabcmmkljaaMac5
import Derived.Test.YthckbabcmmkljaaDrawWordA
namespace Go.Proofs.Ythckbabcmmkljaa
open Go.RowKit Go.Lib

/-- An append of structs to a row of the call's own leaves the cursor, and all that was there but the cursor. -/
theorem app_keepsE {w w1 w2 : World} {B g base size : Nat} {e : TypeId} {v : Value} {n : Nat} {xs : List Value} {o : Obj} (hc : CurB w1 B g) (hgb : g < base) (hB : B ≤ base) (hw : base = w.heap.size) (hg1 : w.grownBy w1 (some g)) (hown : w1.ownsRow base e size v n xs) (hg : (w1.alloc o).grownBy w2 v.ownBlock) :
    CurB w2 B g ∧ w.grownBy w2 (some g) := by
  have hlt := hc.lt
  have hv : ∀ k, k < base → some k ≠ v.ownBlock := fun k hk e => by have := (hown.lt k e.symm).1; omega
  have hk : ∀ k, k < w1.heap.size → k < base → w2.heap[k]? = w1.heap[k]? := fun k h1 h2 =>
    (hg.block k (by simp; omega) (hv k h2)).trans (Below.heap_alloc w1 o k h1)
  refine ⟨hc.keep (hk g hlt hgb) ⟨hg.os, hg.tape, hg.output, Nat.le_trans (by simp) hg.size, fun k h => hk k (by have := hc.1; omega) (by omega)⟩, ?_⟩
  exact ⟨hg.os.trans hg1.os, hg.tape.trans hg1.tape, hg.output.trans hg1.output, Nat.le_trans hg1.size (Nat.le_trans (by simp) hg.size), fun k h1 h2 =>
    (hk k (Nat.lt_of_lt_of_le h1 hg1.size) (by omega)).trans (hg1.block k h1 h2)⟩
theorem goodE_of {x y z : Int} (hx : I64 x) (hy : I64 y) (hz : I64 z) : goodE ⟨x, y, z⟩ := ⟨wf_int hx.1 hx.2, wf_int hy.1 hy.2, wf_int hz.1 hz.2⟩
theorem goodE_app {rs : List ER} {q : ER} (h : ∀ r ∈ rs, goodE r) (hq : goodE q) : ∀ r ∈ rs ++ [q], goodE r := fun r hr => by
  rcases List.mem_append.1 hr with h1 | h1
  · exact h r h1
  · rw [List.mem_singleton.1 h1]; exact hq
/-- A drawn cache: new memory, at most six entries; only the cursor has turned. -/
def CacheEnd (w : World) (B g : Nat) (e : Ending) (w' : World) : Prop :=
  ∃ (rs : List ER) (gg cap : Nat), e = .returned (.slice (some ⟨gg, 0, none⟩) rs.length cap) ∧ (rs.length ≤ 6 ∧ ∀ r ∈ rs, goodE r) ∧ w'.ownsRow w.heap.size 49 3 (.slice (some ⟨gg, 0, none⟩) rs.length cap) rs.length (ers rs) ∧ CurB w' B g ∧ w.grownBy w' (some g)

set_option maxRecDepth 100000 in
set_option maxHeartbeats 4000000 in
theorem l15Cache_any (B g : Nat) (w : World) (hc : CurB w B g) : Calls Try.prog 47 #[.pointer (some ⟨g, 0, none⟩)] w (fun e w' => ∃ (rs : List ER) (gg cap : Nat), e = .returned (.slice (some ⟨gg, 0, none⟩) rs.length cap) ∧ (rs.length ≤ 5 ∧ ∀ r ∈ rs, goodE r) ∧ w'.ownsRow w.heap.size 49 3 (.slice (some ⟨gg, 0, none⟩) rs.length cap) rs.length (ers rs) ∧ CurB w' B g ∧ w.grownBy w' (some g)) := by
  have hglt := hc.lt
  have hBg := hc.1
  have C := Lib.hid hc
  clear hc
  go_enter Try.func47, Try.ntmps47
  go_wp2_with fail
  refine (l1Below_pos B g _ (C.out.new _) 6 (by omega) (by omega)).mono ?_
  rintro e w0 ⟨r, rfl, ⟨r0, r1⟩, hc0, hg0⟩
  obtain ⟨n, rfl⟩ : ∃ n : Nat, r = (n : Int) := ⟨r.toNat, by omega⟩
  have hn : n ≤ 5 := by omega
  have O0 := Lib.hid ((World.ownsRow_lit (base := w.heap.size) (e := 49) (size := 3) w #[] 0 (Nat.le_refl _) (Nat.zero_le _) rfl).kept hg0 (.inr (own_ne (by omega))))
  have C0 := Lib.hid hc0
  have G0 := Lib.hid (grown_tr (World.grownBy_alloc w _ _) hg0)
  clear hc0 hg0 r0 r1 C
  go_wp2_with fail
  go_loopw [3, 5] (fun v i wr => ∃ k : Nat, k ≤ n ∧ i = .int .i64 k ∧ ∃ (rs : List ER) (gg cap : Nat), v = .slice (some ⟨gg, 0, none⟩) rs.length cap ∧ Hid (rs.length ≤ k ∧ ∀ r ∈ rs, goodE r) ∧ Hid (wr.ownsRow w.heap.size 49 3 (.slice (some ⟨gg, 0, none⟩) rs.length cap) rs.length (ers rs)) ∧ Hid (CurB wr B g) ∧ Hid (w.grownBy wr (some g)))
    (fun _ i _ => n - (RowKit.intOf i).toNat)
  case atStart => exact ⟨0, Nat.zero_le _, rfl, [], w.heap.size, 0, rfl, ⟨Nat.le_refl _, fun _ h => by cases h⟩, O0, C0, G0⟩
  case round =>
    obtain ⟨k, hk, rfl, rs, gg, cap, rfl, HG, hO, hC, hG⟩ := hrel
    clear O0 C0 G0
    by_cases hlt : k < n
    · have hne : gg ≠ g := by have := (hO.out.lt gg rfl).1; omega
      go_wp2_with fail
      refine (l1Below_pos B g wr hC.out 7 (by omega) (by omega)).mono ?_
      rintro e w1 ⟨p, rfl, hp, hcu, hgr⟩
      have G1 := Lib.hid (grown_tr hG.out hgr)
      have C1 := Lib.hid hcu
      have O1 := Lib.hid (hO.out.kept hgr (.inr (own_ne hne)))
      clear hcu hgr hC hG hO
      have hpw : IntKind.i64.wrap (167772160 + p) = 167772160 + p := IntWalk.i64_in _ (by omega)
      go_wp2_with fail
      refine (l1Below_pos B g w1 C1.out 3 (by omega) (by omega)).mono ?_
      rintro e w2 ⟨q, rfl, hq, hcu, hgr⟩
      have G2 := Lib.hid (grown_tr G1.out hgr)
      have C2 := Lib.hid hcu
      have O2 := Lib.hid (O1.out.kept hgr (.inr (own_ne hne)))
      clear hcu hgr C1 G1 O1
      have hqw : IntKind.i64.wrap (11 + q) = 11 + q := IntWalk.i64_in _ (by omega)
      go_wp2_with fail
      have HL := HG.out.1
      have HC := (own_cap O2.out).1
      have hg1 := Lib.hid (goodE_learn (ip := 167772160 + p) (hw := 11 + q) HG.out.2 (wf_int (by omega) (by omega)) (wf_int (by omega) (by omega)))
      have hl1 := learnE_length rs (167772160 + p) (11 + q)
      refine (learnedN gg 0 cap rs (167772160 + p) (11 + q) w2 (Row.ownK O2.out) (by omega) HC).mono ?_
      rintro e w3 ⟨g3, c3, rfl, ho, hb⟩
      have O3 := Lib.hid (own_down ho G2.out.size)
      have G3 := Lib.hid (grown_tr G2.out (below_any hb))
      have C3 := Lib.hid (C2.out.below hb)
      clear ho hb hne C2 G2 O2
      have hne : g3 ≠ g := by have := (O3.out.lt g3 rfl).1; omega
      generalize learnE rs (167772160 + p) (11 + q) = L at *
      go_wp2_with fail
      refine (l1Once_any B g _ C3.out 2 (by omega) (by omega)).mono ?_
      rintro e w4 ⟨b, rfl, hcu, hgr⟩
      have G4 := Lib.hid (grown_tr G3.out hgr)
      have C4 := Lib.hid hcu
      have O4 := Lib.hid (O3.out.kept hgr (.inr (own_ne hne)))
      clear hcu hgr C3 G3 O3
      cases b with
      | false =>
        go_wp2_with fail
        go_roundw
        case rel => exact ⟨k + 1, by omega, by go_num, L, g3, c3, rfl, ⟨by omega, hg1.out⟩, O4, C4, G4⟩
        case measure => simp [RowKit.intOf]; omega
      | true =>
        go_wp2_with fail
        have hl2 := agedE_length L
        have hg2 := goodE_aged hg1.out
        refine (agedN (some ⟨g3, 0, none⟩) c3 L w4 (Row.ownK O4.out) (by omega) hg1.out).mono ?_
        rintro e w5 ⟨g5, c5, rfl, ho, hb⟩
        have O5 := Lib.hid (own_down ho G4.out.size)
        have G5 := Lib.hid (grown_tr G4.out (below_any hb))
        have C5 := Lib.hid (C4.out.below hb)
        clear ho hb hne C4 G4 O4
        have hne : g5 ≠ g := by have := (O5.out.lt g5 rfl).1; omega
        generalize agedE L = L2 at *
        have hg3 := Lib.hid hg2
        clear hg2
        go_wp2_with fail
        go_roundw
        case rel => exact ⟨k + 1, by omega, by go_num, L2, g5, c5, rfl, ⟨by omega, hg3.out⟩, O5, C5, G5⟩
        case measure => simp [RowKit.intOf]; omega
    · obtain rfl : k = n := by omega
      go_wp2_with fail
      go_ret
      have HL := HG.out.1
      exact ⟨rs, gg, cap, rfl, ⟨by omega, HG.out.2⟩, hO.out, hC.out, hG.out⟩

theorem pickAge (B g : Nat) (w : World) (hc : CurB w B g) : Calls Try.prog 46 #[.pointer (some ⟨g, 0, none⟩), .slice (some ⟨w.heap.size, 0, none⟩) 4 4] (w.alloc (.cells #[.int .i64 0, .int .i64 9, .int .i64 10, .int .i64 (-1)] 3)) (WholeEnd w B g) :=
  pickNew B g w hc #[.int .i64 0, .int .i64 9, .int .i64 10, .int .i64 (-1)] (by simp) (by simp) (by
    intro v hv
    simp only [List.mem_cons, List.mem_nil_iff, or_false] at hv
    unfold I64
    rcases hv with rfl | rfl | rfl | rfl <;> exact ⟨_, rfl, by decide⟩)
def lenOf : Value → Nat
  | .slice _ n _ => n
  | _ => 0
set_option maxRecDepth 100000 in
set_option maxHeartbeats 4000000 in
theorem l15Bent_any (B g : Nat) (w : World) (hc : CurB w B g) : Calls Try.prog 31 #[.pointer (some ⟨g, 0, none⟩)] w (CacheEnd w B g) := by
  obtain ⟨i0, hi, hz0, hz1, hz2⟩ := info_parts Try.info49
  have hglt := hc.lt
  have hBg := hc.1
  have C := Lib.hid (l15Cache_any B g w hc)
  clear hc
  go_enter Try.func31, Try.ntmps31
  go_wp2_with fail
  refine C.out.mono ?_
  rintro e w1 ⟨rs, gg, cap, rfl, hgd, ho, hcu, hgr⟩
  have HG := Lib.hid hgd
  have O1 := Lib.hid ho
  have C1 := Lib.hid hcu
  have G1 := Lib.hid hgr
  have hne : gg ≠ g := by have := (ho.lt gg rfl).1; omega
  clear hgd ho hcu hgr C
  go_wp2_with fail
  refine (l1Below_pos B g w1 C1.out 8 (by omega) (by omega)).mono ?_
  rintro e w2 ⟨r, rfl, hr, hcu, hgr⟩
  have G2 := Lib.hid (grown_tr G1.out hgr)
  have C2 := Lib.hid hcu
  have O2 := Lib.hid (O1.out.kept hgr (.inr (own_ne hne)))
  clear hcu hgr C1 G1 O1
  have HL := HG.out.1
  by_cases h0 : r = 0
  · subst h0
    go_wp2_with fail
    refine (l2Word_any B g w2 C2.out).mono ?_
    rintro e w3 ⟨x, rfl, hx, hcu, hgr⟩
    have G3 := Lib.hid (grown_tr G2.out hgr)
    have C3 := Lib.hid hcu
    have O3 := Lib.hid (O2.out.kept hgr (.inr (own_ne hne)))
    clear hcu hgr C2 G2 O2
    go_wp2_with fail
    refine (l2Word_any B g w3 C3.out).mono ?_
    rintro e w4 ⟨y, rfl, hy, hcu, hgr⟩
    have G4 := Lib.hid (grown_tr G3.out hgr)
    have C4 := Lib.hid hcu
    have O4 := Lib.hid (O3.out.kept hgr (.inr (own_ne hne)))
    clear hcu hgr C3 G3 O3
    go_wp2_with fail
    refine (pickAge B g w4 C4.out).mono ?_
    rintro e w5 ⟨z, rfl, hz, hcu, hgr⟩
    have G5 := Lib.hid (grown_tr G4.out hgr)
    have C5 := Lib.hid hcu
    have O5 := Lib.hid (O4.out.kept hgr (.inr (own_ne hne)))
    clear hcu hgr C4 G4 O4
    have hgo := Lib.hid (goodE_app HG.out.2 (goodE_of hx hy hz))
    clear hx hy hz
    have hsz : w.heap.size ≤ w5.heap.size := G5.out.size
    go_wp2_with (at_builtin; refine wpList_append_lies _ rfl _ _ _ rfl w.heap.size 49 i0 _ 3 24 Try.underlying24 hi hz0 hz1 hz2 rfl (by omega) _ rs.length _ rfl (O5.out.alloc _) ⟨w5.heap.size, 0, none⟩ 1 1 [.int .i64 x, .int .i64 y, .int .i64 z] rfl rfl (World.news_of_block (cs := #[.int .i64 x, .int .i64 y, .int .i64 z]) (t := 49) (fr := (0, 0)) (heap_alloc_new w5 _)) (by simp [Value.oneCell']) (by omega) (by unfold maxLen; omega) (by omega) (by simp; omega) (w5.heap.size + 1) (by simp) ?_; intro gg' cap' w9 hown hgrow hat hlt')
    have hk2 := app_keepsE C5.out hglt (Nat.le_of_lt (Nat.lt_of_le_of_lt hBg hglt)) rfl G5.out O5.out hgrow
    go_ret
    exact ⟨rs ++ [⟨x, y, z⟩], gg', cap', by rw [List.length_append]; rfl, ⟨by rw [List.length_append]; show rs.length + 1 ≤ 6; omega, hgo.out⟩, by rw [List.length_append, ers_append]; exact hown, hk2.1, hk2.2⟩
  have h0' : (r == 0) = false := by simp [h0]
  by_cases h1 : r = 1
  case neg =>
    have h1' : (r == 1) = false := by simp [h1]
    clear h0 h1
    go_wp2_with fail
    go_ret
    exact ⟨rs, gg, cap, rfl, ⟨by omega, HG.out.2⟩, O2.out, C2.out, G2.out⟩
  subst h1
  clear h0 h0' hne
  go_wp2_with fail
  go_loopw [3] (fun v wr => ∃ (rs : List ER) (gg cap : Nat), v = .slice (some ⟨gg, 0, none⟩) rs.length cap ∧ Hid (rs.length ≤ 5 ∧ ∀ r ∈ rs, goodE r) ∧ Hid (wr.ownsRow w.heap.size 49 3 (.slice (some ⟨gg, 0, none⟩) rs.length cap) rs.length (ers rs)) ∧ Hid (CurB wr B g) ∧ Hid (w.grownBy wr (some g))) (fun v _ => 5 - lenOf v)
  case atStart => exact ⟨rs, gg, cap, rfl, HG, O2, C2, G2⟩
  case round =>
    obtain ⟨rs, gg, cap, rfl, HG, hO, hC, hG⟩ := hrel
    clear O2 C2 G2 HL
    have HL := HG.out.1
    have hne : gg ≠ g := by have := (hO.out.lt gg rfl).1; omega
    go_wp2_with fail
    refine (l1Below_pos B g wr hC.out 2 (by omega) (by omega)).mono ?_
    rintro e w3 ⟨t, rfl, ht, hcu, hgr⟩
    have G3 := Lib.hid (grown_tr hG.out hgr)
    have C3 := Lib.hid hcu
    have O3 := Lib.hid (hO.out.kept hgr (.inr (own_ne hne)))
    clear hcu hgr hC hG hO
    have htw : IntKind.i64.wrap (4 + t) = 4 + t := IntWalk.i64_in _ (by omega)
    by_cases hlt : (rs.length : Int) < 4 + t
    case neg =>
      go_wp2_with fail
      go_ret
      exact ⟨rs, gg, cap, rfl, ⟨by omega, HG.out.2⟩, O3.out, C3.out, G3.out⟩
    go_wp2_with fail
    refine (l1Below_pos B g w3 C3.out 10 (by omega) (by omega)).mono ?_
    rintro e w4 ⟨u, rfl, hu, hcu, hgr⟩
    have G4 := Lib.hid (grown_tr G3.out hgr)
    have C4 := Lib.hid hcu
    have O4 := Lib.hid (O3.out.kept hgr (.inr (own_ne hne)))
    clear hcu hgr C3 G3 O3
    have hgo := Lib.hid (goodE_app (q := ⟨(rs.length : Int), 0, u⟩) HG.out.2 (goodE_of ⟨by omega, by omega⟩ ⟨by omega, by omega⟩ ⟨by omega, by omega⟩))
    have hsz : w.heap.size ≤ w4.heap.size := G4.out.size
    go_wp2_with (at_builtin; refine wpList_append_lies _ rfl _ _ _ rfl w.heap.size 49 i0 _ 3 24 Try.underlying24 hi hz0 hz1 hz2 rfl (by omega) _ rs.length _ rfl (O4.out.alloc _) ⟨w4.heap.size, 0, none⟩ 1 1 [.int .i64 rs.length, .int .i64 0, .int .i64 u] rfl rfl (World.news_of_block (cs := #[.int .i64 rs.length, .int .i64 0, .int .i64 u]) (t := 49) (fr := (0, 0)) (heap_alloc_new w4 _)) (by simp [Value.oneCell']) (by omega) (by unfold maxLen; omega) (by omega) (by simp; omega) (w4.heap.size + 1) (by simp) ?_; intro gg' cap' w9 hown hgrow hat hlt')
    have hk2 := app_keepsE C4.out hglt (Nat.le_of_lt (Nat.lt_of_le_of_lt hBg hglt)) rfl G4.out O4.out hgrow
    go_roundw
    case rel => exact ⟨rs ++ [⟨(rs.length : Int), 0, u⟩], gg', cap', by rw [List.length_append]; rfl, ⟨by rw [List.length_append]; show rs.length + 1 ≤ 5; omega, hgo.out⟩, by rw [List.length_append, ers_append]; exact hown, hk2.1, hk2.2⟩
    case measure => show 5 - (rs.length + 1) < 5 - rs.length; omega

/-- A drawn cache: new memory; nothing old has turned. -/
def DrawnE (rs : List ER) (w : World) (b cap : Nat) (w' : World) : Prop := (rs.length ≤ 6 ∧ ∀ r ∈ rs, goodE r) ∧ rs.length ≤ cap ∧ Row w' w'.heap.size (some ⟨b, 0, none⟩) (ers rs) ∧ Below w.heap.size w w'
set_option maxRecDepth 100000 in
theorem drawAged (a : Option Addr) (s : List UInt8) (cap : Nat) (w : World) (hrow : Row w w.heap.size a (byteCells s)) (hs : s.length ≤ 1048576) :
    Calls Try.prog 18 #[.slice a s.length cap] w fun e w' => ∃ (rs : List ER) (b c : Nat), e = .returned (.slice (some ⟨b, 0, none⟩) rs.length c) ∧ DrawnE rs w b c w' := by
  have C := Lib.hid (l1New_any a s cap w hrow hs)
  clear hrow
  go_enter Try.func18, Try.ntmps18
  go_wp2_with fail
  refine C.out.mono ?_
  rintro e w1 ⟨g, rfl, hc1, hb1⟩
  have C1 := Lib.hid hc1
  have B1 := Lib.hid hb1
  clear hc1 hb1
  go_wp2_with fail
  refine (l15Bent_any _ g w1 C1.out).mono ?_
  rintro e w2 ⟨rs, gg, c, rfl, hgd, ho, hcu, hgr⟩
  have HG := Lib.hid hgd
  have O2 := Lib.hid ho
  have G2 := Lib.hid hgr
  clear hgd ho hcu hgr
  go_wp2_with fail
  go_ret
  exact ⟨rs, _, c, rfl, HG.out, (own_cap O2.out).1, Row.ownK O2.out, below_new B1.out C1.out G2.out⟩
set_option maxRecDepth 100000 in
theorem drawLearned (a : Option Addr) (s : List UInt8) (cap : Nat) (w : World) (hrow : Row w w.heap.size a (byteCells s)) (hs : s.length ≤ 1048576) :
    Calls Try.prog 10 #[.slice a s.length cap] w fun e w' => ∃ (rs : List ER) (b c : Nat) (ip hw : Int), e = .returned (.tuple #[.slice (some ⟨b, 0, none⟩) rs.length c, .int .i64 ip, .int .i64 hw]) ∧ (I64 ip ∧ I64 hw) ∧ DrawnE rs w b c w' := by
  have C := Lib.hid (l1New_any a s cap w hrow hs)
  clear hrow
  go_enter Try.func10, Try.ntmps10
  go_wp2_with fail
  refine C.out.mono ?_
  rintro e w1 ⟨g, rfl, hc1, hb1⟩
  have C1 := Lib.hid hc1
  have L1 := Lib.hid hc1
  have G1 := Lib.hid (World.grownBy.refl w1 (some g))
  have B1 := Lib.hid hb1
  clear hc1 hb1
  go_wp2_with fail
  refine (l1Below_pos _ g w1 C1.out 8 (by omega) (by omega)).mono ?_
  rintro e w2 ⟨p, rfl, hp, hcu, hgr⟩
  have G2 := Lib.hid (grown_tr G1.out hgr)
  have C2 := Lib.hid hcu
  clear hcu hgr C1 G1
  have hpw : IntKind.i64.wrap (167772160 + p) = 167772160 + p := IntWalk.i64_in _ (by omega)
  go_wp2_with fail
  refine (l1Once_any _ g w2 C2.out 10 (by omega) (by omega)).mono ?_
  rintro e w3 ⟨b, rfl, hcu, hgr⟩
  have G3 := Lib.hid (grown_tr G2.out hgr)
  have C3 := Lib.hid hcu
  clear hcu hgr C2 G2
  cases b with
  | false =>
    go_wp2_with fail
    refine (l15Bent_any _ g w3 C3.out).mono ?_
    rintro e w4 ⟨rs, gg, c, rfl, hgd, ho, hcu, hgr⟩
    have HG := Lib.hid hgd
    have O4 := Lib.hid ho
    have hne : gg ≠ g := by have h1 := (ho.lt gg rfl).1; have h2 := C3.out.lt; omega
    have G4 := Lib.hid (grown_tr G3.out hgr)
    have C4 := Lib.hid hcu
    clear hgd ho hcu hgr C3 G3
    go_wp2_with fail
    refine (l5Mac_any _ g w4 C4.out).mono ?_
    rintro e w5 ⟨hw, rfl, hhw, hcu, hgr⟩
    have G5 := Lib.hid (grown_tr G4.out hgr)
    have C5 := Lib.hid hcu
    have O5 := Lib.hid (O4.out.kept hgr (.inr (own_ne hne)))
    clear hcu hgr C4 G4 O4
    have HH := Lib.hid hhw
    clear hhw
    go_wp2_with fail
    exact bodyPost_ret (v := .tuple #[.slice (some ⟨gg, 0, none⟩) rs.length c, .int .i64 (167772160 + p), .int .i64 hw]) (by simp [results, Try.results10, go_sem]) rfl ⟨rs, _, c, _, hw, rfl, ⟨⟨by omega, by omega⟩, HH.out⟩, HG.out, (own_cap O5.out).1, Row.ownK O5.out, below_new B1.out L1.out G5.out⟩
  | true =>
    go_wp2_with fail
    refine (l2Word_any _ g w3 C3.out).mono ?_
    rintro e w4 ⟨x, rfl, hx, hcu, hgr⟩
    have G4 := Lib.hid (grown_tr G3.out hgr)
    have C4 := Lib.hid hcu
    clear hcu hgr C3 G3
    have HX := Lib.hid hx
    clear hx
    go_wp2_with fail
    refine (l15Bent_any _ g w4 C4.out).mono ?_
    rintro e w5 ⟨rs, gg, c, rfl, hgd, ho, hcu, hgr⟩
    have HG := Lib.hid hgd
    have O5 := Lib.hid ho
    have hne : gg ≠ g := by have h1 := (ho.lt gg rfl).1; have h2 := C4.out.lt; omega
    have G5 := Lib.hid (grown_tr G4.out hgr)
    have C5 := Lib.hid hcu
    clear hgd ho hcu hgr C4 G4
    go_wp2_with fail
    refine (l5Mac_any _ g w5 C5.out).mono ?_
    rintro e w6 ⟨hw, rfl, hhw, hcu, hgr⟩
    have G6 := Lib.hid (grown_tr G5.out hgr)
    have C6 := Lib.hid hcu
    have O6 := Lib.hid (O5.out.kept hgr (.inr (own_ne hne)))
    clear hcu hgr C5 G5 O5
    have HH := Lib.hid hhw
    clear hhw
    go_wp2_with fail
    exact bodyPost_ret (v := .tuple #[.slice (some ⟨gg, 0, none⟩) rs.length c, .int .i64 x, .int .i64 hw]) (by simp [results, Try.results10, go_sem]) rfl ⟨rs, _, c, _, hw, rfl, ⟨HX.out, HH.out⟩, HG.out, (own_cap O6.out).1, Row.ownK O6.out, below_new B1.out L1.out G6.out⟩
end Go.Proofs.Ythckbabcmmkljaa
