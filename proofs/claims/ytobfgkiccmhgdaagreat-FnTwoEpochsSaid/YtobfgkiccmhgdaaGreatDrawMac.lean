/- The draws' own l11Mac and DrawMacOf. Nothing here is a claim. -/
import Derived.Test.YtobfgkiccmhgdaaGreatDrawRows
import Derived.Test.YtobfgkiccmhgdaaGreatTabMac
import Derived.Test.YtobfgkiccmhgdaaGreatKeyMac
import Derived.Test.YtobfgkiccmhgdaaGreatKey10
namespace Go.Proofs.YtobfgkiccmhgdaaGreat
open Go.RowKit Go.Lib

/-- A table that a draw handed back: nil, or memory that the call made. -/
def TabOf (w w' : World) (g : Nat) (a : Option Addr) (cap : Nat) (rs : List MR) : Prop :=
  (rs.length ≤ 4 ∧ ∀ r ∈ rs, goodM r) ∧ ((a = none ∧ rs = [] ∧ cap = 0) ∨ ∃ b, a = some ⟨b, 0, none⟩ ∧ b ≠ g ∧ w'.ownsRow w.heap.size 72 2 (.slice (some ⟨b, 0, none⟩) rs.length cap) rs.length (mrs rs))
theorem TabOf.row {w w' : World} {g : Nat} {a : Option Addr} {cap : Nat} {rs : List MR} (h : TabOf w w' g a cap rs) : Row w' w'.heap.size a (mrs rs) := by
  rcases h.2 with ⟨_, rfl, _⟩ | ⟨b, rfl, _, ho⟩
  · exact Row.nil
  · exact Row.ownK ho
theorem TabOf.kept {w w1 w2 : World} {g : Nat} {a : Option Addr} {cap : Nat} {rs : List MR} (h : TabOf w w1 g a cap rs) {row : Option Nat} (hg : w1.grownBy w2 row) (hr : ∀ k, row = some k → k = g ∨ k < w.heap.size ∨ w1.heap.size ≤ k) : TabOf w w2 g a cap rs := by
  refine ⟨h.1, ?_⟩
  rcases h.2 with h2 | ⟨b, h3, hne, ho⟩
  · exact .inl h2
  · refine .inr ⟨b, h3, hne, ho.kept hg (.inr fun e => ?_)⟩
    have hb := ho.lt b rfl
    have := hr b e.symm
    omega
/-- What l11Mac hands back. -/
def MacEnd (w : World) (B g : Nat) (e : Ending) (w' : World) : Prop :=
  ∃ (u : Bool) (k l : BitVec 64) (a : Option Addr) (cap : Nat) (rs : List MR), e = .returned (.agg #[.bool u, .int .u64 (n64 k), .int .u64 (n64 l), .slice a rs.length cap]) ∧ TabOf w w' g a cap rs ∧ CurB w' B g ∧ w.grownBy w' (some g)

set_option maxRecDepth 100000 in
set_option maxHeartbeats 4000000 in
theorem l11Mac_any (B g : Nat) (w : World) (hc : CurB w B g) : Calls Tryz.prog 37 #[.pointer (some ⟨g, 0, none⟩)] w (MacEnd w B g) := by
  have hlt := hc.lt
  have hBg := hc.1
  have C := Lib.hid hc
  clear hc
  go_enter Tryz.func37, Tryz.ntmps37
  go_wp2_with fail
  refine (l1Once_any B g _ (C.out.new _) 2 (by omega) (by omega)).mono ?_
  rintro e w1 ⟨b, rfl, hc1, hg1⟩
  have K1 := Lib.hid ((Blk.new w [.bool false, .int .u64 0, .int .u64 0, .slice none 0 0] 27).grown hg1 (by omega))
  have G1 := Lib.hid (grown_tr (World.grownBy_alloc w _ _) hg1)
  have C1 := Lib.hid hc1
  clear hc1 hg1 C
  have hrg : w.heap.size ≠ g := Nat.ne_of_gt hlt
  have hrl : w.heap.size ≤ w.heap.size := Nat.le_refl _
  have hB : B ≤ w.heap.size := by omega
  cases b
  · go_wp2_with fail
    refine (l10Key_any B g w1 C1.out).mono ?_
    rintro e w2 ⟨k, rfl, hc2, hg2⟩
    have K2 := Lib.hid (K1.out.grown hg2 hrg)
    have G2 := Lib.hid (grown_tr G1.out hg2)
    have C2 := Lib.hid hc2
    clear hc2 hg2 K1 G1 C1
    go_wp2_with fail
    refine (l10Key_any B g w2 C2.out).mono ?_
    rintro e w3 ⟨l, rfl, hc3, hg3⟩
    have K3 := Lib.hid (K2.out.grown hg3 hrg)
    have G3 := Lib.hid (grown_tr G2.out hg3)
    have C3 := Lib.hid hc3
    clear hc3 hg3 K2 G2 C2
    go_wp2_with fail
    refine (keyMacS (n64 k) (n64 l) w3).mono ?_
    rintro e w4 ⟨rfl, hb4⟩
    have K4 := Lib.hid (K3.out.below hb4)
    have G4 := Lib.hid (grown_tr G3.out (below_any hb4))
    have C4 := Lib.hid (C3.out.below hb4)
    clear hb4 K3 G3 C3
    go_wp2_with fail
    have hr0 : w.heap.size < w4.heap.size := K4.out.lt
    have K5 := Lib.hid (K4.out.alloc (.cells #[.bool false, .int .u64 (n64 k), .int .u64 (n64 l), .slice none 0 0] 27))
    have F5 := Lib.hid (Blk.new w4 [.bool false, .int .u64 (n64 k), .int .u64 (n64 l), .slice none 0 0] 27)
    have C5 := Lib.hid (C4.out.new (.cells #[.bool false, .int .u64 (n64 k), .int .u64 (n64 l), .slice none 0 0] 27))
    have G5 := Lib.hid (grown_new G4.out (.cells #[.bool false, .int .u64 (n64 k), .int .u64 (n64 l), .slice none 0 0] 27))
    have hfg : w4.heap.size ≠ g := Nat.ne_of_gt C4.out.lt
    clear C4 K4 G4
    generalize w4.alloc (.cells #[.bool false, .int .u64 (n64 k), .int .u64 (n64 l), .slice none 0 0] 27) = w5 at K5 F5 C5 G5 ⊢
    generalize hf : w4.heap.size = f at hr0 F5 hfg ⊢
    have hfl : w.heap.size ≤ f := by omega
    have hBf : B ≤ f := by omega
    clear hf
    refine (l1Below_pos B g w5 C5.out 10 (by omega) (by omega)).mono ?_
    rintro e w6 ⟨q, rfl, ⟨q0, q1⟩, hc6, hg6⟩
    have K6 := Lib.hid (K5.out.grown hg6 hrg)
    have F6 := Lib.hid (F5.out.grown hg6 hfg)
    have G6 := Lib.hid (grown_tr G5.out hg6)
    have C6 := Lib.hid hc6
    clear hc6 hg6 C5 K5 F5 G5
    have hne : ¬ w.heap.size = f := by omega
    have hne2 : ¬ f = w.heap.size := by omega
    have hq : q = 0 ∨ q = 1 ∨ 2 ≤ q := by omega
    clear q0
    rcases hq with rfl | rfl | hq
    · obtain ⟨⟨d0, d1, d2, d3⟩, e0, e1, e2, e3⟩ := K6.out.four
      obtain ⟨⟨c0, c1, c2, c3⟩, f0, f1, f2, f3⟩ := F6.out.four
      go_wp2_with fail
      refine bodyPost_ret (v := .agg #[.bool true, .int .u64 (n64 k), .int .u64 (n64 l), .slice none 0 0]) (by simp [results, Tryz.results37, go_sem, d0, d1, d2, d3]) rfl ⟨true, k, l, none, 0, [], rfl, ⟨⟨Nat.zero_le _, fun _ h => by cases h⟩, .inl ⟨rfl, rfl, rfl⟩⟩, ?_, ?_⟩
      · exact ((((C6.out.setOther _ _ hBf hfg).setOther _ _ hB hrg).setOther _ _ hB hrg).setOther _ _ hB hrg).setOther _ _ hB hrg
      · exact grown_setNew (grown_setNew (grown_setNew (grown_setNew (grown_setNew G6.out _ _ hfl) _ _ hrl) _ _ hrl) _ _ hrl) _ _ hrl
    · go_wp2_with fail
      refine (l11Rows_any B g w6 C6.out).mono ?_
      rintro e w7 ⟨rs, gg, cap, rfl, hgd, ho, hc7, hg7⟩
      have K7 := Lib.hid (K6.out.grown hg7 hrg)
      have F7 := Lib.hid (F6.out.grown hg7 hfg)
      have G7 := Lib.hid (grown_tr G6.out hg7)
      have C7 := Lib.hid hc7
      have O7 := Lib.hid ho
      have hw6 : w.heap.size < w6.heap.size := K6.out.lt
      have hf6 : f < w6.heap.size := F6.out.lt
      have hgg : w6.heap.size ≤ gg := (ho.lt gg rfl).1
      have hg6 : g < w6.heap.size := C6.out.lt
      clear hc7 hg7 ho C6 K6 F6 G6
      obtain ⟨⟨d0, d1, d2, d3⟩, e0, e1, e2, e3⟩ := K7.out.four
      obtain ⟨⟨c0, c1, c2, c3⟩, f0, f1, f2, f3⟩ := F7.out.four
      go_wp2_with fail
      refine bodyPost_ret (v := .agg #[.bool false, .int .u64 (n64 k), .int .u64 (n64 l), .slice (some ⟨gg, 0, none⟩) rs.length cap]) (by simp [results, Tryz.results37, go_sem, d0, d1, d2, d3]) rfl ⟨false, k, l, some ⟨gg, 0, none⟩, cap, rs, rfl, ⟨hgd, .inr ⟨gg, rfl, by omega, ?_⟩⟩, ?_, ?_⟩
      · exact own_down (own_set (own_set (own_set (own_set (own_set O7.out _ _ hf6 _) _ _ hw6 _) _ _ hw6 _) _ _ hw6 _) _ _ hw6 _) (Nat.le_of_lt hw6)
      · exact ((((C7.out.setOther _ _ hBf hfg).setOther _ _ hB hrg).setOther _ _ hB hrg).setOther _ _ hB hrg).setOther _ _ hB hrg
      · exact grown_setNew (grown_setNew (grown_setNew (grown_setNew (grown_setNew G7.out _ _ hfl) _ _ hrl) _ _ hrl) _ _ hrl) _ _ hrl
    · have h0 : (q == 0) = false := by rw [beq_eq_false_iff_ne]; omega
      have h1 : (q == 1) = false := by rw [beq_eq_false_iff_ne]; omega
      obtain ⟨⟨d0, d1, d2, d3⟩, e0, e1, e2, e3⟩ := K6.out.four
      obtain ⟨⟨c0, c1, c2, c3⟩, f0, f1, f2, f3⟩ := F6.out.four
      go_wp2_with fail
      refine bodyPost_ret (v := .agg #[.bool false, .int .u64 (n64 k), .int .u64 (n64 l), .slice none 0 0]) (by simp [results, Tryz.results37, go_sem, d0, d1, d2, d3]) rfl ⟨false, k, l, none, 0, [], rfl, ⟨⟨Nat.zero_le _, fun _ h => by cases h⟩, .inl ⟨rfl, rfl, rfl⟩⟩, ?_, ?_⟩
      · exact (((C6.out.setOther _ _ hB hrg).setOther _ _ hB hrg).setOther _ _ hB hrg).setOther _ _ hB hrg
      · exact grown_setNew (grown_setNew (grown_setNew (grown_setNew G6.out _ _ hrl) _ _ hrl) _ _ hrl) _ _ hrl
  · go_wp2_with fail
    refine (l11Rows_any B g w1 C1.out).mono ?_
    rintro e w2 ⟨rs, gg, cap, rfl, hgd, ho, hc2, hg2⟩
    have K2 := Lib.hid (K1.out.grown hg2 hrg)
    have G2 := Lib.hid (grown_tr G1.out hg2)
    have C2 := Lib.hid hc2
    have O2 := Lib.hid ho
    clear hc2 hg2 ho C1 K1 G1
    go_wp2_with fail
    refine (tableMacS gg 0 cap rs w2 (Row.ownK O2.out) (by omega)).mono ?_
    rintro e w3 ⟨gt, ct, rfl, hot, hb3⟩
    have K3 := Lib.hid (K2.out.below hb3)
    have G3 := Lib.hid (grown_tr G2.out (below_any hb3))
    have C3 := Lib.hid (C2.out.below hb3)
    have O3 := Lib.hid hot
    have hw2 : w.heap.size < w2.heap.size := K2.out.lt
    have hgt : w2.heap.size ≤ gt := (hot.lt gt rfl).1
    have hg2 : g < w2.heap.size := C2.out.lt
    clear hot hb3 C2 K2 G2 O2
    obtain ⟨⟨d0, d1, d2, d3⟩, e0, e1, e2, e3⟩ := K3.out.four
    go_wp2_with fail
    refine bodyPost_ret (v := .agg #[.bool true, .int .u64 0, .int .u64 0, .slice (some ⟨gt, 0, none⟩) rs.length ct]) (by simp [results, Tryz.results37, go_sem, d0, d1, d2, d3]) rfl ⟨true, 0, 0, some ⟨gt, 0, none⟩, ct, rs, rfl, ⟨hgd, .inr ⟨gt, rfl, by omega, ?_⟩⟩, ?_, ?_⟩
    · exact own_down (own_set (own_set (own_set (own_set O3.out _ _ hw2 _) _ _ hw2 _) _ _ hw2 _) _ _ hw2 _) (Nat.le_of_lt hw2)
    · exact (((C3.out.setOther _ _ hB hrg).setOther _ _ hB hrg).setOther _ _ hB hrg).setOther _ _ hB hrg
    · exact grown_setNew (grown_setNew (grown_setNew (grown_setNew G3.out _ _ hrl) _ _ hrl) _ _ hrl) _ _ hrl
end Go.Proofs.YtobfgkiccmhgdaaGreat
