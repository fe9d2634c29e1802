/- The program's Aged. Nothing here is a claim. -/
import Derived.Test.YthckbabcmmkljaaEntG
import Derived.Test.YthckbabcmmkljaaEntV
namespace Go.Proofs.Ythckbabcmmkljaa
open Go.RowKit Go.Lib

theorem Blk.grownV {w w' : World} {r : Nat} {vs : List Value} {row : Option Nat} (h : Blk w r vs) (hg : w.grownBy w' row) (hne : some r ≠ row) : Blk w' r vs := by
  obtain ⟨t, ht⟩ := h
  have hlt : r < w.heap.size := by
    rcases Nat.lt_or_ge r w.heap.size with hl | hl
    · exact hl
    · rw [Array.getElem?_eq_none hl] at ht; cases ht
  exact ⟨t, (hg.block r hlt hne).trans ht⟩
set_option maxRecDepth 100000 in
set_option maxHeartbeats 8000000 in
theorem tableAgedI (a : Option Addr) (cap : Nat) (rs : List ER) (w : World) (hrow : Row w w.heap.size a (ers rs)) (hl : rs.length ≤ 1048577) (hg : ∀ r ∈ rs, goodE r) :
    Calls Try.prog 41 #[.agg #[.slice a rs.length cap, .int .i64 4, .int .i64 9]] w (NewE (agedE rs) w) := by
  obtain ⟨i0, hi, hz0, hz1, hz2⟩ := info_parts Try.info49
  have HR := Lib.hid hrow
  have HG := Lib.hid hg
  clear hrow hg
  have B0 := Lib.hid (show Below w.heap.size w (w.alloc (.cells #[.slice a rs.length cap, .int .i64 4, .int .i64 9] 52)) from (Below.refl _ w).alloc (Nat.le_refl _) _)
  have K0 := Lib.hid (Blk.new w [.slice a rs.length cap, .int .i64 4, .int .i64 9] 52)
  go_enter Try.func41, Try.ntmps41
  go_wp2_with fail
  generalize w.alloc (.cells #[.slice a rs.length cap, .int .i64 4, .int .i64 9] 52) = v0 at B0 K0 ⊢
  generalize w.heap.size = g_T at K0 ⊢
  have O0 := Lib.hid (show v0.ownsRow v0.heap.size 49 3 (.slice none 0 0) 0 (ers (agedE (rs.take 0))) from ⟨rfl, .inl ⟨rfl, rfl⟩⟩)
  have lT := K0.out.lt
  go_loopw [3, 9] (fun v i wr => ∃ k : Nat, k ≤ rs.length ∧ i = .int .i64 k ∧ ∃ (a' : Option Addr) (cp : Nat), v = .slice a' (agedE (rs.take k)).length cp ∧ Hid (wr.ownsRow v0.heap.size 49 3 (.slice a' (agedE (rs.take k)).length cp) (agedE (rs.take k)).length (ers (agedE (rs.take k)))) ∧ Hid (Below v0.heap.size v0 wr))
    (fun _ i _ => rs.length - (RowKit.intOf i).toNat)
  case atStart => exact ⟨0, Nat.zero_le _, rfl, none, 0, rfl, O0, Below.refl _ _⟩
  case round =>
    obtain ⟨k, hk, rfl, a', cp, rfl, hO, hB⟩ := hrel
    clear O0
    have HT := Lib.hid (K0.out.below hB.out)
    have HB := Lib.hid (Below.refl wr.heap.size wr)
    by_cases hlt : k < rs.length
    · obtain ⟨b, off, rfl, hbb, hcs⟩ := (HR.out.below (B0.out.trans (hB.out.mono B0.out.size))).er hlt
      obtain ⟨hc0, hc1, hc2⟩ := hcs k hlt
      have hk0 : (0 : Int) ≤ (k : Int) := Int.natCast_nonneg _
      have hk1 : (k : Int) < (rs.length : Int) := by omega
      clear hcs
      have C2 := Lib.hid (fun w => ageI rs[k] w)
      have C3 := Lib.hid (fun n w => withAgeI rs[k] n w)
      have hn := agedE_next hlt
      have hal := aged_le rs k hk
      have hbz := hB.out.size
      by_cases h9 : rs[k].age < 9
      · rw [if_pos h9] at hn
        have HN := Lib.hid hn
        clear hn
        have hga := goodE_age (HG.out rs[k] (List.getElem_mem hlt))
        have hw : IntKind.i64.wrap (rs[k].age + 1) = rs[k].age + 1 := IntWalk.i64_in _ (by omega)
        have KEn := Lib.hid (Blk.new wr [.int .i64 rs[k].ip, .int .i64 rs[k].hw, .int .i64 rs[k].age] 49)
        have n_T_E : g_T ≠ wr.heap.size := by have h1 := HT.out.lt; omega
        have Bn := Lib.hid (HB.out.alloc HB.out.size (.cells #[.int .i64 rs[k].ip, .int .i64 rs[k].hw, .int .i64 rs[k].age] 49))
        have KTn := Lib.hid (HT.out.alloc (.cells #[.int .i64 rs[k].ip, .int .i64 rs[k].hw, .int .i64 rs[k].age] 49))
        clear HB HT
        obtain ⟨⟨cT0, cT1, cT2⟩, dT0, dT1, dT2⟩ := KTn.out.o3
        go_upto_region 5 with fail
        clear hc0 hc1 hc2
        clear cT0 cT1 cT2 dT0 dT1 dT2
        generalize wr.alloc (.cells #[.int .i64 rs[k].ip, .int .i64 rs[k].hw, .int .i64 rs[k].age] 49) = v1 at KEn Bn KTn ⊢
        generalize hgE : wr.heap.size = g_E at KEn n_T_E ⊢
        have KT1 := KTn
        clear KTn
        have KE1 := KEn
        clear KEn
        have B1 := Bn
        clear Bn
        refine wp_region_noPanic ?_
        refine wp_region_held_drew (S := fun w' => Blk w' g_T [.slice (some ⟨b, off, none⟩) rs.length cap, .int .i64 4, .int .i64 9] ∧ Blk w' g_E [.int .i64 rs[k].ip, .int .i64 rs[k].hw, .int .i64 rs[k].age]) (by kernel_rfl) ⟨KT1.out, KE1.out⟩ (fun hS => ?_)
        refine wpAnyH_take (i := 0) (v := .agg #[.int .i64 rs[k].ip, .int .i64 rs[k].hw, .int .i64 rs[k].age]) rfl (by kernel_rfl) (by kernel_rfl) (by kernel_rfl) (fun _ _ _ h => h) (Or.inl ⟨rfl, by intro w hS; obtain ⟨⟨h0, h1, h2⟩, _⟩ := hS.2.o3; go_simp⟩) hS ?_
        change wpAnyH _ _ _ _ _ _ _ { tmps := #[.agg #[.slice (some ⟨b, off, none⟩) rs.length cap, .int .i64 4, .int .i64 9], .pointer (some ⟨g_T, 0, none⟩), .slice none 0 0, .slice a' (agedE (rs.take k)).length cp, undef, .pointer (some ⟨g_E, 0, none⟩), .pointer (some ⟨g_T, 0, none⟩), .slice (some ⟨b, off, none⟩) rs.length cap, .int .i64 rs.length, .int .i64 k, .bool true, .pointer (some ⟨b, off + k * 3, none⟩), .agg #[.int .i64 rs[k].ip, .int .i64 rs[k].hw, .int .i64 rs[k].age], .agg #[.int .i64 rs[k].ip, .int .i64 rs[k].hw, .int .i64 rs[k].age], u14, u15, u16, u17, u18, u19, u20, u21, u22, u23, u24, u25, u26, u27, u28, u29, undef], defers := [] } _
        refine wpAnyH_take (i := 1) (v := .iface 49 (.agg #[.int .i64 rs[k].ip, .int .i64 rs[k].hw, .int .i64 rs[k].age])) rfl (by kernel_rfl) (by kernel_rfl) (by kernel_rfl) (fun _ _ _ h => h) (Or.inl ⟨rfl, by intro w hS; go_simp⟩) hS ?_
        change wpAnyH _ _ _ _ _ _ _ { tmps := #[.agg #[.slice (some ⟨b, off, none⟩) rs.length cap, .int .i64 4, .int .i64 9], .pointer (some ⟨g_T, 0, none⟩), .slice none 0 0, .slice a' (agedE (rs.take k)).length cp, undef, .pointer (some ⟨g_E, 0, none⟩), .pointer (some ⟨g_T, 0, none⟩), .slice (some ⟨b, off, none⟩) rs.length cap, .int .i64 rs.length, .int .i64 k, .bool true, .pointer (some ⟨b, off + k * 3, none⟩), .agg #[.int .i64 rs[k].ip, .int .i64 rs[k].hw, .int .i64 rs[k].age], .agg #[.int .i64 rs[k].ip, .int .i64 rs[k].hw, .int .i64 rs[k].age], .iface 49 (.agg #[.int .i64 rs[k].ip, .int .i64 rs[k].hw, .int .i64 rs[k].age]), u15, u16, u17, u18, u19, u20, u21, u22, u23, u24, u25, u26, u27, u28, u29, undef], defers := [] } _
        refine wpAnyH_take (i := 3) (v := .pointer (some ⟨g_T, 2, none⟩)) rfl (by kernel_rfl) (by kernel_rfl) (by kernel_rfl) (fun _ _ _ h => h) (Or.inl ⟨rfl, by intro w hS; go_simp⟩) hS ?_
        change wpAnyH _ _ _ _ _ _ _ { tmps := #[.agg #[.slice (some ⟨b, off, none⟩) rs.length cap, .int .i64 4, .int .i64 9], .pointer (some ⟨g_T, 0, none⟩), .slice none 0 0, .slice a' (agedE (rs.take k)).length cp, undef, .pointer (some ⟨g_E, 0, none⟩), .pointer (some ⟨g_T, 0, none⟩), .slice (some ⟨b, off, none⟩) rs.length cap, .int .i64 rs.length, .int .i64 k, .bool true, .pointer (some ⟨b, off + k * 3, none⟩), .agg #[.int .i64 rs[k].ip, .int .i64 rs[k].hw, .int .i64 rs[k].age], .agg #[.int .i64 rs[k].ip, .int .i64 rs[k].hw, .int .i64 rs[k].age], .iface 49 (.agg #[.int .i64 rs[k].ip, .int .i64 rs[k].hw, .int .i64 rs[k].age]), u15, .pointer (some ⟨g_T, 2, none⟩), u17, u18, u19, u20, u21, u22, u23, u24, u25, u26, u27, u28, u29, undef], defers := [] } _
        refine wpAnyH_take (i := 4) (v := .int .i64 9) rfl (by kernel_rfl) (by kernel_rfl) (by kernel_rfl) (fun _ _ _ h => h) (Or.inl ⟨rfl, by intro w hS; obtain ⟨⟨h0, h1, h2⟩, _⟩ := hS.1.o3; go_simp⟩) hS ?_
        change wpAnyH _ _ _ _ _ _ _ { tmps := #[.agg #[.slice (some ⟨b, off, none⟩) rs.length cap, .int .i64 4, .int .i64 9], .pointer (some ⟨g_T, 0, none⟩), .slice none 0 0, .slice a' (agedE (rs.take k)).length cp, undef, .pointer (some ⟨g_E, 0, none⟩), .pointer (some ⟨g_T, 0, none⟩), .slice (some ⟨b, off, none⟩) rs.length cap, .int .i64 rs.length, .int .i64 k, .bool true, .pointer (some ⟨b, off + k * 3, none⟩), .agg #[.int .i64 rs[k].ip, .int .i64 rs[k].hw, .int .i64 rs[k].age], .agg #[.int .i64 rs[k].ip, .int .i64 rs[k].hw, .int .i64 rs[k].age], .iface 49 (.agg #[.int .i64 rs[k].ip, .int .i64 rs[k].hw, .int .i64 rs[k].age]), u15, .pointer (some ⟨g_T, 2, none⟩), .int .i64 9, u18, u19, u20, u21, u22, u23, u24, u25, u26, u27, u28, u29, undef], defers := [] } _
        refine wpAnyH_ready (rs := [2]) (by kernel_rfl) (by simp) ?_
        refine AllReadyH.cons (i := 2) rfl (fun K hK => ?zr26) AllReadyH.nil
        rw [if_pos (by rfl)]
        go_simp
        go_invoke
        go_simp
        clear hS
        refine (C2.out _).mono ?_
        rintro e v2 ⟨rfl, hb⟩
        replace hb := (Below.refl _ v1).drew.trans hb
        have B2 := Lib.hid (B1.out.trans (hb.mono B1.out.size))
        have KT2 := Lib.hid (KT1.out.below hb)
        have KE2 := Lib.hid (KE1.out.below hb)
        clear hb B1 KT1 KE1
        refine hK.out _ _ ⟨KT2.out, KE2.out⟩ (fun hS => ?_)
        clear hK K
        change wpAnyH _ _ _ _ _ _ _ { tmps := #[.agg #[.slice (some ⟨b, off, none⟩) rs.length cap, .int .i64 4, .int .i64 9], .pointer (some ⟨g_T, 0, none⟩), .slice none 0 0, .slice a' (agedE (rs.take k)).length cp, undef, .pointer (some ⟨g_E, 0, none⟩), .pointer (some ⟨g_T, 0, none⟩), .slice (some ⟨b, off, none⟩) rs.length cap, .int .i64 rs.length, .int .i64 k, .bool true, .pointer (some ⟨b, off + k * 3, none⟩), .agg #[.int .i64 rs[k].ip, .int .i64 rs[k].hw, .int .i64 rs[k].age], .agg #[.int .i64 rs[k].ip, .int .i64 rs[k].hw, .int .i64 rs[k].age], .iface 49 (.agg #[.int .i64 rs[k].ip, .int .i64 rs[k].hw, .int .i64 rs[k].age]), .int .i64 rs[k].age, .pointer (some ⟨g_T, 2, none⟩), .int .i64 9, u18, u19, u20, u21, u22, u23, u24, u25, u26, u27, u28, u29, undef], defers := [] } _
        refine wpAnyH_take (i := 5) (v := .bool true) rfl (by kernel_rfl) (by kernel_rfl) (by kernel_rfl) (fun _ _ _ h => h) (Or.inl ⟨rfl, by intro w hS; go_simp⟩) hS ?_
        change wpAnyH _ _ _ _ _ _ _ { tmps := #[.agg #[.slice (some ⟨b, off, none⟩) rs.length cap, .int .i64 4, .int .i64 9], .pointer (some ⟨g_T, 0, none⟩), .slice none 0 0, .slice a' (agedE (rs.take k)).length cp, undef, .pointer (some ⟨g_E, 0, none⟩), .pointer (some ⟨g_T, 0, none⟩), .slice (some ⟨b, off, none⟩) rs.length cap, .int .i64 rs.length, .int .i64 k, .bool true, .pointer (some ⟨b, off + k * 3, none⟩), .agg #[.int .i64 rs[k].ip, .int .i64 rs[k].hw, .int .i64 rs[k].age], .agg #[.int .i64 rs[k].ip, .int .i64 rs[k].hw, .int .i64 rs[k].age], .iface 49 (.agg #[.int .i64 rs[k].ip, .int .i64 rs[k].hw, .int .i64 rs[k].age]), .int .i64 rs[k].age, .pointer (some ⟨g_T, 2, none⟩), .int .i64 9, .bool true, u19, u20, u21, u22, u23, u24, u25, u26, u27, u28, u29, undef], defers := [] } _
        refine wpAnyH_done (by kernel_rfl) ?_ _
        refine NoPanic.normal ?_
        go_upto_region 6 with fail
        refine wp_region_noPanic ?_
        refine wp_region_held_drew (S := fun w' => Blk w' g_T [.slice (some ⟨b, off, none⟩) rs.length cap, .int .i64 4, .int .i64 9] ∧ Blk w' g_E [.int .i64 rs[k].ip, .int .i64 rs[k].hw, .int .i64 rs[k].age]) (by kernel_rfl) ⟨KT2.out, KE2.out⟩ (fun hS => ?_)
        refine wpAnyH_take (i := 0) (v := .slice a' (agedE (rs.take k)).length cp) rfl (by kernel_rfl) (by kernel_rfl) (by kernel_rfl) (fun _ _ _ h => h) (Or.inl ⟨rfl, by intro w hS; go_simp⟩) hS ?_
        change wpAnyH _ _ _ _ _ _ _ { tmps := #[.agg #[.slice (some ⟨b, off, none⟩) rs.length cap, .int .i64 4, .int .i64 9], .pointer (some ⟨g_T, 0, none⟩), .slice none 0 0, .slice a' (agedE (rs.take k)).length cp, undef, .pointer (some ⟨g_E, 0, none⟩), .pointer (some ⟨g_T, 0, none⟩), .slice (some ⟨b, off, none⟩) rs.length cap, .int .i64 rs.length, .int .i64 k, .bool true, .pointer (some ⟨b, off + k * 3, none⟩), .agg #[.int .i64 rs[k].ip, .int .i64 rs[k].hw, .int .i64 rs[k].age], .agg #[.int .i64 rs[k].ip, .int .i64 rs[k].hw, .int .i64 rs[k].age], .iface 49 (.agg #[.int .i64 rs[k].ip, .int .i64 rs[k].hw, .int .i64 rs[k].age]), .int .i64 rs[k].age, .pointer (some ⟨g_T, 2, none⟩), .int .i64 9, .bool true, .slice a' (agedE (rs.take k)).length cp, u20, u21, u22, u23, u24, u25, u26, u27, u28, u29, undef], defers := [] } _
        refine wpAnyH_take (i := 1) (v := .agg #[.int .i64 rs[k].ip, .int .i64 rs[k].hw, .int .i64 rs[k].age]) rfl (by kernel_rfl) (by kernel_rfl) (by kernel_rfl) (fun _ _ _ h => h) (Or.inl ⟨rfl, by intro w hS; obtain ⟨⟨h0, h1, h2⟩, _⟩ := hS.2.o3; go_simp⟩) hS ?_
        change wpAnyH _ _ _ _ _ _ _ { tmps := #[.agg #[.slice (some ⟨b, off, none⟩) rs.length cap, .int .i64 4, .int .i64 9], .pointer (some ⟨g_T, 0, none⟩), .slice none 0 0, .slice a' (agedE (rs.take k)).length cp, undef, .pointer (some ⟨g_E, 0, none⟩), .pointer (some ⟨g_T, 0, none⟩), .slice (some ⟨b, off, none⟩) rs.length cap, .int .i64 rs.length, .int .i64 k, .bool true, .pointer (some ⟨b, off + k * 3, none⟩), .agg #[.int .i64 rs[k].ip, .int .i64 rs[k].hw, .int .i64 rs[k].age], .agg #[.int .i64 rs[k].ip, .int .i64 rs[k].hw, .int .i64 rs[k].age], .iface 49 (.agg #[.int .i64 rs[k].ip, .int .i64 rs[k].hw, .int .i64 rs[k].age]), .int .i64 rs[k].age, .pointer (some ⟨g_T, 2, none⟩), .int .i64 9, .bool true, .slice a' (agedE (rs.take k)).length cp, .agg #[.int .i64 rs[k].ip, .int .i64 rs[k].hw, .int .i64 rs[k].age], u21, u22, u23, u24, u25, u26, u27, u28, u29, undef], defers := [] } _
        refine wpAnyH_take (i := 2) (v := .iface 49 (.agg #[.int .i64 rs[k].ip, .int .i64 rs[k].hw, .int .i64 rs[k].age])) rfl (by kernel_rfl) (by kernel_rfl) (by kernel_rfl) (fun _ _ _ h => h) (Or.inl ⟨rfl, by intro w hS; go_simp⟩) hS ?_
        change wpAnyH _ _ _ _ _ _ _ { tmps := #[.agg #[.slice (some ⟨b, off, none⟩) rs.length cap, .int .i64 4, .int .i64 9], .pointer (some ⟨g_T, 0, none⟩), .slice none 0 0, .slice a' (agedE (rs.take k)).length cp, undef, .pointer (some ⟨g_E, 0, none⟩), .pointer (some ⟨g_T, 0, none⟩), .slice (some ⟨b, off, none⟩) rs.length cap, .int .i64 rs.length, .int .i64 k, .bool true, .pointer (some ⟨b, off + k * 3, none⟩), .agg #[.int .i64 rs[k].ip, .int .i64 rs[k].hw, .int .i64 rs[k].age], .agg #[.int .i64 rs[k].ip, .int .i64 rs[k].hw, .int .i64 rs[k].age], .iface 49 (.agg #[.int .i64 rs[k].ip, .int .i64 rs[k].hw, .int .i64 rs[k].age]), .int .i64 rs[k].age, .pointer (some ⟨g_T, 2, none⟩), .int .i64 9, .bool true, .slice a' (agedE (rs.take k)).length cp, .agg #[.int .i64 rs[k].ip, .int .i64 rs[k].hw, .int .i64 rs[k].age], .iface 49 (.agg #[.int .i64 rs[k].ip, .int .i64 rs[k].hw, .int .i64 rs[k].age]), u22, u23, u24, u25, u26, u27, u28, u29, undef], defers := [] } _
        refine wpAnyH_take (i := 3) (v := .agg #[.int .i64 rs[k].ip, .int .i64 rs[k].hw, .int .i64 rs[k].age]) rfl (by kernel_rfl) (by kernel_rfl) (by kernel_rfl) (fun _ _ _ h => h) (Or.inl ⟨rfl, by intro w hS; obtain ⟨⟨h0, h1, h2⟩, _⟩ := hS.2.o3; go_simp⟩) hS ?_
        change wpAnyH _ _ _ _ _ _ _ { tmps := #[.agg #[.slice (some ⟨b, off, none⟩) rs.length cap, .int .i64 4, .int .i64 9], .pointer (some ⟨g_T, 0, none⟩), .slice none 0 0, .slice a' (agedE (rs.take k)).length cp, undef, .pointer (some ⟨g_E, 0, none⟩), .pointer (some ⟨g_T, 0, none⟩), .slice (some ⟨b, off, none⟩) rs.length cap, .int .i64 rs.length, .int .i64 k, .bool true, .pointer (some ⟨b, off + k * 3, none⟩), .agg #[.int .i64 rs[k].ip, .int .i64 rs[k].hw, .int .i64 rs[k].age], .agg #[.int .i64 rs[k].ip, .int .i64 rs[k].hw, .int .i64 rs[k].age], .iface 49 (.agg #[.int .i64 rs[k].ip, .int .i64 rs[k].hw, .int .i64 rs[k].age]), .int .i64 rs[k].age, .pointer (some ⟨g_T, 2, none⟩), .int .i64 9, .bool true, .slice a' (agedE (rs.take k)).length cp, .agg #[.int .i64 rs[k].ip, .int .i64 rs[k].hw, .int .i64 rs[k].age], .iface 49 (.agg #[.int .i64 rs[k].ip, .int .i64 rs[k].hw, .int .i64 rs[k].age]), .agg #[.int .i64 rs[k].ip, .int .i64 rs[k].hw, .int .i64 rs[k].age], u23, u24, u25, u26, u27, u28, u29, undef], defers := [] } _
        refine wpAnyH_take (i := 4) (v := .iface 49 (.agg #[.int .i64 rs[k].ip, .int .i64 rs[k].hw, .int .i64 rs[k].age])) rfl (by kernel_rfl) (by kernel_rfl) (by kernel_rfl) (fun _ _ _ h => h) (Or.inl ⟨rfl, by intro w hS; go_simp⟩) hS ?_
        change wpAnyH _ _ _ _ _ _ _ { tmps := #[.agg #[.slice (some ⟨b, off, none⟩) rs.length cap, .int .i64 4, .int .i64 9], .pointer (some ⟨g_T, 0, none⟩), .slice none 0 0, .slice a' (agedE (rs.take k)).length cp, undef, .pointer (some ⟨g_E, 0, none⟩), .pointer (some ⟨g_T, 0, none⟩), .slice (some ⟨b, off, none⟩) rs.length cap, .int .i64 rs.length, .int .i64 k, .bool true, .pointer (some ⟨b, off + k * 3, none⟩), .agg #[.int .i64 rs[k].ip, .int .i64 rs[k].hw, .int .i64 rs[k].age], .agg #[.int .i64 rs[k].ip, .int .i64 rs[k].hw, .int .i64 rs[k].age], .iface 49 (.agg #[.int .i64 rs[k].ip, .int .i64 rs[k].hw, .int .i64 rs[k].age]), .int .i64 rs[k].age, .pointer (some ⟨g_T, 2, none⟩), .int .i64 9, .bool true, .slice a' (agedE (rs.take k)).length cp, .agg #[.int .i64 rs[k].ip, .int .i64 rs[k].hw, .int .i64 rs[k].age], .iface 49 (.agg #[.int .i64 rs[k].ip, .int .i64 rs[k].hw, .int .i64 rs[k].age]), .agg #[.int .i64 rs[k].ip, .int .i64 rs[k].hw, .int .i64 rs[k].age], .iface 49 (.agg #[.int .i64 rs[k].ip, .int .i64 rs[k].hw, .int .i64 rs[k].age]), u24, u25, u26, u27, u28, u29, undef], defers := [] } _
        refine wpAnyH_ready (rs := [5]) (by kernel_rfl) (by simp) ?_
        refine AllReadyH.cons (i := 5) rfl (fun K hK => ?zr27) AllReadyH.nil
        rw [if_pos (by rfl)]
        go_simp
        go_invoke
        go_simp
        clear hS
        refine (C2.out _).mono ?_
        rintro e v3 ⟨rfl, hb⟩
        replace hb := (Below.refl _ v2).drew.trans hb
        have B3 := Lib.hid (B2.out.trans (hb.mono B2.out.size))
        have KT3 := Lib.hid (KT2.out.below hb)
        have KE3 := Lib.hid (KE2.out.below hb)
        clear hb B2 KT2 KE2
        refine hK.out _ _ ⟨KT3.out, KE3.out⟩ (fun hS => ?_)
        clear hK K
        change wpAnyH _ _ _ _ _ _ _ { tmps := #[.agg #[.slice (some ⟨b, off, none⟩) rs.length cap, .int .i64 4, .int .i64 9], .pointer (some ⟨g_T, 0, none⟩), .slice none 0 0, .slice a' (agedE (rs.take k)).length cp, undef, .pointer (some ⟨g_E, 0, none⟩), .pointer (some ⟨g_T, 0, none⟩), .slice (some ⟨b, off, none⟩) rs.length cap, .int .i64 rs.length, .int .i64 k, .bool true, .pointer (some ⟨b, off + k * 3, none⟩), .agg #[.int .i64 rs[k].ip, .int .i64 rs[k].hw, .int .i64 rs[k].age], .agg #[.int .i64 rs[k].ip, .int .i64 rs[k].hw, .int .i64 rs[k].age], .iface 49 (.agg #[.int .i64 rs[k].ip, .int .i64 rs[k].hw, .int .i64 rs[k].age]), .int .i64 rs[k].age, .pointer (some ⟨g_T, 2, none⟩), .int .i64 9, .bool true, .slice a' (agedE (rs.take k)).length cp, .agg #[.int .i64 rs[k].ip, .int .i64 rs[k].hw, .int .i64 rs[k].age], .iface 49 (.agg #[.int .i64 rs[k].ip, .int .i64 rs[k].hw, .int .i64 rs[k].age]), .agg #[.int .i64 rs[k].ip, .int .i64 rs[k].hw, .int .i64 rs[k].age], .iface 49 (.agg #[.int .i64 rs[k].ip, .int .i64 rs[k].hw, .int .i64 rs[k].age]), .int .i64 rs[k].age, u25, u26, u27, u28, u29, undef], defers := [] } _
        refine wpAnyH_take (i := 6) (v := .int .i64 (rs[k].age + 1)) rfl (by kernel_rfl) (by kernel_rfl) (by kernel_rfl) (fun _ _ _ h => h) (Or.inl ⟨rfl, by intro w hS; go_simp⟩) hS ?_
        change wpAnyH _ _ _ _ _ _ _ { tmps := #[.agg #[.slice (some ⟨b, off, none⟩) rs.length cap, .int .i64 4, .int .i64 9], .pointer (some ⟨g_T, 0, none⟩), .slice none 0 0, .slice a' (agedE (rs.take k)).length cp, undef, .pointer (some ⟨g_E, 0, none⟩), .pointer (some ⟨g_T, 0, none⟩), .slice (some ⟨b, off, none⟩) rs.length cap, .int .i64 rs.length, .int .i64 k, .bool true, .pointer (some ⟨b, off + k * 3, none⟩), .agg #[.int .i64 rs[k].ip, .int .i64 rs[k].hw, .int .i64 rs[k].age], .agg #[.int .i64 rs[k].ip, .int .i64 rs[k].hw, .int .i64 rs[k].age], .iface 49 (.agg #[.int .i64 rs[k].ip, .int .i64 rs[k].hw, .int .i64 rs[k].age]), .int .i64 rs[k].age, .pointer (some ⟨g_T, 2, none⟩), .int .i64 9, .bool true, .slice a' (agedE (rs.take k)).length cp, .agg #[.int .i64 rs[k].ip, .int .i64 rs[k].hw, .int .i64 rs[k].age], .iface 49 (.agg #[.int .i64 rs[k].ip, .int .i64 rs[k].hw, .int .i64 rs[k].age]), .agg #[.int .i64 rs[k].ip, .int .i64 rs[k].hw, .int .i64 rs[k].age], .iface 49 (.agg #[.int .i64 rs[k].ip, .int .i64 rs[k].hw, .int .i64 rs[k].age]), .int .i64 rs[k].age, .int .i64 (rs[k].age + 1), u26, u27, u28, u29, undef], defers := [] } _
        refine wpAnyH_ready (rs := [7]) (by kernel_rfl) (by simp) ?_
        refine AllReadyH.cons (i := 7) rfl (fun K hK => ?zr28) AllReadyH.nil
        rw [if_pos (by rfl)]
        go_simp
        go_invoke
        go_simp
        clear hS
        refine (C3.out _ _).mono ?_
        rintro e v4 ⟨rfl, hb⟩
        have B4 := Lib.hid (B3.out.trans (hb.mono B3.out.size))
        have KT4 := Lib.hid (KT3.out.below hb)
        have KE4 := Lib.hid (KE3.out.below hb)
        clear hb B3 KT3 KE3
        refine hK.out _ _ ⟨KT4.out, KE4.out⟩ (fun hS => ?_)
        clear hK K
        change wpAnyH _ _ _ _ _ _ _ { tmps := #[.agg #[.slice (some ⟨b, off, none⟩) rs.length cap, .int .i64 4, .int .i64 9], .pointer (some ⟨g_T, 0, none⟩), .slice none 0 0, .slice a' (agedE (rs.take k)).length cp, undef, .pointer (some ⟨g_E, 0, none⟩), .pointer (some ⟨g_T, 0, none⟩), .slice (some ⟨b, off, none⟩) rs.length cap, .int .i64 rs.length, .int .i64 k, .bool true, .pointer (some ⟨b, off + k * 3, none⟩), .agg #[.int .i64 rs[k].ip, .int .i64 rs[k].hw, .int .i64 rs[k].age], .agg #[.int .i64 rs[k].ip, .int .i64 rs[k].hw, .int .i64 rs[k].age], .iface 49 (.agg #[.int .i64 rs[k].ip, .int .i64 rs[k].hw, .int .i64 rs[k].age]), .int .i64 rs[k].age, .pointer (some ⟨g_T, 2, none⟩), .int .i64 9, .bool true, .slice a' (agedE (rs.take k)).length cp, .agg #[.int .i64 rs[k].ip, .int .i64 rs[k].hw, .int .i64 rs[k].age], .iface 49 (.agg #[.int .i64 rs[k].ip, .int .i64 rs[k].hw, .int .i64 rs[k].age]), .agg #[.int .i64 rs[k].ip, .int .i64 rs[k].hw, .int .i64 rs[k].age], .iface 49 (.agg #[.int .i64 rs[k].ip, .int .i64 rs[k].hw, .int .i64 rs[k].age]), .int .i64 rs[k].age, .int .i64 (rs[k].age + 1), .agg #[.int .i64 rs[k].ip, .int .i64 rs[k].hw, .int .i64 (rs[k].age + 1)], u27, u28, u29, undef], defers := [] } _
        refine wpAnyH_ready (rs := [8]) (by kernel_rfl) (by simp) ?_
        refine AllReadyH.cons (i := 8) rfl (fun K hK => ?zr29) AllReadyH.nil
        rw [if_pos (by rfl)]
        go_simp
        clear hS
        have KT5 := Lib.hid (KT4.out.alloc (.cells #[.int .i64 rs[k].ip, .int .i64 rs[k].hw, .int .i64 (rs[k].age + 1)] 49))
        have KE5 := Lib.hid (KE4.out.alloc (.cells #[.int .i64 rs[k].ip, .int .i64 rs[k].hw, .int .i64 (rs[k].age + 1)] 49))
        have hw_L := Lib.hid (heap_alloc_new v4 (.cells #[.int .i64 rs[k].ip, .int .i64 rs[k].hw, .int .i64 (rs[k].age + 1)] 49))
        have B5 := Lib.hid (B4.out.alloc B4.out.size (.cells #[.int .i64 rs[k].ip, .int .i64 rs[k].hw, .int .i64 (rs[k].age + 1)] 49))
        refine hK.out _ _ ⟨KT5.out, KE5.out⟩ (fun hS => ?_)
        clear hK K B4 KT4 KE4
        generalize v4.alloc (.cells #[.int .i64 rs[k].ip, .int .i64 rs[k].hw, .int .i64 (rs[k].age + 1)] 49) = v5 at hS hw_L KT5 KE5 B5 ⊢
        generalize v4.heap.size = g_L at hw_L ⊢
        change wpAnyH _ _ _ _ _ _ _ { tmps := #[.agg #[.slice (some ⟨b, off, none⟩) rs.length cap, .int .i64 4, .int .i64 9], .pointer (some ⟨g_T, 0, none⟩), .slice none 0 0, .slice a' (agedE (rs.take k)).length cp, undef, .pointer (some ⟨g_E, 0, none⟩), .pointer (some ⟨g_T, 0, none⟩), .slice (some ⟨b, off, none⟩) rs.length cap, .int .i64 rs.length, .int .i64 k, .bool true, .pointer (some ⟨b, off + k * 3, none⟩), .agg #[.int .i64 rs[k].ip, .int .i64 rs[k].hw, .int .i64 rs[k].age], .agg #[.int .i64 rs[k].ip, .int .i64 rs[k].hw, .int .i64 rs[k].age], .iface 49 (.agg #[.int .i64 rs[k].ip, .int .i64 rs[k].hw, .int .i64 rs[k].age]), .int .i64 rs[k].age, .pointer (some ⟨g_T, 2, none⟩), .int .i64 9, .bool true, .slice a' (agedE (rs.take k)).length cp, .agg #[.int .i64 rs[k].ip, .int .i64 rs[k].hw, .int .i64 rs[k].age], .iface 49 (.agg #[.int .i64 rs[k].ip, .int .i64 rs[k].hw, .int .i64 rs[k].age]), .agg #[.int .i64 rs[k].ip, .int .i64 rs[k].hw, .int .i64 rs[k].age], .iface 49 (.agg #[.int .i64 rs[k].ip, .int .i64 rs[k].hw, .int .i64 rs[k].age]), .int .i64 rs[k].age, .int .i64 (rs[k].age + 1), .agg #[.int .i64 rs[k].ip, .int .i64 rs[k].hw, .int .i64 (rs[k].age + 1)], .slice (some ⟨g_L, 0, none⟩) 1 1, u28, u29, undef], defers := [] } _
        have hO2 := Lib.hid (own_below hO.out B5.out)
        have hz2' := B5.out.size
        refine wpAnyH_ready (rs := [9]) (by kernel_rfl) (by simp) ?_
        refine AllReadyH.cons (i := 9) rfl (fun K hK => ?zr30) AllReadyH.nil
        clear hS
        refine step_append_lies _ rfl _ _ _ rfl v0.heap.size 49 i0 _ 3 24 Try.underlying24 hi hz0 hz1 hz2 rfl (by omega) _ (agedE (rs.take k)).length _ rfl hO2.out ⟨g_L, 0, none⟩ 1 1 [.int .i64 rs[k].ip, .int .i64 rs[k].hw, .int .i64 (rs[k].age + 1)] rfl rfl (World.news_of_block (cs := #[.int .i64 rs[k].ip, .int .i64 rs[k].hw, .int .i64 (rs[k].age + 1)]) (t := 49) (fr := (0, 0)) hw_L.out) (by simp [Value.oneCell']) (by omega) (by unfold maxLen; omega) (by omega) (by omega) _ rfl ?_
        intro gg' cap' v6 hown hgrow hat hlt_
        refine hK.out _ _ ⟨(Blk.grownV KT5.out hgrow (fun e => by have h7 := hO2.out.lt g_T e.symm; have h8 := hO.out.lt g_T e.symm; omega)), (Blk.grownV KE5.out hgrow (fun e => by have h7 := hO2.out.lt g_E e.symm; have h8 := hO.out.lt g_E e.symm; omega))⟩ (fun hS => ?_)
        clear hK K
        change wpAnyH _ _ _ _ _ _ _ { tmps := #[.agg #[.slice (some ⟨b, off, none⟩) rs.length cap, .int .i64 4, .int .i64 9], .pointer (some ⟨g_T, 0, none⟩), .slice none 0 0, .slice a' (agedE (rs.take k)).length cp, undef, .pointer (some ⟨g_E, 0, none⟩), .pointer (some ⟨g_T, 0, none⟩), .slice (some ⟨b, off, none⟩) rs.length cap, .int .i64 rs.length, .int .i64 k, .bool true, .pointer (some ⟨b, off + k * 3, none⟩), .agg #[.int .i64 rs[k].ip, .int .i64 rs[k].hw, .int .i64 rs[k].age], .agg #[.int .i64 rs[k].ip, .int .i64 rs[k].hw, .int .i64 rs[k].age], .iface 49 (.agg #[.int .i64 rs[k].ip, .int .i64 rs[k].hw, .int .i64 rs[k].age]), .int .i64 rs[k].age, .pointer (some ⟨g_T, 2, none⟩), .int .i64 9, .bool true, .slice a' (agedE (rs.take k)).length cp, .agg #[.int .i64 rs[k].ip, .int .i64 rs[k].hw, .int .i64 rs[k].age], .iface 49 (.agg #[.int .i64 rs[k].ip, .int .i64 rs[k].hw, .int .i64 rs[k].age]), .agg #[.int .i64 rs[k].ip, .int .i64 rs[k].hw, .int .i64 rs[k].age], .iface 49 (.agg #[.int .i64 rs[k].ip, .int .i64 rs[k].hw, .int .i64 rs[k].age]), .int .i64 rs[k].age, .int .i64 (rs[k].age + 1), .agg #[.int .i64 rs[k].ip, .int .i64 rs[k].hw, .int .i64 (rs[k].age + 1)], .slice (some ⟨g_L, 0, none⟩) 1 1, .slice (some ⟨gg', 0, none⟩) ((agedE (rs.take k)).length + 1) cap', u29, undef], defers := [] } _
        refine wpAnyH_take (i := 10) (v := .slice (some ⟨gg', 0, none⟩) ((agedE (rs.take k)).length + 1) cap') rfl (by kernel_rfl) (by kernel_rfl) (by kernel_rfl) (fun _ _ _ h => h) (Or.inl ⟨rfl, by intro w hS; go_simp⟩) hS ?_
        change wpAnyH _ _ _ _ _ _ _ { tmps := #[.agg #[.slice (some ⟨b, off, none⟩) rs.length cap, .int .i64 4, .int .i64 9], .pointer (some ⟨g_T, 0, none⟩), .slice none 0 0, .slice (some ⟨gg', 0, none⟩) ((agedE (rs.take k)).length + 1) cap', undef, .pointer (some ⟨g_E, 0, none⟩), .pointer (some ⟨g_T, 0, none⟩), .slice (some ⟨b, off, none⟩) rs.length cap, .int .i64 rs.length, .int .i64 k, .bool true, .pointer (some ⟨b, off + k * 3, none⟩), .agg #[.int .i64 rs[k].ip, .int .i64 rs[k].hw, .int .i64 rs[k].age], .agg #[.int .i64 rs[k].ip, .int .i64 rs[k].hw, .int .i64 rs[k].age], .iface 49 (.agg #[.int .i64 rs[k].ip, .int .i64 rs[k].hw, .int .i64 rs[k].age]), .int .i64 rs[k].age, .pointer (some ⟨g_T, 2, none⟩), .int .i64 9, .bool true, .slice a' (agedE (rs.take k)).length cp, .agg #[.int .i64 rs[k].ip, .int .i64 rs[k].hw, .int .i64 rs[k].age], .iface 49 (.agg #[.int .i64 rs[k].ip, .int .i64 rs[k].hw, .int .i64 rs[k].age]), .agg #[.int .i64 rs[k].ip, .int .i64 rs[k].hw, .int .i64 rs[k].age], .iface 49 (.agg #[.int .i64 rs[k].ip, .int .i64 rs[k].hw, .int .i64 rs[k].age]), .int .i64 rs[k].age, .int .i64 (rs[k].age + 1), .agg #[.int .i64 rs[k].ip, .int .i64 rs[k].hw, .int .i64 (rs[k].age + 1)], .slice (some ⟨g_L, 0, none⟩) 1 1, .slice (some ⟨gg', 0, none⟩) ((agedE (rs.take k)).length + 1) cap', u29, undef], defers := [] } _
        refine wpAnyH_done (by kernel_rfl) ?_ _
        refine NoPanic.normal ?_
        have hB4 : Below v0.heap.size v0 v6 := (hB.out.trans (B5.out.mono hbz)).grown hgrow (Nat.le_trans hbz hz2') (fun j e => (hO2.out.lt j e).1)
        have e5 : agedE (rs.take k) ++ [⟨rs[k].ip, rs[k].hw, rs[k].age + 1⟩] = agedE (rs.take (k + 1)) := HN.out.symm
        have e6 : (agedE (rs.take (k + 1))).length = (agedE (rs.take k)).length + 1 := by rw [HN.out, List.length_append]; rfl
        rw [show ers (agedE (rs.take k)) ++ [.int .i64 rs[k].ip, .int .i64 rs[k].hw, .int .i64 (rs[k].age + 1)] = ers (agedE (rs.take (k + 1))) by rw [← e5, ers_append]; rfl, ← e6] at hown
        rw [← e6]
        clear hgrow hat hO hB hO2
        go_wp2_with fail
        go_roundw
        case rel => exact ⟨k + 1, by omega, by go_num, _, cap', rfl, hown, hB4⟩
        case measure => simp [RowKit.intOf]; omega
      · rw [if_neg h9, List.append_nil] at hn
        have HN := Lib.hid hn
        clear hn
        have KEn := Lib.hid (Blk.new wr [.int .i64 rs[k].ip, .int .i64 rs[k].hw, .int .i64 rs[k].age] 49)
        have n_T_E : g_T ≠ wr.heap.size := by have h1 := HT.out.lt; omega
        have Bn := Lib.hid (HB.out.alloc HB.out.size (.cells #[.int .i64 rs[k].ip, .int .i64 rs[k].hw, .int .i64 rs[k].age] 49))
        have KTn := Lib.hid (HT.out.alloc (.cells #[.int .i64 rs[k].ip, .int .i64 rs[k].hw, .int .i64 rs[k].age] 49))
        clear HB HT
        obtain ⟨⟨cT0, cT1, cT2⟩, dT0, dT1, dT2⟩ := KTn.out.o3
        go_upto_region 5 with fail
        clear hc0 hc1 hc2
        clear cT0 cT1 cT2 dT0 dT1 dT2
        generalize wr.alloc (.cells #[.int .i64 rs[k].ip, .int .i64 rs[k].hw, .int .i64 rs[k].age] 49) = v1 at KEn Bn KTn ⊢
        generalize hgE : wr.heap.size = g_E at KEn n_T_E ⊢
        have KT1 := KTn
        clear KTn
        have KE1 := KEn
        clear KEn
        have B1 := Bn
        clear Bn
        refine wp_region_noPanic ?_
        refine wp_region_held_drew (S := fun w' => Blk w' g_T [.slice (some ⟨b, off, none⟩) rs.length cap, .int .i64 4, .int .i64 9] ∧ Blk w' g_E [.int .i64 rs[k].ip, .int .i64 rs[k].hw, .int .i64 rs[k].age]) (by kernel_rfl) ⟨KT1.out, KE1.out⟩ (fun hS => ?_)
        refine wpAnyH_take (i := 0) (v := .agg #[.int .i64 rs[k].ip, .int .i64 rs[k].hw, .int .i64 rs[k].age]) rfl (by kernel_rfl) (by kernel_rfl) (by kernel_rfl) (fun _ _ _ h => h) (Or.inl ⟨rfl, by intro w hS; obtain ⟨⟨h0, h1, h2⟩, _⟩ := hS.2.o3; go_simp⟩) hS ?_
        change wpAnyH _ _ _ _ _ _ _ { tmps := #[.agg #[.slice (some ⟨b, off, none⟩) rs.length cap, .int .i64 4, .int .i64 9], .pointer (some ⟨g_T, 0, none⟩), .slice none 0 0, .slice a' (agedE (rs.take k)).length cp, undef, .pointer (some ⟨g_E, 0, none⟩), .pointer (some ⟨g_T, 0, none⟩), .slice (some ⟨b, off, none⟩) rs.length cap, .int .i64 rs.length, .int .i64 k, .bool true, .pointer (some ⟨b, off + k * 3, none⟩), .agg #[.int .i64 rs[k].ip, .int .i64 rs[k].hw, .int .i64 rs[k].age], .agg #[.int .i64 rs[k].ip, .int .i64 rs[k].hw, .int .i64 rs[k].age], u14, u15, u16, u17, u18, u19, u20, u21, u22, u23, u24, u25, u26, u27, u28, u29, undef], defers := [] } _
        refine wpAnyH_take (i := 1) (v := .iface 49 (.agg #[.int .i64 rs[k].ip, .int .i64 rs[k].hw, .int .i64 rs[k].age])) rfl (by kernel_rfl) (by kernel_rfl) (by kernel_rfl) (fun _ _ _ h => h) (Or.inl ⟨rfl, by intro w hS; go_simp⟩) hS ?_
        change wpAnyH _ _ _ _ _ _ _ { tmps := #[.agg #[.slice (some ⟨b, off, none⟩) rs.length cap, .int .i64 4, .int .i64 9], .pointer (some ⟨g_T, 0, none⟩), .slice none 0 0, .slice a' (agedE (rs.take k)).length cp, undef, .pointer (some ⟨g_E, 0, none⟩), .pointer (some ⟨g_T, 0, none⟩), .slice (some ⟨b, off, none⟩) rs.length cap, .int .i64 rs.length, .int .i64 k, .bool true, .pointer (some ⟨b, off + k * 3, none⟩), .agg #[.int .i64 rs[k].ip, .int .i64 rs[k].hw, .int .i64 rs[k].age], .agg #[.int .i64 rs[k].ip, .int .i64 rs[k].hw, .int .i64 rs[k].age], .iface 49 (.agg #[.int .i64 rs[k].ip, .int .i64 rs[k].hw, .int .i64 rs[k].age]), u15, u16, u17, u18, u19, u20, u21, u22, u23, u24, u25, u26, u27, u28, u29, undef], defers := [] } _
        refine wpAnyH_take (i := 3) (v := .pointer (some ⟨g_T, 2, none⟩)) rfl (by kernel_rfl) (by kernel_rfl) (by kernel_rfl) (fun _ _ _ h => h) (Or.inl ⟨rfl, by intro w hS; go_simp⟩) hS ?_
        change wpAnyH _ _ _ _ _ _ _ { tmps := #[.agg #[.slice (some ⟨b, off, none⟩) rs.length cap, .int .i64 4, .int .i64 9], .pointer (some ⟨g_T, 0, none⟩), .slice none 0 0, .slice a' (agedE (rs.take k)).length cp, undef, .pointer (some ⟨g_E, 0, none⟩), .pointer (some ⟨g_T, 0, none⟩), .slice (some ⟨b, off, none⟩) rs.length cap, .int .i64 rs.length, .int .i64 k, .bool true, .pointer (some ⟨b, off + k * 3, none⟩), .agg #[.int .i64 rs[k].ip, .int .i64 rs[k].hw, .int .i64 rs[k].age], .agg #[.int .i64 rs[k].ip, .int .i64 rs[k].hw, .int .i64 rs[k].age], .iface 49 (.agg #[.int .i64 rs[k].ip, .int .i64 rs[k].hw, .int .i64 rs[k].age]), u15, .pointer (some ⟨g_T, 2, none⟩), u17, u18, u19, u20, u21, u22, u23, u24, u25, u26, u27, u28, u29, undef], defers := [] } _
        refine wpAnyH_take (i := 4) (v := .int .i64 9) rfl (by kernel_rfl) (by kernel_rfl) (by kernel_rfl) (fun _ _ _ h => h) (Or.inl ⟨rfl, by intro w hS; obtain ⟨⟨h0, h1, h2⟩, _⟩ := hS.1.o3; go_simp⟩) hS ?_
        change wpAnyH _ _ _ _ _ _ _ { tmps := #[.agg #[.slice (some ⟨b, off, none⟩) rs.length cap, .int .i64 4, .int .i64 9], .pointer (some ⟨g_T, 0, none⟩), .slice none 0 0, .slice a' (agedE (rs.take k)).length cp, undef, .pointer (some ⟨g_E, 0, none⟩), .pointer (some ⟨g_T, 0, none⟩), .slice (some ⟨b, off, none⟩) rs.length cap, .int .i64 rs.length, .int .i64 k, .bool true, .pointer (some ⟨b, off + k * 3, none⟩), .agg #[.int .i64 rs[k].ip, .int .i64 rs[k].hw, .int .i64 rs[k].age], .agg #[.int .i64 rs[k].ip, .int .i64 rs[k].hw, .int .i64 rs[k].age], .iface 49 (.agg #[.int .i64 rs[k].ip, .int .i64 rs[k].hw, .int .i64 rs[k].age]), u15, .pointer (some ⟨g_T, 2, none⟩), .int .i64 9, u18, u19, u20, u21, u22, u23, u24, u25, u26, u27, u28, u29, undef], defers := [] } _
        refine wpAnyH_ready (rs := [2]) (by kernel_rfl) (by simp) ?_
        refine AllReadyH.cons (i := 2) rfl (fun K hK => ?zr31) AllReadyH.nil
        rw [if_pos (by rfl)]
        go_simp
        go_invoke
        go_simp
        clear hS
        refine (C2.out _).mono ?_
        rintro e v2 ⟨rfl, hb⟩
        replace hb := (Below.refl _ v1).drew.trans hb
        have B2 := Lib.hid (B1.out.trans (hb.mono B1.out.size))
        have KT2 := Lib.hid (KT1.out.below hb)
        have KE2 := Lib.hid (KE1.out.below hb)
        clear hb B1 KT1 KE1
        refine hK.out _ _ ⟨KT2.out, KE2.out⟩ (fun hS => ?_)
        clear hK K
        change wpAnyH _ _ _ _ _ _ _ { tmps := #[.agg #[.slice (some ⟨b, off, none⟩) rs.length cap, .int .i64 4, .int .i64 9], .pointer (some ⟨g_T, 0, none⟩), .slice none 0 0, .slice a' (agedE (rs.take k)).length cp, undef, .pointer (some ⟨g_E, 0, none⟩), .pointer (some ⟨g_T, 0, none⟩), .slice (some ⟨b, off, none⟩) rs.length cap, .int .i64 rs.length, .int .i64 k, .bool true, .pointer (some ⟨b, off + k * 3, none⟩), .agg #[.int .i64 rs[k].ip, .int .i64 rs[k].hw, .int .i64 rs[k].age], .agg #[.int .i64 rs[k].ip, .int .i64 rs[k].hw, .int .i64 rs[k].age], .iface 49 (.agg #[.int .i64 rs[k].ip, .int .i64 rs[k].hw, .int .i64 rs[k].age]), .int .i64 rs[k].age, .pointer (some ⟨g_T, 2, none⟩), .int .i64 9, u18, u19, u20, u21, u22, u23, u24, u25, u26, u27, u28, u29, undef], defers := [] } _
        refine wpAnyH_take (i := 5) (v := .bool false) rfl (by kernel_rfl) (by kernel_rfl) (by kernel_rfl) (fun _ _ _ h => h) (Or.inl ⟨rfl, by intro w hS; go_simp⟩) hS ?_
        change wpAnyH _ _ _ _ _ _ _ { tmps := #[.agg #[.slice (some ⟨b, off, none⟩) rs.length cap, .int .i64 4, .int .i64 9], .pointer (some ⟨g_T, 0, none⟩), .slice none 0 0, .slice a' (agedE (rs.take k)).length cp, undef, .pointer (some ⟨g_E, 0, none⟩), .pointer (some ⟨g_T, 0, none⟩), .slice (some ⟨b, off, none⟩) rs.length cap, .int .i64 rs.length, .int .i64 k, .bool true, .pointer (some ⟨b, off + k * 3, none⟩), .agg #[.int .i64 rs[k].ip, .int .i64 rs[k].hw, .int .i64 rs[k].age], .agg #[.int .i64 rs[k].ip, .int .i64 rs[k].hw, .int .i64 rs[k].age], .iface 49 (.agg #[.int .i64 rs[k].ip, .int .i64 rs[k].hw, .int .i64 rs[k].age]), .int .i64 rs[k].age, .pointer (some ⟨g_T, 2, none⟩), .int .i64 9, .bool false, u19, u20, u21, u22, u23, u24, u25, u26, u27, u28, u29, undef], defers := [] } _
        refine wpAnyH_done (by kernel_rfl) ?_ _
        refine NoPanic.normal ?_
        go_wp2_with fail
        go_roundw
        case rel => exact ⟨k + 1, by omega, by go_num, a', cp, by rw [HN.out], by rw [HN.out]; exact own_below hO.out B2.out, hB.out.trans (B2.out.mono hbz)⟩
        case measure => simp [RowKit.intOf]; omega
    · obtain rfl : k = rs.length := by omega
      rw [List.take_length] at hO ⊢
      go_wp2_with fail
      go_ret
      exact ⟨a', cp, rfl, own_down hO.out B0.out.size, B0.out.trans (hB.out.mono B0.out.size)⟩

set_option maxHeartbeats 1000000 in
theorem agedI (a : Option Addr) (cap : Nat) (rs : List ER) (w : World) (hrow : Row w w.heap.size a (ers rs)) (hl : rs.length ≤ 1048577) (hg : ∀ r ∈ rs, goodE r) :
    Calls Try.prog 19 #[.slice a rs.length cap] w (NewE (agedE rs) w) := by
  have HR := Lib.hid hrow
  have HG := Lib.hid hg
  clear hrow hg
  go_enter Try.func19, Try.ntmps19
  go_wp2_with fail
  refine (cacheOfI a rs.length cap w).mono ?_
  rintro e w1 ⟨rfl, hb⟩
  have B1 := Lib.hid hb
  clear hb
  go_wp2_with fail
  refine (tableAgedI a cap rs w1 ((HR.out.below B1.out).mono B1.out.size) hl HG.out).mono ?_
  rintro e w2 ⟨a', cp, rfl, ho, hb⟩
  have O2 := Lib.hid (own_down ho B1.out.size)
  have B2 := Lib.hid (B1.out.trans (hb.mono B1.out.size))
  clear hb ho
  go_wp2_with fail
  go_ret
  exact ⟨a', cp, rfl, O2.out, B2.out⟩
end Go.Proofs.Ythckbabcmmkljaa
