/- TableMac of the model, at a slice that is not nil; slices.Clone of a table. Nothing here is a claim. -/
import Derived.Test.YtobfgkiccmhgdaaGreatInfoM
import Derived.Test.YtobfgkiccmhgdaaGreatFlatRow
import Derived.Test.YtobfgkiccmhgdaaGreatCurKit
import Derived.Deep.RegionHeld3
import Derived.Test.YtobfgkiccmhgdaaGreatCurA
import Derived.OwnWalk
import Derived.Deep.DeepCutAuto
namespace Go.Proofs.YtobfgkiccmhgdaaGreat
open Go.RowKit Go.Lib

/-- The table's cells are one cell each. -/
theorem mrs_one (rs : List MR) : ∀ u ∈ mrs rs, u.oneCell' = true := by
  intro u hu
  obtain ⟨r, _, hr⟩ := List.mem_flatMap.1 hu
  simp only [MR.cs, List.mem_cons, List.not_mem_nil, or_false] at hr
  rcases hr with rfl | rfl <;> rfl
/-- What a copy of a table is: new memory, not nil. -/
def ToV (rs : List MR) (w : World) (e : Ending) (w' : World) : Prop :=
  ∃ g cap, e = .returned (.slice (some ⟨g, 0, none⟩) rs.length cap) ∧ w'.ownsRow w.heap.size 72 2 (.slice (some ⟨g, 0, none⟩) rs.length cap) rs.length (mrs rs) ∧ Below w.heap.size w w'
/-- The source's cells, in an address's words. -/
theorem row_adr {w : World} {B b off : Nat} {xs : List Value} (h : Row w B (some ⟨b, off, none⟩) xs) : ∀ j u, xs[j]? = some u → w.cell? ((⟨b, off, none⟩ : Addr).add j) = some u := by
  intro j u hu
  obtain ⟨b', off', e, _, hc⟩ := h (fun e => by rw [e] at hu; cases hu)
  injection e with e
  injection e with e1 e2
  subst e1 e2
  rw [show (⟨b, off, none⟩ : Addr).add j = ⟨b, off + j, none⟩ by unfold Addr.add; split <;> simp_all]
  exact hc j u hu

theorem own_shape {w : World} {base size n : Nat} {e : TypeId} {v : Value} {xs : List Value} (h : w.ownsRow base e size v n xs) (hn : v ≠ .slice none 0 0) : ∃ g cap, v = .slice (some ⟨g, 0, none⟩) n cap := by
  rcases h.2 with ⟨hv, _⟩ | ⟨g, cap, _, hv, _⟩
  · exact absurd hv hn
  · exact ⟨g, cap, hv⟩
set_option maxRecDepth 100000 in
set_option maxHeartbeats 800000 in
theorem cloneM (b off cap : Nat) (rs : List MR) (w : World) (hrow : Row w w.heap.size (some ⟨b, off, none⟩) (mrs rs)) (hl : rs.length ≤ 1048577) :
    Calls Tryz.prog 45 #[.slice (some ⟨b, off, none⟩) rs.length cap] w (ToV rs w) := by
  obtain ⟨i0, hi, hz0, hz1, hz2⟩ := info_parts Tryz.info72
  have HR := Lib.hid (row_adr ((hrow.below ((Below.refl _ _).alloc (Nat.le_refl _) (.cells #[] 72))).mono (B' := w.heap.size) (by simp)))
  have O0 := Lib.hid (World.ownsRow_lit (base := w.heap.size) (e := 72) (size := 2) w #[] 0 (Nat.le_refl _) (Nat.zero_le _) rfl)
  clear hrow
  have hq := Lib.run_eql_slice_nil (P := Tryz.prog) w 25 72 (some ⟨b, off, none⟩) rs.length cap 0 0 Tryz.underlying25
  go_enter Tryz.func45, Tryz.ntmps45
  go_wp2_with (at_builtin; refine wpList_append_own _ rfl _ _ 25 rfl w.heap.size 72 i0 (.agg #[.string ⟨#[]⟩, .int .i64 0]) 2 24 Tryz.underlying25 hi hz0 hz1 hz2 rfl (by decide) (.slice (some ⟨w.heap.size, 0, none⟩) 0 0) 0 [] rfl O0.out ⟨b, off, none⟩ rs.length cap (mrs rs) rfl (mrs_length rs) HR.out (mrs_one rs) (by unfold maxLen; omega) (by omega) (by simp) ?_; intro v' w1 hown1 hgrow1 hnil1)
  simp only [Nat.zero_add, List.nil_append] at hown1
  obtain ⟨g, c', rfl⟩ := own_shape hown1 (fun e => by have := (hnil1.1 e).1; cases this)
  go_ret
  exact ⟨g, c', rfl, hown1, ((Below.refl _ w).alloc (Nat.le_refl _) _).grown hgrow1 (by simp) (fun j e => by cases e; exact Nat.le_refl _)⟩

/-- What TableMac hands back. -/
def TabEnd (rs : List MR) (w : World) (e : Ending) (w' : World) : Prop :=
  ∃ g cap, e = .returned (.agg #[.bool true, .int .u64 0, .int .u64 0, .slice (some ⟨g, 0, none⟩) rs.length cap]) ∧ w'.ownsRow w.heap.size 72 2 (.slice (some ⟨g, 0, none⟩) rs.length cap) rs.length (mrs rs) ∧ Below w.heap.size w w'

set_option maxRecDepth 100000 in
set_option maxHeartbeats 800000 in
theorem tableMacS (b off cap : Nat) (rs : List MR) (w : World) (hrow : Row w w.heap.size (some ⟨b, off, none⟩) (mrs rs)) (hl : rs.length ≤ 1048577) :
    Calls Tryz.prog 56 #[.slice (some ⟨b, off, none⟩) rs.length cap] w (TabEnd rs w) := by
  obtain ⟨i0, hi, hz0, hz1, hz2⟩ := info_parts Tryz.info72
  have B1 := Lib.hid (show Below w.heap.size w (w.alloc (.cells #[.bool false, .int .u64 0, .int .u64 0, .slice none 0 0] 27)) from (Below.refl _ w).alloc (Nat.le_refl _) _)
  have E1 := Lib.hid (Blk.new w [.bool false, .int .u64 0, .int .u64 0, .slice none 0 0] 27)
  have R := Lib.hid ((hrow.below B1.out).mono B1.out.size)
  have hz : w.heap.size < (w.alloc (.cells #[.bool false, .int .u64 0, .int .u64 0, .slice none 0 0] 27)).heap.size := by simp
  clear hrow
  go_enter Tryz.func56, Tryz.ntmps56
  go_upto_region 1 with fail
  generalize w.alloc (.cells #[.bool false, .int .u64 0, .int .u64 0, .slice none 0 0] 27) = w0 at B1 E1 R hz ⊢
  have HR := Lib.hid (row_adr ((R.out.below ((Below.refl _ _).alloc (Nat.le_refl _) (.cells #[] 72))).mono (B' := w0.heap.size) (by simp)))
  have O0 := Lib.hid (World.ownsRow_lit (base := w0.heap.size) (e := 72) (size := 2) w0 #[] 0 (Nat.le_refl _) (Nat.zero_le _) rfl)
  go_wp2_with (at_builtin; refine wpList_append_own _ rfl _ _ 25 rfl w0.heap.size 72 i0 (.agg #[.string ⟨#[]⟩, .int .i64 0]) 2 24 Tryz.underlying25 hi hz0 hz1 hz2 rfl (by decide) (.slice (some ⟨w0.heap.size, 0, none⟩) 0 0) 0 [] rfl O0.out ⟨b, off, none⟩ rs.length cap (mrs rs) rfl (mrs_length rs) HR.out (mrs_one rs) (by unfold maxLen; omega) (by omega) (by simp) ?_; intro v' w1 hown1 hgrow1 hnil1; simp only [Nat.zero_add, List.nil_append] at hown1; obtain ⟨g, c', rfl⟩ := own_shape hown1 (fun e => by have := (hnil1.1 e).1; cases this); have hb := ((Below.refl w0.heap.size w0).alloc (Nat.le_refl _) (.cells #[] 72)).grown hgrow1 (by simp) (fun j e => by cases e; exact Nat.le_refl _); clear hgrow1 hnil1; have E2 := Lib.hid (E1.out.below hb); have B2 := Lib.hid (B1.out.trans (hb.mono B1.out.size)); have O := Lib.hid hown1; clear hb hown1; obtain ⟨⟨c0, c1, c2, c3⟩, f0, f1, f2, f3⟩ := E2.out.four)
  refine bodyPost_ret (v := .agg #[.bool true, .int .u64 0, .int .u64 0, .slice (some ⟨g, 0, none⟩) rs.length c']) (by simp [results, Tryz.results56, go_sem, c0, c1, c2, c3]) rfl ⟨g, c', rfl, ?_, ?_⟩
  · exact own_down (own_set (own_set (own_set (own_set O.out _ _ hz _) _ _ hz _) _ _ hz _) _ _ hz _) B1.out.size
  · exact (((B2.out.setCell (Nat.le_refl _) _).setCell (Nat.le_refl _) _).setCell (Nat.le_refl _) _).setCell (Nat.le_refl _) _
end Go.Proofs.YtobfgkiccmhgdaaGreat
