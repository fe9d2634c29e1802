/- The model's l18Slots, l18Free. Nothing here is a claim. -/
import Derived.Test.YtpbnkkgfjmkcdaaSlotK
import Derived.Test.YtpbnkkgfjmkcdaaRcvOk
import Derived.Test.YtpbnkkgfjmkcdaaCurA
import Derived.Test.YtpbnkkgfjmkcdaaRowN
import Derived.Test.YtpbnkkgfjmkcdaaCurKit
import Derived.Test.YtpbnkkgfjmkcdaaTabMac
import Derived.StillTailTactics
namespace Go.Proofs.Ytpbnkkgfjmkcdaa
open Go.RowKit Go.Lib

theorem fill33_made : (madeCells (Value.int .i64 0).cells (33 * 1)).toList = fill33 0 := by kernel_rfl
theorem Try.info3 : (Try.prog.info? 3).map (fun i => (i.zero, i.size, i.bytes)) = some (some (.int .i64 0), 1, 8) := by kernel_rfl
/-- A new row of 33 slots. -/
def NewSl (T : Tab) (w : World) (e : Ending) (w' : World) : Prop :=
  ∃ g, e = .returned (.slice (some ⟨g, 0, none⟩) 33 33) ∧ w'.ownsRow w.heap.size 3 1 (.slice (some ⟨g, 0, none⟩) 33 33) 33 (slotsV T) ∧ Below w.heap.size w w'

set_option maxRecDepth 100000 in
set_option maxHeartbeats 8000000 in
theorem slotsS (n f : Int) (z : Bool) (d : ByteArray) (a : Option Addr) (cap : Nat) (rs : List HP) (w : World) (hrow : Row w w.heap.size a (hps rs)) (hok : PiecesOk rs 32 rs.length) (hl : rs.length ≤ 3) :
    Calls Try.prog 42 #[.agg #[.int .i64 n, .string d, .slice a rs.length cap, .int .i64 f, .bool z]] w (NewSl (heldT rs) w) := by
  obtain ⟨i0, hi, hz0, hz1, hz2⟩ := info_parts Try.info3
  have B0 := Lib.hid (show Below w.heap.size w (w.alloc (.cells #[.int .i64 n, .string d, .slice a rs.length cap, .int .i64 f, .bool z] 26)) from (Below.refl _ w).alloc (Nat.le_refl _) _)
  have K0 := Lib.hid (Blk.new w [.int .i64 n, .string d, .slice a rs.length cap, .int .i64 f, .bool z] 26)
  have HR := Lib.hid hrow
  have HO := Lib.hid hok
  have s1 := Lib.hid (show (w.alloc (.cells #[.int .i64 n, .string d, .slice a rs.length cap, .int .i64 f, .bool z] 26)).heap.size = w.heap.size + 1 by simp)
  clear hrow hok
  go_enter Try.func42, Try.ntmps42
  go_wp2_with (at_make; refine wpList_make_full _ rfl _ _ 65 rfl (w.alloc (.cells #[.int .i64 n, .string d, .slice a rs.length cap, .int .i64 f, .bool z] 26)).heap.size 3 i0 (.int .i64 0) 1 Try.underlying65 hi hz0 hz1 .i64 .i64 _ _ 33 rfl rfl rfl rfl (by rw [hz2]; omega) (by unfold maxLen; omega) (Nat.le_refl _) ?_; intro w0 hown0 hgrow0)
  have K1 := Lib.hid (K0.out.below ((Below.refl _ _).grown hgrow0 (Nat.le_refl _) (fun _ h => by cases h)))
  have B1 := Lib.hid (B0.out.trans (((Below.refl _ _).grown hgrow0 (Nat.le_refl _) (fun _ h => by cases h)).mono B0.out.size))
  have O1 := Lib.hid (show w0.ownsRow (w.alloc (.cells #[.int .i64 n, .string d, .slice a rs.length cap, .int .i64 f, .bool z] 26)).heap.size 3 1 (.slice (some ⟨(w.alloc (.cells #[.int .i64 n, .string d, .slice a rs.length cap, .int .i64 f, .bool z] 26)).heap.size, 0, none⟩) 33 33) 33 (fill33 0) by rw [← fill33_made]; exact hown0)
  clear hown0 hgrow0
  rw [s1.out] at O1
  clear B0 K0
  have hg1 : w.heap.size ≠ w.heap.size + 1 := by omega
  have hg2 : w.heap.size ≤ w.heap.size + 1 := by omega
  have hg3 := Lib.hid (Nat.le_refl w.heap.size)
  generalize w.heap.size + 1 = g at O1 hg1 hg2 ⊢
  go_loopw [4] (fun i wr => ∃ k : Nat, k ≤ 33 ∧ i = .int .i64 k ∧ Hid (wr.ownsRow g 3 1 (.slice (some ⟨g, 0, none⟩) 33 33) 33 (fill33 k)) ∧ Hid (Blk wr w.heap.size [.int .i64 n, .string d, .slice a rs.length cap, .int .i64 f, .bool z]) ∧ Hid (Below w.heap.size w wr)) (fun i _ => 33 - (RowKit.intOf i).toNat)
  case atStart => exact ⟨0, Nat.zero_le _, rfl, O1, K1, B1⟩
  case round =>
    obtain ⟨k, hk, rfl, hO, hK, hB⟩ := hrel
    clear O1 K1 B1
    by_cases hlt : k < 33
    · have hd0 := (hO.out.cellAt k (by omega)).trans (fill33_at k hlt)
      have hf0 := hO.out.frozenAt k
      have S1 := hO.out.stored k (.int .i64 (-1))
      rw [fill33_set k hlt] at S1
      have O2 := Lib.hid S1.1
      have B2 := Lib.hid (hB.out.setCell (p := ⟨g, k, none⟩) hg2 (.int .i64 (-1)))
      have K2 := Lib.hid (hK.out.setOther ⟨g, k, none⟩ (.int .i64 (-1)) hg1)
      clear S1 hO hK hB
      go_wp2_with fail
      go_roundw
      case rel => exact ⟨k + 1, by omega, by go_num, O2, K2, B2⟩
      case measure => simp [RowKit.intOf]; omega
    · have hk33 : k = 33 := by omega
      have e33 : fill33 k = slotsV (heldT []) := by rw [hk33]; exact fill33_all
      rw [e33] at hO
      clear e33 hk33
      go_wp2_with fail
      go_loopw [5] (fun i wr => ∃ k : Nat, k ≤ rs.length ∧ i = .int .i64 k ∧ Hid (wr.ownsRow g 3 1 (.slice (some ⟨g, 0, none⟩) 33 33) 33 (slotsV (heldTo rs k 0))) ∧ Hid (Blk wr w.heap.size [.int .i64 n, .string d, .slice a rs.length cap, .int .i64 f, .bool z]) ∧ Hid (Below w.heap.size w wr)) (fun i _ => rs.length - (RowKit.intOf i).toNat)
      case atStart => exact ⟨0, Nat.zero_le _, rfl, by rw [heldTo_zero, List.take_zero]; exact hO, hK, hB⟩
      case round =>
        obtain ⟨k, hk, rfl, hO, hK, hB⟩ := hrel
        obtain ⟨⟨c0, c1, c2, c3, c4⟩, d0, d1, d2, d3, d4⟩ := hK.out.of5
        by_cases hlt : k < rs.length
        · go_wp2_with fail
          clear c0 c1 c2 c3 c4 d0 d1 d2 d3 d4
          have hP := HO.out k hlt hlt
          have hE := (PiecesOk.end_bd (k := k) (by omega) (fun j x hj => HO.out j x (by omega)) (by omega)).1
          unfold PieceOk at hP
          go_loopw [6] (fun i wr => ∃ j : Nat, j ≤ rs[k].t.size ∧ i = .int .i64 j ∧ Hid (wr.ownsRow g 3 1 (.slice (some ⟨g, 0, none⟩) 33 33) 33 (slotsV (heldTo rs k j))) ∧ Hid (Blk wr w.heap.size [.int .i64 n, .string d, .slice a rs.length cap, .int .i64 f, .bool z]) ∧ Hid (Below w.heap.size w wr)) (fun i _ => rs[k].t.size - (RowKit.intOf i).toNat)
          case atStart => exact ⟨0, Nat.zero_le _, rfl, hO, hK, hB⟩
          case round =>
            obtain ⟨j, hj, rfl, hO, hK, hB⟩ := hrel
            obtain ⟨⟨c0, c1, c2, c3, c4⟩, d0, d1, d2, d3, d4⟩ := hK.out.of5
            obtain ⟨p, o, rfl, _, hcs⟩ := (HR.out.below hB.out).hp hlt
            obtain ⟨hc0, hc1⟩ := hcs k hlt
            have hk0 : (0 : Int) ≤ (k : Int) := Int.natCast_nonneg _
            have hk1 : (k : Int) < (rs.length : Int) := by omega
            have hj0 : (0 : Int) ≤ (j : Int) := Int.natCast_nonneg _
            clear hcs
            by_cases hjt : j < rs[k].t.size
            · obtain ⟨q, hq⟩ : ∃ q : Nat, rs[k].o + (j : Int) = (q : Int) := ⟨(rs[k].o + (j : Int)).toNat, by omega⟩
              have hw : IntKind.i64.wrap (rs[k].o + (j : Int)) = (q : Int) := by rw [hq]; exact IntWalk.i64_in _ (by omega)
              have hb8 := rs[k].t[j].toNat_lt
              have hw8 : IntKind.i64.wrap (rs[k].t[j].toNat : Int) = (rs[k].t[j].toNat : Int) := IntWalk.i64_in _ (by omega)
              have hj1 : (j : Int) < (rs[k].t.size : Int) := by omega
              have HF := Lib.hid (heldTo_free (l := 32) (by omega) HO.out hlt hjt)
              have HX := Lib.hid (heldTo_next hlt hjt (by omega))
              rw [show (rs[k].o + (j : Int)).toNat = q by omega] at HF HX
              have hq33 : q < 33 := by omega
              have hq0 : (0 : Int) ≤ (q : Int) := Int.natCast_nonneg _
              have hq1 : (q : Int) < 33 := by omega
              clear hq
              go_wp2_with fail
              go_still_tail 19, (by kernel_rfl)
              clear c0 c1 c2 c3 c4 d0 d1 d2 d3 d4 hc0 hc1
              change wpList _ _ _ _ _ wr.drew
              have O2 := Lib.hid (own_drewn hO.out)
              have K2 := Lib.hid hK.out.drew
              have B2 := Lib.hid hB.out.drew
              clear hO hK hB
              generalize wr.drew = v1 at O2 K2 B2 ⊢
              have hd0 := (O2.out.cellAt q (by omega)).trans (slotsV_at _ q hq33)
              have hf0 := O2.out.frozenAt q
              have S1 := O2.out.stored q (.int .i64 (rs[k].t[j].toNat : Int))
              rw [slotsV_put, ← putF_free HF.out, ← HX.out] at S1
              have O3 := Lib.hid S1.1
              have B3 := Lib.hid (B2.out.setCell (p := ⟨g, q, none⟩) hg2 (.int .i64 (rs[k].t[j].toNat : Int)))
              have K3 := Lib.hid (K2.out.setOther ⟨g, q, none⟩ (.int .i64 (rs[k].t[j].toNat : Int)) hg1)
              clear S1 O2 K2 B2
              go_wp2_with fail
              go_roundw
              case rel => exact ⟨j + 1, by omega, by go_num, O3, K3, B3⟩
              case measure => simp [RowKit.intOf]; omega
            · obtain rfl : j = rs[k].t.size := by omega
              rw [heldTo_all hlt] at hO
              go_wp2_with fail
              go_roundw
              case rel => exact ⟨k + 1, by omega, by go_num, hO, hK, hB⟩
              case measure => simp [RowKit.intOf]; omega
        · obtain rfl : k = rs.length := by omega
          rw [heldTo_zero, List.take_length] at hO
          go_wp2_with fail
          go_ret
          exact ⟨g, rfl, own_down hO.out hg2, hB.out⟩

set_option maxRecDepth 100000 in
set_option maxHeartbeats 2000000 in
theorem freeS (T : Tab) (p : Nat) (hp : p ≤ 1000) (a : Option Addr) (w : World) (hrow : Row w w.heap.size a (slotsV T)) :
    Calls Try.prog 44 #[.slice a 33 33, .int .i64 p] w (SndB (freeB T p) w) := by
  have HR := Lib.hid hrow
  clear hrow
  go_enter Try.func44, Try.ntmps44
  go_wp2_with fail
  go_loop [5] (fun i => ∃ k : Nat, p ≤ k ∧ k ≤ 1000 ∧ i = .int .i64 k ∧ (∀ o : Nat, p ≤ o → o < k → o < 33 → T o = none)) (fun i => 33 - (RowKit.intOf i).toNat)
  case atStart => exact ⟨p, Nat.le_refl _, hp, rfl, fun o h1 h2 => by omega⟩
  case round =>
    obtain ⟨k, hk, hk2, rfl, hf⟩ := hrel
    by_cases hlt : k < 33
    · obtain ⟨b, off, rfl, hb, hc⟩ := HR.out (fun e => by have := slotsV_length T; rw [e] at this; cases this)
      have hc0 := hc k _ (slotsV_at T k hlt)
      have hk0 : (0 : Int) ≤ (k : Int) := Int.natCast_nonneg _
      have hk1 : (k : Int) < 33 := by omega
      have hsb := sv_bd (T k)
      have HF := Lib.hid hf
      clear hc hf
      by_cases e : T k = none
      · have e2 := sv_neg e
        have E := Lib.hid e
        rw [e2] at hc0
        clear e e2 hsb
        go_wp2_with fail
        go_round
        case rel => exact ⟨k + 1, by omega, by omega, by go_num, fun o h1 h2 h3 => by
          rcases Nat.lt_or_ge o k with h4 | h4
          · exact HF.out o h1 h4 h3
          · obtain rfl : o = k := by omega
            exact E.out⟩
        case measure => simp [RowKit.intOf]; omega
      · have e2 := (sv_some e).1
        have N := Lib.hid (show freeB T p = false by unfold freeB; simp only [decide_eq_false_iff_not]; exact fun q => e (q k (by omega) hlt))
        have e3 : ¬ sv (T k) < 0 := by omega
        generalize sv (T k) = u at hc0 hsb e2 e3 ⊢
        clear e
        go_wp2_with fail
        go_ret
        exact ⟨ret_bool N.out.symm, Below.refl _ _⟩
    · have N := Lib.hid (show freeB T p = true by unfold freeB; simp only [decide_eq_true_eq]; exact fun o h1 h2 => hf o (by omega) (by omega) h2)
      clear hf
      go_wp2_with fail
      go_ret
      exact ⟨ret_bool N.out.symm, Below.refl _ _⟩
end Go.Proofs.Ytpbnkkgfjmkcdaa
