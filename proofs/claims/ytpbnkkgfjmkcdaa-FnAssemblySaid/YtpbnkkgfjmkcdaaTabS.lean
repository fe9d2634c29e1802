/- storedIn: the table of the pieces that are held. Nothing here is a claim. -/
import Derived.Test.YtpbnkkgfjmkcdaaTabI
import Derived.Test.YtpbnkkgfjmkcdaaRcvLaw
import Derived.Deep.RegionHeld3
namespace Go.Proofs.Ytpbnkkgfjmkcdaa
open Go.RowKit Go.Lib

/-- A new table. -/
def NewTb (T : Tab) (w : World) (e : Ending) (w' : World) : Prop := ∃ g, e = .returned (.pointer (some ⟨g, 0, none⟩)) ∧ Blk w' g (tabC T) ∧ w.heap.size ≤ g ∧ Below w.heap.size w w'
set_option maxRecDepth 100000 in
set_option maxHeartbeats 8000000 in
theorem storedInI (a : Option Addr) (cap : Nat) (rs : List HP) (w : World) (hrow : Row w w.heap.size a (hps rs)) (hok : PiecesOk rs 32 rs.length) (hl : rs.length ≤ 3) :
    Calls Try.prog 34 #[.slice a rs.length cap] w (NewTb (heldT rs) w) := by
  have HR := Lib.hid hrow
  have HO := Lib.hid hok
  clear hrow hok
  have K0 := Lib.hid (show Blk (w.alloc (.cells #[.int .u8 0, .int .u8 0, .int .u8 0, .int .u8 0, .int .u8 0, .int .u8 0, .int .u8 0, .int .u8 0, .int .u8 0, .int .u8 0, .int .u8 0, .int .u8 0, .int .u8 0, .int .u8 0, .int .u8 0, .int .u8 0, .int .u8 0, .int .u8 0, .int .u8 0, .int .u8 0, .int .u8 0, .int .u8 0, .int .u8 0, .int .u8 0, .int .u8 0, .int .u8 0, .int .u8 0, .int .u8 0, .int .u8 0, .int .u8 0, .int .u8 0, .int .u8 0, .bool false, .bool false, .bool false, .bool false, .bool false, .bool false, .bool false, .bool false, .bool false, .bool false, .bool false, .bool false, .bool false, .bool false, .bool false, .bool false, .bool false, .bool false, .bool false, .bool false, .bool false, .bool false, .bool false, .bool false, .bool false, .bool false, .bool false, .bool false, .bool false, .bool false, .bool false, .bool false] 89)) w.heap.size (tabC (heldT [])) from Blk.new w (tabC (heldT [])) 89)
  have B0 := Lib.hid (show Below w.heap.size w (w.alloc (.cells #[.int .u8 0, .int .u8 0, .int .u8 0, .int .u8 0, .int .u8 0, .int .u8 0, .int .u8 0, .int .u8 0, .int .u8 0, .int .u8 0, .int .u8 0, .int .u8 0, .int .u8 0, .int .u8 0, .int .u8 0, .int .u8 0, .int .u8 0, .int .u8 0, .int .u8 0, .int .u8 0, .int .u8 0, .int .u8 0, .int .u8 0, .int .u8 0, .int .u8 0, .int .u8 0, .int .u8 0, .int .u8 0, .int .u8 0, .int .u8 0, .int .u8 0, .int .u8 0, .bool false, .bool false, .bool false, .bool false, .bool false, .bool false, .bool false, .bool false, .bool false, .bool false, .bool false, .bool false, .bool false, .bool false, .bool false, .bool false, .bool false, .bool false, .bool false, .bool false, .bool false, .bool false, .bool false, .bool false, .bool false, .bool false, .bool false, .bool false, .bool false, .bool false, .bool false, .bool false] 89)) from (Below.refl _ w).alloc (Nat.le_refl _) _)
  go_enter Try.func34, Try.ntmps34
  go_wp2_with fail
  go_loopw [11] (fun i wr => ∃ k : Nat, k ≤ rs.length ∧ i = .int .i64 k ∧ Hid (Blk wr w.heap.size (tabC (heldTo rs k 0))) ∧ Hid (Below w.heap.size w wr)) (fun i _ => rs.length - (RowKit.intOf i).toNat)
  case atStart => exact ⟨0, Nat.zero_le _, rfl, by rw [heldTo_zero, List.take_zero]; exact K0, B0⟩
  case round =>
    obtain ⟨k, hk, rfl, hK, hB⟩ := hrel
    clear K0 B0
    by_cases hlt : k < rs.length
    · obtain ⟨p, o, rfl, _, hcs⟩ := (HR.out.below hB.out).hp hlt
      obtain ⟨hc0, hc1⟩ := hcs k hlt
      have hk0 : (0 : Int) ≤ (k : Int) := Int.natCast_nonneg _
      have hk1 : (k : Int) < (rs.length : Int) := by omega
      clear hcs
      have K1 := Lib.hid (hK.out.alloc (.cells #[.int .i64 rs[k].o, .string rs[k].t] 64))
      have B1 := Lib.hid (hB.out.alloc hB.out.size (.cells #[.int .i64 rs[k].o, .string rs[k].t] 64))
      have P1 := Lib.hid (Blk.new wr [.int .i64 rs[k].o, .string rs[k].t] 64)
      have hne : wr.heap.size ≠ w.heap.size := by have := hK.out.lt; omega
      have hP := HO.out k hlt hlt
      have hE := (PiecesOk.end_bd (k := k) (by omega) (fun j x hj => HO.out j x (by omega)) (by omega)).1
      unfold PieceOk at hP
      clear hK hB
      go_wp2_with fail
      clear hc0 hc1
      generalize wr.alloc (.cells #[.int .i64 rs[k].o, .string rs[k].t] 64) = v0 at K1 B1 P1 ⊢
      generalize wr.heap.size = pb at P1 hne ⊢
      go_loopw [18] (fun i wx => ∃ j : Nat, j ≤ rs[k].t.size ∧ i = .int .i64 j ∧ Hid (Blk wx w.heap.size (tabC (heldTo rs k j))) ∧ Hid (Below w.heap.size w wx) ∧ Hid (Blk wx pb [.int .i64 rs[k].o, .string rs[k].t])) (fun i _ => rs[k].t.size - (RowKit.intOf i).toNat)
      case atStart => exact ⟨0, Nat.zero_le _, rfl, K1, B1, P1⟩
      case round =>
        obtain ⟨j, hj, rfl, hK, hB, hPb⟩ := hrel
        clear K1 B1 P1
        obtain ⟨c0, d0⟩ := And.intro (hPb.out.cell 0 _ rfl) (hPb.out.cell 1 _ rfl)
        by_cases hjt : j < rs[k].t.size
        · obtain ⟨q, hq⟩ : ∃ q : Nat, rs[k].o + (j : Int) = (q : Int) := ⟨(rs[k].o + (j : Int)).toNat, by omega⟩
          have hw : IntKind.i64.wrap (rs[k].o + (j : Int)) = (q : Int) := by rw [hq]; exact IntWalk.i64_in _ (by omega)
          have hj0 : (0 : Int) ≤ (j : Int) := Int.natCast_nonneg _
          have hj1 : (j : Int) < (rs[k].t.size : Int) := by omega
          have hb8 := rs[k].t[j].toNat_lt
          have C := fun (wx : World) (h : Blk wx w.heap.size (tabC (heldTo rs k j))) => storeI w.heap.size q rs[k].t[j] (heldTo rs k j) (by omega) wx h
          have HX := Lib.hid (heldTo_next hlt hjt (by omega))
          rw [show (rs[k].o + (j : Int)).toNat = q by omega] at HX
          replace C := Lib.hid C
          clear hq
          go_wp2_with fail
          refine wp_region_noPanic ?_
          refine wp_region_held_drew (S := fun w' => Blk w' pb [.int .i64 rs[k].o, .string rs[k].t]) (by kernel_rfl) hPb.out.drew (fun hS => ?_)
          refine wpAnyH_take (i := 0) (v := .pointer (some ⟨w.heap.size, 0, none⟩)) rfl (by kernel_rfl) (by kernel_rfl) (by kernel_rfl) (fun _ _ _ h => h) (Or.inl ⟨rfl, by intro w hS; go_simp⟩) hS ?_
          refine wpAnyH_take (i := 1) (v := .pointer (some ⟨pb, 0, none⟩)) rfl (by kernel_rfl) (by kernel_rfl) (by kernel_rfl) (fun _ _ _ h => h) (Or.inl ⟨rfl, by intro w hS; go_simp⟩) hS ?_
          refine wpAnyH_take (i := 2) (v := .int .i64 rs[k].o) rfl (by kernel_rfl) (by kernel_rfl) (by kernel_rfl) (fun _ _ _ h => h) (Or.inl ⟨rfl, by intro w hS; have s1 := hS.cell 0 _ rfl; go_simp⟩) hS ?_
          refine wpAnyH_take (i := 3) (v := .int .i64 (j : Int)) rfl (by kernel_rfl) (by kernel_rfl) (by kernel_rfl) (fun _ _ _ h => h) (Or.inl ⟨rfl, by intro w hS; go_simp⟩) hS ?_
          refine wpAnyH_take (i := 4) (v := .int .i64 (q : Int)) rfl (by kernel_rfl) (by kernel_rfl) (by kernel_rfl) (fun _ _ _ h => h) (Or.inl ⟨rfl, by intro w hS; go_simp⟩) hS ?_
          refine wpAnyH_take (i := 5) (v := .pointer (some ⟨pb, 1, none⟩)) rfl (by kernel_rfl) (by kernel_rfl) (by kernel_rfl) (fun _ _ _ h => h) (Or.inl ⟨rfl, by intro w hS; go_simp⟩) hS ?_
          refine wpAnyH_take (i := 6) (v := .string rs[k].t) rfl (by kernel_rfl) (by kernel_rfl) (by kernel_rfl) (fun _ _ _ h => h) (Or.inl ⟨rfl, by intro w hS; have s1 := hS.cell 1 _ rfl; go_simp⟩) hS ?_
          refine wpAnyH_take (i := 7) (v := .int .i64 (j : Int)) rfl (by kernel_rfl) (by kernel_rfl) (by kernel_rfl) (fun _ _ _ h => h) (Or.inl ⟨rfl, by intro w hS; go_simp⟩) hS ?_
          refine wpAnyH_take (i := 8) (v := .int .u8 (rs[k].t[j].toNat : Int)) rfl (by kernel_rfl) (by kernel_rfl) (by kernel_rfl) (fun _ _ _ h => h) (Or.inl ⟨rfl, by intro w hS; go_simp⟩) hS ?_
          refine wpAnyH_ready (rs := [9]) (by kernel_rfl) (by simp) ?_
          refine AllReadyH.cons (i := 9) rfl (fun K hK9 => ?zr1) AllReadyH.nil
          rw [if_pos (by rfl)]
          go_simp
          refine (C.out _ hK.out.drew).mono ?_
          rintro e w1 ⟨rfl, hK1, hg1⟩
          refine hK9.out _ _ (hPb.out.drew.grown hg1 hne) (fun hS => ?_)
          clear hK9 K
          refine wpAnyH_done (by kernel_rfl) ?_ _
          refine NoPanic.normal ?_
          have K2 := Lib.hid (show Blk w1 w.heap.size (tabC (heldTo rs k (j + 1))) by rw [HX.out]; exact hK1)
          have B2 := Lib.hid (hB.out.drew.grown hg1 hB.out.size (fun x e => by cases e; exact Nat.le_refl _))
          have P2 := Lib.hid (hPb.out.drew.grown hg1 hne)
          clear hK hB hPb hK1 hg1 c0 d0 HX C hw hS
          go_wp2_with fail
          go_roundw
          case rel => exact ⟨j + 1, by omega, by go_num, K2, B2, P2⟩
          case measure => simp [RowKit.intOf]; omega
        · obtain rfl : j = rs[k].t.size := by omega
          rw [heldTo_all hlt] at hK
          go_wp2_with fail
          go_roundw
          case rel => exact ⟨k + 1, by omega, by go_num, hK, hB⟩
          case measure => simp [RowKit.intOf]; omega
    · obtain rfl : k = rs.length := by omega
      rw [heldTo_zero, List.take_length] at hK
      go_wp2_with fail
      go_ret
      exact ⟨w.heap.size, rfl, hK.out, Nat.le_refl _, hB.out⟩
end Go.Proofs.Ytpbnkkgfjmkcdaa
