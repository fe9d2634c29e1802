/- The law FnExactAged holds for every argument (up to the law's own measure of 1048576 entries; past it the law itself answers true): impl's Aged answers as the model's, leaves its argument, and hands back memory of its own. No condition. -/
import Derived.Test.YthckbabcmmkljaaRows
import Derived.Test.YthckbabcmmkljaaEntI
import Derived.Test.YthckbabcmmkljaaEntL
import Derived.Test.YthckbabcmmkljaaArgEnt
import Derived.Test.YthckbabcmmkljaaEntLaw
import Derived.ProofKit
import Derived.OpenShut
import Derived.ShutString
import Derived.ChangeSame
namespace Go.Proofs.Ythckbabcmmkljaa.fnExactAged
open Go.ChangeShapes Go.WideShapes Go.ChangeAt Go.RowKit Go.Lib

/-- The law's word: true, and what lay before the call lies as it lay. -/
def OkB (w : World) (e : Ending) (w' : World) : Prop := e = .returned (.bool true) ∧ Below w.heap.size w w'

set_option maxRecDepth 100000 in
set_option maxHeartbeats 8000000 in
theorem go (a : Option Addr) (cap : Nat) (rs : List ER) (w : World) (hrow : Row w w.heap.size a (ers rs)) (hl : rs.length ≤ maxLen) (hg : ∀ r ∈ rs, goodE r) :
    Calls Try.prog 8 #[.slice a rs.length cap] w (OkB w) := by
  have HA := Lib.hid hrow
  have HG := Lib.hid hg
  have SZ := szEntryS_any a rs.length cap w hl
  clear hrow hg hl
  by_cases hs : rs.length ≤ 1048576
  case neg =>
    rw [if_neg hs] at SZ
    have HZ := Lib.hid SZ
    clear SZ
    go_enter Try.func8, Try.ntmps8
    go_wp2_with fail
    refine HZ.out.mono ?_
    rintro e w' ⟨rfl, hw'⟩
    rw [hw']
    go_wp2_with fail
    go_ret
    exact ⟨rfl, Below.refl _ _⟩
  rw [if_pos hs] at SZ
  have HZ := Lib.hid SZ
  clear SZ
  have hn := Lib.hid hs
  have B0 := Lib.hid (Below.refl w.heap.size w)
  have CS := Lib.hid (fun b w h => agedS (some ⟨b, 0, none⟩) rs.length rs w h (Nat.le_succ_of_le hs) HG.out)
  have CI := Lib.hid (fun b w h => agedI (some ⟨b, 0, none⟩) rs.length rs w h (Nat.le_succ_of_le hs) HG.out)
  have hl3 := agedE_length rs
  obtain ⟨L, hL⟩ : ∃ L, agedE rs = L := ⟨_, rfl⟩
  rw [hL] at CS CI hl3
  have hl2 : L.length ≤ 1048577 := by omega
  clear hL hl3 hs
  by_cases hp : 0 < L.length
  case pos =>
    go_enter Try.func8, Try.ntmps8
    go_wp2_with fail
    refine HZ.out.mono ?_
    rintro e w' ⟨rfl, hw'⟩
    rw [hw']
    clear hw' HZ w'
    have hs := hn.out
    go_wp2_with fail
    clear hs
    refine (toEntryS_any a cap rs _ ((HA.out.below B0.out).mono B0.out.size) hn.out).mono ?_
    rintro e v1 ⟨g_t, rfl, ho_t, hb⟩
    have l_t : w.heap.size ≤ g_t := Nat.le_trans B0.out.size (ho_t.lt g_t rfl).1
    have B1 := Lib.hid (B0.out.trans (hb.mono B0.out.size))
    have Ot1 := Lib.hid (own_down ho_t (Nat.zero_le _))
    clear hb B0 ho_t
    go_wp2_with fail
    refine (CS.out g_t _ (Row.ownK Ot1.out)).mono ?_
    rintro e v2 ⟨a_w, c_w, rfl, ho, hb⟩
    obtain ⟨g_w, rfl⟩ := own_some ho hp
    have ho_w := ho
    clear ho
    have n_t_w : g_t ≠ g_w := by have h1 := (Ot1.out.lt g_t rfl).2; have h2 := (ho_w.lt g_w rfl).1; omega
    have l_w : w.heap.size ≤ g_w := Nat.le_trans B1.out.size (ho_w.lt g_w rfl).1
    have B2 := Lib.hid (B1.out.trans (hb.mono B1.out.size))
    have Ot2 := Lib.hid (Ot1.out.kept (below_any (row := none) hb) (.inr (by simp [Value.ownBlock])))
    have Ow2 := Lib.hid (own_down ho_w (Nat.zero_le _))
    clear hb B1 Ot1 ho_w
    go_wp2_with fail
    refine (toEntryS_any a cap rs _ ((HA.out.below B2.out).mono B2.out.size) hn.out).mono ?_
    rintro e v3 ⟨g_x, rfl, ho_x, hb⟩
    have n_t_x : g_t ≠ g_x := by have h1 := (Ot2.out.lt g_t rfl).2; have h2 := (ho_x.lt g_x rfl).1; omega
    have n_w_x : g_w ≠ g_x := by have h1 := (Ow2.out.lt g_w rfl).2; have h2 := (ho_x.lt g_x rfl).1; omega
    have l_x : w.heap.size ≤ g_x := Nat.le_trans B2.out.size (ho_x.lt g_x rfl).1
    have B3 := Lib.hid (B2.out.trans (hb.mono B2.out.size))
    have Ot3 := Lib.hid (Ot2.out.kept (below_any (row := none) hb) (.inr (by simp [Value.ownBlock])))
    have Ow3 := Lib.hid (Ow2.out.kept (below_any (row := none) hb) (.inr (by simp [Value.ownBlock])))
    have Ox3 := Lib.hid (own_down ho_x (Nat.zero_le _))
    clear hb B2 Ot2 Ow2 ho_x
    go_wp2_with fail
    refine (CI.out g_x _ (Row.ownK Ox3.out)).mono ?_
    rintro e v4 ⟨a_g, c_g, rfl, ho, hb⟩
    obtain ⟨g_g, rfl⟩ := own_some ho hp
    have ho_g := ho
    clear ho
    have n_t_g : g_t ≠ g_g := by have h1 := (Ot3.out.lt g_t rfl).2; have h2 := (ho_g.lt g_g rfl).1; omega
    have n_w_g : g_w ≠ g_g := by have h1 := (Ow3.out.lt g_w rfl).2; have h2 := (ho_g.lt g_g rfl).1; omega
    have n_x_g : g_x ≠ g_g := by have h1 := (Ox3.out.lt g_x rfl).2; have h2 := (ho_g.lt g_g rfl).1; omega
    have l_g : w.heap.size ≤ g_g := Nat.le_trans B3.out.size (ho_g.lt g_g rfl).1
    have B4 := Lib.hid (B3.out.trans (hb.mono B3.out.size))
    have Ot4 := Lib.hid (Ot3.out.kept (below_any (row := none) hb) (.inr (by simp [Value.ownBlock])))
    have Ow4 := Lib.hid (Ow3.out.kept (below_any (row := none) hb) (.inr (by simp [Value.ownBlock])))
    have Ox4 := Lib.hid (Ox3.out.kept (below_any (row := none) hb) (.inr (by simp [Value.ownBlock])))
    have Og4 := Lib.hid (own_down ho_g (Nat.zero_le _))
    clear hb B3 Ot3 Ow3 Ox3 ho_g
    go_wp2_with fail
    refine (eqEntryS_self (some ⟨g_g, 0, none⟩) (some ⟨g_w, 0, none⟩) _ _ _ L _ rfl (Row.ownK Og4.out) (Row.ownK Ow4.out) hl2).mono ?_
    rintro e v5 ⟨rfl, hb⟩
    have B5 := Lib.hid (B4.out.trans (hb.mono B4.out.size))
    have Ot5 := Lib.hid (Ot4.out.kept (below_any (row := none) hb) (.inr (by simp [Value.ownBlock])))
    have Ow5 := Lib.hid (Ow4.out.kept (below_any (row := none) hb) (.inr (by simp [Value.ownBlock])))
    have Ox5 := Lib.hid (Ox4.out.kept (below_any (row := none) hb) (.inr (by simp [Value.ownBlock])))
    have Og5 := Lib.hid (Og4.out.kept (below_any (row := none) hb) (.inr (by simp [Value.ownBlock])))
    clear hb B4 Ot4 Ow4 Ox4 Og4
    go_wp2_with fail
    refine (toEntryS_any a cap rs _ ((HA.out.below B5.out).mono B5.out.size) hn.out).mono ?_
    rintro e v6 ⟨g_y, rfl, ho_y, hb⟩
    have n_t_y : g_t ≠ g_y := by have h1 := (Ot5.out.lt g_t rfl).2; have h2 := (ho_y.lt g_y rfl).1; omega
    have n_w_y : g_w ≠ g_y := by have h1 := (Ow5.out.lt g_w rfl).2; have h2 := (ho_y.lt g_y rfl).1; omega
    have n_x_y : g_x ≠ g_y := by have h1 := (Ox5.out.lt g_x rfl).2; have h2 := (ho_y.lt g_y rfl).1; omega
    have n_g_y : g_g ≠ g_y := by have h1 := (Og5.out.lt g_g rfl).2; have h2 := (ho_y.lt g_y rfl).1; omega
    have l_y : w.heap.size ≤ g_y := Nat.le_trans B5.out.size (ho_y.lt g_y rfl).1
    have B6 := Lib.hid (B5.out.trans (hb.mono B5.out.size))
    have Ot6 := Lib.hid (Ot5.out.kept (below_any (row := none) hb) (.inr (by simp [Value.ownBlock])))
    have Ow6 := Lib.hid (Ow5.out.kept (below_any (row := none) hb) (.inr (by simp [Value.ownBlock])))
    have Ox6 := Lib.hid (Ox5.out.kept (below_any (row := none) hb) (.inr (by simp [Value.ownBlock])))
    have Og6 := Lib.hid (Og5.out.kept (below_any (row := none) hb) (.inr (by simp [Value.ownBlock])))
    have Oy6 := Lib.hid (own_down ho_y (Nat.zero_le _))
    clear hb B5 Ot5 Ow5 Ox5 Og5 ho_y
    go_wp2_with fail
    refine (eqEntryS_self (some ⟨g_x, 0, none⟩) (some ⟨g_y, 0, none⟩) _ _ _ rs _ rfl (Row.ownK Ox6.out) (Row.ownK Oy6.out) (Nat.le_succ_of_le hn.out)).mono ?_
    rintro e v7 ⟨rfl, hb⟩
    have B7 := Lib.hid (B6.out.trans (hb.mono B6.out.size))
    have Ot7 := Lib.hid (Ot6.out.kept (below_any (row := none) hb) (.inr (by simp [Value.ownBlock])))
    have Ow7 := Lib.hid (Ow6.out.kept (below_any (row := none) hb) (.inr (by simp [Value.ownBlock])))
    have Ox7 := Lib.hid (Ox6.out.kept (below_any (row := none) hb) (.inr (by simp [Value.ownBlock])))
    have Og7 := Lib.hid (Og6.out.kept (below_any (row := none) hb) (.inr (by simp [Value.ownBlock])))
    have Oy7 := Lib.hid (Oy6.out.kept (below_any (row := none) hb) (.inr (by simp [Value.ownBlock])))
    clear hb B6 Ot6 Ow6 Ox6 Og6 Oy6
    go_wp2_with fail
    refine (markE_any 0 g_x rs.length rs.length 1 rs _ rfl Ox7.out (by decide) (Nat.le_succ_of_le hn.out)).mono ?_
    rintro e v8 ⟨rfl, ho, hg⟩
    have B8 := Lib.hid (B7.out.trans (grown_below hg l_x B7.out.size))
    have Ot8 := Lib.hid (Ot7.out.kept hg (.inr (own_ne (n_t_x))))
    have Ow8 := Lib.hid (Ow7.out.kept hg (.inr (own_ne (n_w_x))))
    have Ox8 := Lib.hid ho
    have Og8 := Lib.hid (Og7.out.kept hg (.inr (own_ne (fun e => n_x_g e.symm))))
    have Oy8 := Lib.hid (Oy7.out.kept hg (.inr (own_ne (fun e => n_x_y e.symm))))
    clear hg B7 Ot7 Ow7 Ox7 Og7 Oy7 ho
    have hk1 : (0 : Int) ≤ ((1 + 3 * rs.length : Nat) : Int) := Int.natCast_nonneg _
    go_wp2_with fail
    refine (eqEntryS_self (some ⟨g_g, 0, none⟩) (some ⟨g_w, 0, none⟩) _ _ _ L _ rfl (Row.ownK Og8.out) (Row.ownK Ow8.out) hl2).mono ?_
    rintro e v9 ⟨rfl, hb⟩
    have B9 := Lib.hid (B8.out.trans (hb.mono B8.out.size))
    have Ot9 := Lib.hid (Ot8.out.kept (below_any (row := none) hb) (.inr (by simp [Value.ownBlock])))
    have Ow9 := Lib.hid (Ow8.out.kept (below_any (row := none) hb) (.inr (by simp [Value.ownBlock])))
    have Ox9 := Lib.hid (Ox8.out.kept (below_any (row := none) hb) (.inr (by simp [Value.ownBlock])))
    have Og9 := Lib.hid (Og8.out.kept (below_any (row := none) hb) (.inr (by simp [Value.ownBlock])))
    have Oy9 := Lib.hid (Oy8.out.kept (below_any (row := none) hb) (.inr (by simp [Value.ownBlock])))
    clear hb B8 Ot8 Ow8 Ox8 Og8 Oy8
    go_wp2_with fail
    refine (markE_any 0 g_g L.length c_g 1 L _ rfl Og9.out (by decide) hl2).mono ?_
    rintro e v10 ⟨rfl, ho, hg⟩
    have B10 := Lib.hid (B9.out.trans (grown_below hg l_g B9.out.size))
    have Ot10 := Lib.hid (Ot9.out.kept hg (.inr (own_ne (n_t_g))))
    have Ow10 := Lib.hid (Ow9.out.kept hg (.inr (own_ne (n_w_g))))
    have Ox10 := Lib.hid (Ox9.out.kept hg (.inr (own_ne (n_x_g))))
    have Og10 := Lib.hid ho
    have Oy10 := Lib.hid (Oy9.out.kept hg (.inr (own_ne (fun e => n_g_y e.symm))))
    clear hg B9 Ot9 Ow9 Ox9 Og9 Oy9 ho
    have hk2 : (0 : Int) ≤ ((1 + 3 * L.length : Nat) : Int) := Int.natCast_nonneg _
    go_wp2_with fail
    refine (heldE_any (some ⟨g_g, 0, none⟩) L.length c_g 1 _ (Row.ownK Og10.out) (by decide) hl2).mono ?_
    rintro e v11 ⟨rfl, hb⟩
    have B11 := Lib.hid (B10.out.trans (hb.mono B10.out.size))
    have Ot11 := Lib.hid (Ot10.out.kept (below_any (row := none) hb) (.inr (by simp [Value.ownBlock])))
    have Ow11 := Lib.hid (Ow10.out.kept (below_any (row := none) hb) (.inr (by simp [Value.ownBlock])))
    have Ox11 := Lib.hid (Ox10.out.kept (below_any (row := none) hb) (.inr (by simp [Value.ownBlock])))
    have Og11 := Lib.hid (Og10.out.kept (below_any (row := none) hb) (.inr (by simp [Value.ownBlock])))
    have Oy11 := Lib.hid (Oy10.out.kept (below_any (row := none) hb) (.inr (by simp [Value.ownBlock])))
    clear hb B10 Ot10 Ow10 Ox10 Og10 Oy10
    go_wp2_with fail
    refine (toEntryS_any a cap rs _ ((HA.out.below B11.out).mono B11.out.size) hn.out).mono ?_
    rintro e v12 ⟨g_z, rfl, ho_z, hb⟩
    have n_t_z : g_t ≠ g_z := by have h1 := (Ot11.out.lt g_t rfl).2; have h2 := (ho_z.lt g_z rfl).1; omega
    have n_w_z : g_w ≠ g_z := by have h1 := (Ow11.out.lt g_w rfl).2; have h2 := (ho_z.lt g_z rfl).1; omega
    have n_x_z : g_x ≠ g_z := by have h1 := (Ox11.out.lt g_x rfl).2; have h2 := (ho_z.lt g_z rfl).1; omega
    have n_g_z : g_g ≠ g_z := by have h1 := (Og11.out.lt g_g rfl).2; have h2 := (ho_z.lt g_z rfl).1; omega
    have n_y_z : g_y ≠ g_z := by have h1 := (Oy11.out.lt g_y rfl).2; have h2 := (ho_z.lt g_z rfl).1; omega
    have l_z : w.heap.size ≤ g_z := Nat.le_trans B11.out.size (ho_z.lt g_z rfl).1
    have B12 := Lib.hid (B11.out.trans (hb.mono B11.out.size))
    have Ot12 := Lib.hid (Ot11.out.kept (below_any (row := none) hb) (.inr (by simp [Value.ownBlock])))
    have Ow12 := Lib.hid (Ow11.out.kept (below_any (row := none) hb) (.inr (by simp [Value.ownBlock])))
    have Ox12 := Lib.hid (Ox11.out.kept (below_any (row := none) hb) (.inr (by simp [Value.ownBlock])))
    have Og12 := Lib.hid (Og11.out.kept (below_any (row := none) hb) (.inr (by simp [Value.ownBlock])))
    have Oy12 := Lib.hid (Oy11.out.kept (below_any (row := none) hb) (.inr (by simp [Value.ownBlock])))
    have Oz12 := Lib.hid (own_down ho_z (Nat.zero_le _))
    clear hb B11 Ot11 Ow11 Ox11 Og11 Oy11 ho_z
    go_wp2_with fail
    refine (CI.out g_z _ (Row.ownK Oz12.out)).mono ?_
    rintro e v13 ⟨a_h, c_h, rfl, ho, hb⟩
    obtain ⟨g_h, rfl⟩ := own_some ho hp
    have ho_h := ho
    clear ho
    have n_t_h : g_t ≠ g_h := by have h1 := (Ot12.out.lt g_t rfl).2; have h2 := (ho_h.lt g_h rfl).1; omega
    have n_w_h : g_w ≠ g_h := by have h1 := (Ow12.out.lt g_w rfl).2; have h2 := (ho_h.lt g_h rfl).1; omega
    have n_x_h : g_x ≠ g_h := by have h1 := (Ox12.out.lt g_x rfl).2; have h2 := (ho_h.lt g_h rfl).1; omega
    have n_g_h : g_g ≠ g_h := by have h1 := (Og12.out.lt g_g rfl).2; have h2 := (ho_h.lt g_h rfl).1; omega
    have n_y_h : g_y ≠ g_h := by have h1 := (Oy12.out.lt g_y rfl).2; have h2 := (ho_h.lt g_h rfl).1; omega
    have n_z_h : g_z ≠ g_h := by have h1 := (Oz12.out.lt g_z rfl).2; have h2 := (ho_h.lt g_h rfl).1; omega
    have l_h : w.heap.size ≤ g_h := Nat.le_trans B12.out.size (ho_h.lt g_h rfl).1
    have B13 := Lib.hid (B12.out.trans (hb.mono B12.out.size))
    have Ot13 := Lib.hid (Ot12.out.kept (below_any (row := none) hb) (.inr (by simp [Value.ownBlock])))
    have Ow13 := Lib.hid (Ow12.out.kept (below_any (row := none) hb) (.inr (by simp [Value.ownBlock])))
    have Ox13 := Lib.hid (Ox12.out.kept (below_any (row := none) hb) (.inr (by simp [Value.ownBlock])))
    have Og13 := Lib.hid (Og12.out.kept (below_any (row := none) hb) (.inr (by simp [Value.ownBlock])))
    have Oy13 := Lib.hid (Oy12.out.kept (below_any (row := none) hb) (.inr (by simp [Value.ownBlock])))
    have Oz13 := Lib.hid (Oz12.out.kept (below_any (row := none) hb) (.inr (by simp [Value.ownBlock])))
    have Oh13 := Lib.hid (own_down ho_h (Nat.zero_le _))
    clear hb B12 Ot12 Ow12 Ox12 Og12 Oy12 Oz12 ho_h
    go_wp2_with fail
    refine (eqEntryS_self (some ⟨g_h, 0, none⟩) (some ⟨g_w, 0, none⟩) _ _ _ L _ rfl (Row.ownK Oh13.out) (Row.ownK Ow13.out) hl2).mono ?_
    rintro e v14 ⟨rfl, hb⟩
    have B14 := Lib.hid (B13.out.trans (hb.mono B13.out.size))
    have Ot14 := Lib.hid (Ot13.out.kept (below_any (row := none) hb) (.inr (by simp [Value.ownBlock])))
    have Ow14 := Lib.hid (Ow13.out.kept (below_any (row := none) hb) (.inr (by simp [Value.ownBlock])))
    have Ox14 := Lib.hid (Ox13.out.kept (below_any (row := none) hb) (.inr (by simp [Value.ownBlock])))
    have Og14 := Lib.hid (Og13.out.kept (below_any (row := none) hb) (.inr (by simp [Value.ownBlock])))
    have Oy14 := Lib.hid (Oy13.out.kept (below_any (row := none) hb) (.inr (by simp [Value.ownBlock])))
    have Oz14 := Lib.hid (Oz13.out.kept (below_any (row := none) hb) (.inr (by simp [Value.ownBlock])))
    have Oh14 := Lib.hid (Oh13.out.kept (below_any (row := none) hb) (.inr (by simp [Value.ownBlock])))
    clear hb B13 Ot13 Ow13 Ox13 Og13 Oy13 Oz13 Oh13
    go_wp2_with fail
    refine (heldE_any (some ⟨g_g, 0, none⟩) L.length c_g 1 _ (Row.ownK Og14.out) (by decide) hl2).mono ?_
    rintro e v15 ⟨rfl, hb⟩
    have B15 := Lib.hid (B14.out.trans (hb.mono B14.out.size))
    have Ot15 := Lib.hid (Ot14.out.kept (below_any (row := none) hb) (.inr (by simp [Value.ownBlock])))
    have Ow15 := Lib.hid (Ow14.out.kept (below_any (row := none) hb) (.inr (by simp [Value.ownBlock])))
    have Ox15 := Lib.hid (Ox14.out.kept (below_any (row := none) hb) (.inr (by simp [Value.ownBlock])))
    have Og15 := Lib.hid (Og14.out.kept (below_any (row := none) hb) (.inr (by simp [Value.ownBlock])))
    have Oy15 := Lib.hid (Oy14.out.kept (below_any (row := none) hb) (.inr (by simp [Value.ownBlock])))
    have Oz15 := Lib.hid (Oz14.out.kept (below_any (row := none) hb) (.inr (by simp [Value.ownBlock])))
    have Oh15 := Lib.hid (Oh14.out.kept (below_any (row := none) hb) (.inr (by simp [Value.ownBlock])))
    clear hb B14 Ot14 Ow14 Ox14 Og14 Oy14 Oz14 Oh14
    go_wp2_with fail
    go_ret
    exact ⟨rfl, B15.out⟩
  case neg =>
    obtain rfl : L = [] := List.eq_nil_of_length_eq_zero (by omega)
    clear hp hl2
    go_enter Try.func8, Try.ntmps8
    go_wp2_with fail
    refine HZ.out.mono ?_
    rintro e w' ⟨rfl, hw'⟩
    rw [hw']
    clear hw' HZ w'
    have hs := hn.out
    go_wp2_with fail
    clear hs
    refine (toEntryS_any a cap rs _ ((HA.out.below B0.out).mono B0.out.size) hn.out).mono ?_
    rintro e v1 ⟨g_t, rfl, ho_t, hb⟩
    have l_t : w.heap.size ≤ g_t := Nat.le_trans B0.out.size (ho_t.lt g_t rfl).1
    have B1 := Lib.hid (B0.out.trans (hb.mono B0.out.size))
    have Ot1 := Lib.hid (own_down ho_t (Nat.zero_le _))
    clear hb B0 ho_t
    go_wp2_with fail
    refine (CS.out g_t _ (Row.ownK Ot1.out)).mono ?_
    rintro e v2 ⟨a_w, c_w, rfl, ho, hb⟩
    clear ho
    have B2 := Lib.hid (B1.out.trans (hb.mono B1.out.size))
    have Ot2 := Lib.hid (Ot1.out.kept (below_any (row := none) hb) (.inr (by simp [Value.ownBlock])))
    clear hb B1 Ot1
    go_wp2_with fail
    refine (toEntryS_any a cap rs _ ((HA.out.below B2.out).mono B2.out.size) hn.out).mono ?_
    rintro e v3 ⟨g_x, rfl, ho_x, hb⟩
    have n_t_x : g_t ≠ g_x := by have h1 := (Ot2.out.lt g_t rfl).2; have h2 := (ho_x.lt g_x rfl).1; omega
    have l_x : w.heap.size ≤ g_x := Nat.le_trans B2.out.size (ho_x.lt g_x rfl).1
    have B3 := Lib.hid (B2.out.trans (hb.mono B2.out.size))
    have Ot3 := Lib.hid (Ot2.out.kept (below_any (row := none) hb) (.inr (by simp [Value.ownBlock])))
    have Ox3 := Lib.hid (own_down ho_x (Nat.zero_le _))
    clear hb B2 Ot2 ho_x
    go_wp2_with fail
    refine (CI.out g_x _ (Row.ownK Ox3.out)).mono ?_
    rintro e v4 ⟨a_g, c_g, rfl, ho, hb⟩
    clear ho
    have B4 := Lib.hid (B3.out.trans (hb.mono B3.out.size))
    have Ot4 := Lib.hid (Ot3.out.kept (below_any (row := none) hb) (.inr (by simp [Value.ownBlock])))
    have Ox4 := Lib.hid (Ox3.out.kept (below_any (row := none) hb) (.inr (by simp [Value.ownBlock])))
    clear hb B3 Ot3 Ox3
    go_wp2_with fail
    refine (eqEntryS_self a_g a_w 0 _ _ [] _ rfl Row.nil Row.nil (by omega)).mono ?_
    rintro e v5 ⟨rfl, hb⟩
    have B5 := Lib.hid (B4.out.trans (hb.mono B4.out.size))
    have Ot5 := Lib.hid (Ot4.out.kept (below_any (row := none) hb) (.inr (by simp [Value.ownBlock])))
    have Ox5 := Lib.hid (Ox4.out.kept (below_any (row := none) hb) (.inr (by simp [Value.ownBlock])))
    clear hb B4 Ot4 Ox4
    go_wp2_with fail
    refine (toEntryS_any a cap rs _ ((HA.out.below B5.out).mono B5.out.size) hn.out).mono ?_
    rintro e v6 ⟨g_y, rfl, ho_y, hb⟩
    have n_t_y : g_t ≠ g_y := by have h1 := (Ot5.out.lt g_t rfl).2; have h2 := (ho_y.lt g_y rfl).1; omega
    have n_x_y : g_x ≠ g_y := by have h1 := (Ox5.out.lt g_x rfl).2; have h2 := (ho_y.lt g_y rfl).1; omega
    have l_y : w.heap.size ≤ g_y := Nat.le_trans B5.out.size (ho_y.lt g_y rfl).1
    have B6 := Lib.hid (B5.out.trans (hb.mono B5.out.size))
    have Ot6 := Lib.hid (Ot5.out.kept (below_any (row := none) hb) (.inr (by simp [Value.ownBlock])))
    have Ox6 := Lib.hid (Ox5.out.kept (below_any (row := none) hb) (.inr (by simp [Value.ownBlock])))
    have Oy6 := Lib.hid (own_down ho_y (Nat.zero_le _))
    clear hb B5 Ot5 Ox5 ho_y
    go_wp2_with fail
    refine (eqEntryS_self (some ⟨g_x, 0, none⟩) (some ⟨g_y, 0, none⟩) _ _ _ rs _ rfl (Row.ownK Ox6.out) (Row.ownK Oy6.out) (Nat.le_succ_of_le hn.out)).mono ?_
    rintro e v7 ⟨rfl, hb⟩
    have B7 := Lib.hid (B6.out.trans (hb.mono B6.out.size))
    have Ot7 := Lib.hid (Ot6.out.kept (below_any (row := none) hb) (.inr (by simp [Value.ownBlock])))
    have Ox7 := Lib.hid (Ox6.out.kept (below_any (row := none) hb) (.inr (by simp [Value.ownBlock])))
    have Oy7 := Lib.hid (Oy6.out.kept (below_any (row := none) hb) (.inr (by simp [Value.ownBlock])))
    clear hb B6 Ot6 Ox6 Oy6
    go_wp2_with fail
    refine (markE_any 0 g_x rs.length rs.length 1 rs _ rfl Ox7.out (by decide) (Nat.le_succ_of_le hn.out)).mono ?_
    rintro e v8 ⟨rfl, ho, hg⟩
    have B8 := Lib.hid (B7.out.trans (grown_below hg l_x B7.out.size))
    have Ot8 := Lib.hid (Ot7.out.kept hg (.inr (own_ne (n_t_x))))
    have Ox8 := Lib.hid ho
    have Oy8 := Lib.hid (Oy7.out.kept hg (.inr (own_ne (fun e => n_x_y e.symm))))
    clear hg B7 Ot7 Ox7 Oy7 ho
    have hk1 : (0 : Int) ≤ ((1 + 3 * rs.length : Nat) : Int) := Int.natCast_nonneg _
    go_wp2_with fail
    refine (eqEntryS_self a_g a_w 0 _ _ [] _ rfl Row.nil Row.nil (by omega)).mono ?_
    rintro e v9 ⟨rfl, hb⟩
    have B9 := Lib.hid (B8.out.trans (hb.mono B8.out.size))
    have Ot9 := Lib.hid (Ot8.out.kept (below_any (row := none) hb) (.inr (by simp [Value.ownBlock])))
    have Ox9 := Lib.hid (Ox8.out.kept (below_any (row := none) hb) (.inr (by simp [Value.ownBlock])))
    have Oy9 := Lib.hid (Oy8.out.kept (below_any (row := none) hb) (.inr (by simp [Value.ownBlock])))
    clear hb B8 Ot8 Ox8 Oy8
    go_wp2_with fail
    refine (markE_none a_g c_g 1 _).mono ?_
    rintro e w' ⟨rfl, hw'⟩
    rw [hw']
    clear hw' w'
    go_wp2_with fail
    refine (heldE_any a_g 0 c_g 1 _ Row.nil (by decide) (by omega)).mono ?_
    rintro e v10 ⟨rfl, hb⟩
    have B10 := Lib.hid (B9.out.trans (hb.mono B9.out.size))
    have Ot10 := Lib.hid (Ot9.out.kept (below_any (row := none) hb) (.inr (by simp [Value.ownBlock])))
    have Ox10 := Lib.hid (Ox9.out.kept (below_any (row := none) hb) (.inr (by simp [Value.ownBlock])))
    have Oy10 := Lib.hid (Oy9.out.kept (below_any (row := none) hb) (.inr (by simp [Value.ownBlock])))
    clear hb B9 Ot9 Ox9 Oy9
    go_wp2_with fail
    refine (toEntryS_any a cap rs _ ((HA.out.below B10.out).mono B10.out.size) hn.out).mono ?_
    rintro e v11 ⟨g_z, rfl, ho_z, hb⟩
    have n_t_z : g_t ≠ g_z := by have h1 := (Ot10.out.lt g_t rfl).2; have h2 := (ho_z.lt g_z rfl).1; omega
    have n_x_z : g_x ≠ g_z := by have h1 := (Ox10.out.lt g_x rfl).2; have h2 := (ho_z.lt g_z rfl).1; omega
    have n_y_z : g_y ≠ g_z := by have h1 := (Oy10.out.lt g_y rfl).2; have h2 := (ho_z.lt g_z rfl).1; omega
    have l_z : w.heap.size ≤ g_z := Nat.le_trans B10.out.size (ho_z.lt g_z rfl).1
    have B11 := Lib.hid (B10.out.trans (hb.mono B10.out.size))
    have Ot11 := Lib.hid (Ot10.out.kept (below_any (row := none) hb) (.inr (by simp [Value.ownBlock])))
    have Ox11 := Lib.hid (Ox10.out.kept (below_any (row := none) hb) (.inr (by simp [Value.ownBlock])))
    have Oy11 := Lib.hid (Oy10.out.kept (below_any (row := none) hb) (.inr (by simp [Value.ownBlock])))
    have Oz11 := Lib.hid (own_down ho_z (Nat.zero_le _))
    clear hb B10 Ot10 Ox10 Oy10 ho_z
    go_wp2_with fail
    refine (CI.out g_z _ (Row.ownK Oz11.out)).mono ?_
    rintro e v12 ⟨a_h, c_h, rfl, ho, hb⟩
    clear ho
    have B12 := Lib.hid (B11.out.trans (hb.mono B11.out.size))
    have Ot12 := Lib.hid (Ot11.out.kept (below_any (row := none) hb) (.inr (by simp [Value.ownBlock])))
    have Ox12 := Lib.hid (Ox11.out.kept (below_any (row := none) hb) (.inr (by simp [Value.ownBlock])))
    have Oy12 := Lib.hid (Oy11.out.kept (below_any (row := none) hb) (.inr (by simp [Value.ownBlock])))
    have Oz12 := Lib.hid (Oz11.out.kept (below_any (row := none) hb) (.inr (by simp [Value.ownBlock])))
    clear hb B11 Ot11 Ox11 Oy11 Oz11
    go_wp2_with fail
    refine (eqEntryS_self a_h a_w 0 _ _ [] _ rfl Row.nil Row.nil (by omega)).mono ?_
    rintro e v13 ⟨rfl, hb⟩
    have B13 := Lib.hid (B12.out.trans (hb.mono B12.out.size))
    have Ot13 := Lib.hid (Ot12.out.kept (below_any (row := none) hb) (.inr (by simp [Value.ownBlock])))
    have Ox13 := Lib.hid (Ox12.out.kept (below_any (row := none) hb) (.inr (by simp [Value.ownBlock])))
    have Oy13 := Lib.hid (Oy12.out.kept (below_any (row := none) hb) (.inr (by simp [Value.ownBlock])))
    have Oz13 := Lib.hid (Oz12.out.kept (below_any (row := none) hb) (.inr (by simp [Value.ownBlock])))
    clear hb B12 Ot12 Ox12 Oy12 Oz12
    go_wp2_with fail
    refine (heldE_any a_g 0 c_g 1 _ Row.nil (by decide) (by omega)).mono ?_
    rintro e v14 ⟨rfl, hb⟩
    have B14 := Lib.hid (B13.out.trans (hb.mono B13.out.size))
    have Ot14 := Lib.hid (Ot13.out.kept (below_any (row := none) hb) (.inr (by simp [Value.ownBlock])))
    have Ox14 := Lib.hid (Ox13.out.kept (below_any (row := none) hb) (.inr (by simp [Value.ownBlock])))
    have Oy14 := Lib.hid (Oy13.out.kept (below_any (row := none) hb) (.inr (by simp [Value.ownBlock])))
    have Oz14 := Lib.hid (Oz13.out.kept (below_any (row := none) hb) (.inr (by simp [Value.ownBlock])))
    clear hb B13 Ot13 Ox13 Oy13 Oz13
    go_wp2_with fail
    go_ret
    exact ⟨rfl, B14.out⟩

theorem walk {w : World} (a : Option Addr) (len cap : Nat) (rs : List ER) (h : IsE w a len cap rs) : Calls Try.prog 8 #[.slice a len cap] w (OkB w) := by
  obtain ⟨⟨rfl, _, hm, hg⟩, hrow⟩ := h
  exact go a cap rs  w hrow (by omega) hg
theorem own : ownKnob Try.prog.godebug = none := by kernel_rfl
theorem laidOut : laidOutB Try.prog = true := by kernel_rfl

set_option maxRecDepth 100000 in
theorem lifted (os : Os) (started : os.Started) (H : Type) (enc : TypeId × Value → H) :
    ReturnsInHanded {} Try.checked os 8 .any (Rows.fnExactAgedSpec.pre6 enc Try.prog Try.f8 Rows.fnExactAgedRow.domain false) (Rows.fnExactAgedSpec.post enc Try.prog Try.f8 false true false false) := by
  refine returnsInHanded_of_change (C := Try.checked) own started (by kernel_rfl) Try.func8
    (ChangeSpec.witness6 (enc := enc) (C := Try.checked) false ⟨#[], #[.slice none 0 0], []⟩ 8 (by kernel_rfl) (by kernel_rfl) (by kernel_rfl) (by kernel_rfl)) ?_
  intro W base args ds gs before hval0 hW _ _
  have hval : ∀ (j : Nat) t v, Try.f8.params[j]? = some t → args[j]? = some v → Value.okWide Try.prog W .any base t v := hval0
  have hW' := hW
  obtain ⟨p, q, hA0, hV, rfl, _, _⟩ := hW
  have hA : DataW.TrodAll enc Try.prog W 0 (fun _ => true) true Try.f8.params.toList args.toList ds p := hA0
  rw [Try.params8] at hA hval
  obtain ⟨v0, vs0, d0, ds0, p0, q0, hargs, rfl, rfl, h0, r0⟩ := trodAll_cons hA
  obtain ⟨rfl, rfl, rfl⟩ := trodAll_nil r0
  obtain rfl : args = #[v0] := by cases args; simp_all
  obtain ⟨rfl, rfl⟩ := trodVars_none hV
  have k0 := h0
  have lt0 : ∀ x ∈ p0, x.block < W.heap.size := by obtain ⟨m, hm⟩ := k0; exact DataW.trod_lt m _ _ _ hm
  obtain ⟨a0, len0, cap0, s0, rfl, w0⟩ := argEntryS (hval 0 35 v0 rfl rfl) h0
  clear hA0 hval0
  refine (walk a0 len0 cap0 s0 w0).mono fun e W' ⟨he, bel⟩ => ?_
  subst he
  exact ⟨_, rfl, _, _, _, [], _, [], hW', trodAll_mk1 (shut_bool Try.underlying4 _), (trodAll_cons_mk (Below.trod laidOut (by kernel_rfl) (of_decide_eq_true (by kernel_rfl)) k0 bel lt0) trodAll_mk0), rfl, bel.frame _, fun h => by cases h⟩

theorem over : Rows.fnExactAgedRow.holds Try.pinned (OpenSpec.ofChange Rows.fnExactAgedSpec) :=
  OpenClaim.holds_of_wide 8 Try.f8 rfl rfl rfl rfl rfl rfl rfl ⟨rfl, rfl, rfl, rfl, rfl⟩ rfl rfl rfl rfl rfl (by kernel_rfl) Try.func8 (by kernel_rfl)
    (of_decide_eq_true (by kernel_rfl)) (by unfold Func.isWrapper; first | (rw [if_pos (by decide +kernel)]; kernel_rfl) | (rw [if_neg (by decide +kernel)]; exact ⟨rfl, rfl⟩))
    (fun os started H enc _ => lifted os started H enc)

theorem proved : Rows.FnExactAgedSaid := over
#print axioms proved
end Go.Proofs.Ythckbabcmmkljaa.fnExactAged
