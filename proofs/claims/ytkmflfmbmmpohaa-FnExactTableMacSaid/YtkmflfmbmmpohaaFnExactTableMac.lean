/- The law FnExactTableMac holds for every slice of rows (up to the law's own measure of 1048576 rows and bytes; past it the law itself answers true): impl's TableMac answers as the model's, leaves its argument, and hands back memory of its own. No condition. -/
import Derived.Test.YtkmflfmbmmpohaaRows
import Derived.Test.YtkmflfmbmmpohaaTabMac
import Derived.Test.YtkmflfmbmmpohaaArgMac
import Derived.Test.YtkmflfmbmmpohaaMacLaw2
import Derived.Test.YtkmflfmbmmpohaaMarkM
import Derived.Test.YtkmflfmbmmpohaaOpenM
import Derived.ProofKit
import Derived.OpenShut
import Derived.ShutString
import Derived.ChangeSame
namespace Go.Proofs.Ytkmflfmbmmpohaa.fnExactTableMac
open Go.ChangeShapes Go.WideShapes Go.ChangeAt Go.RowKit Go.Lib

set_option maxRecDepth 100000 in
set_option maxHeartbeats 4000000 in
theorem go (a : Option Addr) (cap : Nat) (rs : List MR) (w : World) (hrow : Row w w.heap.size a (mrs rs)) (hl : rs.length ≤ maxLen) (hsz : ∀ r ∈ rs, r.s.size ≤ maxLen) :
    Calls Try.prog 6 #[.slice a rs.length cap] w fun e w' => e = .returned (.bool true) ∧ Below w.heap.size w w' := by
  have HA := Lib.hid hrow
  have HL := Lib.hid hl
  have HZ := Lib.hid hsz
  clear hrow hl hsz
  go_enter Try.func6, Try.ntmps6
  go_wp2_with fail
  refine (szMacRowS_any a cap rs 1048576 w HA.out HL.out HZ.out (by decide) (by decide)).mono ?_
  rintro e v0 ⟨hb, r, rfl, hr1, hr2⟩
  have B0 := Lib.hid hb
  have HR := Lib.hid hr2
  clear hb hr2
  by_cases hneg : r < 0
  · go_wp2_with fail
    go_ret
    exact ⟨rfl, B0.out⟩
  have hn := Lib.hid (show rs.length ≤ 1048576 by have := HR.out (by omega); omega)
  clear HR
  go_wp2_with fail
  refine (toMacRowS_any a cap rs _ ((HA.out.below B0.out).mono B0.out.size) hn.out).mono ?_
  rintro e v1 ⟨g_t, rfl, ho_t, hb⟩
  have l_t : w.heap.size ≤ g_t := Nat.le_trans B0.out.size (ho_t.lt g_t rfl).1
  have B1 := Lib.hid (B0.out.trans (hb.mono B0.out.size))
  have Ot1 := Lib.hid (own_down ho_t (Nat.zero_le _))
  clear hb B0 ho_t
  go_wp2_with fail
  refine (tableMacS g_t 0 rs.length rs _ (Row.ownK Ot1.out) (Nat.le_succ_of_le hn.out)).mono ?_
  rintro e v2 ⟨g_w, c_w, rfl, ho_w, hb⟩
  have n_t_w : g_t ≠ g_w := by have h1 := (Ot1.out.lt g_t rfl).2; have h2 := (ho_w.lt g_w rfl).1; omega
  have l_w : w.heap.size ≤ g_w := Nat.le_trans B1.out.size (ho_w.lt g_w rfl).1
  have B2 := Lib.hid (B1.out.trans (hb.mono B1.out.size))
  have Ot2 := Lib.hid (Ot1.out.kept (below_any (row := none) hb) (.inr (by simp [Value.ownBlock])))
  have Ow2 := Lib.hid (own_down ho_w (Nat.zero_le _))
  clear hb B1 Ot1 ho_w
  have KWn := Lib.hid (Blk.new v2 [.bool true, .int .u64 0, .int .u64 0, .slice (some ⟨g_w, 0, none⟩) rs.length c_w] 27)
  have n_t_W : g_t ≠ v2.heap.size := by have h1 := (Ot2.out.lt g_t rfl).2; omega
  have n_w_W : g_w ≠ v2.heap.size := by have h1 := (Ow2.out.lt g_w rfl).2; omega
  have Bn := Lib.hid (B2.out.alloc B2.out.size (.cells #[.bool true, .int .u64 0, .int .u64 0, .slice (some ⟨g_w, 0, none⟩) rs.length c_w] 27))
  have Otn := Lib.hid (Ot2.out.alloc (.cells #[.bool true, .int .u64 0, .int .u64 0, .slice (some ⟨g_w, 0, none⟩) rs.length c_w] 27))
  have Own := Lib.hid (Ow2.out.alloc (.cells #[.bool true, .int .u64 0, .int .u64 0, .slice (some ⟨g_w, 0, none⟩) rs.length c_w] 27))
  clear B2 Ot2 Ow2
  go_wp2_with fail
  change Calls _ _ _ (v2.alloc (.cells #[.bool true, .int .u64 0, .int .u64 0, .slice (some ⟨g_w, 0, none⟩) rs.length c_w] 27)) _
  generalize v2.alloc (.cells #[.bool true, .int .u64 0, .int .u64 0, .slice (some ⟨g_w, 0, none⟩) rs.length c_w] 27) = v3 at KWn Bn Otn Own ⊢
  generalize v2.heap.size = g_W at KWn n_t_W n_w_W ⊢
  clear v2
  have KW3 := KWn
  clear KWn
  have Ot3 := Otn
  clear Otn
  have Ow3 := Own
  clear Own
  have B3 := Bn
  clear Bn
  refine (toMacRowS_any a cap rs _ ((HA.out.below B3.out).mono B3.out.size) hn.out).mono ?_
  rintro e v4 ⟨g_x, rfl, ho_x, hb⟩
  have n_W_x : g_W ≠ g_x := by have h1 := KW3.out.lt; have h2 := (ho_x.lt g_x rfl).1; omega
  have n_t_x : g_t ≠ g_x := by have h1 := (Ot3.out.lt g_t rfl).2; have h2 := (ho_x.lt g_x rfl).1; omega
  have n_w_x : g_w ≠ g_x := by have h1 := (Ow3.out.lt g_w rfl).2; have h2 := (ho_x.lt g_x rfl).1; omega
  have l_x : w.heap.size ≤ g_x := Nat.le_trans B3.out.size (ho_x.lt g_x rfl).1
  have B4 := Lib.hid (B3.out.trans (hb.mono B3.out.size))
  have KW4 := Lib.hid (KW3.out.below hb)
  have Ot4 := Lib.hid (Ot3.out.kept (below_any (row := none) hb) (.inr (by simp [Value.ownBlock])))
  have Ow4 := Lib.hid (Ow3.out.kept (below_any (row := none) hb) (.inr (by simp [Value.ownBlock])))
  have Ox4 := Lib.hid (own_down ho_x (Nat.zero_le _))
  clear hb B3 KW3 Ot3 Ow3 ho_x
  obtain ⟨⟨cW0, cW1, cW2, cW3⟩, dW0, dW1, dW2, dW3⟩ := KW4.out.four
  go_wp2_with fail
  clear cW0 cW1 cW2 cW3 dW0 dW1 dW2 dW3
  refine (tableMacI g_x 0 rs.length rs _ (Row.ownK Ox4.out) (Nat.le_succ_of_le hn.out)).mono ?_
  rintro e v5 ⟨g_g, c_g, rfl, ho_g, hb⟩
  have n_W_g : g_W ≠ g_g := by have h1 := KW4.out.lt; have h2 := (ho_g.lt g_g rfl).1; omega
  have n_t_g : g_t ≠ g_g := by have h1 := (Ot4.out.lt g_t rfl).2; have h2 := (ho_g.lt g_g rfl).1; omega
  have n_w_g : g_w ≠ g_g := by have h1 := (Ow4.out.lt g_w rfl).2; have h2 := (ho_g.lt g_g rfl).1; omega
  have n_x_g : g_x ≠ g_g := by have h1 := (Ox4.out.lt g_x rfl).2; have h2 := (ho_g.lt g_g rfl).1; omega
  have l_g : w.heap.size ≤ g_g := Nat.le_trans B4.out.size (ho_g.lt g_g rfl).1
  have B5 := Lib.hid (B4.out.trans (hb.mono B4.out.size))
  have KW5 := Lib.hid (KW4.out.below hb)
  have Ot5 := Lib.hid (Ot4.out.kept (below_any (row := none) hb) (.inr (by simp [Value.ownBlock])))
  have Ow5 := Lib.hid (Ow4.out.kept (below_any (row := none) hb) (.inr (by simp [Value.ownBlock])))
  have Ox5 := Lib.hid (Ox4.out.kept (below_any (row := none) hb) (.inr (by simp [Value.ownBlock])))
  have Og5 := Lib.hid (own_down ho_g (Nat.zero_le _))
  clear hb B4 KW4 Ot4 Ow4 Ox4 ho_g
  have KGn := Lib.hid (Blk.new v5 [.bool true, .int .u64 0, .int .u64 0, .slice (some ⟨g_g, 0, none⟩) rs.length c_g] 27)
  have n_W_G : g_W ≠ v5.heap.size := by have h1 := KW5.out.lt; omega
  have n_t_G : g_t ≠ v5.heap.size := by have h1 := (Ot5.out.lt g_t rfl).2; omega
  have n_w_G : g_w ≠ v5.heap.size := by have h1 := (Ow5.out.lt g_w rfl).2; omega
  have n_x_G : g_x ≠ v5.heap.size := by have h1 := (Ox5.out.lt g_x rfl).2; omega
  have n_g_G : g_g ≠ v5.heap.size := by have h1 := (Og5.out.lt g_g rfl).2; omega
  have Bn := Lib.hid (B5.out.alloc B5.out.size (.cells #[.bool true, .int .u64 0, .int .u64 0, .slice (some ⟨g_g, 0, none⟩) rs.length c_g] 27))
  have KWn := Lib.hid (KW5.out.alloc (.cells #[.bool true, .int .u64 0, .int .u64 0, .slice (some ⟨g_g, 0, none⟩) rs.length c_g] 27))
  have Otn := Lib.hid (Ot5.out.alloc (.cells #[.bool true, .int .u64 0, .int .u64 0, .slice (some ⟨g_g, 0, none⟩) rs.length c_g] 27))
  have Own := Lib.hid (Ow5.out.alloc (.cells #[.bool true, .int .u64 0, .int .u64 0, .slice (some ⟨g_g, 0, none⟩) rs.length c_g] 27))
  have Oxn := Lib.hid (Ox5.out.alloc (.cells #[.bool true, .int .u64 0, .int .u64 0, .slice (some ⟨g_g, 0, none⟩) rs.length c_g] 27))
  have Ogn := Lib.hid (Og5.out.alloc (.cells #[.bool true, .int .u64 0, .int .u64 0, .slice (some ⟨g_g, 0, none⟩) rs.length c_g] 27))
  clear B5 KW5 Ot5 Ow5 Ox5 Og5
  obtain ⟨⟨cW0, cW1, cW2, cW3⟩, dW0, dW1, dW2, dW3⟩ := KWn.out.four
  go_wp2_with fail
  clear cW0 cW1 cW2 cW3 dW0 dW1 dW2 dW3
  change Calls _ _ _ (v5.alloc (.cells #[.bool true, .int .u64 0, .int .u64 0, .slice (some ⟨g_g, 0, none⟩) rs.length c_g] 27)) _
  generalize v5.alloc (.cells #[.bool true, .int .u64 0, .int .u64 0, .slice (some ⟨g_g, 0, none⟩) rs.length c_g] 27) = v6 at KGn Bn KWn Otn Own Oxn Ogn ⊢
  generalize v5.heap.size = g_G at KGn n_W_G n_t_G n_w_G n_x_G n_g_G ⊢
  clear v5
  have KW6 := KWn
  clear KWn
  have KG6 := KGn
  clear KGn
  have Ot6 := Otn
  clear Otn
  have Ow6 := Own
  clear Own
  have Ox6 := Oxn
  clear Oxn
  have Og6 := Ogn
  clear Ogn
  have B6 := Bn
  clear Bn
  refine (eqMac_self true 0 0 (some ⟨g_g, 0, none⟩) (some ⟨g_w, 0, none⟩) c_g c_w rs _ (Row.ownK Og6.out) (Row.ownK Ow6.out) hn.out).mono ?_
  rintro e v7 ⟨rfl, hb⟩
  have B7 := Lib.hid (B6.out.trans (hb.mono B6.out.size))
  have KW7 := Lib.hid (KW6.out.below hb)
  have KG7 := Lib.hid (KG6.out.below hb)
  have Ot7 := Lib.hid (Ot6.out.kept (below_any (row := none) hb) (.inr (by simp [Value.ownBlock])))
  have Ow7 := Lib.hid (Ow6.out.kept (below_any (row := none) hb) (.inr (by simp [Value.ownBlock])))
  have Ox7 := Lib.hid (Ox6.out.kept (below_any (row := none) hb) (.inr (by simp [Value.ownBlock])))
  have Og7 := Lib.hid (Og6.out.kept (below_any (row := none) hb) (.inr (by simp [Value.ownBlock])))
  clear hb B6 KW6 KG6 Ot6 Ow6 Ox6 Og6
  obtain ⟨⟨cW0, cW1, cW2, cW3⟩, dW0, dW1, dW2, dW3⟩ := KW7.out.four
  obtain ⟨⟨cG0, cG1, cG2, cG3⟩, dG0, dG1, dG2, dG3⟩ := KG7.out.four
  go_wp2_with fail
  clear cW0 cW1 cW2 cW3 dW0 dW1 dW2 dW3 cG0 cG1 cG2 cG3 dG0 dG1 dG2 dG3
  refine (toMacRowS_any a cap rs _ ((HA.out.below B7.out).mono B7.out.size) hn.out).mono ?_
  rintro e v8 ⟨g_y, rfl, ho_y, hb⟩
  have n_W_y : g_W ≠ g_y := by have h1 := KW7.out.lt; have h2 := (ho_y.lt g_y rfl).1; omega
  have n_G_y : g_G ≠ g_y := by have h1 := KG7.out.lt; have h2 := (ho_y.lt g_y rfl).1; omega
  have n_t_y : g_t ≠ g_y := by have h1 := (Ot7.out.lt g_t rfl).2; have h2 := (ho_y.lt g_y rfl).1; omega
  have n_w_y : g_w ≠ g_y := by have h1 := (Ow7.out.lt g_w rfl).2; have h2 := (ho_y.lt g_y rfl).1; omega
  have n_x_y : g_x ≠ g_y := by have h1 := (Ox7.out.lt g_x rfl).2; have h2 := (ho_y.lt g_y rfl).1; omega
  have n_g_y : g_g ≠ g_y := by have h1 := (Og7.out.lt g_g rfl).2; have h2 := (ho_y.lt g_y rfl).1; omega
  have l_y : w.heap.size ≤ g_y := Nat.le_trans B7.out.size (ho_y.lt g_y rfl).1
  have B8 := Lib.hid (B7.out.trans (hb.mono B7.out.size))
  have KW8 := Lib.hid (KW7.out.below hb)
  have KG8 := Lib.hid (KG7.out.below hb)
  have Ot8 := Lib.hid (Ot7.out.kept (below_any (row := none) hb) (.inr (by simp [Value.ownBlock])))
  have Ow8 := Lib.hid (Ow7.out.kept (below_any (row := none) hb) (.inr (by simp [Value.ownBlock])))
  have Ox8 := Lib.hid (Ox7.out.kept (below_any (row := none) hb) (.inr (by simp [Value.ownBlock])))
  have Og8 := Lib.hid (Og7.out.kept (below_any (row := none) hb) (.inr (by simp [Value.ownBlock])))
  have Oy8 := Lib.hid (own_down ho_y (Nat.zero_le _))
  clear hb B7 KW7 KG7 Ot7 Ow7 Ox7 Og7 ho_y
  obtain ⟨⟨cW0, cW1, cW2, cW3⟩, dW0, dW1, dW2, dW3⟩ := KW8.out.four
  obtain ⟨⟨cG0, cG1, cG2, cG3⟩, dG0, dG1, dG2, dG3⟩ := KG8.out.four
  go_wp2_with fail
  clear cW0 cW1 cW2 cW3 dW0 dW1 dW2 dW3 cG0 cG1 cG2 cG3 dG0 dG1 dG2 dG3
  refine (eqMacRowS_self (some ⟨g_x, 0, none⟩) (some ⟨g_y, 0, none⟩) rs.length rs.length rs _ (Row.ownK Ox8.out) (Row.ownK Oy8.out) hn.out).mono ?_
  rintro e v9 ⟨rfl, hb⟩
  have B9 := Lib.hid (B8.out.trans (hb.mono B8.out.size))
  have KW9 := Lib.hid (KW8.out.below hb)
  have KG9 := Lib.hid (KG8.out.below hb)
  have Ot9 := Lib.hid (Ot8.out.kept (below_any (row := none) hb) (.inr (by simp [Value.ownBlock])))
  have Ow9 := Lib.hid (Ow8.out.kept (below_any (row := none) hb) (.inr (by simp [Value.ownBlock])))
  have Ox9 := Lib.hid (Ox8.out.kept (below_any (row := none) hb) (.inr (by simp [Value.ownBlock])))
  have Og9 := Lib.hid (Og8.out.kept (below_any (row := none) hb) (.inr (by simp [Value.ownBlock])))
  have Oy9 := Lib.hid (Oy8.out.kept (below_any (row := none) hb) (.inr (by simp [Value.ownBlock])))
  clear hb B8 KW8 KG8 Ot8 Ow8 Ox8 Og8 Oy8
  obtain ⟨⟨cW0, cW1, cW2, cW3⟩, dW0, dW1, dW2, dW3⟩ := KW9.out.four
  obtain ⟨⟨cG0, cG1, cG2, cG3⟩, dG0, dG1, dG2, dG3⟩ := KG9.out.four
  go_wp2_with fail
  clear cW0 cW1 cW2 cW3 dW0 dW1 dW2 dW3 cG0 cG1 cG2 cG3 dG0 dG1 dG2 dG3
  refine (markM_any 0 g_x rs.length rs.length 1 rs _ rfl Ox9.out (by decide) (by decide) (Nat.le_succ_of_le hn.out)).mono ?_
  rintro e v10 ⟨rfl, ho, hg⟩
  have B10 := Lib.hid (B9.out.trans (grown_below hg l_x B9.out.size))
  have KW10 := Lib.hid (KW9.out.grown hg (n_W_x))
  have KG10 := Lib.hid (KG9.out.grown hg (fun e => n_x_G e.symm))
  have Ot10 := Lib.hid (Ot9.out.kept hg (.inr (own_ne (n_t_x))))
  have Ow10 := Lib.hid (Ow9.out.kept hg (.inr (own_ne (n_w_x))))
  have Ox10 := Lib.hid ho
  have Og10 := Lib.hid (Og9.out.kept hg (.inr (own_ne (fun e => n_x_g e.symm))))
  have Oy10 := Lib.hid (Oy9.out.kept hg (.inr (own_ne (fun e => n_x_y e.symm))))
  clear hg B9 KW9 KG9 Ot9 Ow9 Ox9 Og9 Oy9 ho
  have hk1 : (0 : Int) ≤ ((1 + 2 * rs.length : Nat) : Int) := Int.natCast_nonneg _
  obtain ⟨⟨cW0, cW1, cW2, cW3⟩, dW0, dW1, dW2, dW3⟩ := KW10.out.four
  obtain ⟨⟨cG0, cG1, cG2, cG3⟩, dG0, dG1, dG2, dG3⟩ := KG10.out.four
  go_wp2_with fail
  clear cW0 cW1 cW2 cW3 dW0 dW1 dW2 dW3 cG0 cG1 cG2 cG3 dG0 dG1 dG2 dG3
  refine (eqMac_self true 0 0 (some ⟨g_g, 0, none⟩) (some ⟨g_w, 0, none⟩) c_g c_w rs _ (Row.ownK Og10.out) (Row.ownK Ow10.out) hn.out).mono ?_
  rintro e v11 ⟨rfl, hb⟩
  have B11 := Lib.hid (B10.out.trans (hb.mono B10.out.size))
  have KW11 := Lib.hid (KW10.out.below hb)
  have KG11 := Lib.hid (KG10.out.below hb)
  have Ot11 := Lib.hid (Ot10.out.kept (below_any (row := none) hb) (.inr (by simp [Value.ownBlock])))
  have Ow11 := Lib.hid (Ow10.out.kept (below_any (row := none) hb) (.inr (by simp [Value.ownBlock])))
  have Ox11 := Lib.hid (Ox10.out.kept (below_any (row := none) hb) (.inr (by simp [Value.ownBlock])))
  have Og11 := Lib.hid (Og10.out.kept (below_any (row := none) hb) (.inr (by simp [Value.ownBlock])))
  have Oy11 := Lib.hid (Oy10.out.kept (below_any (row := none) hb) (.inr (by simp [Value.ownBlock])))
  clear hb B10 KW10 KG10 Ot10 Ow10 Ox10 Og10 Oy10
  obtain ⟨⟨cW0, cW1, cW2, cW3⟩, dW0, dW1, dW2, dW3⟩ := KW11.out.four
  obtain ⟨⟨cG0, cG1, cG2, cG3⟩, dG0, dG1, dG2, dG3⟩ := KG11.out.four
  go_wp2_with fail
  clear cW0 cW1 cW2 cW3 dW0 dW1 dW2 dW3 cG0 cG1 cG2 cG3 dG0 dG1 dG2 dG3
  refine (markMac_any true 0 0 0 g_g rs.length c_g 1 rs _ rfl Og11.out (by decide) (by decide) (Nat.le_succ_of_le hn.out)).mono ?_
  rintro e v12 ⟨rfl, ho, hg⟩
  have B12 := Lib.hid (B11.out.trans (grown_below hg l_g B11.out.size))
  have KW12 := Lib.hid (KW11.out.grown hg (n_W_g))
  have KG12 := Lib.hid (KG11.out.grown hg (fun e => n_g_G e.symm))
  have Ot12 := Lib.hid (Ot11.out.kept hg (.inr (own_ne (n_t_g))))
  have Ow12 := Lib.hid (Ow11.out.kept hg (.inr (own_ne (n_w_g))))
  have Ox12 := Lib.hid (Ox11.out.kept hg (.inr (own_ne (n_x_g))))
  have Og12 := Lib.hid ho
  have Oy12 := Lib.hid (Oy11.out.kept hg (.inr (own_ne (fun e => n_g_y e.symm))))
  clear hg B11 KW11 KG11 Ot11 Ow11 Ox11 Og11 Oy11 ho
  obtain ⟨⟨cW0, cW1, cW2, cW3⟩, dW0, dW1, dW2, dW3⟩ := KW12.out.four
  obtain ⟨⟨cG0, cG1, cG2, cG3⟩, dG0, dG1, dG2, dG3⟩ := KG12.out.four
  go_wp2_with fail
  clear cW0 cW1 cW2 cW3 dW0 dW1 dW2 dW3 cG0 cG1 cG2 cG3 dG0 dG1 dG2 dG3
  refine (heldMac_any true 0 0 (some ⟨g_g, 0, none⟩) rs.length c_g 1 _ (Row.ownK Og12.out) (by decide) (by decide) (Nat.le_succ_of_le hn.out)).mono ?_
  rintro e v13 ⟨rfl, hb⟩
  have B13 := Lib.hid (B12.out.trans (hb.mono B12.out.size))
  have KW13 := Lib.hid (KW12.out.below hb)
  have KG13 := Lib.hid (KG12.out.below hb)
  have Ot13 := Lib.hid (Ot12.out.kept (below_any (row := none) hb) (.inr (by simp [Value.ownBlock])))
  have Ow13 := Lib.hid (Ow12.out.kept (below_any (row := none) hb) (.inr (by simp [Value.ownBlock])))
  have Ox13 := Lib.hid (Ox12.out.kept (below_any (row := none) hb) (.inr (by simp [Value.ownBlock])))
  have Og13 := Lib.hid (Og12.out.kept (below_any (row := none) hb) (.inr (by simp [Value.ownBlock])))
  have Oy13 := Lib.hid (Oy12.out.kept (below_any (row := none) hb) (.inr (by simp [Value.ownBlock])))
  clear hb B12 KW12 KG12 Ot12 Ow12 Ox12 Og12 Oy12
  have hk2 : ((1 + 2 * rs.length : Nat) : Int) = 1 + 2 * (rs.length : Int) := by omega
  obtain ⟨⟨cW0, cW1, cW2, cW3⟩, dW0, dW1, dW2, dW3⟩ := KW13.out.four
  obtain ⟨⟨cG0, cG1, cG2, cG3⟩, dG0, dG1, dG2, dG3⟩ := KG13.out.four
  go_wp2_with fail
  clear cW0 cW1 cW2 cW3 dW0 dW1 dW2 dW3 cG0 cG1 cG2 cG3 dG0 dG1 dG2 dG3
  refine (toMacRowS_any a cap rs _ ((HA.out.below B13.out).mono B13.out.size) hn.out).mono ?_
  rintro e v14 ⟨g_z, rfl, ho_z, hb⟩
  have n_W_z : g_W ≠ g_z := by have h1 := KW13.out.lt; have h2 := (ho_z.lt g_z rfl).1; omega
  have n_G_z : g_G ≠ g_z := by have h1 := KG13.out.lt; have h2 := (ho_z.lt g_z rfl).1; omega
  have n_t_z : g_t ≠ g_z := by have h1 := (Ot13.out.lt g_t rfl).2; have h2 := (ho_z.lt g_z rfl).1; omega
  have n_w_z : g_w ≠ g_z := by have h1 := (Ow13.out.lt g_w rfl).2; have h2 := (ho_z.lt g_z rfl).1; omega
  have n_x_z : g_x ≠ g_z := by have h1 := (Ox13.out.lt g_x rfl).2; have h2 := (ho_z.lt g_z rfl).1; omega
  have n_g_z : g_g ≠ g_z := by have h1 := (Og13.out.lt g_g rfl).2; have h2 := (ho_z.lt g_z rfl).1; omega
  have n_y_z : g_y ≠ g_z := by have h1 := (Oy13.out.lt g_y rfl).2; have h2 := (ho_z.lt g_z rfl).1; omega
  have l_z : w.heap.size ≤ g_z := Nat.le_trans B13.out.size (ho_z.lt g_z rfl).1
  have B14 := Lib.hid (B13.out.trans (hb.mono B13.out.size))
  have KW14 := Lib.hid (KW13.out.below hb)
  have KG14 := Lib.hid (KG13.out.below hb)
  have Ot14 := Lib.hid (Ot13.out.kept (below_any (row := none) hb) (.inr (by simp [Value.ownBlock])))
  have Ow14 := Lib.hid (Ow13.out.kept (below_any (row := none) hb) (.inr (by simp [Value.ownBlock])))
  have Ox14 := Lib.hid (Ox13.out.kept (below_any (row := none) hb) (.inr (by simp [Value.ownBlock])))
  have Og14 := Lib.hid (Og13.out.kept (below_any (row := none) hb) (.inr (by simp [Value.ownBlock])))
  have Oy14 := Lib.hid (Oy13.out.kept (below_any (row := none) hb) (.inr (by simp [Value.ownBlock])))
  have Oz14 := Lib.hid (own_down ho_z (Nat.zero_le _))
  clear hb B13 KW13 KG13 Ot13 Ow13 Ox13 Og13 Oy13 ho_z
  obtain ⟨⟨cW0, cW1, cW2, cW3⟩, dW0, dW1, dW2, dW3⟩ := KW14.out.four
  obtain ⟨⟨cG0, cG1, cG2, cG3⟩, dG0, dG1, dG2, dG3⟩ := KG14.out.four
  go_wp2_with fail
  clear cW0 cW1 cW2 cW3 dW0 dW1 dW2 dW3 cG0 cG1 cG2 cG3 dG0 dG1 dG2 dG3
  refine (tableMacI g_z 0 rs.length rs _ (Row.ownK Oz14.out) (Nat.le_succ_of_le hn.out)).mono ?_
  rintro e v15 ⟨g_h, c_h, rfl, ho_h, hb⟩
  have n_W_h : g_W ≠ g_h := by have h1 := KW14.out.lt; have h2 := (ho_h.lt g_h rfl).1; omega
  have n_G_h : g_G ≠ g_h := by have h1 := KG14.out.lt; have h2 := (ho_h.lt g_h rfl).1; omega
  have n_t_h : g_t ≠ g_h := by have h1 := (Ot14.out.lt g_t rfl).2; have h2 := (ho_h.lt g_h rfl).1; omega
  have n_w_h : g_w ≠ g_h := by have h1 := (Ow14.out.lt g_w rfl).2; have h2 := (ho_h.lt g_h rfl).1; omega
  have n_x_h : g_x ≠ g_h := by have h1 := (Ox14.out.lt g_x rfl).2; have h2 := (ho_h.lt g_h rfl).1; omega
  have n_g_h : g_g ≠ g_h := by have h1 := (Og14.out.lt g_g rfl).2; have h2 := (ho_h.lt g_h rfl).1; omega
  have n_y_h : g_y ≠ g_h := by have h1 := (Oy14.out.lt g_y rfl).2; have h2 := (ho_h.lt g_h rfl).1; omega
  have n_z_h : g_z ≠ g_h := by have h1 := (Oz14.out.lt g_z rfl).2; have h2 := (ho_h.lt g_h rfl).1; omega
  have l_h : w.heap.size ≤ g_h := Nat.le_trans B14.out.size (ho_h.lt g_h rfl).1
  have B15 := Lib.hid (B14.out.trans (hb.mono B14.out.size))
  have KW15 := Lib.hid (KW14.out.below hb)
  have KG15 := Lib.hid (KG14.out.below hb)
  have Ot15 := Lib.hid (Ot14.out.kept (below_any (row := none) hb) (.inr (by simp [Value.ownBlock])))
  have Ow15 := Lib.hid (Ow14.out.kept (below_any (row := none) hb) (.inr (by simp [Value.ownBlock])))
  have Ox15 := Lib.hid (Ox14.out.kept (below_any (row := none) hb) (.inr (by simp [Value.ownBlock])))
  have Og15 := Lib.hid (Og14.out.kept (below_any (row := none) hb) (.inr (by simp [Value.ownBlock])))
  have Oy15 := Lib.hid (Oy14.out.kept (below_any (row := none) hb) (.inr (by simp [Value.ownBlock])))
  have Oz15 := Lib.hid (Oz14.out.kept (below_any (row := none) hb) (.inr (by simp [Value.ownBlock])))
  have Oh15 := Lib.hid (own_down ho_h (Nat.zero_le _))
  clear hb B14 KW14 KG14 Ot14 Ow14 Ox14 Og14 Oy14 Oz14 ho_h
  have KHn := Lib.hid (Blk.new v15 [.bool true, .int .u64 0, .int .u64 0, .slice (some ⟨g_h, 0, none⟩) rs.length c_h] 27)
  have n_W_H : g_W ≠ v15.heap.size := by have h1 := KW15.out.lt; omega
  have n_G_H : g_G ≠ v15.heap.size := by have h1 := KG15.out.lt; omega
  have n_t_H : g_t ≠ v15.heap.size := by have h1 := (Ot15.out.lt g_t rfl).2; omega
  have n_w_H : g_w ≠ v15.heap.size := by have h1 := (Ow15.out.lt g_w rfl).2; omega
  have n_x_H : g_x ≠ v15.heap.size := by have h1 := (Ox15.out.lt g_x rfl).2; omega
  have n_g_H : g_g ≠ v15.heap.size := by have h1 := (Og15.out.lt g_g rfl).2; omega
  have n_y_H : g_y ≠ v15.heap.size := by have h1 := (Oy15.out.lt g_y rfl).2; omega
  have n_z_H : g_z ≠ v15.heap.size := by have h1 := (Oz15.out.lt g_z rfl).2; omega
  have n_h_H : g_h ≠ v15.heap.size := by have h1 := (Oh15.out.lt g_h rfl).2; omega
  have Bn := Lib.hid (B15.out.alloc B15.out.size (.cells #[.bool true, .int .u64 0, .int .u64 0, .slice (some ⟨g_h, 0, none⟩) rs.length c_h] 27))
  have KWn := Lib.hid (KW15.out.alloc (.cells #[.bool true, .int .u64 0, .int .u64 0, .slice (some ⟨g_h, 0, none⟩) rs.length c_h] 27))
  have KGn := Lib.hid (KG15.out.alloc (.cells #[.bool true, .int .u64 0, .int .u64 0, .slice (some ⟨g_h, 0, none⟩) rs.length c_h] 27))
  have Otn := Lib.hid (Ot15.out.alloc (.cells #[.bool true, .int .u64 0, .int .u64 0, .slice (some ⟨g_h, 0, none⟩) rs.length c_h] 27))
  have Own := Lib.hid (Ow15.out.alloc (.cells #[.bool true, .int .u64 0, .int .u64 0, .slice (some ⟨g_h, 0, none⟩) rs.length c_h] 27))
  have Oxn := Lib.hid (Ox15.out.alloc (.cells #[.bool true, .int .u64 0, .int .u64 0, .slice (some ⟨g_h, 0, none⟩) rs.length c_h] 27))
  have Ogn := Lib.hid (Og15.out.alloc (.cells #[.bool true, .int .u64 0, .int .u64 0, .slice (some ⟨g_h, 0, none⟩) rs.length c_h] 27))
  have Oyn := Lib.hid (Oy15.out.alloc (.cells #[.bool true, .int .u64 0, .int .u64 0, .slice (some ⟨g_h, 0, none⟩) rs.length c_h] 27))
  have Ozn := Lib.hid (Oz15.out.alloc (.cells #[.bool true, .int .u64 0, .int .u64 0, .slice (some ⟨g_h, 0, none⟩) rs.length c_h] 27))
  have Ohn := Lib.hid (Oh15.out.alloc (.cells #[.bool true, .int .u64 0, .int .u64 0, .slice (some ⟨g_h, 0, none⟩) rs.length c_h] 27))
  clear B15 KW15 KG15 Ot15 Ow15 Ox15 Og15 Oy15 Oz15 Oh15
  obtain ⟨⟨cW0, cW1, cW2, cW3⟩, dW0, dW1, dW2, dW3⟩ := KWn.out.four
  obtain ⟨⟨cG0, cG1, cG2, cG3⟩, dG0, dG1, dG2, dG3⟩ := KGn.out.four
  go_wp2_with fail
  clear cW0 cW1 cW2 cW3 dW0 dW1 dW2 dW3 cG0 cG1 cG2 cG3 dG0 dG1 dG2 dG3
  change Calls _ _ _ (v15.alloc (.cells #[.bool true, .int .u64 0, .int .u64 0, .slice (some ⟨g_h, 0, none⟩) rs.length c_h] 27)) _
  generalize v15.alloc (.cells #[.bool true, .int .u64 0, .int .u64 0, .slice (some ⟨g_h, 0, none⟩) rs.length c_h] 27) = v16 at KHn Bn KWn KGn Otn Own Oxn Ogn Oyn Ozn Ohn ⊢
  generalize v15.heap.size = g_H at KHn n_W_H n_G_H n_t_H n_w_H n_x_H n_g_H n_y_H n_z_H n_h_H ⊢
  clear v15
  have KW16 := KWn
  clear KWn
  have KG16 := KGn
  clear KGn
  have KH16 := KHn
  clear KHn
  have Ot16 := Otn
  clear Otn
  have Ow16 := Own
  clear Own
  have Ox16 := Oxn
  clear Oxn
  have Og16 := Ogn
  clear Ogn
  have Oy16 := Oyn
  clear Oyn
  have Oz16 := Ozn
  clear Ozn
  have Oh16 := Ohn
  clear Ohn
  have B16 := Bn
  clear Bn
  refine (eqMac_self true 0 0 (some ⟨g_h, 0, none⟩) (some ⟨g_w, 0, none⟩) c_h c_w rs _ (Row.ownK Oh16.out) (Row.ownK Ow16.out) hn.out).mono ?_
  rintro e v17 ⟨rfl, hb⟩
  have B17 := Lib.hid (B16.out.trans (hb.mono B16.out.size))
  have KW17 := Lib.hid (KW16.out.below hb)
  have KG17 := Lib.hid (KG16.out.below hb)
  have KH17 := Lib.hid (KH16.out.below hb)
  have Ot17 := Lib.hid (Ot16.out.kept (below_any (row := none) hb) (.inr (by simp [Value.ownBlock])))
  have Ow17 := Lib.hid (Ow16.out.kept (below_any (row := none) hb) (.inr (by simp [Value.ownBlock])))
  have Ox17 := Lib.hid (Ox16.out.kept (below_any (row := none) hb) (.inr (by simp [Value.ownBlock])))
  have Og17 := Lib.hid (Og16.out.kept (below_any (row := none) hb) (.inr (by simp [Value.ownBlock])))
  have Oy17 := Lib.hid (Oy16.out.kept (below_any (row := none) hb) (.inr (by simp [Value.ownBlock])))
  have Oz17 := Lib.hid (Oz16.out.kept (below_any (row := none) hb) (.inr (by simp [Value.ownBlock])))
  have Oh17 := Lib.hid (Oh16.out.kept (below_any (row := none) hb) (.inr (by simp [Value.ownBlock])))
  clear hb B16 KW16 KG16 KH16 Ot16 Ow16 Ox16 Og16 Oy16 Oz16 Oh16
  obtain ⟨⟨cW0, cW1, cW2, cW3⟩, dW0, dW1, dW2, dW3⟩ := KW17.out.four
  obtain ⟨⟨cG0, cG1, cG2, cG3⟩, dG0, dG1, dG2, dG3⟩ := KG17.out.four
  obtain ⟨⟨cH0, cH1, cH2, cH3⟩, dH0, dH1, dH2, dH3⟩ := KH17.out.four
  go_wp2_with fail
  clear cW0 cW1 cW2 cW3 dW0 dW1 dW2 dW3 cG0 cG1 cG2 cG3 dG0 dG1 dG2 dG3 cH0 cH1 cH2 cH3 dH0 dH1 dH2 dH3
  refine (heldMac_any true 0 0 (some ⟨g_g, 0, none⟩) rs.length c_g 1 _ (Row.ownK Og17.out) (by decide) (by decide) (Nat.le_succ_of_le hn.out)).mono ?_
  rintro e v18 ⟨rfl, hb⟩
  have B18 := Lib.hid (B17.out.trans (hb.mono B17.out.size))
  have KW18 := Lib.hid (KW17.out.below hb)
  have KG18 := Lib.hid (KG17.out.below hb)
  have KH18 := Lib.hid (KH17.out.below hb)
  have Ot18 := Lib.hid (Ot17.out.kept (below_any (row := none) hb) (.inr (by simp [Value.ownBlock])))
  have Ow18 := Lib.hid (Ow17.out.kept (below_any (row := none) hb) (.inr (by simp [Value.ownBlock])))
  have Ox18 := Lib.hid (Ox17.out.kept (below_any (row := none) hb) (.inr (by simp [Value.ownBlock])))
  have Og18 := Lib.hid (Og17.out.kept (below_any (row := none) hb) (.inr (by simp [Value.ownBlock])))
  have Oy18 := Lib.hid (Oy17.out.kept (below_any (row := none) hb) (.inr (by simp [Value.ownBlock])))
  have Oz18 := Lib.hid (Oz17.out.kept (below_any (row := none) hb) (.inr (by simp [Value.ownBlock])))
  have Oh18 := Lib.hid (Oh17.out.kept (below_any (row := none) hb) (.inr (by simp [Value.ownBlock])))
  clear hb B17 KW17 KG17 KH17 Ot17 Ow17 Ox17 Og17 Oy17 Oz17 Oh17
  obtain ⟨⟨cW0, cW1, cW2, cW3⟩, dW0, dW1, dW2, dW3⟩ := KW18.out.four
  obtain ⟨⟨cG0, cG1, cG2, cG3⟩, dG0, dG1, dG2, dG3⟩ := KG18.out.four
  obtain ⟨⟨cH0, cH1, cH2, cH3⟩, dH0, dH1, dH2, dH3⟩ := KH18.out.four
  go_wp2_with fail
  go_ret
  exact ⟨rfl, B18.out⟩

theorem walk {w : World} (a : Option Addr) (len cap : Nat) (rs : List MR) (h : IsM w a len cap rs) : Calls Try.prog 6 #[.slice a len cap] w fun e w' => e = .returned (.bool true) ∧ Below w.heap.size w w' := by
  obtain ⟨⟨rfl, _, hm, hz⟩, hrow⟩ := h
  exact go a cap rs w hrow (by omega) (fun r hr => (hz r hr).1)
theorem own : ownKnob Try.prog.godebug = none := by kernel_rfl
theorem laidOut : laidOutB Try.prog = true := by kernel_rfl

set_option maxRecDepth 100000 in
theorem lifted (os : Os) (started : os.Started) (H : Type) (enc : TypeId × Value → H) :
    ReturnsInHanded {} Try.checked os 6 .any (Rows.fnExactTableMacSpec.pre6 enc Try.prog Try.f6 Rows.fnExactTableMacRow.domain false) (Rows.fnExactTableMacSpec.post enc Try.prog Try.f6 false true false false) := by
  refine returnsInHanded_of_change (C := Try.checked) own started (by kernel_rfl) Try.func6
    (ChangeSpec.witness6 (enc := enc) (C := Try.checked) false ⟨#[], #[.slice none 0 0], []⟩ 8 (by kernel_rfl) (by kernel_rfl) (by kernel_rfl) (by kernel_rfl)) ?_
  intro W base args ds gs before hval0 hW _ _
  have hval : ∀ (j : Nat) t v, Try.f6.params[j]? = some t → args[j]? = some v → Value.okWide Try.prog W .any base t v := hval0
  have hW' := hW
  obtain ⟨p, q, hA0, hV, rfl, _, _⟩ := hW
  have hA : DataW.TrodAll enc Try.prog W 0 (fun _ => true) true Try.f6.params.toList args.toList ds p := hA0
  rw [Try.params6] at hA hval
  obtain ⟨v0, vs0, d0, ds0, p0, q0, hargs, rfl, rfl, h0, r0⟩ := trodAll_cons hA
  obtain ⟨rfl, rfl, rfl⟩ := trodAll_nil r0
  obtain rfl : args = #[v0] := by cases args; simp_all
  obtain ⟨rfl, rfl⟩ := trodVars_none hV
  have k0 := h0
  have lt0 : ∀ x ∈ p0, x.block < W.heap.size := by obtain ⟨m, hm⟩ := k0; exact DataW.trod_lt m _ _ _ hm
  obtain ⟨a0, len0, cap0, s0, rfl, w0⟩ := argMacRowS (hval 0 36 v0 rfl rfl) h0
  clear hA0 hval0
  refine (walk a0 len0 cap0 s0 w0).mono fun e W' ⟨he, bel⟩ => ?_
  subst he
  exact ⟨_, rfl, _, _, _, [], _, [], hW', trodAll_mk1 (shut_bool Try.underlying4 _), (trodAll_cons_mk (Below.trod laidOut (by kernel_rfl) (of_decide_eq_true (by kernel_rfl)) k0 bel lt0) trodAll_mk0), rfl, bel.frame _, fun h => by cases h⟩

theorem over : Rows.fnExactTableMacRow.holds Try.pinned (OpenSpec.ofChange Rows.fnExactTableMacSpec) :=
  OpenClaim.holds_of_wide 6 Try.f6 rfl rfl rfl rfl rfl rfl rfl ⟨rfl, rfl, rfl, rfl, rfl⟩ rfl rfl rfl rfl rfl (by kernel_rfl) Try.func6 (by kernel_rfl)
    (of_decide_eq_true (by kernel_rfl)) (by unfold Func.isWrapper; first | (rw [if_pos (by decide +kernel)]; kernel_rfl) | (rw [if_neg (by decide +kernel)]; exact ⟨rfl, rfl⟩))
    (fun os started H enc _ => lifted os started H enc)

theorem proved : Rows.FnExactTableMacSaid := over
#print axioms proved
end Go.Proofs.Ytkmflfmbmmpohaa.fnExactTableMac
