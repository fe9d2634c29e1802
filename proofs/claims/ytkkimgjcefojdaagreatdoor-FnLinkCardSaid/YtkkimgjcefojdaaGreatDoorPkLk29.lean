/- Texts of a proof that belong together, joined. Nothing here is a claim. -/
import Derived.SliceStrings
import Derived.Test.YtkkimgjcefojdaaGreatDoorPkLk28
namespace Go.Proofs.YtkkimgjcefojdaaGreatDoor
open Go.RowKit Go.Lib

/-- A drawn cache's row, away from the cursor. -/
def DrnE (base g gg cap : Nat) (rs : List ER) (w : World) : Prop := w.ownsRow base 71 3 (.slice (some ⟨gg, 0, none⟩) rs.length cap) rs.length (ers rs) ∧ gg ≠ g
theorem DrnE.grown {base g gg cap : Nat} {rs : List ER} {w w' : World} (h : DrnE base g gg cap rs w) (hg : w.grownBy w' (some g)) : DrnE base g gg cap rs w' := ⟨h.1.kept hg (.inr (own_ne h.2)), h.2⟩
theorem DrnE.below {base g gg cap : Nat} {rs : List ER} {w w' : World} (h : DrnE base g gg cap rs w) (hb : Below w.heap.size w w') : DrnE base g gg cap rs w' := ⟨own_below h.1 hb, h.2⟩
theorem DrnE.alloc {base g gg cap : Nat} {rs : List ER} {w : World} (h : DrnE base g gg cap rs w) (o : Obj) : DrnE base g gg cap rs (w.alloc o) := ⟨h.1.alloc o, h.2⟩
theorem DrnE.set {base g gg cap : Nat} {rs : List ER} {w : World} {b : Nat} (h : DrnE base g gg cap rs w) (k : Nat) (v : Value) (hne : b ≠ gg) : DrnE base g gg cap rs (w.setCell ⟨b, k, none⟩ v) := ⟨own_set' h.1 k v hne, h.2⟩
theorem DrnE.lt {base g gg cap : Nat} {rs : List ER} {w : World} (h : DrnE base g gg cap rs w) : base ≤ gg ∧ gg < w.heap.size := h.1.lt gg rfl
/-- A drawn link: its cache in new memory; only the cursor has turned. -/
def LnkEnd (w : World) (B g : Nat) (e : Ending) (w' : World) : Prop :=
 ∃ (m ip : Int) (rs : List ER) (gg cap : Nat), e = .returned (.agg #[.int .i64 m, .int .i64 ip, .slice (some ⟨gg, 0, none⟩) rs.length cap]) ∧ (I64 m ∧ I64 ip ∧ rs.length ≤ 6 ∧ ∀ r ∈ rs, goodE r) ∧ w'.ownsRow w.heap.size 71 3 (.slice (some ⟨gg, 0, none⟩) rs.length cap) rs.length (ers rs) ∧ CurB w' B g ∧ w.grownBy w' (some g)


set_option maxRecDepth 100000 in
set_option maxHeartbeats 4000000 in
theorem l16Link_any (B g : Nat) (w : World) (hc : CurB w B g) : Calls Tryz.prog 60 #[.pointer (some ⟨g, 0, none⟩)] w (LnkEnd w B g) := by
 go_enter Tryz.func60, Tryz.ntmps60
 have hlt := hc.lt
 have hBg := hc.1
 have C0 := Lib.hid (show CurB (w.alloc (.cells #[.int .i64 0, .int .i64 0, .slice none 0 0] 26)) B g from (hc.new (.cells #[.int .i64 0, .int .i64 0, .slice none 0 0] 26)))
 have G0 := Lib.hid (show w.grownBy (w.alloc (.cells #[.int .i64 0, .int .i64 0, .slice none 0 0] 26)) (some g) from (grown_new (World.grownBy.refl w (some g)) (.cells #[.int .i64 0, .int .i64 0, .slice none 0 0] 26)))
 clear hc
 have Kr0 := Lib.hid (show Blk (w.alloc (.cells #[.int .i64 0, .int .i64 0, .slice none 0 0] 26)) (w.heap.size) [.int .i64 0, .int .i64 0, .slice none 0 0] from ((Blk.new w [.int .i64 0, .int .i64 0, .slice none 0 0] 26)))
 go_upto_region 1 with fail
 generalize w.alloc (.cells #[.int .i64 0, .int .i64 0, .slice none 0 0] 26) = v0 at C0 G0 Kr0 ⊢
 generalize hh_r : w.heap.size = g_r at Kr0 ⊢
 have l_r : w.heap.size ≤ g_r := by omega
 have b_r : B ≤ g_r := by omega
 have c_r : g_r ≠ g := by omega
 clear hh_r
 obtain ⟨⟨cr0, cr1, cr2⟩, dr0, dr1, dr2⟩ := Kr0.out.o3
 go_wp2_with fail
 clear cr0 cr1 cr2 dr0 dr1 dr2
 have hrl := Kr0.out.lt
 have C0' := C0.out
 refine (l15Cache_any B g _ C0.out).mono ?_
 rintro e v1 ⟨rs, gg, cap, rfl, hn, ho, hcu, hgr⟩
 have Kr1 := Lib.hid (Kr0.out.grown hgr c_r)
 have G1 := Lib.hid (grown_tr G0.out hgr)
 have C1 := Lib.hid hcu
 clear hcu hgr Kr0 G0 C0
 have D1 := Lib.hid (show DrnE v0.heap.size g gg cap rs v1 from ⟨ho, by have h1 := (ho.lt gg rfl).1; have h2 := C0'.lt; omega⟩)
 clear ho C0'
 have hd := D1.out.lt
 have hne : g_r ≠ gg := by omega
 have hG0 := G1.out.size
 obtain ⟨⟨cr0, cr1, cr2⟩, dr0, dr1, dr2⟩ := Kr1.out.o3
 go_wp2_with fail
 exact bodyPost_ret (v := .agg #[.int .i64 11, .int .i64 167772161, .slice (some ⟨gg, 0, none⟩) rs.length cap]) (by simp [results, Tryz.results60, go_sem, cr0, cr1, cr2]) rfl ⟨11, 167772161, rs, gg, cap, rfl, ⟨by unfold I64; decide, by unfold I64; decide, Nat.le_succ_of_le hn.1, hn.2⟩, own_up (((D1.out.set (b := g_r) 0 _ hne).set (b := g_r) 1 _ hne).set (b := g_r) 2 _ hne).1 (Nat.le_trans l_r (Nat.le_trans (Nat.le_of_lt hrl) hd.1)), (((C1.out.setOther ⟨g_r, 0, none⟩ _ b_r c_r).setOther ⟨g_r, 1, none⟩ _ b_r c_r).setOther ⟨g_r, 2, none⟩ _ b_r c_r), (grown_setNew (grown_setNew (grown_setNew G1.out ⟨g_r, 0, none⟩ _ l_r) ⟨g_r, 1, none⟩ _ l_r) ⟨g_r, 2, none⟩ _ l_r)⟩

set_option maxRecDepth 100000 in
set_option maxHeartbeats 8000000 in
theorem l16Bent_any (B g : Nat) (w : World) (hc : CurB w B g) : Calls Tryz.prog 27 #[.pointer (some ⟨g, 0, none⟩)] w (LnkEnd w B g) := by
 go_enter Tryz.func27, Tryz.ntmps27
 have hlt := hc.lt
 have hBg := hc.1
 have C0 := Lib.hid (show CurB (w.alloc (.cells #[.int .i64 0, .int .i64 0, .slice none 0 0] 26)) B g from (hc.new (.cells #[.int .i64 0, .int .i64 0, .slice none 0 0] 26)))
 have G0 := Lib.hid (show w.grownBy (w.alloc (.cells #[.int .i64 0, .int .i64 0, .slice none 0 0] 26)) (some g) from (grown_new (World.grownBy.refl w (some g)) (.cells #[.int .i64 0, .int .i64 0, .slice none 0 0] 26)))
 clear hc
 have Kr0 := Lib.hid (show Blk (w.alloc (.cells #[.int .i64 0, .int .i64 0, .slice none 0 0] 26)) (w.heap.size) [.int .i64 0, .int .i64 0, .slice none 0 0] from ((Blk.new w [.int .i64 0, .int .i64 0, .slice none 0 0] 26)))
 go_upto_region 1 with fail
 generalize w.alloc (.cells #[.int .i64 0, .int .i64 0, .slice none 0 0] 26) = v0 at C0 G0 Kr0 ⊢
 generalize hh_r : w.heap.size = g_r at Kr0 ⊢
 have l_r : w.heap.size ≤ g_r := by omega
 have b_r : B ≤ g_r := by omega
 have c_r : g_r ≠ g := by omega
 clear hh_r
 obtain ⟨⟨cr0, cr1, cr2⟩, dr0, dr1, dr2⟩ := Kr0.out.o3
 go_wp2_with fail
 clear cr0 cr1 cr2 dr0 dr1 dr2
 have C0' := C0.out
 have hrl := Kr0.out.lt
 refine (l16Link_any B g _ C0.out).mono ?_
 rintro e v1 ⟨m, ip, rs, gg, cap, rfl, hn, ho, hcu, hgr⟩
 have Kr1 := Lib.hid (Kr0.out.grown hgr c_r)
 have G1 := Lib.hid (grown_tr G0.out hgr)
 have C1 := Lib.hid hcu
 clear hcu hgr Kr0 G0 C0
 have De1 := Lib.hid (show DrnE v0.heap.size g gg cap rs v1 from ⟨ho, by have h1 := (ho.lt gg rfl).1; have h2 := C0'.lt; omega⟩)
 clear ho C0'
 have ne_r : g_r ≠ gg := by have hd := De1.out.lt; omega
 have lgg : w.heap.size ≤ gg := Nat.le_trans l_r (Nat.le_trans (Nat.le_of_lt hrl) De1.out.lt.1)
 have hgl := De1.out.lt.2
 have Kr2 := Lib.hid (Kr1.out.alloc (.cells #[.int .i64 m, .int .i64 ip, .slice (some ⟨gg, 0, none⟩) rs.length cap] 26))
 have n_r_l : g_r ≠ v1.heap.size := by have h1 := Kr1.out.lt; omega
 have De2 := Lib.hid (De1.out.alloc (.cells #[.int .i64 m, .int .i64 ip, .slice (some ⟨gg, 0, none⟩) rs.length cap] 26))
 have Kl2 := Lib.hid (Blk.new v1 [.int .i64 m, .int .i64 ip, .slice (some ⟨gg, 0, none⟩) rs.length cap] 26)
 have G2 := Lib.hid (grown_new G1.out (.cells #[.int .i64 m, .int .i64 ip, .slice (some ⟨gg, 0, none⟩) rs.length cap] 26))
 have C2 := Lib.hid (C1.out.new (.cells #[.int .i64 m, .int .i64 ip, .slice (some ⟨gg, 0, none⟩) rs.length cap] 26))
 have l_l : w.heap.size ≤ v1.heap.size := G1.out.size
 have c_l : v1.heap.size ≠ g := Nat.ne_of_gt C1.out.lt
 have b_l : B ≤ v1.heap.size := by have h1 := C1.out.lt; omega
 clear Kr1 De1 G1 C1
 obtain ⟨⟨cr0, cr1, cr2⟩, dr0, dr1, dr2⟩ := Kr2.out.o3
 obtain ⟨⟨cl0, cl1, cl2⟩, dl0, dl1, dl2⟩ := Kl2.out.o3
 go_wp2_with fail
 clear cr0 cr1 cr2 dr0 dr1 dr2 cl0 cl1 cl2 dl0 dl1 dl2
 generalize v1.alloc (.cells #[.int .i64 m, .int .i64 ip, .slice (some ⟨gg, 0, none⟩) rs.length cap] 26) = v2 at Kr2 Kl2 De2 C2 G2 ⊢
 generalize hh : v1.heap.size = g_l at Kl2 l_l c_l b_l n_r_l  hgl ⊢
 clear hh
 have ne_l : g_l ≠ gg := by omega
 clear hgl
 -- CASE
 refine (l1Below_pos B g _ C2.out 10 (by omega) (by omega)).mono ?_
 rintro e v3 ⟨k, rfl, hk, hcu, hgr⟩
 have Kr3 := Lib.hid (Kr2.out.grown hgr c_r)
 have Kl3 := Lib.hid (Kl2.out.grown hgr c_l)
 have De3 := Lib.hid (De2.out.grown hgr)
 have G3 := Lib.hid (grown_tr G2.out hgr)
 have C3 := Lib.hid hcu
 clear hcu hgr Kr2 Kl2 De2 G2 C2
 by_cases h0 : k = 0
 ·subst h0
  obtain ⟨⟨cr0, cr1, cr2⟩, dr0, dr1, dr2⟩ := Kr3.out.o3
  obtain ⟨⟨cl0, cl1, cl2⟩, dl0, dl1, dl2⟩ := Kl3.out.o3
  go_wp2_with fail
  clear cr0 cr1 cr2 dr0 dr1 dr2 cl0 cl1 cl2 dl0 dl1 dl2
  refine (l2Word_any B g _ C3.out).mono ?_
  rintro e v4 ⟨x, rfl, hx, hcu, hgr⟩
  have Kr4 := Lib.hid (Kr3.out.grown hgr c_r)
  have Kl4 := Lib.hid (Kl3.out.grown hgr c_l)
  have De4 := Lib.hid (De3.out.grown hgr)
  have G4 := Lib.hid (grown_tr G3.out hgr)
  have C4 := Lib.hid hcu
  clear hcu hgr Kr3 Kl3 De3 G3 C3
  obtain ⟨⟨cr0, cr1, cr2⟩, dr0, dr1, dr2⟩ := Kr4.out.o3
  obtain ⟨⟨cl0, cl1, cl2⟩, dl0, dl1, dl2⟩ := Kl4.out.o3
  have Kr5 := Lib.hid (show Blk (v4.setCell ⟨g_l, 0, none⟩ (.int .i64 x)) g_r [.int .i64 0, .int .i64 0, .slice none 0 0] from (Kr4.out.setOther ⟨g_l, 0, none⟩ (.int .i64 x) (n_r_l)))
  have Kl5 := Lib.hid (show Blk (v4.setCell ⟨g_l, 0, none⟩ (.int .i64 x)) g_l [.int .i64 x, .int .i64 ip, .slice (some ⟨gg, 0, none⟩) rs.length cap] from (Kl4.out.set 0 (.int .i64 x)))
  have De5 := Lib.hid (De4.out.set 0 (.int .i64 x) ne_l)
  have C5 := Lib.hid (C4.out.setOther ⟨g_l, 0, none⟩ (.int .i64 x) b_l c_l)
  have G5 := Lib.hid (grown_setNew G4.out ⟨g_l, 0, none⟩ (.int .i64 x) l_l)
  clear Kr4 Kl4 De4 C4 G4
  go_upto_region 11 with fail
  clear cr0 cr1 cr2 dr0 dr1 dr2 cl0 cl1 cl2 dl0 dl1 dl2
  generalize v4.setCell ⟨g_l, 0, none⟩ (.int .i64 x) = v5 at Kr5 Kl5 De5 C5 G5 ⊢
  obtain ⟨⟨cr0, cr1, cr2⟩, dr0, dr1, dr2⟩ := Kr5.out.o3
  obtain ⟨⟨cl0, cl1, cl2⟩, dl0, dl1, dl2⟩ := Kl5.out.o3
  go_wp2_with fail
  exact bodyPost_ret (v := .agg #[.int .i64 x, .int .i64 ip, .slice (some ⟨gg, 0, none⟩) rs.length cap]) (by simp [results, Tryz.results27, go_sem, cr0, cr1, cr2]) rfl ⟨_, _, rs, gg, cap, rfl, ⟨hx, hn.2.1, hn.2.2⟩, own_up (((De5.out.set (b := g_r) 0 _ ne_r).set (b := g_r) 1 _ ne_r).set (b := g_r) 2 _ ne_r).1 lgg, (((C5.out.setOther ⟨g_r, 0, none⟩ _ b_r c_r).setOther ⟨g_r, 1, none⟩ _ b_r c_r).setOther ⟨g_r, 2, none⟩ _ b_r c_r), (grown_setNew (grown_setNew (grown_setNew G5.out ⟨g_r, 0, none⟩ _ l_r) ⟨g_r, 1, none⟩ _ l_r) ⟨g_r, 2, none⟩ _ l_r)⟩
 ·have h0' : (k == 0) = false := by simpa using h0
  by_cases h1 : k = 1
  ·subst h1
   obtain ⟨⟨cr0, cr1, cr2⟩, dr0, dr1, dr2⟩ := Kr3.out.o3
   obtain ⟨⟨cl0, cl1, cl2⟩, dl0, dl1, dl2⟩ := Kl3.out.o3
   go_wp2_with fail
   clear cr0 cr1 cr2 dr0 dr1 dr2 cl0 cl1 cl2 dl0 dl1 dl2
   refine (l2Word_any B g _ C3.out).mono ?_
   rintro e v4 ⟨x, rfl, hx, hcu, hgr⟩
   have Kr4 := Lib.hid (Kr3.out.grown hgr c_r)
   have Kl4 := Lib.hid (Kl3.out.grown hgr c_l)
   have De4 := Lib.hid (De3.out.grown hgr)
   have G4 := Lib.hid (grown_tr G3.out hgr)
   have C4 := Lib.hid hcu
   clear hcu hgr Kr3 Kl3 De3 G3 C3
   obtain ⟨⟨cr0, cr1, cr2⟩, dr0, dr1, dr2⟩ := Kr4.out.o3
   obtain ⟨⟨cl0, cl1, cl2⟩, dl0, dl1, dl2⟩ := Kl4.out.o3
   have Kr5 := Lib.hid (show Blk (v4.setCell ⟨g_l, 1, none⟩ (.int .i64 x)) g_r [.int .i64 0, .int .i64 0, .slice none 0 0] from (Kr4.out.setOther ⟨g_l, 1, none⟩ (.int .i64 x) (n_r_l)))
   have Kl5 := Lib.hid (show Blk (v4.setCell ⟨g_l, 1, none⟩ (.int .i64 x)) g_l [.int .i64 m, .int .i64 x, .slice (some ⟨gg, 0, none⟩) rs.length cap] from (Kl4.out.set 1 (.int .i64 x)))
   have De5 := Lib.hid (De4.out.set 1 (.int .i64 x) ne_l)
   have C5 := Lib.hid (C4.out.setOther ⟨g_l, 1, none⟩ (.int .i64 x) b_l c_l)
   have G5 := Lib.hid (grown_setNew G4.out ⟨g_l, 1, none⟩ (.int .i64 x) l_l)
   clear Kr4 Kl4 De4 C4 G4
   go_upto_region 11 with fail
   clear cr0 cr1 cr2 dr0 dr1 dr2 cl0 cl1 cl2 dl0 dl1 dl2
   generalize v4.setCell ⟨g_l, 1, none⟩ (.int .i64 x) = v5 at Kr5 Kl5 De5 C5 G5 ⊢
   obtain ⟨⟨cr0, cr1, cr2⟩, dr0, dr1, dr2⟩ := Kr5.out.o3
   obtain ⟨⟨cl0, cl1, cl2⟩, dl0, dl1, dl2⟩ := Kl5.out.o3
   go_wp2_with fail
   exact bodyPost_ret (v := .agg #[.int .i64 m, .int .i64 x, .slice (some ⟨gg, 0, none⟩) rs.length cap]) (by simp [results, Tryz.results27, go_sem, cr0, cr1, cr2]) rfl ⟨_, _, rs, gg, cap, rfl, ⟨hn.1, hx, hn.2.2⟩, own_up (((De5.out.set (b := g_r) 0 _ ne_r).set (b := g_r) 1 _ ne_r).set (b := g_r) 2 _ ne_r).1 lgg, (((C5.out.setOther ⟨g_r, 0, none⟩ _ b_r c_r).setOther ⟨g_r, 1, none⟩ _ b_r c_r).setOther ⟨g_r, 2, none⟩ _ b_r c_r), (grown_setNew (grown_setNew (grown_setNew G5.out ⟨g_r, 0, none⟩ _ l_r) ⟨g_r, 1, none⟩ _ l_r) ⟨g_r, 2, none⟩ _ l_r)⟩
  ·have h1' : (k == 1) = false := by simpa using h1
   by_cases h2 : k = 2
   ·subst h2
    obtain ⟨⟨cr0, cr1, cr2⟩, dr0, dr1, dr2⟩ := Kr3.out.o3
    obtain ⟨⟨cl0, cl1, cl2⟩, dl0, dl1, dl2⟩ := Kl3.out.o3
    go_wp2_with fail
    clear cr0 cr1 cr2 dr0 dr1 dr2 cl0 cl1 cl2 dl0 dl1 dl2
    have C0' := C3.out
    have hll := Kl3.out.lt
    have hrl2 := Kr3.out.lt
    have hG0 := G3.out.size
    refine (l15Bent_any B g _ C3.out).mono ?_
    rintro e v4 ⟨ss, gh, dap, rfl, hs, ho, hcu, hgr⟩
    have Kr4 := Lib.hid (Kr3.out.grown hgr c_r)
    have Kl4 := Lib.hid (Kl3.out.grown hgr c_l)
    have De4 := Lib.hid (De3.out.grown hgr)
    have G4 := Lib.hid (grown_tr G3.out hgr)
    have C4 := Lib.hid hcu
    clear hcu hgr Kr3 Kl3 De3 G3 C3
    have Df4 := Lib.hid (show DrnE v3.heap.size g gh dap ss v4 from ⟨ho, by have h1 := (ho.lt gh rfl).1; have h2 := C0'.lt; omega⟩)
    clear ho C0' De4
    have hd := Df4.out.lt
    have nf_r : g_r ≠ gh := by omega
    have nf_l : g_l ≠ gh := by omega
    have lgh : w.heap.size ≤ gh := by omega
    obtain ⟨⟨cr0, cr1, cr2⟩, dr0, dr1, dr2⟩ := Kr4.out.o3
    obtain ⟨⟨cl0, cl1, cl2⟩, dl0, dl1, dl2⟩ := Kl4.out.o3
    have Kr5 := Lib.hid (show Blk (v4.setCell ⟨g_l, 2, none⟩ (.slice (some ⟨gh, 0, none⟩) ss.length dap)) g_r [.int .i64 0, .int .i64 0, .slice none 0 0] from (Kr4.out.setOther ⟨g_l, 2, none⟩ (.slice (some ⟨gh, 0, none⟩) ss.length dap) (n_r_l)))
    have Kl5 := Lib.hid (show Blk (v4.setCell ⟨g_l, 2, none⟩ (.slice (some ⟨gh, 0, none⟩) ss.length dap)) g_l [.int .i64 m, .int .i64 ip, .slice (some ⟨gh, 0, none⟩) ss.length dap] from (Kl4.out.set 2 (.slice (some ⟨gh, 0, none⟩) ss.length dap)))
    have Df5 := Lib.hid (Df4.out.set 2 (.slice (some ⟨gh, 0, none⟩) ss.length dap) nf_l)
    have C5 := Lib.hid (C4.out.setOther ⟨g_l, 2, none⟩ (.slice (some ⟨gh, 0, none⟩) ss.length dap) b_l c_l)
    have G5 := Lib.hid (grown_setNew G4.out ⟨g_l, 2, none⟩ (.slice (some ⟨gh, 0, none⟩) ss.length dap) l_l)
    clear Kr4 Kl4 Df4 C4 G4
    go_upto_region 11 with fail
    clear cr0 cr1 cr2 dr0 dr1 dr2 cl0 cl1 cl2 dl0 dl1 dl2
    generalize v4.setCell ⟨g_l, 2, none⟩ (.slice (some ⟨gh, 0, none⟩) ss.length dap) = v5 at Kr5 Kl5 Df5 C5 G5 ⊢
    obtain ⟨⟨cr0, cr1, cr2⟩, dr0, dr1, dr2⟩ := Kr5.out.o3
    obtain ⟨⟨cl0, cl1, cl2⟩, dl0, dl1, dl2⟩ := Kl5.out.o3
    go_wp2_with fail
    exact bodyPost_ret (v := .agg #[.int .i64 m, .int .i64 ip, .slice (some ⟨gh, 0, none⟩) ss.length dap]) (by simp [results, Tryz.results27, go_sem, cr0, cr1, cr2]) rfl ⟨_, _, ss, gh, dap, rfl, ⟨hn.1, hn.2.1, hs⟩, own_up (((Df5.out.set (b := g_r) 0 _ nf_r).set (b := g_r) 1 _ nf_r).set (b := g_r) 2 _ nf_r).1 lgh, (((C5.out.setOther ⟨g_r, 0, none⟩ _ b_r c_r).setOther ⟨g_r, 1, none⟩ _ b_r c_r).setOther ⟨g_r, 2, none⟩ _ b_r c_r), (grown_setNew (grown_setNew (grown_setNew G5.out ⟨g_r, 0, none⟩ _ l_r) ⟨g_r, 1, none⟩ _ l_r) ⟨g_r, 2, none⟩ _ l_r)⟩
   ·have h2' : (k == 2) = false := by simpa using h2
    by_cases h3 : k = 3
    ·subst h3
     obtain ⟨⟨cr0, cr1, cr2⟩, dr0, dr1, dr2⟩ := Kr3.out.o3
     obtain ⟨⟨cl0, cl1, cl2⟩, dl0, dl1, dl2⟩ := Kl3.out.o3
     have Kr4 := Lib.hid (show Blk (v3.setCell ⟨g_l, 0, none⟩ (.int .i64 281474976710655)) g_r [.int .i64 0, .int .i64 0, .slice none 0 0] from (Kr3.out.setOther ⟨g_l, 0, none⟩ (.int .i64 281474976710655) (n_r_l)))
     have Kl4 := Lib.hid (show Blk (v3.setCell ⟨g_l, 0, none⟩ (.int .i64 281474976710655)) g_l [.int .i64 281474976710655, .int .i64 ip, .slice (some ⟨gg, 0, none⟩) rs.length cap] from (Kl3.out.set 0 (.int .i64 281474976710655)))
     have De4 := Lib.hid (De3.out.set 0 (.int .i64 281474976710655) ne_l)
     have C4 := Lib.hid (C3.out.setOther ⟨g_l, 0, none⟩ (.int .i64 281474976710655) b_l c_l)
     have G4 := Lib.hid (grown_setNew G3.out ⟨g_l, 0, none⟩ (.int .i64 281474976710655) l_l)
     clear Kr3 Kl3 De3 C3 G3
     go_upto_region 11 with fail
     clear cr0 cr1 cr2 dr0 dr1 dr2 cl0 cl1 cl2 dl0 dl1 dl2
     generalize v3.setCell ⟨g_l, 0, none⟩ (.int .i64 281474976710655) = v4 at Kr4 Kl4 De4 C4 G4 ⊢
     obtain ⟨⟨cr0, cr1, cr2⟩, dr0, dr1, dr2⟩ := Kr4.out.o3
     obtain ⟨⟨cl0, cl1, cl2⟩, dl0, dl1, dl2⟩ := Kl4.out.o3
     go_wp2_with fail
     exact bodyPost_ret (v := .agg #[.int .i64 281474976710655, .int .i64 ip, .slice (some ⟨gg, 0, none⟩) rs.length cap]) (by simp [results, Tryz.results27, go_sem, cr0, cr1, cr2]) rfl ⟨_, _, rs, gg, cap, rfl, ⟨by unfold I64; decide, hn.2.1, hn.2.2⟩, own_up (((De4.out.set (b := g_r) 0 _ ne_r).set (b := g_r) 1 _ ne_r).set (b := g_r) 2 _ ne_r).1 lgg, (((C4.out.setOther ⟨g_r, 0, none⟩ _ b_r c_r).setOther ⟨g_r, 1, none⟩ _ b_r c_r).setOther ⟨g_r, 2, none⟩ _ b_r c_r), (grown_setNew (grown_setNew (grown_setNew G4.out ⟨g_r, 0, none⟩ _ l_r) ⟨g_r, 1, none⟩ _ l_r) ⟨g_r, 2, none⟩ _ l_r)⟩
    ·have h3' : (k == 3) = false := by simpa using h3
     obtain ⟨⟨cr0, cr1, cr2⟩, dr0, dr1, dr2⟩ := Kr3.out.o3
     obtain ⟨⟨cl0, cl1, cl2⟩, dl0, dl1, dl2⟩ := Kl3.out.o3
     go_wp2_with fail
     exact bodyPost_ret (v := .agg #[.int .i64 m, .int .i64 ip, .slice (some ⟨gg, 0, none⟩) rs.length cap]) (by simp [results, Tryz.results27, go_sem, cr0, cr1, cr2]) rfl ⟨_, _, rs, gg, cap, rfl, ⟨hn.1, hn.2.1, hn.2.2⟩, own_up (((De3.out.set (b := g_r) 0 _ ne_r).set (b := g_r) 1 _ ne_r).set (b := g_r) 2 _ ne_r).1 lgg, (((C3.out.setOther ⟨g_r, 0, none⟩ _ b_r c_r).setOther ⟨g_r, 1, none⟩ _ b_r c_r).setOther ⟨g_r, 2, none⟩ _ b_r c_r), (grown_setNew (grown_setNew (grown_setNew G3.out ⟨g_r, 0, none⟩ _ l_r) ⟨g_r, 1, none⟩ _ l_r) ⟨g_r, 2, none⟩ _ l_r)⟩
end Go.Proofs.YtkkimgjcefojdaaGreatDoor
namespace Go.Proofs.YtkkimgjcefojdaaGreatDoor
open Go.RowKit Go.Lib

/-- What is known of a drawn link. -/
def DrawnL (m ip : Int) (rs : List ER) (gg c : Nat) (w w' : World) : Prop := I64 m ∧ I64 ip ∧ rs.length ≤ 6 ∧ (∀ r ∈ rs, goodE r) ∧ rs.length ≤ c ∧ Row w' w'.heap.size (some ⟨gg, 0, none⟩) (ers rs) ∧ Below w.heap.size w w'

end Go.Proofs.YtkkimgjcefojdaaGreatDoor
namespace Go.Proofs.YtkkimgjcefojdaaGreatDoor
open Go.RowKit Go.Lib

theorem read_text (d s t : Int) (b : ByteArray) (h : frameOk d s t b = true) :
  rfOk (frameText d s t b) = true ∧ rfD (frameText d s t b) = d ∧ rfS (frameText d s t b) = s ∧ rfT (frameText d s t b) = t ∧ rfB (frameText d s t b) = b := by
 have hh := h
 unfold frameOk at h
 simp only [Bool.and_eq_true, decide_eq_true_eq] at h
 obtain ⟨⟨⟨h1, h2⟩, h3⟩, _⟩ := h
 have h4 : wordOk t 16 = true := by rw [type_word t h3.1]; exact decide_eq_true h3
 obtain ⟨_, _, _, _, z1⟩ := putW_word d 6 (by omega) h1
 obtain ⟨_, _, _, _, z2⟩ := putW_word s 6 (by omega) h2
 obtain ⟨_, _, _, _, z3⟩ := putW_word t 2 (by omega) h4
 have g1 := gw_at d 6 (by omega) h1 ⟨#[]⟩ (putW s 6 ++ putW t 2 ++ b)
 have g2 := gw_at s 6 (by omega) h2 (putW d 6) (putW t 2 ++ b)
 have g3 := gw_at t 2 (by omega) h4 (putW d 6 ++ putW s 6) b
 have e : frameText d s t b = putW d 6 ++ putW s 6 ++ putW t 2 ++ b := by unfold frameText; rw [if_pos hh]
 obtain ⟨x, hx⟩ : ∃ x, putW d 6 ++ putW s 6 ++ putW t 2 ++ b = x := ⟨_, rfl⟩
 have hsz : x.size = 14 + b.size := by
  rw [← hx, ByteArray.size_append, ByteArray.size_append, ByteArray.size_append]
  have a1 : (putW d 6).size = 6 := z1
  have a2 : (putW s 6).size = 6 := z2
  have a3 : (putW t 2).size = 2 := z3
  omega
 have k1 : ((gw x 0 6 : Nat) : Int) = d := by
  rw [← hx]
  have e1 : (⟨#[]⟩ : ByteArray) ++ putW d 6 ++ (putW s 6 ++ putW t 2 ++ b) = putW d 6 ++ putW s 6 ++ putW t 2 ++ b := by
   rw [show (⟨#[]⟩ : ByteArray) ++ putW d 6 = putW d 6 from ByteArray.empty_append, ← ByteArray.append_assoc, ← ByteArray.append_assoc]
  rw [← e1]; exact g1
 have k2 : ((gw x 6 6 : Nat) : Int) = s := by
  rw [← hx]
  have e1 : putW d 6 ++ putW s 6 ++ (putW t 2 ++ b) = putW d 6 ++ putW s 6 ++ putW t 2 ++ b := by rw [← ByteArray.append_assoc]
  rw [← e1]
  have a1 : (putW d 6).size = 6 := z1
  rw [a1] at g2; exact g2
 have k3 : ((gw x 12 2 : Nat) : Int) = t := by
  rw [← hx]
  have a1 : (putW d 6 ++ putW s 6).size = 12 := by rw [ByteArray.size_append]; have a1 : (putW d 6).size = 6 := z1; have a2 : (putW s 6).size = 6 := z2; omega
  rw [a1] at g3; exact g3
 have k4 : x.extract 14 x.size = b := by
  rw [hsz, ← hx]
  have a1 : (putW d 6 ++ putW s 6 ++ putW t 2).size = 14 := by rw [ByteArray.size_append, ByteArray.size_append]; have a1 : (putW d 6).size = 6 := z1; have a2 : (putW s 6).size = 6 := z2; have a3 : (putW t 2).size = 2 := z3; omega
  exact ByteArray.extract_append_eq_right a1.symm (by rw [a1])
 rw [e, hx]
 have hok : rfOk x = true := by
  unfold rfOk readOk
  rw [k1, k2, k3, k4, hh, Bool.and_true]
  exact decide_eq_true (by omega)
 refine ⟨hok, ?_, ?_, ?_, ?_⟩
 ·unfold rfD; rw [hok]; exact k1
 ·unfold rfS; rw [hok]; exact k2
 ·unfold rfT; rw [hok]; exact k3
 ·unfold rfB; rw [hok]; exact k4
end Go.Proofs.YtkkimgjcefojdaaGreatDoor
namespace Go.Proofs.YtkkimgjcefojdaaGreatDoor
open Go.RowKit Go.Lib

theorem big_yes (a : Option Addr) (n cap : Nat) (w : World) (h : 1048576 < n) (hm : n ≤ 9223372036854775807) : Calls Tryz.prog 6 #[.slice a n cap] w fun e w' => e = .returned (.bool true) ∧ w = w' := by
 have hd : decide ((1048576 : Int) < (n : Int)) = true := by simp; omega
 go_enter Tryz.func6, Tryz.ntmps6
 go_wp2_with fail
 go_ret
 exact ⟨by simp, rfl⟩
theorem big_no (a : Option Addr) (n cap : Nat) (w : World) (h : n ≤ 1048576) : Calls Tryz.prog 6 #[.slice a n cap] w fun e w' => e = .returned (.bool false) ∧ w = w' := by
 have hd : decide ((1048576 : Int) < (n : Int)) = false := by simp; omega
 go_enter Tryz.func6, Tryz.ntmps6
 go_wp2_with fail
 go_ret
 exact ⟨by simp, rfl⟩
end Go.Proofs.YtkkimgjcefojdaaGreatDoor
namespace Go.Proofs.YtkkimgjcefojdaaGreatDoor
open Go.ChangeShapes Go.WideShapes Go.RowKit Go.Lib

theorem add_lit (b off j : Nat) : (⟨b, off, none⟩ : Addr).add j = ⟨b, off + j, none⟩ := by unfold Addr.add; split <;> simp_all

/-- What the walk is told of a []byte. -/
def IsBytes (w : World) (a : Option Addr) (len : Nat) (bs : List UInt8) : Prop := (bs.length = len ∧ len ≤ maxLen) ∧ Row w w.heap.size a (byteCells bs)

theorem openBytes {H : Type} {enc : TypeId × Value → H} {P : Program} {w : World} {t e : TypeId} {fuel : Nat} {a : Option Addr} {len cap : Nat} {x : DataW H × List MemPlace} (ht : P.underlying t = some (.slice e)) (he : P.underlying e = some (.int .u8)) (hc : P.cellsOf e = 1)
  (h : DataW.trod enc P w 0 (fun _ => true) true fuel t (Value.slice a len cap).cells.toList = some x) : ∃ bs : List UInt8, IsBytes w a len bs := by
 rcases open_ints ht he hc h with ⟨hcs, _⟩ | ⟨y, l, c, zs, hcs, _, hl, hm, hz, _, hcell, hwz⟩
 ·simp [Value.cells] at hcs
  obtain ⟨rfl, rfl, rfl⟩ := hcs
  exact ⟨[], ⟨rfl, Nat.zero_le _⟩, Row.nil⟩
 ·simp [Value.cells] at hcs
  obtain ⟨rfl, rfl, rfl⟩ := hcs
  simp only [if_true] at hz
  have hlen : ((zs.take len).map fun z => UInt8.ofNat z.toNat).length = len := by simp; omega
  refine ⟨(zs.take len).map fun z => UInt8.ofNat z.toNat, ⟨hlen, Nat.le_trans hl hm⟩, fun hx => ?_⟩
  have hpos : 0 < len := by
   rcases Nat.eq_zero_or_pos len with h | h
   ·subst h; exact absurd rfl hx
   ·exact h
  obtain ⟨b, off, spot⟩ := y
  have hc0 := hcell 0 (by omega)
  have hspot : spot = none := by simpa [Addr.add] using World.cell?_spot hc0
  subst hspot
  refine ⟨b, off, rfl, World.block_lt_of_cell? w ⟨b, off, none⟩ (by simpa [Addr.add] using hc0), fun j u hu => ?_⟩
  have hj : j < len := by
   have := (List.getElem?_eq_some_iff.1 hu).1
   rw [byteCells_length, hlen] at this; exact this
  have hj2 : j < zs.length := by omega
  have hb := bounds_u8 (hwz zs[j] (List.getElem_mem hj2))
  have := hcell j hj2
  rw [add_lit] at this
  rw [this, ← hu]
  simp only [byteCells, List.getElem?_map, List.getElem?_take, if_pos hj, List.getElem?_eq_getElem hj2, Option.map_some, List.getD_eq_getElem?_getD, Option.getD_some]
  rw [UInt8.toNat_ofNat']
  congr 2
  omega

end Go.Proofs.YtkkimgjcefojdaaGreatDoor
