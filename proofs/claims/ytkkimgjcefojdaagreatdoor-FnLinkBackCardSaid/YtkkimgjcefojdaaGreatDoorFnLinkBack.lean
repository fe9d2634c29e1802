/- Proved here: the law FnLinkBack holds at every code: what is sent to a host comes through at it, from whom it was sent, and what can't be sent is empty; the call returns true for every argument; the only conditions are that the library's variable errors.errorType and the program's variable impl.errDropped hold what the program's own text lays (the card ties them). -/
import Derived.Test.YtkkimgjcefojdaaGreatDoorRows
import Derived.Test.YtkkimgjcefojdaaGreatDoorCards
import Derived.Test.YtkkimgjcefojdaaGreatDoorTie
import Derived.ProofKit
import Derived.OpenShut
import Derived.ShutString
import Derived.ChangeSame
import Derived.ChangeOld
import Derived.Below
import Derived.LaidHandle
import Derived.LaidLaws
import Derived.Stop.Joined
import Derived.Stop.LaidErr
import Derived.WalkSmall
import Derived.ChangeVars
import Derived.SevenTiedAt
import Derived.Test.YtkkimgjcefojdaaGreatDoorPkLk35
import Derived.Test.YtkkimgjcefojdaaGreatDoorPkLk16
namespace Go.Proofs.YtkkimgjcefojdaaGreatDoor.fnLinkBack
open Go.ChangeShapes Go.WideShapes Go.ChangeAt Go.RowKit Go.Lib

/-- The law's word: true, and what lay before the call lies as it lay. -/
def OkB (w : World) (e : Ending) (w' : World) : Prop := e = .returned (.bool true) ∧ Below w.heap.size w w'
/-- The rows of a slice, kept over what makes memory of its own. -/
def RowA (rs : List ER) (a : Option Addr) (w : World) : Prop := Row w w.heap.size a (ers rs)
theorem RowA.below {rs : List ER} {a : Option Addr} {w w' : World} (h : RowA rs a w) (hb : Below w.heap.size w w') : RowA rs a w' := Row.mono (Row.below h hb) hb.size
theorem RowA.alloc {rs : List ER} {a : Option Addr} {w : World} (h : RowA rs a w) (o : Obj) : RowA rs a (w.alloc o) := h.below ((Below.refl _ _).alloc (Nat.le_refl _) o)
theorem hwE_bd {rs : List ER} (dst : Int) (h : ∀ r ∈ rs, goodE r) : -9223372036854775808 ≤ hwE rs dst ∧ hwE rs dst ≤ 9223372036854775807 := by
 unfold hwE
 split
 ·rename_i r hr
  have h2 : IntKind.i64.min ≤ r.hw ∧ r.hw ≤ IntKind.i64.max := by simpa [Lit.wf] using (h r (List.mem_of_getElem? hr)).2.1
  have e1 : IntKind.i64.min = -9223372036854775808 := by decide
  have e2 : IntKind.i64.max = 9223372036854775807 := by decide
  omega
 ·omega
theorem outT_le (m ip : Int) (rs : List ER) (dst : Int) (b : ByteArray) : (outT m ip rs dst b).size ≤ 1604 := by
 unfold outT
 split
 ·exact frameText_le _ _ _ _
 ·exact Nat.zero_le _

set_option maxRecDepth 100000 in
set_option maxHeartbeats 16000000 in
theorem walk (a0 : Option Addr) (len0 cap0 : Nat) (s0 : List UInt8) {w : World} (w0 : IsBytes w a0 len0 s0) (hT : ErrTy w ∧ ∃ x, Sent x w) :
  Calls Tryz.prog 4 #[.slice a0 len0 cap0] w (OkB w) := by
 obtain ⟨⟨rfl, hm⟩, hrow⟩ := w0
 obtain ⟨hg, x, hx⟩ := hT
 unfold maxLen at hm
 have HR := Lib.hid hrow
 have HG := Lib.hid hg
 have HX := Lib.hid hx
 clear hrow hg hx
 by_cases hs : s0.length ≤ 1048576
 ·go_enter Tryz.func4, Tryz.ntmps4
  go_wp2_with fail
  refine (big_no _ _ _ _ hs).mono ?_
  rintro e w' ⟨rfl, rfl⟩
  go_wp2_with fail
  refine (drawLinkOut _ _ _ _ HR.out hs).mono ?_
  rintro e v0 ⟨m, ip, rs, gg, c, dst, t, rfl, ⟨hdst, ht⟩, hmm, hii, hl6, hgd, hc, hr, hb⟩
  have B0 := Lib.hid hb
  have Hl0 := Lib.hid (show RowA rs (some ⟨gg, 0, none⟩) v0 from hr)
  have hw6 := hwE_bd dst hgd
  clear hgd hr hb HR hii hdst hmm
  have CI := Lib.hid (fun w h => linkOutI m ip (some ⟨gg, 0, none⟩) c rs dst t w h (by omega))
  have CS := Lib.hid (fun w h => linkOutS m ip (some ⟨gg, 0, none⟩) c rs dst t w h (by omega) hc)
  have HW := Lib.hid (fun w h => hwOfS (some ⟨gg, 0, none⟩) c rs dst w h (by omega))
  unfold EndOut at CI CS
  unfold HwEnd at HW
  have hT2 : (outT m ip rs dst t).size ≤ 1604 := outT_le m ip rs dst t
  cases hO : outOk m ip rs dst t with
  | false =>
   have hE := outT_no hO
   rw [hO] at CI CS
   clear hO HW hT2
   generalize outT m ip rs dst t = T at CI CS hE
   have Kln := Lib.hid (Blk.new v0 [.int .i64 m, .int .i64 ip, .slice (some ⟨gg, 0, none⟩) rs.length c] 26)
   have Bn := Lib.hid (B0.out.alloc B0.out.size (.cells #[.int .i64 m, .int .i64 ip, .slice (some ⟨gg, 0, none⟩) rs.length c] 26))
   have Hln := Lib.hid (Hl0.out.alloc (.cells #[.int .i64 m, .int .i64 ip, .slice (some ⟨gg, 0, none⟩) rs.length c] 26))
   clear B0 Hl0
   go_wp2_with fail
   change Calls _ _ _ (v0.alloc (.cells #[.int .i64 m, .int .i64 ip, .slice (some ⟨gg, 0, none⟩) rs.length c] 26)) _
   generalize v0.alloc (.cells #[.int .i64 m, .int .i64 ip, .slice (some ⟨gg, 0, none⟩) rs.length c] 26) = v1 at Kln Bn Hln ⊢
   generalize v0.heap.size = g_l at Kln ⊢
   clear v0
   have Kl1 := Kln
   clear Kln
   have Hl1 := Hln
   clear Hln
   have B1 := Bn
   clear Bn
   refine (CI.out _ Hl1.out).mono ?_
   rintro e v2 ⟨rfl, hb⟩
   have B2 := Lib.hid (B1.out.trans (hb.mono B1.out.size))
   have Kl2 := Lib.hid (Kl1.out.below hb)
   have Hl2 := Lib.hid (Hl1.out.below hb)
   clear hb B1 Kl1 Hl1
   obtain ⟨⟨cl0, cl1, cl2⟩, dl0, dl1, dl2⟩ := Kl2.out.o3
   go_wp2_with fail
   clear cl0 cl1 cl2 dl0 dl1 dl2
   refine (CS.out _ Hl2.out).mono ?_
   rintro e v3 ⟨rfl, hb⟩
   have B3 := Lib.hid (B2.out.trans (hb.mono B2.out.size))
   have Kl3 := Lib.hid (Kl2.out.below hb)
   have Hl3 := Lib.hid (Hl2.out.below hb)
   clear hb B2 Kl2 Hl2
   obtain ⟨⟨cl0, cl1, cl2⟩, dl0, dl1, dl2⟩ := Kl3.out.o3
   go_wp2_with fail
   go_ret
   exact ⟨rfl, B3.out⟩
  | true =>
   have hb := arr_back hO
   rw [hO] at CI CS
   clear hO
   generalize outT m ip rs dst t = T at CI CS hb hT2
   generalize hwE rs dst = hw at HW hb hw6
   have LI := Lib.hid (fun w h hg hx => linkInI hw dst none 0 [] T x w h (fun _ => ⟨rfl, rfl⟩) (by simp) (by omega) hw6 hg hx)
   unfold LinkEnd at LI
   rw [hb] at LI
   clear hb hT2 hw6
   by_cases he : hw = 281474976710655
   ·rw [if_pos he] at LI
    have he' : (hw == 281474976710655) = true := by simpa using he
    clear he
    simp only [Option.getD_none, Arr.zero] at LI
    generalize linkRs (none) [] = QL at LI
    have Kln := Lib.hid (Blk.new v0 [.int .i64 m, .int .i64 ip, .slice (some ⟨gg, 0, none⟩) rs.length c] 26)
    have Bn := Lib.hid (B0.out.alloc B0.out.size (.cells #[.int .i64 m, .int .i64 ip, .slice (some ⟨gg, 0, none⟩) rs.length c] 26))
    have Hln := Lib.hid (Hl0.out.alloc (.cells #[.int .i64 m, .int .i64 ip, .slice (some ⟨gg, 0, none⟩) rs.length c] 26))
    clear B0 Hl0
    go_wp2_with fail
    change Calls _ _ _ (v0.alloc (.cells #[.int .i64 m, .int .i64 ip, .slice (some ⟨gg, 0, none⟩) rs.length c] 26)) _
    generalize v0.alloc (.cells #[.int .i64 m, .int .i64 ip, .slice (some ⟨gg, 0, none⟩) rs.length c] 26) = v1 at Kln Bn Hln ⊢
    generalize v0.heap.size = g_l at Kln ⊢
    clear v0
    have Kl1 := Kln
    clear Kln
    have Hl1 := Hln
    clear Hln
    have B1 := Bn
    clear Bn
    refine (CI.out _ Hl1.out).mono ?_
    rintro e v2 ⟨rfl, hb⟩
    have B2 := Lib.hid (B1.out.trans (hb.mono B1.out.size))
    have Kl2 := Lib.hid (Kl1.out.below hb)
    have Hl2 := Lib.hid (Hl1.out.below hb)
    clear hb B1 Kl1 Hl1
    obtain ⟨⟨cl0, cl1, cl2⟩, dl0, dl1, dl2⟩ := Kl2.out.o3
    go_wp2_with fail
    clear cl0 cl1 cl2 dl0 dl1 dl2
    refine (CS.out _ Hl2.out).mono ?_
    rintro e v3 ⟨rfl, hb⟩
    have B3 := Lib.hid (B2.out.trans (hb.mono B2.out.size))
    have Kl3 := Lib.hid (Kl2.out.below hb)
    have Hl3 := Lib.hid (Hl2.out.below hb)
    clear hb B2 Kl2 Hl2
    obtain ⟨⟨cl0, cl1, cl2⟩, dl0, dl1, dl2⟩ := Kl3.out.o3
    go_wp2_with fail
    clear cl0 cl1 cl2 dl0 dl1 dl2
    refine (HW.out _ Hl3.out).mono ?_
    rintro e v4 ⟨rfl, hb⟩
    have B4 := Lib.hid (B3.out.trans (hb.mono B3.out.size))
    have Kl4 := Lib.hid (Kl3.out.below hb)
    have Hl4 := Lib.hid (Hl3.out.below hb)
    clear hb B3 Kl3 Hl3
    have Kon := Lib.hid (Blk.new v4 [.int .i64 hw, .int .i64 dst, .slice none 0 0] 26)
    have n_l_o : g_l ≠ v4.heap.size := by have h1 := Kl4.out.lt; omega
    have Bn := Lib.hid (B4.out.alloc B4.out.size (.cells #[.int .i64 hw, .int .i64 dst, .slice none 0 0] 26))
    have Kln := Lib.hid (Kl4.out.alloc (.cells #[.int .i64 hw, .int .i64 dst, .slice none 0 0] 26))
    have Hln := Lib.hid (Hl4.out.alloc (.cells #[.int .i64 hw, .int .i64 dst, .slice none 0 0] 26))
    clear B4 Kl4 Hl4
    obtain ⟨⟨cl0, cl1, cl2⟩, dl0, dl1, dl2⟩ := Kln.out.o3
    go_wp2_with fail
    clear cl0 cl1 cl2 dl0 dl1 dl2
    change Calls _ _ _ (v4.alloc (.cells #[.int .i64 hw, .int .i64 dst, .slice none 0 0] 26)) _
    generalize v4.alloc (.cells #[.int .i64 hw, .int .i64 dst, .slice none 0 0] 26) = v5 at Kon Bn Kln Hln ⊢
    generalize v4.heap.size = g_o at Kon n_l_o ⊢
    clear v4
    have Kl5 := Kln
    clear Kln
    have Ko5 := Kon
    clear Kon
    have Hl5 := Hln
    clear Hln
    have B5 := Bn
    clear Bn
    have LJ := LI.out _ Row.nil (HG.out.below B5.out HG.out.lt) (HX.out.below B5.out HX.out.lt)
    refine (LJ).mono ?_
    rintro e v6 ⟨a1, c1, rfl, ho, hb⟩
    clear ho
    have B6 := Lib.hid (B5.out.trans (hb.mono B5.out.size))
    have Kl6 := Lib.hid (Kl5.out.below hb)
    have Ko6 := Lib.hid (Ko5.out.below hb)
    have Hl6 := Lib.hid (Hl5.out.below hb)
    clear hb B5 Kl5 Ko5 Hl5
    have B7 := Lib.hid ((B6.out.alloc (by have h0 := B6.out.size; simp <;> omega) (.cells #[.int .i64 hw, .int .i64 dst, .slice a1 QL.length c1] 26)).alloc (by have h0 := B6.out.size; simp <;> omega) (.cells #[.int .i64 0, .int .i64 0, .int .i64 0, .int .i64 0, .int .i64 0, .string ⟨#[]⟩] 30))
    have lt_l := Kl6.out.lt
    have n_l_k : g_l ≠ v6.heap.size := by omega
    have n_l_p : g_l ≠ v6.heap.size + 1 := by omega
    clear lt_l
    have lt_o := Ko6.out.lt
    have n_o_k : g_o ≠ v6.heap.size := by omega
    have n_o_p : g_o ≠ v6.heap.size + 1 := by omega
    clear lt_o
    have Kl7 := Lib.hid ((Kl6.out.alloc (.cells #[.int .i64 hw, .int .i64 dst, .slice a1 QL.length c1] 26)).alloc (.cells #[.int .i64 0, .int .i64 0, .int .i64 0, .int .i64 0, .int .i64 0, .string ⟨#[]⟩] 30))
    have Ko7 := Lib.hid ((Ko6.out.alloc (.cells #[.int .i64 hw, .int .i64 dst, .slice a1 QL.length c1] 26)).alloc (.cells #[.int .i64 0, .int .i64 0, .int .i64 0, .int .i64 0, .int .i64 0, .string ⟨#[]⟩] 30))
    have Hl7 := Lib.hid ((Hl6.out.alloc (.cells #[.int .i64 hw, .int .i64 dst, .slice a1 QL.length c1] 26)).alloc (.cells #[.int .i64 0, .int .i64 0, .int .i64 0, .int .i64 0, .int .i64 0, .string ⟨#[]⟩] 30))
    have Kk7 := Lib.hid (show Blk ((v6.alloc (.cells #[.int .i64 hw, .int .i64 dst, .slice a1 QL.length c1] 26)).alloc (.cells #[.int .i64 0, .int .i64 0, .int .i64 0, .int .i64 0, .int .i64 0, .string ⟨#[]⟩] 30)) (v6.heap.size) [.int .i64 hw, .int .i64 dst, .slice a1 QL.length c1] from ((Blk.new v6 [.int .i64 hw, .int .i64 dst, .slice a1 QL.length c1] 26).alloc (.cells #[.int .i64 0, .int .i64 0, .int .i64 0, .int .i64 0, .int .i64 0, .string ⟨#[]⟩] 30)))
    have n_k_p : v6.heap.size ≠ v6.heap.size + 1 := by omega
    have Kp7 := Lib.hid (show Blk ((v6.alloc (.cells #[.int .i64 hw, .int .i64 dst, .slice a1 QL.length c1] 26)).alloc (.cells #[.int .i64 0, .int .i64 0, .int .i64 0, .int .i64 0, .int .i64 0, .string ⟨#[]⟩] 30)) (v6.heap.size + 1) [.int .i64 0, .int .i64 0, .int .i64 0, .int .i64 0, .int .i64 0, .string ⟨#[]⟩] by have h0 := (Blk.new (v6.alloc (.cells #[.int .i64 hw, .int .i64 dst, .slice a1 QL.length c1] 26)) [.int .i64 0, .int .i64 0, .int .i64 0, .int .i64 0, .int .i64 0, .string ⟨#[]⟩] 30); rwa [show (v6.alloc (.cells #[.int .i64 hw, .int .i64 dst, .slice a1 QL.length c1] 26)).heap.size = v6.heap.size + 1 by simp] at h0)
    clear B6 Kl6 Ko6 Hl6
    obtain ⟨⟨cl0, cl1, cl2⟩, dl0, dl1, dl2⟩ := Kl7.out.o3
    obtain ⟨⟨co0, co1, co2⟩, do0, do1, do2⟩ := Ko7.out.o3
    obtain ⟨⟨ck0, ck1, ck2⟩, dk0, dk1, dk2⟩ := Kk7.out.o3
    obtain ⟨⟨cp0, cp1, cp2, cp3, cp4, cp5⟩, dp0, dp1, dp2, dp3, dp4, dp5⟩ := Kp7.out.of6
    go_upto_region 13 with fail
    clear cl0 cl1 cl2 dl0 dl1 dl2 co0 co1 co2 do0 do1 do2 ck0 ck1 ck2 dk0 dk1 dk2 cp0 cp1 cp2 cp3 cp4 cp5 dp0 dp1 dp2 dp3 dp4 dp5
    generalize (v6.alloc (.cells #[.int .i64 hw, .int .i64 dst, .slice a1 QL.length c1] 26)).alloc (.cells #[.int .i64 0, .int .i64 0, .int .i64 0, .int .i64 0, .int .i64 0, .string ⟨#[]⟩] 30) = v7 at B7 Kl7 Ko7 Hl7 Kk7 Kp7 ⊢
    generalize v6.heap.size + 1 = g_p at Kp7 n_l_p n_o_p n_k_p ⊢
    generalize v6.heap.size = g_k at Kk7 n_l_k n_o_k n_k_p ⊢
    obtain ⟨⟨cl0, cl1, cl2⟩, dl0, dl1, dl2⟩ := Kl7.out.o3
    obtain ⟨⟨co0, co1, co2⟩, do0, do1, do2⟩ := Ko7.out.o3
    obtain ⟨⟨ck0, ck1, ck2⟩, dk0, dk1, dk2⟩ := Kk7.out.o3
    obtain ⟨⟨cp0, cp1, cp2, cp3, cp4, cp5⟩, dp0, dp1, dp2, dp3, dp4, dp5⟩ := Kp7.out.of6
    go_wp2_with fail
    go_ret
    exact ⟨rfl, B7.out⟩
   ·rw [if_neg he] at LI
    have he' : (hw == 281474976710655) = false := by simpa using he
    clear he
    by_cases hi : ip = dst
    ·rw [if_pos hi] at LI
     have hi' : (dst == ip) = true := by simpa using hi.symm
     clear hi
     simp only [Option.getD_none, Arr.zero] at LI
     generalize linkRs (none) [] = QL at LI
     have Kln := Lib.hid (Blk.new v0 [.int .i64 m, .int .i64 ip, .slice (some ⟨gg, 0, none⟩) rs.length c] 26)
     have Bn := Lib.hid (B0.out.alloc B0.out.size (.cells #[.int .i64 m, .int .i64 ip, .slice (some ⟨gg, 0, none⟩) rs.length c] 26))
     have Hln := Lib.hid (Hl0.out.alloc (.cells #[.int .i64 m, .int .i64 ip, .slice (some ⟨gg, 0, none⟩) rs.length c] 26))
     clear B0 Hl0
     go_wp2_with fail
     change Calls _ _ _ (v0.alloc (.cells #[.int .i64 m, .int .i64 ip, .slice (some ⟨gg, 0, none⟩) rs.length c] 26)) _
     generalize v0.alloc (.cells #[.int .i64 m, .int .i64 ip, .slice (some ⟨gg, 0, none⟩) rs.length c] 26) = v1 at Kln Bn Hln ⊢
     generalize v0.heap.size = g_l at Kln ⊢
     clear v0
     have Kl1 := Kln
     clear Kln
     have Hl1 := Hln
     clear Hln
     have B1 := Bn
     clear Bn
     refine (CI.out _ Hl1.out).mono ?_
     rintro e v2 ⟨rfl, hb⟩
     have B2 := Lib.hid (B1.out.trans (hb.mono B1.out.size))
     have Kl2 := Lib.hid (Kl1.out.below hb)
     have Hl2 := Lib.hid (Hl1.out.below hb)
     clear hb B1 Kl1 Hl1
     obtain ⟨⟨cl0, cl1, cl2⟩, dl0, dl1, dl2⟩ := Kl2.out.o3
     go_wp2_with fail
     clear cl0 cl1 cl2 dl0 dl1 dl2
     refine (CS.out _ Hl2.out).mono ?_
     rintro e v3 ⟨rfl, hb⟩
     have B3 := Lib.hid (B2.out.trans (hb.mono B2.out.size))
     have Kl3 := Lib.hid (Kl2.out.below hb)
     have Hl3 := Lib.hid (Hl2.out.below hb)
     clear hb B2 Kl2 Hl2
     obtain ⟨⟨cl0, cl1, cl2⟩, dl0, dl1, dl2⟩ := Kl3.out.o3
     go_wp2_with fail
     clear cl0 cl1 cl2 dl0 dl1 dl2
     refine (HW.out _ Hl3.out).mono ?_
     rintro e v4 ⟨rfl, hb⟩
     have B4 := Lib.hid (B3.out.trans (hb.mono B3.out.size))
     have Kl4 := Lib.hid (Kl3.out.below hb)
     have Hl4 := Lib.hid (Hl3.out.below hb)
     clear hb B3 Kl3 Hl3
     have Kon := Lib.hid (Blk.new v4 [.int .i64 hw, .int .i64 dst, .slice none 0 0] 26)
     have n_l_o : g_l ≠ v4.heap.size := by have h1 := Kl4.out.lt; omega
     have Bn := Lib.hid (B4.out.alloc B4.out.size (.cells #[.int .i64 hw, .int .i64 dst, .slice none 0 0] 26))
     have Kln := Lib.hid (Kl4.out.alloc (.cells #[.int .i64 hw, .int .i64 dst, .slice none 0 0] 26))
     have Hln := Lib.hid (Hl4.out.alloc (.cells #[.int .i64 hw, .int .i64 dst, .slice none 0 0] 26))
     clear B4 Kl4 Hl4
     obtain ⟨⟨cl0, cl1, cl2⟩, dl0, dl1, dl2⟩ := Kln.out.o3
     go_wp2_with fail
     clear cl0 cl1 cl2 dl0 dl1 dl2
     change Calls _ _ _ (v4.alloc (.cells #[.int .i64 hw, .int .i64 dst, .slice none 0 0] 26)) _
     generalize v4.alloc (.cells #[.int .i64 hw, .int .i64 dst, .slice none 0 0] 26) = v5 at Kon Bn Kln Hln ⊢
     generalize v4.heap.size = g_o at Kon n_l_o ⊢
     clear v4
     have Kl5 := Kln
     clear Kln
     have Ko5 := Kon
     clear Kon
     have Hl5 := Hln
     clear Hln
     have B5 := Bn
     clear Bn
     have LJ := LI.out _ Row.nil (HG.out.below B5.out HG.out.lt) (HX.out.below B5.out HX.out.lt)
     refine (LJ).mono ?_
     rintro e v6 ⟨a1, c1, rfl, ho, hb⟩
     clear ho
     have B6 := Lib.hid (B5.out.trans (hb.mono B5.out.size))
     have Kl6 := Lib.hid (Kl5.out.below hb)
     have Ko6 := Lib.hid (Ko5.out.below hb)
     have Hl6 := Lib.hid (Hl5.out.below hb)
     clear hb B5 Kl5 Ko5 Hl5
     have B7 := Lib.hid ((B6.out.alloc (by have h0 := B6.out.size; simp <;> omega) (.cells #[.int .i64 hw, .int .i64 dst, .slice a1 QL.length c1] 26)).alloc (by have h0 := B6.out.size; simp <;> omega) (.cells #[.int .i64 0, .int .i64 0, .int .i64 0, .int .i64 0, .int .i64 0, .string ⟨#[]⟩] 30))
     have lt_l := Kl6.out.lt
     have n_l_k : g_l ≠ v6.heap.size := by omega
     have n_l_p : g_l ≠ v6.heap.size + 1 := by omega
     clear lt_l
     have lt_o := Ko6.out.lt
     have n_o_k : g_o ≠ v6.heap.size := by omega
     have n_o_p : g_o ≠ v6.heap.size + 1 := by omega
     clear lt_o
     have Kl7 := Lib.hid ((Kl6.out.alloc (.cells #[.int .i64 hw, .int .i64 dst, .slice a1 QL.length c1] 26)).alloc (.cells #[.int .i64 0, .int .i64 0, .int .i64 0, .int .i64 0, .int .i64 0, .string ⟨#[]⟩] 30))
     have Ko7 := Lib.hid ((Ko6.out.alloc (.cells #[.int .i64 hw, .int .i64 dst, .slice a1 QL.length c1] 26)).alloc (.cells #[.int .i64 0, .int .i64 0, .int .i64 0, .int .i64 0, .int .i64 0, .string ⟨#[]⟩] 30))
     have Hl7 := Lib.hid ((Hl6.out.alloc (.cells #[.int .i64 hw, .int .i64 dst, .slice a1 QL.length c1] 26)).alloc (.cells #[.int .i64 0, .int .i64 0, .int .i64 0, .int .i64 0, .int .i64 0, .string ⟨#[]⟩] 30))
     have Kk7 := Lib.hid (show Blk ((v6.alloc (.cells #[.int .i64 hw, .int .i64 dst, .slice a1 QL.length c1] 26)).alloc (.cells #[.int .i64 0, .int .i64 0, .int .i64 0, .int .i64 0, .int .i64 0, .string ⟨#[]⟩] 30)) (v6.heap.size) [.int .i64 hw, .int .i64 dst, .slice a1 QL.length c1] from ((Blk.new v6 [.int .i64 hw, .int .i64 dst, .slice a1 QL.length c1] 26).alloc (.cells #[.int .i64 0, .int .i64 0, .int .i64 0, .int .i64 0, .int .i64 0, .string ⟨#[]⟩] 30)))
     have n_k_p : v6.heap.size ≠ v6.heap.size + 1 := by omega
     have Kp7 := Lib.hid (show Blk ((v6.alloc (.cells #[.int .i64 hw, .int .i64 dst, .slice a1 QL.length c1] 26)).alloc (.cells #[.int .i64 0, .int .i64 0, .int .i64 0, .int .i64 0, .int .i64 0, .string ⟨#[]⟩] 30)) (v6.heap.size + 1) [.int .i64 0, .int .i64 0, .int .i64 0, .int .i64 0, .int .i64 0, .string ⟨#[]⟩] by have h0 := (Blk.new (v6.alloc (.cells #[.int .i64 hw, .int .i64 dst, .slice a1 QL.length c1] 26)) [.int .i64 0, .int .i64 0, .int .i64 0, .int .i64 0, .int .i64 0, .string ⟨#[]⟩] 30); rwa [show (v6.alloc (.cells #[.int .i64 hw, .int .i64 dst, .slice a1 QL.length c1] 26)).heap.size = v6.heap.size + 1 by simp] at h0)
     clear B6 Kl6 Ko6 Hl6
     obtain ⟨⟨cl0, cl1, cl2⟩, dl0, dl1, dl2⟩ := Kl7.out.o3
     obtain ⟨⟨co0, co1, co2⟩, do0, do1, do2⟩ := Ko7.out.o3
     obtain ⟨⟨ck0, ck1, ck2⟩, dk0, dk1, dk2⟩ := Kk7.out.o3
     obtain ⟨⟨cp0, cp1, cp2, cp3, cp4, cp5⟩, dp0, dp1, dp2, dp3, dp4, dp5⟩ := Kp7.out.of6
     go_upto_region 13 with fail
     clear cl0 cl1 cl2 dl0 dl1 dl2 co0 co1 co2 do0 do1 do2 ck0 ck1 ck2 dk0 dk1 dk2 cp0 cp1 cp2 cp3 cp4 cp5 dp0 dp1 dp2 dp3 dp4 dp5
     generalize (v6.alloc (.cells #[.int .i64 hw, .int .i64 dst, .slice a1 QL.length c1] 26)).alloc (.cells #[.int .i64 0, .int .i64 0, .int .i64 0, .int .i64 0, .int .i64 0, .string ⟨#[]⟩] 30) = v7 at B7 Kl7 Ko7 Hl7 Kk7 Kp7 ⊢
     generalize v6.heap.size + 1 = g_p at Kp7 n_l_p n_o_p n_k_p ⊢
     generalize v6.heap.size = g_k at Kk7 n_l_k n_o_k n_k_p ⊢
     obtain ⟨⟨cl0, cl1, cl2⟩, dl0, dl1, dl2⟩ := Kl7.out.o3
     obtain ⟨⟨co0, co1, co2⟩, do0, do1, do2⟩ := Ko7.out.o3
     obtain ⟨⟨ck0, ck1, ck2⟩, dk0, dk1, dk2⟩ := Kk7.out.o3
     obtain ⟨⟨cp0, cp1, cp2, cp3, cp4, cp5⟩, dp0, dp1, dp2, dp3, dp4, dp5⟩ := Kp7.out.of6
     go_wp2_with fail
     go_ret
     exact ⟨rfl, B7.out⟩
    ·rw [if_neg hi] at LI
     have hi' : (dst == ip) = false := by simpa using fun e : dst = ip => hi e.symm
     clear hi
     simp only [Option.getD_some] at LI
     generalize linkRs (some ⟨ip, m, 2, ip, dst, 64, 6, 0, t, ⟨#[]⟩⟩) [] = QL at LI
     have Kln := Lib.hid (Blk.new v0 [.int .i64 m, .int .i64 ip, .slice (some ⟨gg, 0, none⟩) rs.length c] 26)
     have Bn := Lib.hid (B0.out.alloc B0.out.size (.cells #[.int .i64 m, .int .i64 ip, .slice (some ⟨gg, 0, none⟩) rs.length c] 26))
     have Hln := Lib.hid (Hl0.out.alloc (.cells #[.int .i64 m, .int .i64 ip, .slice (some ⟨gg, 0, none⟩) rs.length c] 26))
     clear B0 Hl0
     go_wp2_with fail
     change Calls _ _ _ (v0.alloc (.cells #[.int .i64 m, .int .i64 ip, .slice (some ⟨gg, 0, none⟩) rs.length c] 26)) _
     generalize v0.alloc (.cells #[.int .i64 m, .int .i64 ip, .slice (some ⟨gg, 0, none⟩) rs.length c] 26) = v1 at Kln Bn Hln ⊢
     generalize v0.heap.size = g_l at Kln ⊢
     clear v0
     have Kl1 := Kln
     clear Kln
     have Hl1 := Hln
     clear Hln
     have B1 := Bn
     clear Bn
     refine (CI.out _ Hl1.out).mono ?_
     rintro e v2 ⟨rfl, hb⟩
     have B2 := Lib.hid (B1.out.trans (hb.mono B1.out.size))
     have Kl2 := Lib.hid (Kl1.out.below hb)
     have Hl2 := Lib.hid (Hl1.out.below hb)
     clear hb B1 Kl1 Hl1
     obtain ⟨⟨cl0, cl1, cl2⟩, dl0, dl1, dl2⟩ := Kl2.out.o3
     go_wp2_with fail
     clear cl0 cl1 cl2 dl0 dl1 dl2
     refine (CS.out _ Hl2.out).mono ?_
     rintro e v3 ⟨rfl, hb⟩
     have B3 := Lib.hid (B2.out.trans (hb.mono B2.out.size))
     have Kl3 := Lib.hid (Kl2.out.below hb)
     have Hl3 := Lib.hid (Hl2.out.below hb)
     clear hb B2 Kl2 Hl2
     obtain ⟨⟨cl0, cl1, cl2⟩, dl0, dl1, dl2⟩ := Kl3.out.o3
     go_wp2_with fail
     clear cl0 cl1 cl2 dl0 dl1 dl2
     refine (HW.out _ Hl3.out).mono ?_
     rintro e v4 ⟨rfl, hb⟩
     have B4 := Lib.hid (B3.out.trans (hb.mono B3.out.size))
     have Kl4 := Lib.hid (Kl3.out.below hb)
     have Hl4 := Lib.hid (Hl3.out.below hb)
     clear hb B3 Kl3 Hl3
     have Kon := Lib.hid (Blk.new v4 [.int .i64 hw, .int .i64 dst, .slice none 0 0] 26)
     have n_l_o : g_l ≠ v4.heap.size := by have h1 := Kl4.out.lt; omega
     have Bn := Lib.hid (B4.out.alloc B4.out.size (.cells #[.int .i64 hw, .int .i64 dst, .slice none 0 0] 26))
     have Kln := Lib.hid (Kl4.out.alloc (.cells #[.int .i64 hw, .int .i64 dst, .slice none 0 0] 26))
     have Hln := Lib.hid (Hl4.out.alloc (.cells #[.int .i64 hw, .int .i64 dst, .slice none 0 0] 26))
     clear B4 Kl4 Hl4
     obtain ⟨⟨cl0, cl1, cl2⟩, dl0, dl1, dl2⟩ := Kln.out.o3
     go_wp2_with fail
     clear cl0 cl1 cl2 dl0 dl1 dl2
     change Calls _ _ _ (v4.alloc (.cells #[.int .i64 hw, .int .i64 dst, .slice none 0 0] 26)) _
     generalize v4.alloc (.cells #[.int .i64 hw, .int .i64 dst, .slice none 0 0] 26) = v5 at Kon Bn Kln Hln ⊢
     generalize v4.heap.size = g_o at Kon n_l_o ⊢
     clear v4
     have Kl5 := Kln
     clear Kln
     have Ko5 := Kon
     clear Kon
     have Hl5 := Hln
     clear Hln
     have B5 := Bn
     clear Bn
     have LJ := LI.out _ Row.nil (HG.out.below B5.out HG.out.lt) (HX.out.below B5.out HX.out.lt)
     refine (LJ).mono ?_
     rintro e v6 ⟨a1, c1, rfl, ho, hb⟩
     clear ho
     have B6 := Lib.hid (B5.out.trans (hb.mono B5.out.size))
     have Kl6 := Lib.hid (Kl5.out.below hb)
     have Ko6 := Lib.hid (Ko5.out.below hb)
     have Hl6 := Lib.hid (Hl5.out.below hb)
     clear hb B5 Kl5 Ko5 Hl5
     have B7 := Lib.hid ((B6.out.alloc (by have h0 := B6.out.size; simp <;> omega) (.cells #[.int .i64 hw, .int .i64 dst, .slice a1 QL.length c1] 26)).alloc (by have h0 := B6.out.size; simp <;> omega) (.cells #[.int .i64 ip, .int .i64 dst, .int .i64 64, .int .i64 6, .int .i64 0, .string t] 30))
     have lt_l := Kl6.out.lt
     have n_l_k : g_l ≠ v6.heap.size := by omega
     have n_l_p : g_l ≠ v6.heap.size + 1 := by omega
     clear lt_l
     have lt_o := Ko6.out.lt
     have n_o_k : g_o ≠ v6.heap.size := by omega
     have n_o_p : g_o ≠ v6.heap.size + 1 := by omega
     clear lt_o
     have Kl7 := Lib.hid ((Kl6.out.alloc (.cells #[.int .i64 hw, .int .i64 dst, .slice a1 QL.length c1] 26)).alloc (.cells #[.int .i64 ip, .int .i64 dst, .int .i64 64, .int .i64 6, .int .i64 0, .string t] 30))
     have Ko7 := Lib.hid ((Ko6.out.alloc (.cells #[.int .i64 hw, .int .i64 dst, .slice a1 QL.length c1] 26)).alloc (.cells #[.int .i64 ip, .int .i64 dst, .int .i64 64, .int .i64 6, .int .i64 0, .string t] 30))
     have Hl7 := Lib.hid ((Hl6.out.alloc (.cells #[.int .i64 hw, .int .i64 dst, .slice a1 QL.length c1] 26)).alloc (.cells #[.int .i64 ip, .int .i64 dst, .int .i64 64, .int .i64 6, .int .i64 0, .string t] 30))
     have Kk7 := Lib.hid (show Blk ((v6.alloc (.cells #[.int .i64 hw, .int .i64 dst, .slice a1 QL.length c1] 26)).alloc (.cells #[.int .i64 ip, .int .i64 dst, .int .i64 64, .int .i64 6, .int .i64 0, .string t] 30)) (v6.heap.size) [.int .i64 hw, .int .i64 dst, .slice a1 QL.length c1] from ((Blk.new v6 [.int .i64 hw, .int .i64 dst, .slice a1 QL.length c1] 26).alloc (.cells #[.int .i64 ip, .int .i64 dst, .int .i64 64, .int .i64 6, .int .i64 0, .string t] 30)))
     have n_k_p : v6.heap.size ≠ v6.heap.size + 1 := by omega
     have Kp7 := Lib.hid (show Blk ((v6.alloc (.cells #[.int .i64 hw, .int .i64 dst, .slice a1 QL.length c1] 26)).alloc (.cells #[.int .i64 ip, .int .i64 dst, .int .i64 64, .int .i64 6, .int .i64 0, .string t] 30)) (v6.heap.size + 1) [.int .i64 ip, .int .i64 dst, .int .i64 64, .int .i64 6, .int .i64 0, .string t] by have h0 := (Blk.new (v6.alloc (.cells #[.int .i64 hw, .int .i64 dst, .slice a1 QL.length c1] 26)) [.int .i64 ip, .int .i64 dst, .int .i64 64, .int .i64 6, .int .i64 0, .string t] 30); rwa [show (v6.alloc (.cells #[.int .i64 hw, .int .i64 dst, .slice a1 QL.length c1] 26)).heap.size = v6.heap.size + 1 by simp] at h0)
     clear B6 Kl6 Ko6 Hl6
     obtain ⟨⟨cl0, cl1, cl2⟩, dl0, dl1, dl2⟩ := Kl7.out.o3
     obtain ⟨⟨co0, co1, co2⟩, do0, do1, do2⟩ := Ko7.out.o3
     obtain ⟨⟨ck0, ck1, ck2⟩, dk0, dk1, dk2⟩ := Kk7.out.o3
     obtain ⟨⟨cp0, cp1, cp2, cp3, cp4, cp5⟩, dp0, dp1, dp2, dp3, dp4, dp5⟩ := Kp7.out.of6
     go_upto_region 13 with fail
     clear cl0 cl1 cl2 dl0 dl1 dl2 co0 co1 co2 do0 do1 do2 ck0 ck1 ck2 dk0 dk1 dk2 cp0 cp1 cp2 cp3 cp4 cp5 dp0 dp1 dp2 dp3 dp4 dp5
     generalize (v6.alloc (.cells #[.int .i64 hw, .int .i64 dst, .slice a1 QL.length c1] 26)).alloc (.cells #[.int .i64 ip, .int .i64 dst, .int .i64 64, .int .i64 6, .int .i64 0, .string t] 30) = v7 at B7 Kl7 Ko7 Hl7 Kk7 Kp7 ⊢
     generalize v6.heap.size + 1 = g_p at Kp7 n_l_p n_o_p n_k_p ⊢
     generalize v6.heap.size = g_k at Kk7 n_l_k n_o_k n_k_p ⊢
     obtain ⟨⟨cl0, cl1, cl2⟩, dl0, dl1, dl2⟩ := Kl7.out.o3
     obtain ⟨⟨co0, co1, co2⟩, do0, do1, do2⟩ := Ko7.out.o3
     obtain ⟨⟨ck0, ck1, ck2⟩, dk0, dk1, dk2⟩ := Kk7.out.o3
     obtain ⟨⟨cp0, cp1, cp2, cp3, cp4, cp5⟩, dp0, dp1, dp2, dp3, dp4, dp5⟩ := Kp7.out.of6
     go_wp2_with fail
     go_ret
     exact ⟨rfl, B7.out⟩
 ·have h1 : 1048576 < s0.length := by omega
  go_enter Tryz.func4, Tryz.ntmps4
  go_wp2_with fail
  refine (big_yes _ _ _ _ h1 hm).mono ?_
  rintro e w' ⟨rfl, rfl⟩
  go_wp2_with fail
  go_ret
  exact ⟨rfl, Below.refl _ _⟩

theorem own : ownKnob Tryz.prog.godebug = none := by kernel_rfl
theorem laidOut : laidOutB Tryz.prog = true := by kernel_rfl
/-- The list of the row. -/
abbrev laidL : List (String × DataW Unit) := [("errors.errorType", Rows.laid_errors_errorType), ("loop.example/g00504/impl.errDropped", Rows.laid_loop_example_g00504_impl_errDropped)]
theorem gD : Tryz.prog.globalNamed "loop.example/g00504/impl.errDropped" = some 0 := by kernel_rfl
theorem gDType : (Tryz.prog.globals[0]?).map (·.type) = some 60 := by kernel_rfl
theorem cellsD : Tryz.prog.cellsOf 189 = 1 := by kernel_rfl
theorem cellsT : Tryz.prog.cellsOf 9 = 1 := by kernel_rfl
theorem star : "*" ++ "errors.errorString" = "*errors.errorString" := by decide
theorem rowD (u : TypeId) (h : Tryz.prog.typeName? 3 u = some "*errors.errorString") : u = 168 :=
 typeName_ptr_named (nm := "errors.errorString") (by rw [star]; kernel_rfl) (by kernel_rfl) (by decide) u (by rw [star]; exact h)
theorem hEt : Tryz.prog.globalNamed "errors.errorType" = some 1 := by kernel_rfl
theorem hRt : (Tryz.prog.cutTypes.find? (·.1 == "internal/reflectlite.rtype")).map (·.2) = some 132 := by kernel_rfl
theorem hOne : ((List.range 200).filter fun t => Tryz.prog.rowNamed t [101, 114, 114, 111, 114]) = [60] := by kernel_rfl
theorem hSize : Tryz.prog.types.size = 200 := by kernel_rfl
/-- What the list gives the walk: the two variables' cells. -/
theorem of_laid {W : World} (h : laidMetH Tryz.prog laidL W) : ErrTy W ∧ ∃ x, Sent x W := by
 have h' : laidMet Tryz.prog [("loop.example/g00504/impl.errDropped", Rows.laid_loop_example_g00504_impl_errDropped)] W ∧ handlesMet Tryz.prog [("errors.errorType", Rows.laid_errors_errorType)] W := h
 obtain ⟨a1, s1, hv1, _, _, _⟩ := laid_sentinel h'.1 gD gDType Tryz.underlying60 rowD Tryz.underlying168 Tryz.underlying189 rfl rfl Tryz.underlying9 cellsD cellsT
 refine ⟨?_, a1, by simpa [Sent] using World.var?_cell gD hv1 0⟩
 obtain ⟨name, u, ty, e1, e2, e3, e4, e5⟩ := h'.2 _ (List.mem_singleton.2 rfl)
 have en : name = [101, 114, 114, 111, 114] := (Option.some.inj e1).symm
 subst en
 obtain rfl := Option.some.inj (hRt.symm.trans e2)
 have hm : ty ∈ (List.range 200).filter fun t => Tryz.prog.rowNamed t [101, 114, 114, 111, 114] := List.mem_filter.2 ⟨List.mem_range.2 (by rw [← hSize]; exact e3), e4⟩
 rw [hOne] at hm
 obtain rfl := List.mem_singleton.1 hm
 have hh : typeHandle Tryz.prog 60 = .pointer (some ⟨2, 60, none⟩) := by kernel_rfl
 rw [hh] at e5
 simpa [ErrTy] using World.var?_cell hEt e5 0
/-- The sentinel's variable, whole. -/
theorem var_laid {W : World} (h : laidMetH Tryz.prog laidL W) : ∃ a, W.var? Tryz.prog "loop.example/g00504/impl.errDropped" = some #[.iface 168 (.pointer (some a))] := by
 have h' : laidMet Tryz.prog [("loop.example/g00504/impl.errDropped", Rows.laid_loop_example_g00504_impl_errDropped)] W ∧ handlesMet Tryz.prog [("errors.errorType", Rows.laid_errors_errorType)] W := h
 obtain ⟨a1, s1, hv1, _, _, _⟩ := laid_sentinel h'.1 gD gDType Tryz.underlying60 rowD Tryz.underlying168 Tryz.underlying189 rfl rfl Tryz.underlying9 cellsD cellsT
 exact ⟨a1, hv1⟩
/-- The variable reads behind the call as it read before. -/
theorem var_kept {H : Type} {enc : TypeId × Value → H} {W W' : World} {gs : List (DataW H)} {q : List MemPlace} (h : laidMetH Tryz.prog laidL W) (hV : DataW.TrodVars enc Tryz.prog W (fun _ => true) ["loop.example/g00504/impl.errDropped"] gs q) (bel : Below W.heap.size W W') :
  ∃ d q', gs = [d] ∧ DataW.TrodVars enc Tryz.prog W' (fun b => decide (b < W.heap.size)) ["loop.example/g00504/impl.errDropped"] [d] q' := by
 obtain ⟨x, hx⟩ := var_laid h
 obtain ⟨g, t, cs, f, d, p, rfl, hg, ht, hv, hd, rfl⟩ := trodVars_one hV
 obtain rfl := Option.some.inj (gD.symm.trans hg)
 obtain rfl := Option.some.inj (gDType.symm.trans ht)
 obtain rfl := Option.some.inj (hx.symm.trans hv)
 have lt : ∀ y ∈ p, y.block < W.heap.size := DataW.trod_lt f _ _ _ hd
 have hT : DataW.Trod enc Tryz.prog W 0 (fun _ => true) true 60 (.iface 168 (.pointer (some x))) d p := ⟨f, hd⟩
 obtain ⟨f', hd'⟩ := Below.trod laidOut (by kernel_rfl) (of_decide_eq_true (by kernel_rfl)) hT bel lt
 have hlt : 0 < W.heap.size := World.block_lt_of_cell? W ⟨0, 0, none⟩ (by simpa using World.var?_cell gD hx 0)
 exact ⟨d, _, rfl, trodVars_mk1 gD gDType (var?_below bel gD hlt hx) hd'⟩
noncomputable def low : Nat := (World.holding Tryz.prog default ⟨#[], #[], []⟩).heap.size
/-- A world in which the variables are laid. -/
noncomputable def laidWorld (os : Os) : World :=
 let w0 := World.holding Tryz.prog os ⟨#[.cells #[.string ⟨#[102, 114, 97, 109, 101, 32, 100, 114, 111, 112, 112, 101, 100]⟩] 189], #[], []⟩
 { w0 with heap := (w0.heap.modify 0 fun
   | .cells _ t frozen => .cells #[.iface 168 (.pointer (some ⟨low, 0, none⟩))] t frozen
   | o => o).modify 1 fun
   | .cells _ t frozen => .cells #[.iface 132 (.agg #[.pointer (some ⟨2, 60, none⟩)])] t frozen
   | o => o }
theorem door_met (os : Os) (args : Array Value) : laidMetH Tryz.prog laidL ((laidWorld os).forCall (fun _ _ => 0) ⟨#[], args, []⟩).memory :=
 laidMetH_of_parts (laidMet_of_run' 8 (by kernel_rfl) (by kernel_rfl)) (by kernel_rfl)

set_option maxRecDepth 100000 in
theorem lifted (os : Os) (started : os.Started) (H : Type) (enc : TypeId × Value → H) :
  ReturnsInHanded {} Tryz.checked os 4 .any (fun w args => (Rows.fnLinkBackSpec.pre enc Tryz.prog Tryz.f4 [] false w args ∧ laidMetH Tryz.prog laidL w) ∧ sizedMet enc Tryz.prog Tryz.f4 (OpenSpec.ofChange Rows.fnLinkBackSpec) false w args)
   (Rows.fnLinkBackSpec.post enc Tryz.prog Tryz.f4 false true false false) := by
 refine returnsInHanded_of_change_and (C := Tryz.checked) (X := fun w _ => laidMetH Tryz.prog laidL w) (fun _ _ _ hh h => h.of_heap hh) own started (by kernel_rfl) Tryz.func4
  (ChangeSpec.witness_at (enc := enc) (C := Tryz.checked) (os := os) (X := fun w _ => laidMetH Tryz.prog laidL w) false (laidWorld os) #[.slice none 0 0] 8 rfl (by kernel_rfl) (by kernel_rfl) (by kernel_rfl) (by kernel_rfl) (by kernel_rfl) (door_met os _)) ?_
 intro W base args ds gs before hval0 hW _ _ hL _
 have hval : ∀ (j : Nat) t v, Tryz.f4.params[j]? = some t → args[j]? = some v → Value.okWide Tryz.prog W .any base t v := hval0
 have hW' := hW
 obtain ⟨p, q, hA0, hV, rfl, _, _⟩ := hW
 have hA : DataW.TrodAll enc Tryz.prog W 0 (fun _ => true) true Tryz.f4.params.toList args.toList ds p := hA0
 rw [Tryz.params4] at hA hval
 obtain ⟨v0, vs0, d0, ds0, p0, q0, hargs, rfl, rfl, h0, r0⟩ := trodAll_cons hA
 obtain ⟨rfl, rfl, rfl⟩ := trodAll_nil r0
 obtain rfl : args = #[v0] := by cases args; simp_all
 obtain ⟨a0, len0, cap0, rfl⟩ := okWide_slice Tryz.underlying22 (hval 0 22 v0 rfl rfl)
 have k0 := h0
 have lt0 : ∀ x ∈ p0, x.block < W.heap.size := by obtain ⟨m, hm⟩ := k0; exact DataW.trod_lt m _ _ _ hm
 obtain ⟨s0, w0⟩ : ∃ bs : List UInt8, IsBytes W a0 len0 bs := by obtain ⟨fuel, hf⟩ := h0; exact openBytes Tryz.underlying22 Tryz.underlying5 (by kernel_rfl) hf
 have hT := of_laid hL
 clear hA0 hval0
 refine (walk (w := W) a0 len0 cap0 s0 w0 hT).mono fun e W' ⟨he, bel⟩ => ?_
 subst he
 obtain ⟨dg, q', rfl, hq'⟩ := var_kept hL hV bel
 exact ⟨_, rfl, _, _, _, [], _, q', hW', trodAll_mk1 (shut_bool Tryz.underlying4 _), (trodAll_cons_mk (Below.trod laidOut (by kernel_rfl) (of_decide_eq_true (by kernel_rfl)) k0 bel lt0) trodAll_mk0), hq', bel.frame _, fun h => by cases h⟩

theorem row_holds : Rows.FnLinkBackSaid :=
 OpenClaim.holds_of_wide 4 Tryz.f4 rfl rfl rfl rfl rfl rfl rfl ⟨rfl, rfl, rfl, rfl, rfl⟩ rfl rfl rfl rfl rfl (by kernel_rfl) Tryz.func4 (by kernel_rfl)
  (of_decide_eq_true (by kernel_rfl)) (by unfold Func.isWrapper; first | (rw [if_pos (by decide +kernel)]; kernel_rfl) | (rw [if_neg (by decide +kernel)]; exact ⟨rfl, rfl⟩))
  (fun os started H enc _ => lifted os started H enc)

theorem proved : Rows.FnLinkBackCardSaid :=
 Claim7.holds_tied_plain_at .later [] [.handle, .sentinel] true (true, "7b67a2880804485c42fc5aacd172d2d239e7e5dc6faff98f7bbd09bd910a5cfd") true
  row_holds (fun _ h => by cases h) (by kernel_rfl) (fun _ h => by cases h) fnLinkBack_row_tie rfl ⟨rfl, rfl⟩ (by kernel_rfl) rfl
  (fun f fn hf hfn => by
   obtain rfl : f = 4 := Option.some.inj ((show Tryz.prog.funcNamed Rows.fnLinkBackRow.func = some 4 by kernel_rfl).symm.trans hf) |>.symm
   obtain rfl : fn = Tryz.f4 := (Option.some.inj (Tryz.func4.symm.trans hfn)).symm
   exact ⟨by kernel_rfl, fun j t ht => by
    rw [Tryz.params4] at ht
    have hm : t ∈ [22] := by simpa using Array.mem_of_getElem? ht
    have hall : ([22].all fun u => !Tryz.prog.wantsStandIn u) = true := by kernel_rfl
    exact (show Tryz.prog.wantsStandIn t = false by simpa using List.all_eq_true.1 hall t hm)⟩)
  (by kernel_rfl)
#print axioms proved

end Go.Proofs.YtkkimgjcefojdaaGreatDoor.fnLinkBack
