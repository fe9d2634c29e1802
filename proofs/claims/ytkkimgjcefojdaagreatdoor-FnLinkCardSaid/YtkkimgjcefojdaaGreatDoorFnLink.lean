/- Proved here: the law FnLink holds at every code: what is dropped changes nothing, who comes through is known, and the program answers as the model; the call returns true for every argument; the only conditions are that the library's variable errors.errorType and the program's variable impl.errDropped hold what the program's own text lays (the card ties them). -/
import Derived.Test.YtkkimgjcefojdaaGreatDoorRows
import Derived.Test.YtkkimgjcefojdaaGreatDoorCards
import Derived.Test.YtkkimgjcefojdaaGreatDoorTie
import Derived.ProofKit
import Derived.OpenShut
import Derived.ShutString
import Derived.ChangeSame
import Derived.ChangeOld
import Derived.Below
import Derived.LaidHandle
import Derived.LaidLaws
import Derived.Stop.Joined
import Derived.Stop.LaidErr
import Derived.WalkSmall
import Derived.ChangeVars
import Derived.SevenTiedAt
import Derived.Test.YtkkimgjcefojdaaGreatDoorPkLk33
import Derived.Test.YtkkimgjcefojdaaGreatDoorPkLk26
namespace Go.Proofs.YtkkimgjcefojdaaGreatDoor.fnLink
open Go.ChangeShapes Go.WideShapes Go.ChangeAt Go.RowKit Go.Lib

/-- The law's word: true, and what lay before the call lies as it lay. -/
def OkB (w : World) (e : Ending) (w' : World) : Prop := e = .returned (.bool true) ∧ Below w.heap.size w w'
/-- The rows of a slice, kept over what makes memory of its own. -/
def RowA (rs : List ER) (a : Option Addr) (w : World) : Prop := Row w w.heap.size a (ers rs)
theorem RowA.below {rs : List ER} {a : Option Addr} {w w' : World} (h : RowA rs a w) (hb : Below w.heap.size w w') : RowA rs a w' := Row.mono (Row.below h hb) hb.size
theorem RowA.alloc {rs : List ER} {a : Option Addr} {w : World} (h : RowA rs a w) (o : Obj) : RowA rs a (w.alloc o) := h.below ((Below.refl _ _).alloc (Nat.le_refl _) o)
theorem linkRs_length (q : Option Arr) (rs : List ER) : (linkRs q rs).length ≤ rs.length + 1 := by
 cases q with
 | none => exact Nat.le_succ _
 | some a => exact learnE_length rs a.ip a.hw
theorem sameS (m ip : Int) (a b : Option Addr) (c d : Nat) (rs : List ER) (w : World) (ha : Row w w.heap.size a (ers rs)) (hb : Row w w.heap.size b (ers rs)) (hl : rs.length ≤ 1048577) : Calls Tryz.prog 10 #[.agg #[.int .i64 m, .int .i64 ip, .slice a rs.length c], .agg #[.int .i64 m, .int .i64 ip, .slice b rs.length d]] w (BoolE true w) := by
 have h := sameLinkS m m ip ip a b c d rs rs w ha hb hl
 rwa [sameL_self] at h
theorem sameI (m ip : Int) (a b : Option Addr) (c d : Nat) (rs : List ER) (w : World) (ha : Row w w.heap.size a (ers rs)) (hb : Row w w.heap.size b (ers rs)) (hl : rs.length ≤ 1048577) : Calls Tryz.prog 11 #[.agg #[.int .i64 m, .int .i64 ip, .slice a rs.length c], .agg #[.int .i64 m, .int .i64 ip, .slice b rs.length d]] w (BoolE true w) := by
 have h := sameLinkI m m ip ip a b c d rs rs w ha hb hl
 rwa [sameL_self] at h

set_option maxRecDepth 100000 in
set_option maxHeartbeats 16000000 in
theorem walk (a0 : Option Addr) (len0 cap0 : Nat) (s0 : List UInt8) {w : World} (w0 : IsBytes w a0 len0 s0) (hT : ErrTy w ∧ ∃ x, Sent x w) :
  Calls Tryz.prog 3 #[.slice a0 len0 cap0] w (OkB w) := by
 obtain ⟨⟨rfl, hm⟩, hrow⟩ := w0
 obtain ⟨hg, x, hx⟩ := hT
 unfold maxLen at hm
 have HR := Lib.hid hrow
 have HG := Lib.hid hg
 have HX := Lib.hid hx
 clear hrow hg hx
 by_cases hs : s0.length ≤ 1048576
 ·go_enter Tryz.func3, Tryz.ntmps3
  go_wp2_with fail
  refine (big_no _ _ _ _ hs).mono ?_
  rintro e w' ⟨rfl, rfl⟩
  go_wp2_with fail
  refine (drawLinkIn _ _ _ _ HR.out hs).mono ?_
  rintro e v0 ⟨m, ip, rs, gg, c, t, rfl, ht, hmm, hii, hl6, hgd, hc, hr, hb⟩
  have B0 := Lib.hid hb
  have Hl0 := Lib.hid (show RowA rs (some ⟨gg, 0, none⟩) v0 from hr)
  clear hgd hr hb HR hii
  have CI := Lib.hid (fun w h hg hx => linkInI m ip (some ⟨gg, 0, none⟩) c rs t x w h (fun e => by cases e) (by omega) (by omega) hmm hg hx)
  have CS := Lib.hid (fun w h => linkInS m ip gg 0 c rs t w h hc (by omega) (by omega))
  have OS := Lib.hid (fun w h => linkOkS m ip (some ⟨gg, 0, none⟩) c rs w h (by omega) hc)
  unfold LinkEnd at CI
  unfold LinkEndS at CS
  clear hmm ht
  have hk := arrOf_all m ip rs t
  have hl3 : (linkRs (arrOf m ip rs t) rs).length ≤ rs.length + 1 := linkRs_length _ _
  generalize arrOf m ip rs t = q at CI CS hk hl3
  generalize linkRs q rs = RL at CI CS hk hl3
  generalize (q.getD Arr.zero).kind = kd at CI CS hk
  generalize (q.getD Arr.zero).s = p0 at CI CS hk
  generalize (q.getD Arr.zero).d = p1 at CI CS hk
  generalize (q.getD Arr.zero).t = p2 at CI CS hk
  generalize (q.getD Arr.zero).p = p3 at CI CS hk
  generalize (q.getD Arr.zero).i = p4 at CI CS hk
  generalize (q.getD Arr.zero).b = p5 at CI CS hk
  generalize (q.getD Arr.zero).ans = p6 at CI CS hk
  have HK := Lib.hid hk
  have hl2 := Lib.hid (show RL.length ≤ 1048577 by omega)
  clear hk hl3
  have OM := Lib.hid (fun a c w h => linkOkI m ip a c RL w h hl2.out)
  have HW := Lib.hid (fun a c w h => hwOfI a c RL p0 w h hl2.out)
  unfold HwEnd at HW
  have RF := Lib.hid (fun w h => readFrameS p6 w h)
  unfold rfV at RF
  have Kln := Lib.hid (Blk.new v0 [.int .i64 m, .int .i64 ip, .slice (some ⟨gg, 0, none⟩) rs.length c] 26)
  have Bn := Lib.hid (B0.out.alloc B0.out.size (.cells #[.int .i64 m, .int .i64 ip, .slice (some ⟨gg, 0, none⟩) rs.length c] 26))
  have Hln := Lib.hid (Hl0.out.alloc (.cells #[.int .i64 m, .int .i64 ip, .slice (some ⟨gg, 0, none⟩) rs.length c] 26))
  clear B0 Hl0
  go_wp2_with fail
  change Calls _ _ _ (v0.alloc (.cells #[.int .i64 m, .int .i64 ip, .slice (some ⟨gg, 0, none⟩) rs.length c] 26)) _
  generalize v0.alloc (.cells #[.int .i64 m, .int .i64 ip, .slice (some ⟨gg, 0, none⟩) rs.length c] 26) = v1 at Kln Bn Hln ⊢
  generalize v0.heap.size = g_l at Kln ⊢
  clear v0
  have Kl1 := Kln
  clear Kln
  have Hl1 := Hln
  clear Hln
  have B1 := Bn
  clear Bn
  refine (CI.out _ Hl1.out (HG.out.below B1.out HG.out.lt) (HX.out.below B1.out HX.out.lt)).mono ?_
  rintro e v2 ⟨a1, c1, rfl, ho, hb⟩
  have Nm := Lib.hid (show RowA RL a1 v2 from Row.ownV ho)
  clear ho
  have B2 := Lib.hid (B1.out.trans (hb.mono B1.out.size))
  have Kl2 := Lib.hid (Kl1.out.below hb)
  have Hl2 := Lib.hid (Hl1.out.below hb)
  clear hb B1 Kl1 Hl1
  have Hm2 := Nm
  clear Nm
  have B3 := Lib.hid ((B2.out.alloc (by have h0 := B2.out.size; simp <;> omega) (.cells #[.int .i64 m, .int .i64 ip, .slice a1 RL.length c1] 26)).alloc (by have h0 := B2.out.size; simp <;> omega) (.cells #[.int .i64 p0, .int .i64 p1, .int .i64 p2, .int .i64 p3, .int .i64 p4, .string p5] 30))
  have lt_l := Kl2.out.lt
  have n_l_m : g_l ≠ v2.heap.size := by omega
  have n_l_p : g_l ≠ v2.heap.size + 1 := by omega
  clear lt_l
  have Kl3 := Lib.hid ((Kl2.out.alloc (.cells #[.int .i64 m, .int .i64 ip, .slice a1 RL.length c1] 26)).alloc (.cells #[.int .i64 p0, .int .i64 p1, .int .i64 p2, .int .i64 p3, .int .i64 p4, .string p5] 30))
  have Hl3 := Lib.hid ((Hl2.out.alloc (.cells #[.int .i64 m, .int .i64 ip, .slice a1 RL.length c1] 26)).alloc (.cells #[.int .i64 p0, .int .i64 p1, .int .i64 p2, .int .i64 p3, .int .i64 p4, .string p5] 30))
  have Hm3 := Lib.hid ((Hm2.out.alloc (.cells #[.int .i64 m, .int .i64 ip, .slice a1 RL.length c1] 26)).alloc (.cells #[.int .i64 p0, .int .i64 p1, .int .i64 p2, .int .i64 p3, .int .i64 p4, .string p5] 30))
  have Km3 := Lib.hid (show Blk ((v2.alloc (.cells #[.int .i64 m, .int .i64 ip, .slice a1 RL.length c1] 26)).alloc (.cells #[.int .i64 p0, .int .i64 p1, .int .i64 p2, .int .i64 p3, .int .i64 p4, .string p5] 30)) (v2.heap.size) [.int .i64 m, .int .i64 ip, .slice a1 RL.length c1] from ((Blk.new v2 [.int .i64 m, .int .i64 ip, .slice a1 RL.length c1] 26).alloc (.cells #[.int .i64 p0, .int .i64 p1, .int .i64 p2, .int .i64 p3, .int .i64 p4, .string p5] 30)))
  have n_m_p : v2.heap.size ≠ v2.heap.size + 1 := by omega
  have Kp3 := Lib.hid (show Blk ((v2.alloc (.cells #[.int .i64 m, .int .i64 ip, .slice a1 RL.length c1] 26)).alloc (.cells #[.int .i64 p0, .int .i64 p1, .int .i64 p2, .int .i64 p3, .int .i64 p4, .string p5] 30)) (v2.heap.size + 1) [.int .i64 p0, .int .i64 p1, .int .i64 p2, .int .i64 p3, .int .i64 p4, .string p5] by have h0 := (Blk.new (v2.alloc (.cells #[.int .i64 m, .int .i64 ip, .slice a1 RL.length c1] 26)) [.int .i64 p0, .int .i64 p1, .int .i64 p2, .int .i64 p3, .int .i64 p4, .string p5] 30); rwa [show (v2.alloc (.cells #[.int .i64 m, .int .i64 ip, .slice a1 RL.length c1] 26)).heap.size = v2.heap.size + 1 by simp] at h0)
  clear B2 Kl2 Hl2 Hm2
  obtain ⟨⟨cl0, cl1, cl2⟩, dl0, dl1, dl2⟩ := Kl3.out.o3
  obtain ⟨⟨cm0, cm1, cm2⟩, dm0, dm1, dm2⟩ := Km3.out.o3
  obtain ⟨⟨cp0, cp1, cp2, cp3, cp4, cp5⟩, dp0, dp1, dp2, dp3, dp4, dp5⟩ := Kp3.out.of6
  go_wp2_with fail
  clear cl0 cl1 cl2 dl0 dl1 dl2 cm0 cm1 cm2 dm0 dm1 dm2 cp0 cp1 cp2 cp3 cp4 cp5 dp0 dp1 dp2 dp3 dp4 dp5
  change Calls _ _ _ ((v2.alloc (.cells #[.int .i64 m, .int .i64 ip, .slice a1 RL.length c1] 26)).alloc (.cells #[.int .i64 p0, .int .i64 p1, .int .i64 p2, .int .i64 p3, .int .i64 p4, .string p5] 30)) _
  generalize (v2.alloc (.cells #[.int .i64 m, .int .i64 ip, .slice a1 RL.length c1] 26)).alloc (.cells #[.int .i64 p0, .int .i64 p1, .int .i64 p2, .int .i64 p3, .int .i64 p4, .string p5] 30) = v3 at B3 Kl3 Hl3 Hm3 Km3 Kp3 ⊢
  generalize v2.heap.size + 1 = g_p at Kp3 n_l_p n_m_p ⊢
  generalize v2.heap.size = g_m at Km3 n_l_m n_m_p ⊢
  refine (CS.out _ Hl3.out).mono ?_
  rintro e v4 ⟨g2, c2, rfl, ho, hb⟩
  have Nn := Lib.hid (show RowA RL (some ⟨g2, 0, none⟩) v4 from Row.ownV ho)
  clear ho
  have B4 := Lib.hid (B3.out.trans (hb.mono B3.out.size))
  have Kl4 := Lib.hid (Kl3.out.below hb)
  have Km4 := Lib.hid (Km3.out.below hb)
  have Kp4 := Lib.hid (Kp3.out.below hb)
  have Hl4 := Lib.hid (Hl3.out.below hb)
  have Hm4 := Lib.hid (Hm3.out.below hb)
  clear hb B3 Kl3 Km3 Kp3 Hl3 Hm3
  have Hn4 := Nn
  clear Nn
  have B5 := Lib.hid ((B4.out.alloc (by have h0 := B4.out.size; simp <;> omega) (.cells #[.int .i64 m, .int .i64 ip, .slice (some ⟨g2, 0, none⟩) RL.length c2] 26)).alloc (by have h0 := B4.out.size; simp <;> omega) (.cells #[.int .i64 p0, .int .i64 p1, .int .i64 p2, .int .i64 p3, .int .i64 p4, .string p5] 30))
  have lt_l := Kl4.out.lt
  have n_l_n : g_l ≠ v4.heap.size := by omega
  have n_l_q : g_l ≠ v4.heap.size + 1 := by omega
  clear lt_l
  have lt_m := Km4.out.lt
  have n_m_n : g_m ≠ v4.heap.size := by omega
  have n_m_q : g_m ≠ v4.heap.size + 1 := by omega
  clear lt_m
  have lt_p := Kp4.out.lt
  have n_p_n : g_p ≠ v4.heap.size := by omega
  have n_p_q : g_p ≠ v4.heap.size + 1 := by omega
  clear lt_p
  have Kl5 := Lib.hid ((Kl4.out.alloc (.cells #[.int .i64 m, .int .i64 ip, .slice (some ⟨g2, 0, none⟩) RL.length c2] 26)).alloc (.cells #[.int .i64 p0, .int .i64 p1, .int .i64 p2, .int .i64 p3, .int .i64 p4, .string p5] 30))
  have Km5 := Lib.hid ((Km4.out.alloc (.cells #[.int .i64 m, .int .i64 ip, .slice (some ⟨g2, 0, none⟩) RL.length c2] 26)).alloc (.cells #[.int .i64 p0, .int .i64 p1, .int .i64 p2, .int .i64 p3, .int .i64 p4, .string p5] 30))
  have Kp5 := Lib.hid ((Kp4.out.alloc (.cells #[.int .i64 m, .int .i64 ip, .slice (some ⟨g2, 0, none⟩) RL.length c2] 26)).alloc (.cells #[.int .i64 p0, .int .i64 p1, .int .i64 p2, .int .i64 p3, .int .i64 p4, .string p5] 30))
  have Hl5 := Lib.hid ((Hl4.out.alloc (.cells #[.int .i64 m, .int .i64 ip, .slice (some ⟨g2, 0, none⟩) RL.length c2] 26)).alloc (.cells #[.int .i64 p0, .int .i64 p1, .int .i64 p2, .int .i64 p3, .int .i64 p4, .string p5] 30))
  have Hm5 := Lib.hid ((Hm4.out.alloc (.cells #[.int .i64 m, .int .i64 ip, .slice (some ⟨g2, 0, none⟩) RL.length c2] 26)).alloc (.cells #[.int .i64 p0, .int .i64 p1, .int .i64 p2, .int .i64 p3, .int .i64 p4, .string p5] 30))
  have Hn5 := Lib.hid ((Hn4.out.alloc (.cells #[.int .i64 m, .int .i64 ip, .slice (some ⟨g2, 0, none⟩) RL.length c2] 26)).alloc (.cells #[.int .i64 p0, .int .i64 p1, .int .i64 p2, .int .i64 p3, .int .i64 p4, .string p5] 30))
  have Kn5 := Lib.hid (show Blk ((v4.alloc (.cells #[.int .i64 m, .int .i64 ip, .slice (some ⟨g2, 0, none⟩) RL.length c2] 26)).alloc (.cells #[.int .i64 p0, .int .i64 p1, .int .i64 p2, .int .i64 p3, .int .i64 p4, .string p5] 30)) (v4.heap.size) [.int .i64 m, .int .i64 ip, .slice (some ⟨g2, 0, none⟩) RL.length c2] from ((Blk.new v4 [.int .i64 m, .int .i64 ip, .slice (some ⟨g2, 0, none⟩) RL.length c2] 26).alloc (.cells #[.int .i64 p0, .int .i64 p1, .int .i64 p2, .int .i64 p3, .int .i64 p4, .string p5] 30)))
  have n_n_q : v4.heap.size ≠ v4.heap.size + 1 := by omega
  have Kq5 := Lib.hid (show Blk ((v4.alloc (.cells #[.int .i64 m, .int .i64 ip, .slice (some ⟨g2, 0, none⟩) RL.length c2] 26)).alloc (.cells #[.int .i64 p0, .int .i64 p1, .int .i64 p2, .int .i64 p3, .int .i64 p4, .string p5] 30)) (v4.heap.size + 1) [.int .i64 p0, .int .i64 p1, .int .i64 p2, .int .i64 p3, .int .i64 p4, .string p5] by have h0 := (Blk.new (v4.alloc (.cells #[.int .i64 m, .int .i64 ip, .slice (some ⟨g2, 0, none⟩) RL.length c2] 26)) [.int .i64 p0, .int .i64 p1, .int .i64 p2, .int .i64 p3, .int .i64 p4, .string p5] 30); rwa [show (v4.alloc (.cells #[.int .i64 m, .int .i64 ip, .slice (some ⟨g2, 0, none⟩) RL.length c2] 26)).heap.size = v4.heap.size + 1 by simp] at h0)
  clear B4 Kl4 Km4 Kp4 Hl4 Hm4 Hn4
  obtain ⟨⟨cl0, cl1, cl2⟩, dl0, dl1, dl2⟩ := Kl5.out.o3
  obtain ⟨⟨cm0, cm1, cm2⟩, dm0, dm1, dm2⟩ := Km5.out.o3
  obtain ⟨⟨cp0, cp1, cp2, cp3, cp4, cp5⟩, dp0, dp1, dp2, dp3, dp4, dp5⟩ := Kp5.out.of6
  obtain ⟨⟨cn0, cn1, cn2⟩, dn0, dn1, dn2⟩ := Kn5.out.o3
  obtain ⟨⟨cq0, cq1, cq2, cq3, cq4, cq5⟩, dq0, dq1, dq2, dq3, dq4, dq5⟩ := Kq5.out.of6
  go_wp2_with fail
  clear cl0 cl1 cl2 dl0 dl1 dl2 cm0 cm1 cm2 dm0 dm1 dm2 cp0 cp1 cp2 cp3 cp4 cp5 dp0 dp1 dp2 dp3 dp4 dp5 cn0 cn1 cn2 dn0 dn1 dn2 cq0 cq1 cq2 cq3 cq4 cq5 dq0 dq1 dq2 dq3 dq4 dq5
  change Calls _ _ _ ((v4.alloc (.cells #[.int .i64 m, .int .i64 ip, .slice (some ⟨g2, 0, none⟩) RL.length c2] 26)).alloc (.cells #[.int .i64 p0, .int .i64 p1, .int .i64 p2, .int .i64 p3, .int .i64 p4, .string p5] 30)) _
  generalize (v4.alloc (.cells #[.int .i64 m, .int .i64 ip, .slice (some ⟨g2, 0, none⟩) RL.length c2] 26)).alloc (.cells #[.int .i64 p0, .int .i64 p1, .int .i64 p2, .int .i64 p3, .int .i64 p4, .string p5] 30) = v5 at B5 Kl5 Km5 Kp5 Hl5 Hm5 Hn5 Kn5 Kq5 ⊢
  generalize v4.heap.size + 1 = g_q at Kq5 n_l_q n_m_q n_p_q n_n_q ⊢
  generalize v4.heap.size = g_n at Kn5 n_l_n n_m_n n_p_n n_n_q ⊢
  refine (sameS m ip a1 (some ⟨g2, 0, none⟩) c1 c2 RL _ Hm5.out Hn5.out hl2.out).mono ?_
  rintro e v6 ⟨rfl, hb⟩
  have B6 := Lib.hid (B5.out.trans (hb.mono B5.out.size))
  have Kl6 := Lib.hid (Kl5.out.below hb)
  have Km6 := Lib.hid (Km5.out.below hb)
  have Kp6 := Lib.hid (Kp5.out.below hb)
  have Kn6 := Lib.hid (Kn5.out.below hb)
  have Kq6 := Lib.hid (Kq5.out.below hb)
  have Hl6 := Lib.hid (Hl5.out.below hb)
  have Hm6 := Lib.hid (Hm5.out.below hb)
  have Hn6 := Lib.hid (Hn5.out.below hb)
  clear hb B5 Kl5 Km5 Kp5 Kn5 Kq5 Hl5 Hm5 Hn5
  obtain ⟨⟨cl0, cl1, cl2⟩, dl0, dl1, dl2⟩ := Kl6.out.o3
  obtain ⟨⟨cm0, cm1, cm2⟩, dm0, dm1, dm2⟩ := Km6.out.o3
  obtain ⟨⟨cp0, cp1, cp2, cp3, cp4, cp5⟩, dp0, dp1, dp2, dp3, dp4, dp5⟩ := Kp6.out.of6
  obtain ⟨⟨cn0, cn1, cn2⟩, dn0, dn1, dn2⟩ := Kn6.out.o3
  obtain ⟨⟨cq0, cq1, cq2, cq3, cq4, cq5⟩, dq0, dq1, dq2, dq3, dq4, dq5⟩ := Kq6.out.of6
  go_wp2_with fail
  clear cl0 cl1 cl2 dl0 dl1 dl2 cm0 cm1 cm2 dm0 dm1 dm2 cp0 cp1 cp2 cp3 cp4 cp5 dp0 dp1 dp2 dp3 dp4 dp5 cn0 cn1 cn2 dn0 dn1 dn2 cq0 cq1 cq2 cq3 cq4 cq5 dq0 dq1 dq2 dq3 dq4 dq5
  refine (sameI m ip a1 (some ⟨g2, 0, none⟩) c1 c2 RL _ Hm6.out Hn6.out hl2.out).mono ?_
  rintro e v7 ⟨rfl, hb⟩
  have B7 := Lib.hid (B6.out.trans (hb.mono B6.out.size))
  have Kl7 := Lib.hid (Kl6.out.below hb)
  have Km7 := Lib.hid (Km6.out.below hb)
  have Kp7 := Lib.hid (Kp6.out.below hb)
  have Kn7 := Lib.hid (Kn6.out.below hb)
  have Kq7 := Lib.hid (Kq6.out.below hb)
  have Hl7 := Lib.hid (Hl6.out.below hb)
  have Hm7 := Lib.hid (Hm6.out.below hb)
  have Hn7 := Lib.hid (Hn6.out.below hb)
  clear hb B6 Kl6 Km6 Kp6 Kn6 Kq6 Hl6 Hm6 Hn6
  rcases HK.out with ⟨hk, hd, hp, ha, hh, hm2⟩ | ⟨hk, h1, h2, h3, h4, hm2⟩ | ⟨hk, z0, z1, z2, z3, z4, z5, za, hm2⟩
  ·rw [hh] at HW
   rw [hm2] at OM
   clear hh hm2 HK RF
   subst hk hp ha
   obtain rfl := hd.symm
   obtain ⟨⟨cl0, cl1, cl2⟩, dl0, dl1, dl2⟩ := Kl7.out.o3
   obtain ⟨⟨cm0, cm1, cm2⟩, dm0, dm1, dm2⟩ := Km7.out.o3
   obtain ⟨⟨cp0, cp1, cp2, cp3, cp4, cp5⟩, dp0, dp1, dp2, dp3, dp4, dp5⟩ := Kp7.out.of6
   obtain ⟨⟨cn0, cn1, cn2⟩, dn0, dn1, dn2⟩ := Kn7.out.o3
   obtain ⟨⟨cq0, cq1, cq2, cq3, cq4, cq5⟩, dq0, dq1, dq2, dq3, dq4, dq5⟩ := Kq7.out.of6
   go_wp2_with fail
   clear cl0 cl1 cl2 dl0 dl1 dl2 cm0 cm1 cm2 dm0 dm1 dm2 cp0 cp1 cp2 cp3 cp4 cp5 dp0 dp1 dp2 dp3 dp4 dp5 cn0 cn1 cn2 dn0 dn1 dn2 cq0 cq1 cq2 cq3 cq4 cq5 dq0 dq1 dq2 dq3 dq4 dq5
   refine (HW.out a1 c1 _ Hm7.out).mono ?_
   rintro e v8 ⟨rfl, hb⟩
   have B8 := Lib.hid (B7.out.trans (hb.mono B7.out.size))
   have Kl8 := Lib.hid (Kl7.out.below hb)
   have Km8 := Lib.hid (Km7.out.below hb)
   have Kp8 := Lib.hid (Kp7.out.below hb)
   have Kn8 := Lib.hid (Kn7.out.below hb)
   have Kq8 := Lib.hid (Kq7.out.below hb)
   have Hl8 := Lib.hid (Hl7.out.below hb)
   have Hm8 := Lib.hid (Hm7.out.below hb)
   have Hn8 := Lib.hid (Hn7.out.below hb)
   clear hb B7 Kl7 Km7 Kp7 Kn7 Kq7 Hl7 Hm7 Hn7
   obtain ⟨⟨cl0, cl1, cl2⟩, dl0, dl1, dl2⟩ := Kl8.out.o3
   obtain ⟨⟨cm0, cm1, cm2⟩, dm0, dm1, dm2⟩ := Km8.out.o3
   obtain ⟨⟨cp0, cp1, cp2, cp3, cp4, cp5⟩, dp0, dp1, dp2, dp3, dp4, dp5⟩ := Kp8.out.of6
   obtain ⟨⟨cn0, cn1, cn2⟩, dn0, dn1, dn2⟩ := Kn8.out.o3
   obtain ⟨⟨cq0, cq1, cq2, cq3, cq4, cq5⟩, dq0, dq1, dq2, dq3, dq4, dq5⟩ := Kq8.out.of6
   go_wp2_with fail
   clear cl0 cl1 cl2 dl0 dl1 dl2 cm0 cm1 cm2 dm0 dm1 dm2 cp0 cp1 cp2 cp3 cp4 cp5 dp0 dp1 dp2 dp3 dp4 dp5 cn0 cn1 cn2 dn0 dn1 dn2 cq0 cq1 cq2 cq3 cq4 cq5 dq0 dq1 dq2 dq3 dq4 dq5
   refine (OM.out a1 c1 _ Hm8.out).mono ?_
   rintro e v9 ⟨rfl, hb⟩
   have B9 := Lib.hid (B8.out.trans (hb.mono B8.out.size))
   have Kl9 := Lib.hid (Kl8.out.below hb)
   have Km9 := Lib.hid (Km8.out.below hb)
   have Kp9 := Lib.hid (Kp8.out.below hb)
   have Kn9 := Lib.hid (Kn8.out.below hb)
   have Kq9 := Lib.hid (Kq8.out.below hb)
   have Hl9 := Lib.hid (Hl8.out.below hb)
   have Hm9 := Lib.hid (Hm8.out.below hb)
   have Hn9 := Lib.hid (Hn8.out.below hb)
   clear hb B8 Kl8 Km8 Kp8 Kn8 Kq8 Hl8 Hm8 Hn8
   obtain ⟨⟨cl0, cl1, cl2⟩, dl0, dl1, dl2⟩ := Kl9.out.o3
   obtain ⟨⟨cm0, cm1, cm2⟩, dm0, dm1, dm2⟩ := Km9.out.o3
   obtain ⟨⟨cp0, cp1, cp2, cp3, cp4, cp5⟩, dp0, dp1, dp2, dp3, dp4, dp5⟩ := Kp9.out.of6
   obtain ⟨⟨cn0, cn1, cn2⟩, dn0, dn1, dn2⟩ := Kn9.out.o3
   obtain ⟨⟨cq0, cq1, cq2, cq3, cq4, cq5⟩, dq0, dq1, dq2, dq3, dq4, dq5⟩ := Kq9.out.of6
   go_wp2_with fail
   go_ret
   exact ⟨rfl, B9.out⟩
  ·rw [h1, h2, h3] at RF
   rw [hm2] at OM
   have hz := Lib.hid (show p6.size ≤ 1048576 by omega)
   generalize rfD p6 = fd at RF
   generalize rfB p6 = fb at RF
   clear h1 h2 h3 h4 hm2 HK HW
   subst hk
   obtain ⟨⟨cl0, cl1, cl2⟩, dl0, dl1, dl2⟩ := Kl7.out.o3
   obtain ⟨⟨cm0, cm1, cm2⟩, dm0, dm1, dm2⟩ := Km7.out.o3
   obtain ⟨⟨cp0, cp1, cp2, cp3, cp4, cp5⟩, dp0, dp1, dp2, dp3, dp4, dp5⟩ := Kp7.out.of6
   obtain ⟨⟨cn0, cn1, cn2⟩, dn0, dn1, dn2⟩ := Kn7.out.o3
   obtain ⟨⟨cq0, cq1, cq2, cq3, cq4, cq5⟩, dq0, dq1, dq2, dq3, dq4, dq5⟩ := Kq7.out.of6
   go_wp2_with fail
   clear cl0 cl1 cl2 dl0 dl1 dl2 cm0 cm1 cm2 dm0 dm1 dm2 cp0 cp1 cp2 cp3 cp4 cp5 dp0 dp1 dp2 dp3 dp4 dp5 cn0 cn1 cn2 dn0 dn1 dn2 cq0 cq1 cq2 cq3 cq4 cq5 dq0 dq1 dq2 dq3 dq4 dq5
   refine (RF.out _ hz.out).mono ?_
   rintro e v8 ⟨rfl, hb⟩
   have B8 := Lib.hid (B7.out.trans (hb.mono B7.out.size))
   have Kl8 := Lib.hid (Kl7.out.below hb)
   have Km8 := Lib.hid (Km7.out.below hb)
   have Kp8 := Lib.hid (Kp7.out.below hb)
   have Kn8 := Lib.hid (Kn7.out.below hb)
   have Kq8 := Lib.hid (Kq7.out.below hb)
   have Hl8 := Lib.hid (Hl7.out.below hb)
   have Hm8 := Lib.hid (Hm7.out.below hb)
   have Hn8 := Lib.hid (Hn7.out.below hb)
   clear hb B7 Kl7 Km7 Kp7 Kn7 Kq7 Hl7 Hm7 Hn7
   have Kfn := Lib.hid (Blk.new v8 [.int .i64 fd, .int .i64 m, .int .i64 2054, .string fb] 38)
   have n_l_f : g_l ≠ v8.heap.size := by have h1 := Kl8.out.lt; omega
   have n_m_f : g_m ≠ v8.heap.size := by have h1 := Km8.out.lt; omega
   have n_p_f : g_p ≠ v8.heap.size := by have h1 := Kp8.out.lt; omega
   have n_n_f : g_n ≠ v8.heap.size := by have h1 := Kn8.out.lt; omega
   have n_q_f : g_q ≠ v8.heap.size := by have h1 := Kq8.out.lt; omega
   have Bn := Lib.hid (B8.out.alloc B8.out.size (.cells #[.int .i64 fd, .int .i64 m, .int .i64 2054, .string fb] 38))
   have Kln := Lib.hid (Kl8.out.alloc (.cells #[.int .i64 fd, .int .i64 m, .int .i64 2054, .string fb] 38))
   have Kmn := Lib.hid (Km8.out.alloc (.cells #[.int .i64 fd, .int .i64 m, .int .i64 2054, .string fb] 38))
   have Kpn := Lib.hid (Kp8.out.alloc (.cells #[.int .i64 fd, .int .i64 m, .int .i64 2054, .string fb] 38))
   have Knn := Lib.hid (Kn8.out.alloc (.cells #[.int .i64 fd, .int .i64 m, .int .i64 2054, .string fb] 38))
   have Kqn := Lib.hid (Kq8.out.alloc (.cells #[.int .i64 fd, .int .i64 m, .int .i64 2054, .string fb] 38))
   have Hln := Lib.hid (Hl8.out.alloc (.cells #[.int .i64 fd, .int .i64 m, .int .i64 2054, .string fb] 38))
   have Hmn := Lib.hid (Hm8.out.alloc (.cells #[.int .i64 fd, .int .i64 m, .int .i64 2054, .string fb] 38))
   have Hnn := Lib.hid (Hn8.out.alloc (.cells #[.int .i64 fd, .int .i64 m, .int .i64 2054, .string fb] 38))
   clear B8 Kl8 Km8 Kp8 Kn8 Kq8 Hl8 Hm8 Hn8
   obtain ⟨⟨cl0, cl1, cl2⟩, dl0, dl1, dl2⟩ := Kln.out.o3
   obtain ⟨⟨cm0, cm1, cm2⟩, dm0, dm1, dm2⟩ := Kmn.out.o3
   obtain ⟨⟨cp0, cp1, cp2, cp3, cp4, cp5⟩, dp0, dp1, dp2, dp3, dp4, dp5⟩ := Kpn.out.of6
   obtain ⟨⟨cn0, cn1, cn2⟩, dn0, dn1, dn2⟩ := Knn.out.o3
   obtain ⟨⟨cq0, cq1, cq2, cq3, cq4, cq5⟩, dq0, dq1, dq2, dq3, dq4, dq5⟩ := Kqn.out.of6
   go_wp2_with fail
   clear cl0 cl1 cl2 dl0 dl1 dl2 cm0 cm1 cm2 dm0 dm1 dm2 cp0 cp1 cp2 cp3 cp4 cp5 dp0 dp1 dp2 dp3 dp4 dp5 cn0 cn1 cn2 dn0 dn1 dn2 cq0 cq1 cq2 cq3 cq4 cq5 dq0 dq1 dq2 dq3 dq4 dq5
   change Calls _ _ _ (v8.alloc (.cells #[.int .i64 fd, .int .i64 m, .int .i64 2054, .string fb] 38)) _
   generalize v8.alloc (.cells #[.int .i64 fd, .int .i64 m, .int .i64 2054, .string fb] 38) = v9 at Kfn Bn Kln Kmn Kpn Knn Kqn Hln Hmn Hnn ⊢
   generalize v8.heap.size = g_f at Kfn n_l_f n_m_f n_p_f n_n_f n_q_f ⊢
   clear v8
   have Kl9 := Kln
   clear Kln
   have Km9 := Kmn
   clear Kmn
   have Kp9 := Kpn
   clear Kpn
   have Kn9 := Knn
   clear Knn
   have Kq9 := Kqn
   clear Kqn
   have Kf9 := Kfn
   clear Kfn
   have Hl9 := Hln
   clear Hln
   have Hm9 := Hmn
   clear Hmn
   have Hn9 := Hnn
   clear Hnn
   have B9 := Bn
   clear Bn
   refine (OM.out a1 c1 _ Hm9.out).mono ?_
   rintro e v10 ⟨rfl, hb⟩
   have B10 := Lib.hid (B9.out.trans (hb.mono B9.out.size))
   have Kl10 := Lib.hid (Kl9.out.below hb)
   have Km10 := Lib.hid (Km9.out.below hb)
   have Kp10 := Lib.hid (Kp9.out.below hb)
   have Kn10 := Lib.hid (Kn9.out.below hb)
   have Kq10 := Lib.hid (Kq9.out.below hb)
   have Kf10 := Lib.hid (Kf9.out.below hb)
   have Hl10 := Lib.hid (Hl9.out.below hb)
   have Hm10 := Lib.hid (Hm9.out.below hb)
   have Hn10 := Lib.hid (Hn9.out.below hb)
   clear hb B9 Kl9 Km9 Kp9 Kn9 Kq9 Kf9 Hl9 Hm9 Hn9
   obtain ⟨⟨cl0, cl1, cl2⟩, dl0, dl1, dl2⟩ := Kl10.out.o3
   obtain ⟨⟨cm0, cm1, cm2⟩, dm0, dm1, dm2⟩ := Km10.out.o3
   obtain ⟨⟨cp0, cp1, cp2, cp3, cp4, cp5⟩, dp0, dp1, dp2, dp3, dp4, dp5⟩ := Kp10.out.of6
   obtain ⟨⟨cn0, cn1, cn2⟩, dn0, dn1, dn2⟩ := Kn10.out.o3
   obtain ⟨⟨cq0, cq1, cq2, cq3, cq4, cq5⟩, dq0, dq1, dq2, dq3, dq4, dq5⟩ := Kq10.out.of6
   obtain ⟨⟨cf0, cf1, cf2, cf3⟩, df0, df1, df2, df3⟩ := Kf10.out.four
   go_wp2_with fail
   go_ret
   exact ⟨rfl, B10.out⟩
  ·clear HK HW RF
   subst hk z0 z1 z2 z3 z4 z5 za
   obtain ⟨⟨cl0, cl1, cl2⟩, dl0, dl1, dl2⟩ := Kl7.out.o3
   obtain ⟨⟨cm0, cm1, cm2⟩, dm0, dm1, dm2⟩ := Km7.out.o3
   obtain ⟨⟨cp0, cp1, cp2, cp3, cp4, cp5⟩, dp0, dp1, dp2, dp3, dp4, dp5⟩ := Kp7.out.of6
   obtain ⟨⟨cn0, cn1, cn2⟩, dn0, dn1, dn2⟩ := Kn7.out.o3
   obtain ⟨⟨cq0, cq1, cq2, cq3, cq4, cq5⟩, dq0, dq1, dq2, dq3, dq4, dq5⟩ := Kq7.out.of6
   go_wp2_with fail
   clear cl0 cl1 cl2 dl0 dl1 dl2 cm0 cm1 cm2 dm0 dm1 dm2 cp0 cp1 cp2 cp3 cp4 cp5 dp0 dp1 dp2 dp3 dp4 dp5 cn0 cn1 cn2 dn0 dn1 dn2 cq0 cq1 cq2 cq3 cq4 cq5 dq0 dq1 dq2 dq3 dq4 dq5
   refine (OS.out _ Hl7.out).mono ?_
   rintro e v8 ⟨rfl, hb⟩
   have B8 := Lib.hid (B7.out.trans (hb.mono B7.out.size))
   have Kl8 := Lib.hid (Kl7.out.below hb)
   have Km8 := Lib.hid (Km7.out.below hb)
   have Kp8 := Lib.hid (Kp7.out.below hb)
   have Kn8 := Lib.hid (Kn7.out.below hb)
   have Kq8 := Lib.hid (Kq7.out.below hb)
   have Hl8 := Lib.hid (Hl7.out.below hb)
   have Hm8 := Lib.hid (Hm7.out.below hb)
   have Hn8 := Lib.hid (Hn7.out.below hb)
   clear hb B7 Kl7 Km7 Kp7 Kn7 Kq7 Hl7 Hm7 Hn7
   cases hy : linkOk m ip rs with
   | false =>
    clear hm2 OM hy
    obtain ⟨⟨cl0, cl1, cl2⟩, dl0, dl1, dl2⟩ := Kl8.out.o3
    obtain ⟨⟨cm0, cm1, cm2⟩, dm0, dm1, dm2⟩ := Km8.out.o3
    obtain ⟨⟨cp0, cp1, cp2, cp3, cp4, cp5⟩, dp0, dp1, dp2, dp3, dp4, dp5⟩ := Kp8.out.of6
    obtain ⟨⟨cn0, cn1, cn2⟩, dn0, dn1, dn2⟩ := Kn8.out.o3
    obtain ⟨⟨cq0, cq1, cq2, cq3, cq4, cq5⟩, dq0, dq1, dq2, dq3, dq4, dq5⟩ := Kq8.out.of6
    go_wp2_with fail
    go_ret
    exact ⟨rfl, B8.out⟩
   | true =>
    rw [hm2 hy] at OM
    clear hm2 hy
    obtain ⟨⟨cl0, cl1, cl2⟩, dl0, dl1, dl2⟩ := Kl8.out.o3
    obtain ⟨⟨cm0, cm1, cm2⟩, dm0, dm1, dm2⟩ := Km8.out.o3
    obtain ⟨⟨cp0, cp1, cp2, cp3, cp4, cp5⟩, dp0, dp1, dp2, dp3, dp4, dp5⟩ := Kp8.out.of6
    obtain ⟨⟨cn0, cn1, cn2⟩, dn0, dn1, dn2⟩ := Kn8.out.o3
    obtain ⟨⟨cq0, cq1, cq2, cq3, cq4, cq5⟩, dq0, dq1, dq2, dq3, dq4, dq5⟩ := Kq8.out.of6
    go_wp2_with fail
    clear cl0 cl1 cl2 dl0 dl1 dl2 cm0 cm1 cm2 dm0 dm1 dm2 cp0 cp1 cp2 cp3 cp4 cp5 dp0 dp1 dp2 dp3 dp4 dp5 cn0 cn1 cn2 dn0 dn1 dn2 cq0 cq1 cq2 cq3 cq4 cq5 dq0 dq1 dq2 dq3 dq4 dq5
    refine (OM.out a1 c1 _ Hm8.out).mono ?_
    rintro e v9 ⟨rfl, hb⟩
    have B9 := Lib.hid (B8.out.trans (hb.mono B8.out.size))
    have Kl9 := Lib.hid (Kl8.out.below hb)
    have Km9 := Lib.hid (Km8.out.below hb)
    have Kp9 := Lib.hid (Kp8.out.below hb)
    have Kn9 := Lib.hid (Kn8.out.below hb)
    have Kq9 := Lib.hid (Kq8.out.below hb)
    have Hl9 := Lib.hid (Hl8.out.below hb)
    have Hm9 := Lib.hid (Hm8.out.below hb)
    have Hn9 := Lib.hid (Hn8.out.below hb)
    clear hb B8 Kl8 Km8 Kp8 Kn8 Kq8 Hl8 Hm8 Hn8
    obtain ⟨⟨cl0, cl1, cl2⟩, dl0, dl1, dl2⟩ := Kl9.out.o3
    obtain ⟨⟨cm0, cm1, cm2⟩, dm0, dm1, dm2⟩ := Km9.out.o3
    obtain ⟨⟨cp0, cp1, cp2, cp3, cp4, cp5⟩, dp0, dp1, dp2, dp3, dp4, dp5⟩ := Kp9.out.of6
    obtain ⟨⟨cn0, cn1, cn2⟩, dn0, dn1, dn2⟩ := Kn9.out.o3
    obtain ⟨⟨cq0, cq1, cq2, cq3, cq4, cq5⟩, dq0, dq1, dq2, dq3, dq4, dq5⟩ := Kq9.out.of6
    go_wp2_with fail
    go_ret
    exact ⟨rfl, B9.out⟩
 ·have h1 : 1048576 < s0.length := by omega
  go_enter Tryz.func3, Tryz.ntmps3
  go_wp2_with fail
  refine (big_yes _ _ _ _ h1 hm).mono ?_
  rintro e w' ⟨rfl, rfl⟩
  go_wp2_with fail
  go_ret
  exact ⟨rfl, Below.refl _ _⟩

theorem own : ownKnob Tryz.prog.godebug = none := by kernel_rfl
theorem laidOut : laidOutB Tryz.prog = true := by kernel_rfl
/-- The list of the row. -/
abbrev laidL : List (String × DataW Unit) := [("errors.errorType", Rows.laid_errors_errorType), ("loop.example/g00504/impl.errDropped", Rows.laid_loop_example_g00504_impl_errDropped)]
theorem gD : Tryz.prog.globalNamed "loop.example/g00504/impl.errDropped" = some 0 := by kernel_rfl
theorem gDType : (Tryz.prog.globals[0]?).map (·.type) = some 60 := by kernel_rfl
theorem cellsD : Tryz.prog.cellsOf 189 = 1 := by kernel_rfl
theorem cellsT : Tryz.prog.cellsOf 9 = 1 := by kernel_rfl
theorem star : "*" ++ "errors.errorString" = "*errors.errorString" := by decide
theorem rowD (u : TypeId) (h : Tryz.prog.typeName? 3 u = some "*errors.errorString") : u = 168 :=
 typeName_ptr_named (nm := "errors.errorString") (by rw [star]; kernel_rfl) (by kernel_rfl) (by decide) u (by rw [star]; exact h)
theorem hEt : Tryz.prog.globalNamed "errors.errorType" = some 1 := by kernel_rfl
theorem hRt : (Tryz.prog.cutTypes.find? (·.1 == "internal/reflectlite.rtype")).map (·.2) = some 132 := by kernel_rfl
theorem hOne : ((List.range 200).filter fun t => Tryz.prog.rowNamed t [101, 114, 114, 111, 114]) = [60] := by kernel_rfl
theorem hSize : Tryz.prog.types.size = 200 := by kernel_rfl
/-- What the list gives the walk: the two variables' cells. -/
theorem of_laid {W : World} (h : laidMetH Tryz.prog laidL W) : ErrTy W ∧ ∃ x, Sent x W := by
 have h' : laidMet Tryz.prog [("loop.example/g00504/impl.errDropped", Rows.laid_loop_example_g00504_impl_errDropped)] W ∧ handlesMet Tryz.prog [("errors.errorType", Rows.laid_errors_errorType)] W := h
 obtain ⟨a1, s1, hv1, _, _, _⟩ := laid_sentinel h'.1 gD gDType Tryz.underlying60 rowD Tryz.underlying168 Tryz.underlying189 rfl rfl Tryz.underlying9 cellsD cellsT
 refine ⟨?_, a1, by simpa [Sent] using World.var?_cell gD hv1 0⟩
 obtain ⟨name, u, ty, e1, e2, e3, e4, e5⟩ := h'.2 _ (List.mem_singleton.2 rfl)
 have en : name = [101, 114, 114, 111, 114] := (Option.some.inj e1).symm
 subst en
 obtain rfl := Option.some.inj (hRt.symm.trans e2)
 have hm : ty ∈ (List.range 200).filter fun t => Tryz.prog.rowNamed t [101, 114, 114, 111, 114] := List.mem_filter.2 ⟨List.mem_range.2 (by rw [← hSize]; exact e3), e4⟩
 rw [hOne] at hm
 obtain rfl := List.mem_singleton.1 hm
 have hh : typeHandle Tryz.prog 60 = .pointer (some ⟨2, 60, none⟩) := by kernel_rfl
 rw [hh] at e5
 simpa [ErrTy] using World.var?_cell hEt e5 0
/-- The sentinel's variable, whole. -/
theorem var_laid {W : World} (h : laidMetH Tryz.prog laidL W) : ∃ a, W.var? Tryz.prog "loop.example/g00504/impl.errDropped" = some #[.iface 168 (.pointer (some a))] := by
 have h' : laidMet Tryz.prog [("loop.example/g00504/impl.errDropped", Rows.laid_loop_example_g00504_impl_errDropped)] W ∧ handlesMet Tryz.prog [("errors.errorType", Rows.laid_errors_errorType)] W := h
 obtain ⟨a1, s1, hv1, _, _, _⟩ := laid_sentinel h'.1 gD gDType Tryz.underlying60 rowD Tryz.underlying168 Tryz.underlying189 rfl rfl Tryz.underlying9 cellsD cellsT
 exact ⟨a1, hv1⟩
/-- The variable reads behind the call as it read before. -/
theorem var_kept {H : Type} {enc : TypeId × Value → H} {W W' : World} {gs : List (DataW H)} {q : List MemPlace} (h : laidMetH Tryz.prog laidL W) (hV : DataW.TrodVars enc Tryz.prog W (fun _ => true) ["loop.example/g00504/impl.errDropped"] gs q) (bel : Below W.heap.size W W') :
  ∃ d q', gs = [d] ∧ DataW.TrodVars enc Tryz.prog W' (fun b => decide (b < W.heap.size)) ["loop.example/g00504/impl.errDropped"] [d] q' := by
 obtain ⟨x, hx⟩ := var_laid h
 obtain ⟨g, t, cs, f, d, p, rfl, hg, ht, hv, hd, rfl⟩ := trodVars_one hV
 obtain rfl := Option.some.inj (gD.symm.trans hg)
 obtain rfl := Option.some.inj (gDType.symm.trans ht)
 obtain rfl := Option.some.inj (hx.symm.trans hv)
 have lt : ∀ y ∈ p, y.block < W.heap.size := DataW.trod_lt f _ _ _ hd
 have hT : DataW.Trod enc Tryz.prog W 0 (fun _ => true) true 60 (.iface 168 (.pointer (some x))) d p := ⟨f, hd⟩
 obtain ⟨f', hd'⟩ := Below.trod laidOut (by kernel_rfl) (of_decide_eq_true (by kernel_rfl)) hT bel lt
 have hlt : 0 < W.heap.size := World.block_lt_of_cell? W ⟨0, 0, none⟩ (by simpa using World.var?_cell gD hx 0)
 exact ⟨d, _, rfl, trodVars_mk1 gD gDType (var?_below bel gD hlt hx) hd'⟩
noncomputable def low : Nat := (World.holding Tryz.prog default ⟨#[], #[], []⟩).heap.size
/-- A world in which the variables are laid. -/
noncomputable def laidWorld (os : Os) : World :=
 let w0 := World.holding Tryz.prog os ⟨#[.cells #[.string ⟨#[102, 114, 97, 109, 101, 32, 100, 114, 111, 112, 112, 101, 100]⟩] 189], #[], []⟩
 { w0 with heap := (w0.heap.modify 0 fun
   | .cells _ t frozen => .cells #[.iface 168 (.pointer (some ⟨low, 0, none⟩))] t frozen
   | o => o).modify 1 fun
   | .cells _ t frozen => .cells #[.iface 132 (.agg #[.pointer (some ⟨2, 60, none⟩)])] t frozen
   | o => o }
theorem door_met (os : Os) (args : Array Value) : laidMetH Tryz.prog laidL ((laidWorld os).forCall (fun _ _ => 0) ⟨#[], args, []⟩).memory :=
 laidMetH_of_parts (laidMet_of_run' 8 (by kernel_rfl) (by kernel_rfl)) (by kernel_rfl)

set_option maxRecDepth 100000 in
theorem lifted (os : Os) (started : os.Started) (H : Type) (enc : TypeId × Value → H) :
  ReturnsInHanded {} Tryz.checked os 3 .any (fun w args => (Rows.fnLinkSpec.pre enc Tryz.prog Tryz.f3 [] false w args ∧ laidMetH Tryz.prog laidL w) ∧ sizedMet enc Tryz.prog Tryz.f3 (OpenSpec.ofChange Rows.fnLinkSpec) false w args)
   (Rows.fnLinkSpec.post enc Tryz.prog Tryz.f3 false true false false) := by
 refine returnsInHanded_of_change_and (C := Tryz.checked) (X := fun w _ => laidMetH Tryz.prog laidL w) (fun _ _ _ hh h => h.of_heap hh) own started (by kernel_rfl) Tryz.func3
  (ChangeSpec.witness_at (enc := enc) (C := Tryz.checked) (os := os) (X := fun w _ => laidMetH Tryz.prog laidL w) false (laidWorld os) #[.slice none 0 0] 8 rfl (by kernel_rfl) (by kernel_rfl) (by kernel_rfl) (by kernel_rfl) (by kernel_rfl) (door_met os _)) ?_
 intro W base args ds gs before hval0 hW _ _ hL _
 have hval : ∀ (j : Nat) t v, Tryz.f3.params[j]? = some t → args[j]? = some v → Value.okWide Tryz.prog W .any base t v := hval0
 have hW' := hW
 obtain ⟨p, q, hA0, hV, rfl, _, _⟩ := hW
 have hA : DataW.TrodAll enc Tryz.prog W 0 (fun _ => true) true Tryz.f3.params.toList args.toList ds p := hA0
 rw [Tryz.params3] at hA hval
 obtain ⟨v0, vs0, d0, ds0, p0, q0, hargs, rfl, rfl, h0, r0⟩ := trodAll_cons hA
 obtain ⟨rfl, rfl, rfl⟩ := trodAll_nil r0
 obtain rfl : args = #[v0] := by cases args; simp_all
 obtain ⟨a0, len0, cap0, rfl⟩ := okWide_slice Tryz.underlying22 (hval 0 22 v0 rfl rfl)
 have k0 := h0
 have lt0 : ∀ x ∈ p0, x.block < W.heap.size := by obtain ⟨m, hm⟩ := k0; exact DataW.trod_lt m _ _ _ hm
 obtain ⟨s0, w0⟩ : ∃ bs : List UInt8, IsBytes W a0 len0 bs := by obtain ⟨fuel, hf⟩ := h0; exact openBytes Tryz.underlying22 Tryz.underlying5 (by kernel_rfl) hf
 have hT := of_laid hL
 clear hA0 hval0
 refine (walk (w := W) a0 len0 cap0 s0 w0 hT).mono fun e W' ⟨he, bel⟩ => ?_
 subst he
 obtain ⟨dg, q', rfl, hq'⟩ := var_kept hL hV bel
 exact ⟨_, rfl, _, _, _, [], _, q', hW', trodAll_mk1 (shut_bool Tryz.underlying4 _), (trodAll_cons_mk (Below.trod laidOut (by kernel_rfl) (of_decide_eq_true (by kernel_rfl)) k0 bel lt0) trodAll_mk0), hq', bel.frame _, fun h => by cases h⟩

theorem row_holds : Rows.FnLinkSaid :=
 OpenClaim.holds_of_wide 3 Tryz.f3 rfl rfl rfl rfl rfl rfl rfl ⟨rfl, rfl, rfl, rfl, rfl⟩ rfl rfl rfl rfl rfl (by kernel_rfl) Tryz.func3 (by kernel_rfl)
  (of_decide_eq_true (by kernel_rfl)) (by unfold Func.isWrapper; first | (rw [if_pos (by decide +kernel)]; kernel_rfl) | (rw [if_neg (by decide +kernel)]; exact ⟨rfl, rfl⟩))
  (fun os started H enc _ => lifted os started H enc)

theorem proved : Rows.FnLinkCardSaid :=
 Claim7.holds_tied_plain_at .later [] [.handle, .sentinel] true (true, "7b67a2880804485c42fc5aacd172d2d239e7e5dc6faff98f7bbd09bd910a5cfd") true
  row_holds (fun _ h => by cases h) (by kernel_rfl) (fun _ h => by cases h) fnLink_row_tie rfl ⟨rfl, rfl⟩ (by kernel_rfl) rfl
  (fun f fn hf hfn => by
   obtain rfl : f = 3 := Option.some.inj ((show Tryz.prog.funcNamed Rows.fnLinkRow.func = some 3 by kernel_rfl).symm.trans hf) |>.symm
   obtain rfl : fn = Tryz.f3 := (Option.some.inj (Tryz.func3.symm.trans hfn)).symm
   exact ⟨by kernel_rfl, fun j t ht => by
    rw [Tryz.params3] at ht
    have hm : t ∈ [22] := by simpa using Array.mem_of_getElem? ht
    have hall : ([22].all fun u => !Tryz.prog.wantsStandIn u) = true := by kernel_rfl
    exact (show Tryz.prog.wantsStandIn t = false by simpa using List.all_eq_true.1 hall t hm)⟩)
  (by kernel_rfl)
#print axioms proved

end Go.Proofs.YtkkimgjcefojdaaGreatDoor.fnLink
