/- Texts of a proof that belong together, joined. Nothing here is a claim. -/
import Derived.Test.YtkkimgjcefojdaaGreatDoorPkLk19
import Derived.Test.YtkkimgjcefojdaaGreatDoorPkLk16
import Derived.Test.YtkkimgjcefojdaaGreatDoorPkLk17
namespace Go.Proofs.YtkkimgjcefojdaaGreatDoor
open Go.RowKit Go.Lib

/-- The link with a cache in new memory, no packet. -/
def ArpNew (m ip : Int) (L : List ER) (kind : Int) (ans : ByteArray) (w : World) (e : Ending) (w' : World) : Prop :=
 ∃ h c, e = .returned (.tuple #[.agg #[.int .i64 m, .int .i64 ip, .slice (some ⟨h, 0, none⟩) L.length c], .int .i64 kind, .agg #[.int .i64 0, .int .i64 0, .int .i64 0, .int .i64 0, .int .i64 0, .string ⟨#[]⟩], .string ans]) ∧ w'.ownsRow w.heap.size 71 3 (.slice (some ⟨h, 0, none⟩) L.length c) L.length (ers L) ∧ Below w.heap.size w w'
/-- What l16Arp answers: the link itself where nothing comes, else one in new memory. -/
def ArpEndS (m ip : Int) (g cap : Nat) (rs : List ER) (q : Option Arr) (w : World) (e : Ending) (w' : World) : Prop :=
 match q with
 | none => e = .returned (.tuple #[.agg #[.int .i64 m, .int .i64 ip, .slice (some ⟨g, 0, none⟩) rs.length cap], .int .i64 0, .agg #[.int .i64 0, .int .i64 0, .int .i64 0, .int .i64 0, .int .i64 0, .string ⟨#[]⟩], .string ⟨#[]⟩]) ∧ Below w.heap.size w w'
 | some a => ArpNew m ip (learnE rs a.ip a.hw) a.kind a.ans w e w'

set_option maxRecDepth 100000 in
set_option maxHeartbeats 8000000 in
theorem l16ArpS (m ip : Int) (g cap : Nat) (rs : List ER) (fd fs ft : Int) (fb : ByteArray) (w : World) (hrow : Row w w.heap.size (some ⟨g, 0, none⟩) (ers rs)) (hcap : rs.length ≤ cap) (hl : rs.length ≤ 1048577) (hs : fb.size ≤ 1048576) :
  Calls Tryz.prog 35 #[.agg #[.int .i64 m, .int .i64 ip, .slice (some ⟨g, 0, none⟩) rs.length cap], .agg #[.int .i64 fd, .int .i64 fs, .int .i64 ft, .string fb]] w (ArpEndS m ip g cap rs (arpIn m ip fb) w) := by
 have C1 := Lib.hid (fun w => readArpS fb w hs)
 have HR := Lib.hid hrow
 unfold arpIn
 unfold raV at C1
 clear hrow hs
 generalize raF fb 6 2 = k at C1 ⊢
 generalize raF fb 8 6 = sh at C1 ⊢
 generalize raF fb 14 4 = si at C1 ⊢
 generalize raF fb 18 6 = th at C1
 generalize raF fb 24 4 = di at C1 ⊢
 generalize raOk fb = ok at C1 ⊢
 unfold arpMsg
 cases ok with
 | false =>
  rw [if_neg (by decide)]
  go_enter Tryz.func35, Tryz.ntmps35
  have B0 := Lib.hid (show Below w.heap.size w ((((w.alloc (.cells #[.int .i64 m, .int .i64 ip, .slice (some ⟨g, 0, none⟩) rs.length cap] 26)).alloc (.cells #[.int .i64 fd, .int .i64 fs, .int .i64 ft, .string fb] 38)).alloc (.cells #[.int .i64 0, .int .i64 0, .slice none 0 0] 26)).alloc (.cells #[.int .i64 0, .int .i64 0, .int .i64 0, .int .i64 0, .int .i64 0, .string ⟨#[]⟩] 30)) from (((((Below.refl _ w).alloc (by simp) _).alloc (by simp) _).alloc (by simp; omega) _).alloc (by simp; omega) _))
  have Kl0 := Lib.hid (show Blk ((((w.alloc (.cells #[.int .i64 m, .int .i64 ip, .slice (some ⟨g, 0, none⟩) rs.length cap] 26)).alloc (.cells #[.int .i64 fd, .int .i64 fs, .int .i64 ft, .string fb] 38)).alloc (.cells #[.int .i64 0, .int .i64 0, .slice none 0 0] 26)).alloc (.cells #[.int .i64 0, .int .i64 0, .int .i64 0, .int .i64 0, .int .i64 0, .string ⟨#[]⟩] 30)) (w.heap.size) [.int .i64 m, .int .i64 ip, .slice (some ⟨g, 0, none⟩) rs.length cap] from (((Blk.new w [.int .i64 m, .int .i64 ip, .slice (some ⟨g, 0, none⟩) rs.length cap] 26).alloc (.cells #[.int .i64 fd, .int .i64 fs, .int .i64 ft, .string fb] 38)).alloc (.cells #[.int .i64 0, .int .i64 0, .slice none 0 0] 26)).alloc (.cells #[.int .i64 0, .int .i64 0, .int .i64 0, .int .i64 0, .int .i64 0, .string ⟨#[]⟩] 30))
  have s1 : (w.alloc (.cells #[.int .i64 m, .int .i64 ip, .slice (some ⟨g, 0, none⟩) rs.length cap] 26)).heap.size = w.heap.size + 1 := by simp
  have Kf0 := Lib.hid (show Blk ((((w.alloc (.cells #[.int .i64 m, .int .i64 ip, .slice (some ⟨g, 0, none⟩) rs.length cap] 26)).alloc (.cells #[.int .i64 fd, .int .i64 fs, .int .i64 ft, .string fb] 38)).alloc (.cells #[.int .i64 0, .int .i64 0, .slice none 0 0] 26)).alloc (.cells #[.int .i64 0, .int .i64 0, .int .i64 0, .int .i64 0, .int .i64 0, .string ⟨#[]⟩] 30)) (w.heap.size + 1) [.int .i64 fd, .int .i64 fs, .int .i64 ft, .string fb] by have h0 := ((Blk.new (w.alloc (.cells #[.int .i64 m, .int .i64 ip, .slice (some ⟨g, 0, none⟩) rs.length cap] 26)) [.int .i64 fd, .int .i64 fs, .int .i64 ft, .string fb] 38).alloc (.cells #[.int .i64 0, .int .i64 0, .slice none 0 0] 26)).alloc (.cells #[.int .i64 0, .int .i64 0, .int .i64 0, .int .i64 0, .int .i64 0, .string ⟨#[]⟩] 30); rwa [s1] at h0)
  have n_l_f : w.heap.size ≠ w.heap.size + 1 := by omega
  have s2 : ((w.alloc (.cells #[.int .i64 m, .int .i64 ip, .slice (some ⟨g, 0, none⟩) rs.length cap] 26)).alloc (.cells #[.int .i64 fd, .int .i64 fs, .int .i64 ft, .string fb] 38)).heap.size = w.heap.size + 1 + 1 := by simp
  have KR0 := Lib.hid (show Blk ((((w.alloc (.cells #[.int .i64 m, .int .i64 ip, .slice (some ⟨g, 0, none⟩) rs.length cap] 26)).alloc (.cells #[.int .i64 fd, .int .i64 fs, .int .i64 ft, .string fb] 38)).alloc (.cells #[.int .i64 0, .int .i64 0, .slice none 0 0] 26)).alloc (.cells #[.int .i64 0, .int .i64 0, .int .i64 0, .int .i64 0, .int .i64 0, .string ⟨#[]⟩] 30)) (w.heap.size + 1 + 1) [.int .i64 0, .int .i64 0, .slice none 0 0] by have h0 := (Blk.new ((w.alloc (.cells #[.int .i64 m, .int .i64 ip, .slice (some ⟨g, 0, none⟩) rs.length cap] 26)).alloc (.cells #[.int .i64 fd, .int .i64 fs, .int .i64 ft, .string fb] 38)) [.int .i64 0, .int .i64 0, .slice none 0 0] 26).alloc (.cells #[.int .i64 0, .int .i64 0, .int .i64 0, .int .i64 0, .int .i64 0, .string ⟨#[]⟩] 30); rwa [s2] at h0)
  have n_l_R : w.heap.size ≠ w.heap.size + 1 + 1 := by omega
  have n_f_R : w.heap.size + 1 ≠ w.heap.size + 1 + 1 := by omega
  have s3 : (((w.alloc (.cells #[.int .i64 m, .int .i64 ip, .slice (some ⟨g, 0, none⟩) rs.length cap] 26)).alloc (.cells #[.int .i64 fd, .int .i64 fs, .int .i64 ft, .string fb] 38)).alloc (.cells #[.int .i64 0, .int .i64 0, .slice none 0 0] 26)).heap.size = w.heap.size + 1 + 1 + 1 := by simp
  have KP0 := Lib.hid (show Blk ((((w.alloc (.cells #[.int .i64 m, .int .i64 ip, .slice (some ⟨g, 0, none⟩) rs.length cap] 26)).alloc (.cells #[.int .i64 fd, .int .i64 fs, .int .i64 ft, .string fb] 38)).alloc (.cells #[.int .i64 0, .int .i64 0, .slice none 0 0] 26)).alloc (.cells #[.int .i64 0, .int .i64 0, .int .i64 0, .int .i64 0, .int .i64 0, .string ⟨#[]⟩] 30)) (w.heap.size + 1 + 1 + 1) [.int .i64 0, .int .i64 0, .int .i64 0, .int .i64 0, .int .i64 0, .string ⟨#[]⟩] by have h0 := Blk.new (((w.alloc (.cells #[.int .i64 m, .int .i64 ip, .slice (some ⟨g, 0, none⟩) rs.length cap] 26)).alloc (.cells #[.int .i64 fd, .int .i64 fs, .int .i64 ft, .string fb] 38)).alloc (.cells #[.int .i64 0, .int .i64 0, .slice none 0 0] 26)) [.int .i64 0, .int .i64 0, .int .i64 0, .int .i64 0, .int .i64 0, .string ⟨#[]⟩] 30; rwa [s3] at h0)
  have n_l_P : w.heap.size ≠ w.heap.size + 1 + 1 + 1 := by omega
  have n_f_P : w.heap.size + 1 ≠ w.heap.size + 1 + 1 + 1 := by omega
  have n_R_P : w.heap.size + 1 + 1 ≠ w.heap.size + 1 + 1 + 1 := by omega
  clear s1 s2 s3
  go_wp2_with fail
  change Calls _ _ _ ((((w.alloc (.cells #[.int .i64 m, .int .i64 ip, .slice (some ⟨g, 0, none⟩) rs.length cap] 26)).alloc (.cells #[.int .i64 fd, .int .i64 fs, .int .i64 ft, .string fb] 38)).alloc (.cells #[.int .i64 0, .int .i64 0, .slice none 0 0] 26)).alloc (.cells #[.int .i64 0, .int .i64 0, .int .i64 0, .int .i64 0, .int .i64 0, .string ⟨#[]⟩] 30)) _
  generalize (((w.alloc (.cells #[.int .i64 m, .int .i64 ip, .slice (some ⟨g, 0, none⟩) rs.length cap] 26)).alloc (.cells #[.int .i64 fd, .int .i64 fs, .int .i64 ft, .string fb] 38)).alloc (.cells #[.int .i64 0, .int .i64 0, .slice none 0 0] 26)).alloc (.cells #[.int .i64 0, .int .i64 0, .int .i64 0, .int .i64 0, .int .i64 0, .string ⟨#[]⟩] 30) = v0 at B0 Kl0 Kf0 KR0 KP0 ⊢
  generalize hh_P : w.heap.size + 1 + 1 + 1 = g_P at KP0 n_l_P n_f_P n_R_P ⊢
  generalize hh_R : w.heap.size + 1 + 1 = g_R at KR0 n_l_R n_f_R n_R_P ⊢
  generalize hh_f : w.heap.size + 1 = g_f at Kf0 n_l_f n_f_R n_f_P ⊢
  generalize hh_l : w.heap.size = g_l at Kl0 n_l_f n_l_R n_l_P ⊢
  have l_l : w.heap.size ≤ g_l := by omega
  have l_f : w.heap.size ≤ g_f := by omega
  have l_R : w.heap.size ≤ g_R := by omega
  have l_P : w.heap.size ≤ g_P := by omega
  clear hh_l hh_f hh_R hh_P
  refine (C1.out _).mono ?_
  rintro e v1 ⟨rfl, hb⟩
  have B1 := Lib.hid (B0.out.trans (hb.mono B0.out.size))
  have Kl1 := Lib.hid (Kl0.out.below hb)
  have Kf1 := Lib.hid (Kf0.out.below hb)
  have KR1 := Lib.hid (KR0.out.below hb)
  have KP1 := Lib.hid (KP0.out.below hb)
  clear hb B0 Kl0 Kf0 KR0 KP0
  have Kqn := Lib.hid (Blk.new v1 [.int .i64 k, .int .i64 sh, .int .i64 si, .int .i64 th, .int .i64 di] 96)
  have l_q : w.heap.size ≤ v1.heap.size := B1.out.size
  have n_l_q : g_l ≠ v1.heap.size := by have h1 := Kl1.out.lt; omega
  have n_f_q : g_f ≠ v1.heap.size := by have h1 := Kf1.out.lt; omega
  have n_R_q : g_R ≠ v1.heap.size := by have h1 := KR1.out.lt; omega
  have n_P_q : g_P ≠ v1.heap.size := by have h1 := KP1.out.lt; omega
  have Bn := Lib.hid (B1.out.alloc B1.out.size (.cells #[.int .i64 k, .int .i64 sh, .int .i64 si, .int .i64 th, .int .i64 di] 96))
  have Kln := Lib.hid (Kl1.out.alloc (.cells #[.int .i64 k, .int .i64 sh, .int .i64 si, .int .i64 th, .int .i64 di] 96))
  have Kfn := Lib.hid (Kf1.out.alloc (.cells #[.int .i64 k, .int .i64 sh, .int .i64 si, .int .i64 th, .int .i64 di] 96))
  have KRn := Lib.hid (KR1.out.alloc (.cells #[.int .i64 k, .int .i64 sh, .int .i64 si, .int .i64 th, .int .i64 di] 96))
  have KPn := Lib.hid (KP1.out.alloc (.cells #[.int .i64 k, .int .i64 sh, .int .i64 si, .int .i64 th, .int .i64 di] 96))
  clear B1 Kl1 Kf1 KR1 KP1
  obtain ⟨⟨cl0, cl1, cl2⟩, dl0, dl1, dl2⟩ := Kln.out.o3
  obtain ⟨⟨cf0, cf1, cf2, cf3⟩, df0, df1, df2, df3⟩ := Kfn.out.four
  obtain ⟨⟨cR0, cR1, cR2⟩, dR0, dR1, dR2⟩ := KRn.out.o3
  obtain ⟨⟨cP0, cP1, cP2, cP3, cP4, cP5⟩, dP0, dP1, dP2, dP3, dP4, dP5⟩ := KPn.out.of6
  go_upto_region 3 with fail
  clear cl0 cl1 cl2 dl0 dl1 dl2 cf0 cf1 cf2 cf3 df0 df1 df2 df3 cR0 cR1 cR2 dR0 dR1 dR2 cP0 cP1 cP2 cP3 cP4 cP5 dP0 dP1 dP2 dP3 dP4 dP5
  generalize v1.alloc (.cells #[.int .i64 k, .int .i64 sh, .int .i64 si, .int .i64 th, .int .i64 di] 96) = v2 at Kqn Bn Kln Kfn KRn KPn ⊢
  generalize v1.heap.size = g_q at Kqn l_q n_l_q n_f_q n_R_q n_P_q ⊢
  clear v1
  have Kl2 := Kln
  clear Kln
  have Kf2 := Kfn
  clear Kfn
  have KR2 := KRn
  clear KRn
  have KP2 := KPn
  clear KPn
  have Kq2 := Kqn
  clear Kqn
  have B2 := Bn
  clear Bn
  obtain ⟨⟨cl0, cl1, cl2⟩, dl0, dl1, dl2⟩ := Kl2.out.o3
  obtain ⟨⟨cf0, cf1, cf2, cf3⟩, df0, df1, df2, df3⟩ := Kf2.out.four
  obtain ⟨⟨cR0, cR1, cR2⟩, dR0, dR1, dR2⟩ := KR2.out.o3
  obtain ⟨⟨cP0, cP1, cP2, cP3, cP4, cP5⟩, dP0, dP1, dP2, dP3, dP4, dP5⟩ := KP2.out.of6
  obtain ⟨⟨cq0, cq1, cq2, cq3, cq4⟩, dq0, dq1, dq2, dq3, dq4⟩ := Kq2.out.of5
  go_wp2_with fail
  refine bodyPost_ret (v := .tuple #[.agg #[.int .i64 m, .int .i64 ip, .slice (some ⟨g, 0, none⟩) rs.length cap], .int .i64 0, .agg #[.int .i64 0, .int .i64 0, .int .i64 0, .int .i64 0, .int .i64 0, .string ⟨#[]⟩], .string ⟨#[]⟩]) (by simp [results, Tryz.results35, go_sem, cR0, cR1, cR2, cP0, cP1, cP2, cP3, cP4, cP5]) rfl ⟨rfl, (((((((((B2.out.setCell l_R _).setCell l_R _).setCell l_R _).setCell l_P _).setCell l_P _).setCell l_P _).setCell l_P _).setCell l_P _).setCell l_P _)⟩
 | true =>
  rw [if_pos rfl]
  by_cases hd : di = ip
  case neg =>
   rw [if_neg hd]
   have hd' : (di != ip) = true := by simpa using hd
   clear hd
   go_enter Tryz.func35, Tryz.ntmps35
   have B0 := Lib.hid (show Below w.heap.size w ((((w.alloc (.cells #[.int .i64 m, .int .i64 ip, .slice (some ⟨g, 0, none⟩) rs.length cap] 26)).alloc (.cells #[.int .i64 fd, .int .i64 fs, .int .i64 ft, .string fb] 38)).alloc (.cells #[.int .i64 0, .int .i64 0, .slice none 0 0] 26)).alloc (.cells #[.int .i64 0, .int .i64 0, .int .i64 0, .int .i64 0, .int .i64 0, .string ⟨#[]⟩] 30)) from (((((Below.refl _ w).alloc (by simp) _).alloc (by simp) _).alloc (by simp; omega) _).alloc (by simp; omega) _))
   have Kl0 := Lib.hid (show Blk ((((w.alloc (.cells #[.int .i64 m, .int .i64 ip, .slice (some ⟨g, 0, none⟩) rs.length cap] 26)).alloc (.cells #[.int .i64 fd, .int .i64 fs, .int .i64 ft, .string fb] 38)).alloc (.cells #[.int .i64 0, .int .i64 0, .slice none 0 0] 26)).alloc (.cells #[.int .i64 0, .int .i64 0, .int .i64 0, .int .i64 0, .int .i64 0, .string ⟨#[]⟩] 30)) (w.heap.size) [.int .i64 m, .int .i64 ip, .slice (some ⟨g, 0, none⟩) rs.length cap] from (((Blk.new w [.int .i64 m, .int .i64 ip, .slice (some ⟨g, 0, none⟩) rs.length cap] 26).alloc (.cells #[.int .i64 fd, .int .i64 fs, .int .i64 ft, .string fb] 38)).alloc (.cells #[.int .i64 0, .int .i64 0, .slice none 0 0] 26)).alloc (.cells #[.int .i64 0, .int .i64 0, .int .i64 0, .int .i64 0, .int .i64 0, .string ⟨#[]⟩] 30))
   have s1 : (w.alloc (.cells #[.int .i64 m, .int .i64 ip, .slice (some ⟨g, 0, none⟩) rs.length cap] 26)).heap.size = w.heap.size + 1 := by simp
   have Kf0 := Lib.hid (show Blk ((((w.alloc (.cells #[.int .i64 m, .int .i64 ip, .slice (some ⟨g, 0, none⟩) rs.length cap] 26)).alloc (.cells #[.int .i64 fd, .int .i64 fs, .int .i64 ft, .string fb] 38)).alloc (.cells #[.int .i64 0, .int .i64 0, .slice none 0 0] 26)).alloc (.cells #[.int .i64 0, .int .i64 0, .int .i64 0, .int .i64 0, .int .i64 0, .string ⟨#[]⟩] 30)) (w.heap.size + 1) [.int .i64 fd, .int .i64 fs, .int .i64 ft, .string fb] by have h0 := ((Blk.new (w.alloc (.cells #[.int .i64 m, .int .i64 ip, .slice (some ⟨g, 0, none⟩) rs.length cap] 26)) [.int .i64 fd, .int .i64 fs, .int .i64 ft, .string fb] 38).alloc (.cells #[.int .i64 0, .int .i64 0, .slice none 0 0] 26)).alloc (.cells #[.int .i64 0, .int .i64 0, .int .i64 0, .int .i64 0, .int .i64 0, .string ⟨#[]⟩] 30); rwa [s1] at h0)
   have n_l_f : w.heap.size ≠ w.heap.size + 1 := by omega
   have s2 : ((w.alloc (.cells #[.int .i64 m, .int .i64 ip, .slice (some ⟨g, 0, none⟩) rs.length cap] 26)).alloc (.cells #[.int .i64 fd, .int .i64 fs, .int .i64 ft, .string fb] 38)).heap.size = w.heap.size + 1 + 1 := by simp
   have KR0 := Lib.hid (show Blk ((((w.alloc (.cells #[.int .i64 m, .int .i64 ip, .slice (some ⟨g, 0, none⟩) rs.length cap] 26)).alloc (.cells #[.int .i64 fd, .int .i64 fs, .int .i64 ft, .string fb] 38)).alloc (.cells #[.int .i64 0, .int .i64 0, .slice none 0 0] 26)).alloc (.cells #[.int .i64 0, .int .i64 0, .int .i64 0, .int .i64 0, .int .i64 0, .string ⟨#[]⟩] 30)) (w.heap.size + 1 + 1) [.int .i64 0, .int .i64 0, .slice none 0 0] by have h0 := (Blk.new ((w.alloc (.cells #[.int .i64 m, .int .i64 ip, .slice (some ⟨g, 0, none⟩) rs.length cap] 26)).alloc (.cells #[.int .i64 fd, .int .i64 fs, .int .i64 ft, .string fb] 38)) [.int .i64 0, .int .i64 0, .slice none 0 0] 26).alloc (.cells #[.int .i64 0, .int .i64 0, .int .i64 0, .int .i64 0, .int .i64 0, .string ⟨#[]⟩] 30); rwa [s2] at h0)
   have n_l_R : w.heap.size ≠ w.heap.size + 1 + 1 := by omega
   have n_f_R : w.heap.size + 1 ≠ w.heap.size + 1 + 1 := by omega
   have s3 : (((w.alloc (.cells #[.int .i64 m, .int .i64 ip, .slice (some ⟨g, 0, none⟩) rs.length cap] 26)).alloc (.cells #[.int .i64 fd, .int .i64 fs, .int .i64 ft, .string fb] 38)).alloc (.cells #[.int .i64 0, .int .i64 0, .slice none 0 0] 26)).heap.size = w.heap.size + 1 + 1 + 1 := by simp
   have KP0 := Lib.hid (show Blk ((((w.alloc (.cells #[.int .i64 m, .int .i64 ip, .slice (some ⟨g, 0, none⟩) rs.length cap] 26)).alloc (.cells #[.int .i64 fd, .int .i64 fs, .int .i64 ft, .string fb] 38)).alloc (.cells #[.int .i64 0, .int .i64 0, .slice none 0 0] 26)).alloc (.cells #[.int .i64 0, .int .i64 0, .int .i64 0, .int .i64 0, .int .i64 0, .string ⟨#[]⟩] 30)) (w.heap.size + 1 + 1 + 1) [.int .i64 0, .int .i64 0, .int .i64 0, .int .i64 0, .int .i64 0, .string ⟨#[]⟩] by have h0 := Blk.new (((w.alloc (.cells #[.int .i64 m, .int .i64 ip, .slice (some ⟨g, 0, none⟩) rs.length cap] 26)).alloc (.cells #[.int .i64 fd, .int .i64 fs, .int .i64 ft, .string fb] 38)).alloc (.cells #[.int .i64 0, .int .i64 0, .slice none 0 0] 26)) [.int .i64 0, .int .i64 0, .int .i64 0, .int .i64 0, .int .i64 0, .string ⟨#[]⟩] 30; rwa [s3] at h0)
   have n_l_P : w.heap.size ≠ w.heap.size + 1 + 1 + 1 := by omega
   have n_f_P : w.heap.size + 1 ≠ w.heap.size + 1 + 1 + 1 := by omega
   have n_R_P : w.heap.size + 1 + 1 ≠ w.heap.size + 1 + 1 + 1 := by omega
   clear s1 s2 s3
   go_wp2_with fail
   change Calls _ _ _ ((((w.alloc (.cells #[.int .i64 m, .int .i64 ip, .slice (some ⟨g, 0, none⟩) rs.length cap] 26)).alloc (.cells #[.int .i64 fd, .int .i64 fs, .int .i64 ft, .string fb] 38)).alloc (.cells #[.int .i64 0, .int .i64 0, .slice none 0 0] 26)).alloc (.cells #[.int .i64 0, .int .i64 0, .int .i64 0, .int .i64 0, .int .i64 0, .string ⟨#[]⟩] 30)) _
   generalize (((w.alloc (.cells #[.int .i64 m, .int .i64 ip, .slice (some ⟨g, 0, none⟩) rs.length cap] 26)).alloc (.cells #[.int .i64 fd, .int .i64 fs, .int .i64 ft, .string fb] 38)).alloc (.cells #[.int .i64 0, .int .i64 0, .slice none 0 0] 26)).alloc (.cells #[.int .i64 0, .int .i64 0, .int .i64 0, .int .i64 0, .int .i64 0, .string ⟨#[]⟩] 30) = v0 at B0 Kl0 Kf0 KR0 KP0 ⊢
   generalize hh_P : w.heap.size + 1 + 1 + 1 = g_P at KP0 n_l_P n_f_P n_R_P ⊢
   generalize hh_R : w.heap.size + 1 + 1 = g_R at KR0 n_l_R n_f_R n_R_P ⊢
   generalize hh_f : w.heap.size + 1 = g_f at Kf0 n_l_f n_f_R n_f_P ⊢
   generalize hh_l : w.heap.size = g_l at Kl0 n_l_f n_l_R n_l_P ⊢
   have l_l : w.heap.size ≤ g_l := by omega
   have l_f : w.heap.size ≤ g_f := by omega
   have l_R : w.heap.size ≤ g_R := by omega
   have l_P : w.heap.size ≤ g_P := by omega
   clear hh_l hh_f hh_R hh_P
   refine (C1.out _).mono ?_
   rintro e v1 ⟨rfl, hb⟩
   have B1 := Lib.hid (B0.out.trans (hb.mono B0.out.size))
   have Kl1 := Lib.hid (Kl0.out.below hb)
   have Kf1 := Lib.hid (Kf0.out.below hb)
   have KR1 := Lib.hid (KR0.out.below hb)
   have KP1 := Lib.hid (KP0.out.below hb)
   clear hb B0 Kl0 Kf0 KR0 KP0
   have Kqn := Lib.hid (Blk.new v1 [.int .i64 k, .int .i64 sh, .int .i64 si, .int .i64 th, .int .i64 di] 96)
   have l_q : w.heap.size ≤ v1.heap.size := B1.out.size
   have n_l_q : g_l ≠ v1.heap.size := by have h1 := Kl1.out.lt; omega
   have n_f_q : g_f ≠ v1.heap.size := by have h1 := Kf1.out.lt; omega
   have n_R_q : g_R ≠ v1.heap.size := by have h1 := KR1.out.lt; omega
   have n_P_q : g_P ≠ v1.heap.size := by have h1 := KP1.out.lt; omega
   have Bn := Lib.hid (B1.out.alloc B1.out.size (.cells #[.int .i64 k, .int .i64 sh, .int .i64 si, .int .i64 th, .int .i64 di] 96))
   have Kln := Lib.hid (Kl1.out.alloc (.cells #[.int .i64 k, .int .i64 sh, .int .i64 si, .int .i64 th, .int .i64 di] 96))
   have Kfn := Lib.hid (Kf1.out.alloc (.cells #[.int .i64 k, .int .i64 sh, .int .i64 si, .int .i64 th, .int .i64 di] 96))
   have KRn := Lib.hid (KR1.out.alloc (.cells #[.int .i64 k, .int .i64 sh, .int .i64 si, .int .i64 th, .int .i64 di] 96))
   have KPn := Lib.hid (KP1.out.alloc (.cells #[.int .i64 k, .int .i64 sh, .int .i64 si, .int .i64 th, .int .i64 di] 96))
   clear B1 Kl1 Kf1 KR1 KP1
   obtain ⟨⟨cl0, cl1, cl2⟩, dl0, dl1, dl2⟩ := Kln.out.o3
   obtain ⟨⟨cf0, cf1, cf2, cf3⟩, df0, df1, df2, df3⟩ := Kfn.out.four
   obtain ⟨⟨cR0, cR1, cR2⟩, dR0, dR1, dR2⟩ := KRn.out.o3
   obtain ⟨⟨cP0, cP1, cP2, cP3, cP4, cP5⟩, dP0, dP1, dP2, dP3, dP4, dP5⟩ := KPn.out.of6
   go_upto_region 3 with fail
   clear cl0 cl1 cl2 dl0 dl1 dl2 cf0 cf1 cf2 cf3 df0 df1 df2 df3 cR0 cR1 cR2 dR0 dR1 dR2 cP0 cP1 cP2 cP3 cP4 cP5 dP0 dP1 dP2 dP3 dP4 dP5
   generalize v1.alloc (.cells #[.int .i64 k, .int .i64 sh, .int .i64 si, .int .i64 th, .int .i64 di] 96) = v2 at Kqn Bn Kln Kfn KRn KPn ⊢
   generalize v1.heap.size = g_q at Kqn l_q n_l_q n_f_q n_R_q n_P_q ⊢
   clear v1
   have Kl2 := Kln
   clear Kln
   have Kf2 := Kfn
   clear Kfn
   have KR2 := KRn
   clear KRn
   have KP2 := KPn
   clear KPn
   have Kq2 := Kqn
   clear Kqn
   have B2 := Bn
   clear Bn
   obtain ⟨⟨cl0, cl1, cl2⟩, dl0, dl1, dl2⟩ := Kl2.out.o3
   obtain ⟨⟨cf0, cf1, cf2, cf3⟩, df0, df1, df2, df3⟩ := Kf2.out.four
   obtain ⟨⟨cR0, cR1, cR2⟩, dR0, dR1, dR2⟩ := KR2.out.o3
   obtain ⟨⟨cP0, cP1, cP2, cP3, cP4, cP5⟩, dP0, dP1, dP2, dP3, dP4, dP5⟩ := KP2.out.of6
   obtain ⟨⟨cq0, cq1, cq2, cq3, cq4⟩, dq0, dq1, dq2, dq3, dq4⟩ := Kq2.out.of5
   go_wp2_with fail
   refine bodyPost_ret (v := .tuple #[.agg #[.int .i64 m, .int .i64 ip, .slice (some ⟨g, 0, none⟩) rs.length cap], .int .i64 0, .agg #[.int .i64 0, .int .i64 0, .int .i64 0, .int .i64 0, .int .i64 0, .string ⟨#[]⟩], .string ⟨#[]⟩]) (by simp [results, Tryz.results35, go_sem, cR0, cR1, cR2, cP0, cP1, cP2, cP3, cP4, cP5]) rfl ⟨rfl, (((((((((B2.out.setCell l_R _).setCell l_R _).setCell l_R _).setCell l_P _).setCell l_P _).setCell l_P _).setCell l_P _).setCell l_P _).setCell l_P _)⟩
  rw [if_pos hd]
  have hd' : (di != ip) = false := by simpa using hd
  clear hd
  have C2 := Lib.hid (fun w h => learnedN g 0 cap rs si sh w h hl hcap)
  have C3 := Lib.hid (fun w => arpReplyS k sh si th di m ip w)
  unfold NewS at C2
  cases hr : rpOk k sh si di m ip with
  | false =>
   rw [if_neg (by decide)]
   rw [rpV_no k sh si di m ip hr] at C3
   clear hr
   unfold ArpEndS
   simp only
   generalize learnE rs si sh = L at C2 ⊢
   change Calls _ _ _ w (ArpNew m ip L 0 ⟨#[]⟩ w)
   go_enter Tryz.func35, Tryz.ntmps35
   have B0 := Lib.hid (show Below w.heap.size w ((((w.alloc (.cells #[.int .i64 m, .int .i64 ip, .slice (some ⟨g, 0, none⟩) rs.length cap] 26)).alloc (.cells #[.int .i64 fd, .int .i64 fs, .int .i64 ft, .string fb] 38)).alloc (.cells #[.int .i64 0, .int .i64 0, .slice none 0 0] 26)).alloc (.cells #[.int .i64 0, .int .i64 0, .int .i64 0, .int .i64 0, .int .i64 0, .string ⟨#[]⟩] 30)) from (((((Below.refl _ w).alloc (by simp) _).alloc (by simp) _).alloc (by simp; omega) _).alloc (by simp; omega) _))
   have Kl0 := Lib.hid (show Blk ((((w.alloc (.cells #[.int .i64 m, .int .i64 ip, .slice (some ⟨g, 0, none⟩) rs.length cap] 26)).alloc (.cells #[.int .i64 fd, .int .i64 fs, .int .i64 ft, .string fb] 38)).alloc (.cells #[.int .i64 0, .int .i64 0, .slice none 0 0] 26)).alloc (.cells #[.int .i64 0, .int .i64 0, .int .i64 0, .int .i64 0, .int .i64 0, .string ⟨#[]⟩] 30)) (w.heap.size) [.int .i64 m, .int .i64 ip, .slice (some ⟨g, 0, none⟩) rs.length cap] from (((Blk.new w [.int .i64 m, .int .i64 ip, .slice (some ⟨g, 0, none⟩) rs.length cap] 26).alloc (.cells #[.int .i64 fd, .int .i64 fs, .int .i64 ft, .string fb] 38)).alloc (.cells #[.int .i64 0, .int .i64 0, .slice none 0 0] 26)).alloc (.cells #[.int .i64 0, .int .i64 0, .int .i64 0, .int .i64 0, .int .i64 0, .string ⟨#[]⟩] 30))
   have s1 : (w.alloc (.cells #[.int .i64 m, .int .i64 ip, .slice (some ⟨g, 0, none⟩) rs.length cap] 26)).heap.size = w.heap.size + 1 := by simp
   have Kf0 := Lib.hid (show Blk ((((w.alloc (.cells #[.int .i64 m, .int .i64 ip, .slice (some ⟨g, 0, none⟩) rs.length cap] 26)).alloc (.cells #[.int .i64 fd, .int .i64 fs, .int .i64 ft, .string fb] 38)).alloc (.cells #[.int .i64 0, .int .i64 0, .slice none 0 0] 26)).alloc (.cells #[.int .i64 0, .int .i64 0, .int .i64 0, .int .i64 0, .int .i64 0, .string ⟨#[]⟩] 30)) (w.heap.size + 1) [.int .i64 fd, .int .i64 fs, .int .i64 ft, .string fb] by have h0 := ((Blk.new (w.alloc (.cells #[.int .i64 m, .int .i64 ip, .slice (some ⟨g, 0, none⟩) rs.length cap] 26)) [.int .i64 fd, .int .i64 fs, .int .i64 ft, .string fb] 38).alloc (.cells #[.int .i64 0, .int .i64 0, .slice none 0 0] 26)).alloc (.cells #[.int .i64 0, .int .i64 0, .int .i64 0, .int .i64 0, .int .i64 0, .string ⟨#[]⟩] 30); rwa [s1] at h0)
   have n_l_f : w.heap.size ≠ w.heap.size + 1 := by omega
   have s2 : ((w.alloc (.cells #[.int .i64 m, .int .i64 ip, .slice (some ⟨g, 0, none⟩) rs.length cap] 26)).alloc (.cells #[.int .i64 fd, .int .i64 fs, .int .i64 ft, .string fb] 38)).heap.size = w.heap.size + 1 + 1 := by simp
   have KR0 := Lib.hid (show Blk ((((w.alloc (.cells #[.int .i64 m, .int .i64 ip, .slice (some ⟨g, 0, none⟩) rs.length cap] 26)).alloc (.cells #[.int .i64 fd, .int .i64 fs, .int .i64 ft, .string fb] 38)).alloc (.cells #[.int .i64 0, .int .i64 0, .slice none 0 0] 26)).alloc (.cells #[.int .i64 0, .int .i64 0, .int .i64 0, .int .i64 0, .int .i64 0, .string ⟨#[]⟩] 30)) (w.heap.size + 1 + 1) [.int .i64 0, .int .i64 0, .slice none 0 0] by have h0 := (Blk.new ((w.alloc (.cells #[.int .i64 m, .int .i64 ip, .slice (some ⟨g, 0, none⟩) rs.length cap] 26)).alloc (.cells #[.int .i64 fd, .int .i64 fs, .int .i64 ft, .string fb] 38)) [.int .i64 0, .int .i64 0, .slice none 0 0] 26).alloc (.cells #[.int .i64 0, .int .i64 0, .int .i64 0, .int .i64 0, .int .i64 0, .string ⟨#[]⟩] 30); rwa [s2] at h0)
   have n_l_R : w.heap.size ≠ w.heap.size + 1 + 1 := by omega
   have n_f_R : w.heap.size + 1 ≠ w.heap.size + 1 + 1 := by omega
   have s3 : (((w.alloc (.cells #[.int .i64 m, .int .i64 ip, .slice (some ⟨g, 0, none⟩) rs.length cap] 26)).alloc (.cells #[.int .i64 fd, .int .i64 fs, .int .i64 ft, .string fb] 38)).alloc (.cells #[.int .i64 0, .int .i64 0, .slice none 0 0] 26)).heap.size = w.heap.size + 1 + 1 + 1 := by simp
   have KP0 := Lib.hid (show Blk ((((w.alloc (.cells #[.int .i64 m, .int .i64 ip, .slice (some ⟨g, 0, none⟩) rs.length cap] 26)).alloc (.cells #[.int .i64 fd, .int .i64 fs, .int .i64 ft, .string fb] 38)).alloc (.cells #[.int .i64 0, .int .i64 0, .slice none 0 0] 26)).alloc (.cells #[.int .i64 0, .int .i64 0, .int .i64 0, .int .i64 0, .int .i64 0, .string ⟨#[]⟩] 30)) (w.heap.size + 1 + 1 + 1) [.int .i64 0, .int .i64 0, .int .i64 0, .int .i64 0, .int .i64 0, .string ⟨#[]⟩] by have h0 := Blk.new (((w.alloc (.cells #[.int .i64 m, .int .i64 ip, .slice (some ⟨g, 0, none⟩) rs.length cap] 26)).alloc (.cells #[.int .i64 fd, .int .i64 fs, .int .i64 ft, .string fb] 38)).alloc (.cells #[.int .i64 0, .int .i64 0, .slice none 0 0] 26)) [.int .i64 0, .int .i64 0, .int .i64 0, .int .i64 0, .int .i64 0, .string ⟨#[]⟩] 30; rwa [s3] at h0)
   have n_l_P : w.heap.size ≠ w.heap.size + 1 + 1 + 1 := by omega
   have n_f_P : w.heap.size + 1 ≠ w.heap.size + 1 + 1 + 1 := by omega
   have n_R_P : w.heap.size + 1 + 1 ≠ w.heap.size + 1 + 1 + 1 := by omega
   clear s1 s2 s3
   go_wp2_with fail
   change Calls _ _ _ ((((w.alloc (.cells #[.int .i64 m, .int .i64 ip, .slice (some ⟨g, 0, none⟩) rs.length cap] 26)).alloc (.cells #[.int .i64 fd, .int .i64 fs, .int .i64 ft, .string fb] 38)).alloc (.cells #[.int .i64 0, .int .i64 0, .slice none 0 0] 26)).alloc (.cells #[.int .i64 0, .int .i64 0, .int .i64 0, .int .i64 0, .int .i64 0, .string ⟨#[]⟩] 30)) _
   generalize (((w.alloc (.cells #[.int .i64 m, .int .i64 ip, .slice (some ⟨g, 0, none⟩) rs.length cap] 26)).alloc (.cells #[.int .i64 fd, .int .i64 fs, .int .i64 ft, .string fb] 38)).alloc (.cells #[.int .i64 0, .int .i64 0, .slice none 0 0] 26)).alloc (.cells #[.int .i64 0, .int .i64 0, .int .i64 0, .int .i64 0, .int .i64 0, .string ⟨#[]⟩] 30) = v0 at B0 Kl0 Kf0 KR0 KP0 ⊢
   generalize hh_P : w.heap.size + 1 + 1 + 1 = g_P at KP0 n_l_P n_f_P n_R_P ⊢
   generalize hh_R : w.heap.size + 1 + 1 = g_R at KR0 n_l_R n_f_R n_R_P ⊢
   generalize hh_f : w.heap.size + 1 = g_f at Kf0 n_l_f n_f_R n_f_P ⊢
   generalize hh_l : w.heap.size = g_l at Kl0 n_l_f n_l_R n_l_P ⊢
   have l_l : w.heap.size ≤ g_l := by omega
   have l_f : w.heap.size ≤ g_f := by omega
   have l_R : w.heap.size ≤ g_R := by omega
   have l_P : w.heap.size ≤ g_P := by omega
   clear hh_l hh_f hh_R hh_P
   refine (C1.out _).mono ?_
   rintro e v1 ⟨rfl, hb⟩
   have B1 := Lib.hid (B0.out.trans (hb.mono B0.out.size))
   have Kl1 := Lib.hid (Kl0.out.below hb)
   have Kf1 := Lib.hid (Kf0.out.below hb)
   have KR1 := Lib.hid (KR0.out.below hb)
   have KP1 := Lib.hid (KP0.out.below hb)
   clear hb B0 Kl0 Kf0 KR0 KP0
   have Kqn := Lib.hid (Blk.new v1 [.int .i64 k, .int .i64 sh, .int .i64 si, .int .i64 th, .int .i64 di] 96)
   have l_q : w.heap.size ≤ v1.heap.size := B1.out.size
   have n_l_q : g_l ≠ v1.heap.size := by have h1 := Kl1.out.lt; omega
   have n_f_q : g_f ≠ v1.heap.size := by have h1 := Kf1.out.lt; omega
   have n_R_q : g_R ≠ v1.heap.size := by have h1 := KR1.out.lt; omega
   have n_P_q : g_P ≠ v1.heap.size := by have h1 := KP1.out.lt; omega
   have Bn := Lib.hid (B1.out.alloc B1.out.size (.cells #[.int .i64 k, .int .i64 sh, .int .i64 si, .int .i64 th, .int .i64 di] 96))
   have Kln := Lib.hid (Kl1.out.alloc (.cells #[.int .i64 k, .int .i64 sh, .int .i64 si, .int .i64 th, .int .i64 di] 96))
   have Kfn := Lib.hid (Kf1.out.alloc (.cells #[.int .i64 k, .int .i64 sh, .int .i64 si, .int .i64 th, .int .i64 di] 96))
   have KRn := Lib.hid (KR1.out.alloc (.cells #[.int .i64 k, .int .i64 sh, .int .i64 si, .int .i64 th, .int .i64 di] 96))
   have KPn := Lib.hid (KP1.out.alloc (.cells #[.int .i64 k, .int .i64 sh, .int .i64 si, .int .i64 th, .int .i64 di] 96))
   clear B1 Kl1 Kf1 KR1 KP1
   obtain ⟨⟨cl0, cl1, cl2⟩, dl0, dl1, dl2⟩ := Kln.out.o3
   obtain ⟨⟨cf0, cf1, cf2, cf3⟩, df0, df1, df2, df3⟩ := Kfn.out.four
   obtain ⟨⟨cR0, cR1, cR2⟩, dR0, dR1, dR2⟩ := KRn.out.o3
   obtain ⟨⟨cP0, cP1, cP2, cP3, cP4, cP5⟩, dP0, dP1, dP2, dP3, dP4, dP5⟩ := KPn.out.of6
   go_upto_region 4 with fail
   clear cl0 cl1 cl2 dl0 dl1 dl2 cf0 cf1 cf2 cf3 df0 df1 df2 df3 cR0 cR1 cR2 dR0 dR1 dR2 cP0 cP1 cP2 cP3 cP4 cP5 dP0 dP1 dP2 dP3 dP4 dP5
   generalize v1.alloc (.cells #[.int .i64 k, .int .i64 sh, .int .i64 si, .int .i64 th, .int .i64 di] 96) = v2 at Kqn Bn Kln Kfn KRn KPn ⊢
   generalize v1.heap.size = g_q at Kqn l_q n_l_q n_f_q n_R_q n_P_q ⊢
   clear v1
   have Kl2 := Kln
   clear Kln
   have Kf2 := Kfn
   clear Kfn
   have KR2 := KRn
   clear KRn
   have KP2 := KPn
   clear KPn
   have Kq2 := Kqn
   clear Kqn
   have B2 := Bn
   clear Bn
   obtain ⟨⟨cl0, cl1, cl2⟩, dl0, dl1, dl2⟩ := Kl2.out.o3
   obtain ⟨⟨cq0, cq1, cq2, cq3, cq4⟩, dq0, dq1, dq2, dq3, dq4⟩ := Kq2.out.of5
   go_wp2_with fail
   clear cl0 cl1 cl2 dl0 dl1 dl2 cq0 cq1 cq2 cq3 cq4 dq0 dq1 dq2 dq3 dq4
   refine (C2.out _ ((HR.out.below B2.out).mono B2.out.size)).mono ?_
   rintro e v3 ⟨g_o, c_o, rfl, ho_o, hb⟩
   have n_l_o : g_l ≠ g_o := by have h1 := Kl2.out.lt; have h2 := (ho_o.lt g_o rfl).1; omega
   have n_f_o : g_f ≠ g_o := by have h1 := Kf2.out.lt; have h2 := (ho_o.lt g_o rfl).1; omega
   have n_R_o : g_R ≠ g_o := by have h1 := KR2.out.lt; have h2 := (ho_o.lt g_o rfl).1; omega
   have n_P_o : g_P ≠ g_o := by have h1 := KP2.out.lt; have h2 := (ho_o.lt g_o rfl).1; omega
   have n_q_o : g_q ≠ g_o := by have h1 := Kq2.out.lt; have h2 := (ho_o.lt g_o rfl).1; omega
   have l_o : w.heap.size ≤ g_o := Nat.le_trans B2.out.size (ho_o.lt g_o rfl).1
   have B3 := Lib.hid (B2.out.trans (hb.mono B2.out.size))
   have Kl3 := Lib.hid (Kl2.out.below hb)
   have Kf3 := Lib.hid (Kf2.out.below hb)
   have KR3 := Lib.hid (KR2.out.below hb)
   have KP3 := Lib.hid (KP2.out.below hb)
   have Kq3 := Lib.hid (Kq2.out.below hb)
   have Oo3 := Lib.hid (own_down ho_o (Nat.zero_le _))
   clear hb B2 Kl2 Kf2 KR2 KP2 Kq2 ho_o
   obtain ⟨⟨cl0, cl1, cl2⟩, dl0, dl1, dl2⟩ := Kl3.out.o3
   obtain ⟨⟨cf0, cf1, cf2, cf3⟩, df0, df1, df2, df3⟩ := Kf3.out.four
   obtain ⟨⟨cR0, cR1, cR2⟩, dR0, dR1, dR2⟩ := KR3.out.o3
   obtain ⟨⟨cP0, cP1, cP2, cP3, cP4, cP5⟩, dP0, dP1, dP2, dP3, dP4, dP5⟩ := KP3.out.of6
   obtain ⟨⟨cq0, cq1, cq2, cq3, cq4⟩, dq0, dq1, dq2, dq3, dq4⟩ := Kq3.out.of5
   have Kl4 := Lib.hid (show Blk (v3.setCell ⟨g_l, 2, none⟩ (.slice (some ⟨g_o, 0, none⟩) L.length c_o)) g_l [.int .i64 m, .int .i64 ip, .slice (some ⟨g_o, 0, none⟩) L.length c_o] from (Kl3.out.set 2 (.slice (some ⟨g_o, 0, none⟩) L.length c_o)))
   have Kf4 := Lib.hid (show Blk (v3.setCell ⟨g_l, 2, none⟩ (.slice (some ⟨g_o, 0, none⟩) L.length c_o)) g_f [.int .i64 fd, .int .i64 fs, .int .i64 ft, .string fb] from (Kf3.out.setOther ⟨g_l, 2, none⟩ (.slice (some ⟨g_o, 0, none⟩) L.length c_o) (fun e => n_l_f e.symm)))
   have KR4 := Lib.hid (show Blk (v3.setCell ⟨g_l, 2, none⟩ (.slice (some ⟨g_o, 0, none⟩) L.length c_o)) g_R [.int .i64 0, .int .i64 0, .slice none 0 0] from (KR3.out.setOther ⟨g_l, 2, none⟩ (.slice (some ⟨g_o, 0, none⟩) L.length c_o) (fun e => n_l_R e.symm)))
   have KP4 := Lib.hid (show Blk (v3.setCell ⟨g_l, 2, none⟩ (.slice (some ⟨g_o, 0, none⟩) L.length c_o)) g_P [.int .i64 0, .int .i64 0, .int .i64 0, .int .i64 0, .int .i64 0, .string ⟨#[]⟩] from (KP3.out.setOther ⟨g_l, 2, none⟩ (.slice (some ⟨g_o, 0, none⟩) L.length c_o) (fun e => n_l_P e.symm)))
   have Kq4 := Lib.hid (show Blk (v3.setCell ⟨g_l, 2, none⟩ (.slice (some ⟨g_o, 0, none⟩) L.length c_o)) g_q [.int .i64 k, .int .i64 sh, .int .i64 si, .int .i64 th, .int .i64 di] from (Kq3.out.setOther ⟨g_l, 2, none⟩ (.slice (some ⟨g_o, 0, none⟩) L.length c_o) (fun e => n_l_q e.symm)))
   have Oo4 := Lib.hid (own_set' Oo3.out 2 (.slice (some ⟨g_o, 0, none⟩) L.length c_o) (n_l_o))
   have B4 := Lib.hid (show Below w.heap.size w (v3.setCell ⟨g_l, 2, none⟩ (.slice (some ⟨g_o, 0, none⟩) L.length c_o)) from (B3.out.setCell l_l (.slice (some ⟨g_o, 0, none⟩) L.length c_o)))
   clear B3
   go_wp2_with fail
   clear Kl3 Kf3 KR3 KP3 Kq3 Oo3
   clear cl0 cl1 cl2 dl0 dl1 dl2 cf0 cf1 cf2 cf3 df0 df1 df2 df3 cR0 cR1 cR2 dR0 dR1 dR2 cP0 cP1 cP2 cP3 cP4 cP5 dP0 dP1 dP2 dP3 dP4 dP5 cq0 cq1 cq2 cq3 cq4 dq0 dq1 dq2 dq3 dq4
   change Calls _ _ _ (v3.setCell ⟨g_l, 2, none⟩ (.slice (some ⟨g_o, 0, none⟩) L.length c_o)) _
   generalize v3.setCell ⟨g_l, 2, none⟩ (.slice (some ⟨g_o, 0, none⟩) L.length c_o) = v4 at B4 Kl4 Kf4 KR4 KP4 Kq4 Oo4 ⊢
   refine (C3.out _).mono ?_
   rintro e v5 ⟨rfl, hb⟩
   have B5 := Lib.hid (B4.out.trans (hb.mono B4.out.size))
   have Kl5 := Lib.hid (Kl4.out.below hb)
   have Kf5 := Lib.hid (Kf4.out.below hb)
   have KR5 := Lib.hid (KR4.out.below hb)
   have KP5 := Lib.hid (KP4.out.below hb)
   have Kq5 := Lib.hid (Kq4.out.below hb)
   have Oo5 := Lib.hid (Oo4.out.kept (below_any (row := none) hb) (.inr (by simp [Value.ownBlock])))
   clear hb B4 Kl4 Kf4 KR4 KP4 Kq4 Oo4
   have Krn := Lib.hid (Blk.new v5 [.int .i64 0, .int .i64 0, .int .i64 0, .int .i64 0, .int .i64 0] 96)
   have l_r : w.heap.size ≤ v5.heap.size := B5.out.size
   have n_l_r : g_l ≠ v5.heap.size := by have h1 := Kl5.out.lt; omega
   have n_f_r : g_f ≠ v5.heap.size := by have h1 := Kf5.out.lt; omega
   have n_R_r : g_R ≠ v5.heap.size := by have h1 := KR5.out.lt; omega
   have n_P_r : g_P ≠ v5.heap.size := by have h1 := KP5.out.lt; omega
   have n_q_r : g_q ≠ v5.heap.size := by have h1 := Kq5.out.lt; omega
   have n_o_r : g_o ≠ v5.heap.size := by have h1 := (Oo5.out.lt g_o rfl).2; omega
   have Bn := Lib.hid (B5.out.alloc B5.out.size (.cells #[.int .i64 0, .int .i64 0, .int .i64 0, .int .i64 0, .int .i64 0] 96))
   have Kln := Lib.hid (Kl5.out.alloc (.cells #[.int .i64 0, .int .i64 0, .int .i64 0, .int .i64 0, .int .i64 0] 96))
   have Kfn := Lib.hid (Kf5.out.alloc (.cells #[.int .i64 0, .int .i64 0, .int .i64 0, .int .i64 0, .int .i64 0] 96))
   have KRn := Lib.hid (KR5.out.alloc (.cells #[.int .i64 0, .int .i64 0, .int .i64 0, .int .i64 0, .int .i64 0] 96))
   have KPn := Lib.hid (KP5.out.alloc (.cells #[.int .i64 0, .int .i64 0, .int .i64 0, .int .i64 0, .int .i64 0] 96))
   have Kqn := Lib.hid (Kq5.out.alloc (.cells #[.int .i64 0, .int .i64 0, .int .i64 0, .int .i64 0, .int .i64 0] 96))
   have Oon := Lib.hid (Oo5.out.alloc (.cells #[.int .i64 0, .int .i64 0, .int .i64 0, .int .i64 0, .int .i64 0] 96))
   clear B5 Kl5 Kf5 KR5 KP5 Kq5 Oo5
   obtain ⟨⟨cl0, cl1, cl2⟩, dl0, dl1, dl2⟩ := Kln.out.o3
   obtain ⟨⟨cf0, cf1, cf2, cf3⟩, df0, df1, df2, df3⟩ := Kfn.out.four
   obtain ⟨⟨cR0, cR1, cR2⟩, dR0, dR1, dR2⟩ := KRn.out.o3
   obtain ⟨⟨cP0, cP1, cP2, cP3, cP4, cP5⟩, dP0, dP1, dP2, dP3, dP4, dP5⟩ := KPn.out.of6
   obtain ⟨⟨cq0, cq1, cq2, cq3, cq4⟩, dq0, dq1, dq2, dq3, dq4⟩ := Kqn.out.of5
   go_upto_region 7 with fail
   clear cl0 cl1 cl2 dl0 dl1 dl2 cf0 cf1 cf2 cf3 df0 df1 df2 df3 cR0 cR1 cR2 dR0 dR1 dR2 cP0 cP1 cP2 cP3 cP4 cP5 dP0 dP1 dP2 dP3 dP4 dP5 cq0 cq1 cq2 cq3 cq4 dq0 dq1 dq2 dq3 dq4
   generalize v5.alloc (.cells #[.int .i64 0, .int .i64 0, .int .i64 0, .int .i64 0, .int .i64 0] 96) = v6 at Krn Bn Kln Kfn KRn KPn Kqn Oon ⊢
   generalize v5.heap.size = g_r at Krn l_r n_l_r n_f_r n_R_r n_P_r n_q_r n_o_r ⊢
   clear v5
   have Kl6 := Kln
   clear Kln
   have Kf6 := Kfn
   clear Kfn
   have KR6 := KRn
   clear KRn
   have KP6 := KPn
   clear KPn
   have Kq6 := Kqn
   clear Kqn
   have Kr6 := Krn
   clear Krn
   have Oo6 := Oon
   clear Oon
   have B6 := Bn
   clear Bn
   obtain ⟨⟨cl0, cl1, cl2⟩, dl0, dl1, dl2⟩ := Kl6.out.o3
   obtain ⟨⟨cf0, cf1, cf2, cf3⟩, df0, df1, df2, df3⟩ := Kf6.out.four
   obtain ⟨⟨cR0, cR1, cR2⟩, dR0, dR1, dR2⟩ := KR6.out.o3
   obtain ⟨⟨cP0, cP1, cP2, cP3, cP4, cP5⟩, dP0, dP1, dP2, dP3, dP4, dP5⟩ := KP6.out.of6
   obtain ⟨⟨cq0, cq1, cq2, cq3, cq4⟩, dq0, dq1, dq2, dq3, dq4⟩ := Kq6.out.of5
   obtain ⟨⟨cr0, cr1, cr2, cr3, cr4⟩, dr0, dr1, dr2, dr3, dr4⟩ := Kr6.out.of5
   go_wp2_with fail
   refine bodyPost_ret (v := .tuple #[.agg #[.int .i64 m, .int .i64 ip, .slice (some ⟨g_o, 0, none⟩) L.length c_o], .int .i64 0, .agg #[.int .i64 0, .int .i64 0, .int .i64 0, .int .i64 0, .int .i64 0, .string ⟨#[]⟩], .string ⟨#[]⟩]) (by simp [results, Tryz.results35, go_sem, cR0, cR1, cR2, cP0, cP1, cP2, cP3, cP4, cP5]) rfl ⟨g_o, c_o, rfl, own_up (own_set' (own_set' (own_set' (own_set' (own_set' (own_set' (own_set' (own_set' (own_set' Oo6.out 0 _ (n_R_o)) 1 _ (n_R_o)) 2 _ (n_R_o)) 0 _ (n_P_o)) 1 _ (n_P_o)) 2 _ (n_P_o)) 3 _ (n_P_o)) 4 _ (n_P_o)) 5 _ (n_P_o)) l_o, (((((((((B6.out.setCell l_R _).setCell l_R _).setCell l_R _).setCell l_P _).setCell l_P _).setCell l_P _).setCell l_P _).setCell l_P _).setCell l_P _)⟩
  | true =>
   rw [if_pos rfl]
   rw [rpV_yes k sh si di m ip hr] at C3
   clear hr
   have C4 := Lib.hid (fun w => arpTextS 2 m ip sh si w)
   have C5 := Lib.hid (fun w => frameTextS sh m 2054 (arpText 2 m ip sh si) w)
   generalize arpText 2 m ip sh si = y at C4 C5 ⊢
   generalize frameText sh m 2054 y = z at C5 ⊢
   unfold ArpEndS
   simp only
   generalize learnE rs si sh = L at C2 ⊢
   change Calls _ _ _ w (ArpNew m ip L 1 z w)
   go_enter Tryz.func35, Tryz.ntmps35
   have B0 := Lib.hid (show Below w.heap.size w ((((w.alloc (.cells #[.int .i64 m, .int .i64 ip, .slice (some ⟨g, 0, none⟩) rs.length cap] 26)).alloc (.cells #[.int .i64 fd, .int .i64 fs, .int .i64 ft, .string fb] 38)).alloc (.cells #[.int .i64 0, .int .i64 0, .slice none 0 0] 26)).alloc (.cells #[.int .i64 0, .int .i64 0, .int .i64 0, .int .i64 0, .int .i64 0, .string ⟨#[]⟩] 30)) from (((((Below.refl _ w).alloc (by simp) _).alloc (by simp) _).alloc (by simp; omega) _).alloc (by simp; omega) _))
   have Kl0 := Lib.hid (show Blk ((((w.alloc (.cells #[.int .i64 m, .int .i64 ip, .slice (some ⟨g, 0, none⟩) rs.length cap] 26)).alloc (.cells #[.int .i64 fd, .int .i64 fs, .int .i64 ft, .string fb] 38)).alloc (.cells #[.int .i64 0, .int .i64 0, .slice none 0 0] 26)).alloc (.cells #[.int .i64 0, .int .i64 0, .int .i64 0, .int .i64 0, .int .i64 0, .string ⟨#[]⟩] 30)) (w.heap.size) [.int .i64 m, .int .i64 ip, .slice (some ⟨g, 0, none⟩) rs.length cap] from (((Blk.new w [.int .i64 m, .int .i64 ip, .slice (some ⟨g, 0, none⟩) rs.length cap] 26).alloc (.cells #[.int .i64 fd, .int .i64 fs, .int .i64 ft, .string fb] 38)).alloc (.cells #[.int .i64 0, .int .i64 0, .slice none 0 0] 26)).alloc (.cells #[.int .i64 0, .int .i64 0, .int .i64 0, .int .i64 0, .int .i64 0, .string ⟨#[]⟩] 30))
   have s1 : (w.alloc (.cells #[.int .i64 m, .int .i64 ip, .slice (some ⟨g, 0, none⟩) rs.length cap] 26)).heap.size = w.heap.size + 1 := by simp
   have Kf0 := Lib.hid (show Blk ((((w.alloc (.cells #[.int .i64 m, .int .i64 ip, .slice (some ⟨g, 0, none⟩) rs.length cap] 26)).alloc (.cells #[.int .i64 fd, .int .i64 fs, .int .i64 ft, .string fb] 38)).alloc (.cells #[.int .i64 0, .int .i64 0, .slice none 0 0] 26)).alloc (.cells #[.int .i64 0, .int .i64 0, .int .i64 0, .int .i64 0, .int .i64 0, .string ⟨#[]⟩] 30)) (w.heap.size + 1) [.int .i64 fd, .int .i64 fs, .int .i64 ft, .string fb] by have h0 := ((Blk.new (w.alloc (.cells #[.int .i64 m, .int .i64 ip, .slice (some ⟨g, 0, none⟩) rs.length cap] 26)) [.int .i64 fd, .int .i64 fs, .int .i64 ft, .string fb] 38).alloc (.cells #[.int .i64 0, .int .i64 0, .slice none 0 0] 26)).alloc (.cells #[.int .i64 0, .int .i64 0, .int .i64 0, .int .i64 0, .int .i64 0, .string ⟨#[]⟩] 30); rwa [s1] at h0)
   have n_l_f : w.heap.size ≠ w.heap.size + 1 := by omega
   have s2 : ((w.alloc (.cells #[.int .i64 m, .int .i64 ip, .slice (some ⟨g, 0, none⟩) rs.length cap] 26)).alloc (.cells #[.int .i64 fd, .int .i64 fs, .int .i64 ft, .string fb] 38)).heap.size = w.heap.size + 1 + 1 := by simp
   have KR0 := Lib.hid (show Blk ((((w.alloc (.cells #[.int .i64 m, .int .i64 ip, .slice (some ⟨g, 0, none⟩) rs.length cap] 26)).alloc (.cells #[.int .i64 fd, .int .i64 fs, .int .i64 ft, .string fb] 38)).alloc (.cells #[.int .i64 0, .int .i64 0, .slice none 0 0] 26)).alloc (.cells #[.int .i64 0, .int .i64 0, .int .i64 0, .int .i64 0, .int .i64 0, .string ⟨#[]⟩] 30)) (w.heap.size + 1 + 1) [.int .i64 0, .int .i64 0, .slice none 0 0] by have h0 := (Blk.new ((w.alloc (.cells #[.int .i64 m, .int .i64 ip, .slice (some ⟨g, 0, none⟩) rs.length cap] 26)).alloc (.cells #[.int .i64 fd, .int .i64 fs, .int .i64 ft, .string fb] 38)) [.int .i64 0, .int .i64 0, .slice none 0 0] 26).alloc (.cells #[.int .i64 0, .int .i64 0, .int .i64 0, .int .i64 0, .int .i64 0, .string ⟨#[]⟩] 30); rwa [s2] at h0)
   have n_l_R : w.heap.size ≠ w.heap.size + 1 + 1 := by omega
   have n_f_R : w.heap.size + 1 ≠ w.heap.size + 1 + 1 := by omega
   have s3 : (((w.alloc (.cells #[.int .i64 m, .int .i64 ip, .slice (some ⟨g, 0, none⟩) rs.length cap] 26)).alloc (.cells #[.int .i64 fd, .int .i64 fs, .int .i64 ft, .string fb] 38)).alloc (.cells #[.int .i64 0, .int .i64 0, .slice none 0 0] 26)).heap.size = w.heap.size + 1 + 1 + 1 := by simp
   have KP0 := Lib.hid (show Blk ((((w.alloc (.cells #[.int .i64 m, .int .i64 ip, .slice (some ⟨g, 0, none⟩) rs.length cap] 26)).alloc (.cells #[.int .i64 fd, .int .i64 fs, .int .i64 ft, .string fb] 38)).alloc (.cells #[.int .i64 0, .int .i64 0, .slice none 0 0] 26)).alloc (.cells #[.int .i64 0, .int .i64 0, .int .i64 0, .int .i64 0, .int .i64 0, .string ⟨#[]⟩] 30)) (w.heap.size + 1 + 1 + 1) [.int .i64 0, .int .i64 0, .int .i64 0, .int .i64 0, .int .i64 0, .string ⟨#[]⟩] by have h0 := Blk.new (((w.alloc (.cells #[.int .i64 m, .int .i64 ip, .slice (some ⟨g, 0, none⟩) rs.length cap] 26)).alloc (.cells #[.int .i64 fd, .int .i64 fs, .int .i64 ft, .string fb] 38)).alloc (.cells #[.int .i64 0, .int .i64 0, .slice none 0 0] 26)) [.int .i64 0, .int .i64 0, .int .i64 0, .int .i64 0, .int .i64 0, .string ⟨#[]⟩] 30; rwa [s3] at h0)
   have n_l_P : w.heap.size ≠ w.heap.size + 1 + 1 + 1 := by omega
   have n_f_P : w.heap.size + 1 ≠ w.heap.size + 1 + 1 + 1 := by omega
   have n_R_P : w.heap.size + 1 + 1 ≠ w.heap.size + 1 + 1 + 1 := by omega
   clear s1 s2 s3
   go_wp2_with fail
   change Calls _ _ _ ((((w.alloc (.cells #[.int .i64 m, .int .i64 ip, .slice (some ⟨g, 0, none⟩) rs.length cap] 26)).alloc (.cells #[.int .i64 fd, .int .i64 fs, .int .i64 ft, .string fb] 38)).alloc (.cells #[.int .i64 0, .int .i64 0, .slice none 0 0] 26)).alloc (.cells #[.int .i64 0, .int .i64 0, .int .i64 0, .int .i64 0, .int .i64 0, .string ⟨#[]⟩] 30)) _
   generalize (((w.alloc (.cells #[.int .i64 m, .int .i64 ip, .slice (some ⟨g, 0, none⟩) rs.length cap] 26)).alloc (.cells #[.int .i64 fd, .int .i64 fs, .int .i64 ft, .string fb] 38)).alloc (.cells #[.int .i64 0, .int .i64 0, .slice none 0 0] 26)).alloc (.cells #[.int .i64 0, .int .i64 0, .int .i64 0, .int .i64 0, .int .i64 0, .string ⟨#[]⟩] 30) = v0 at B0 Kl0 Kf0 KR0 KP0 ⊢
   generalize hh_P : w.heap.size + 1 + 1 + 1 = g_P at KP0 n_l_P n_f_P n_R_P ⊢
   generalize hh_R : w.heap.size + 1 + 1 = g_R at KR0 n_l_R n_f_R n_R_P ⊢
   generalize hh_f : w.heap.size + 1 = g_f at Kf0 n_l_f n_f_R n_f_P ⊢
   generalize hh_l : w.heap.size = g_l at Kl0 n_l_f n_l_R n_l_P ⊢
   have l_l : w.heap.size ≤ g_l := by omega
   have l_f : w.heap.size ≤ g_f := by omega
   have l_R : w.heap.size ≤ g_R := by omega
   have l_P : w.heap.size ≤ g_P := by omega
   clear hh_l hh_f hh_R hh_P
   refine (C1.out _).mono ?_
   rintro e v1 ⟨rfl, hb⟩
   have B1 := Lib.hid (B0.out.trans (hb.mono B0.out.size))
   have Kl1 := Lib.hid (Kl0.out.below hb)
   have Kf1 := Lib.hid (Kf0.out.below hb)
   have KR1 := Lib.hid (KR0.out.below hb)
   have KP1 := Lib.hid (KP0.out.below hb)
   clear hb B0 Kl0 Kf0 KR0 KP0
   have Kqn := Lib.hid (Blk.new v1 [.int .i64 k, .int .i64 sh, .int .i64 si, .int .i64 th, .int .i64 di] 96)
   have l_q : w.heap.size ≤ v1.heap.size := B1.out.size
   have n_l_q : g_l ≠ v1.heap.size := by have h1 := Kl1.out.lt; omega
   have n_f_q : g_f ≠ v1.heap.size := by have h1 := Kf1.out.lt; omega
   have n_R_q : g_R ≠ v1.heap.size := by have h1 := KR1.out.lt; omega
   have n_P_q : g_P ≠ v1.heap.size := by have h1 := KP1.out.lt; omega
   have Bn := Lib.hid (B1.out.alloc B1.out.size (.cells #[.int .i64 k, .int .i64 sh, .int .i64 si, .int .i64 th, .int .i64 di] 96))
   have Kln := Lib.hid (Kl1.out.alloc (.cells #[.int .i64 k, .int .i64 sh, .int .i64 si, .int .i64 th, .int .i64 di] 96))
   have Kfn := Lib.hid (Kf1.out.alloc (.cells #[.int .i64 k, .int .i64 sh, .int .i64 si, .int .i64 th, .int .i64 di] 96))
   have KRn := Lib.hid (KR1.out.alloc (.cells #[.int .i64 k, .int .i64 sh, .int .i64 si, .int .i64 th, .int .i64 di] 96))
   have KPn := Lib.hid (KP1.out.alloc (.cells #[.int .i64 k, .int .i64 sh, .int .i64 si, .int .i64 th, .int .i64 di] 96))
   clear B1 Kl1 Kf1 KR1 KP1
   obtain ⟨⟨cl0, cl1, cl2⟩, dl0, dl1, dl2⟩ := Kln.out.o3
   obtain ⟨⟨cf0, cf1, cf2, cf3⟩, df0, df1, df2, df3⟩ := Kfn.out.four
   obtain ⟨⟨cR0, cR1, cR2⟩, dR0, dR1, dR2⟩ := KRn.out.o3
   obtain ⟨⟨cP0, cP1, cP2, cP3, cP4, cP5⟩, dP0, dP1, dP2, dP3, dP4, dP5⟩ := KPn.out.of6
   go_upto_region 4 with fail
   clear cl0 cl1 cl2 dl0 dl1 dl2 cf0 cf1 cf2 cf3 df0 df1 df2 df3 cR0 cR1 cR2 dR0 dR1 dR2 cP0 cP1 cP2 cP3 cP4 cP5 dP0 dP1 dP2 dP3 dP4 dP5
   generalize v1.alloc (.cells #[.int .i64 k, .int .i64 sh, .int .i64 si, .int .i64 th, .int .i64 di] 96) = v2 at Kqn Bn Kln Kfn KRn KPn ⊢
   generalize v1.heap.size = g_q at Kqn l_q n_l_q n_f_q n_R_q n_P_q ⊢
   clear v1
   have Kl2 := Kln
   clear Kln
   have Kf2 := Kfn
   clear Kfn
   have KR2 := KRn
   clear KRn
   have KP2 := KPn
   clear KPn
   have Kq2 := Kqn
   clear Kqn
   have B2 := Bn
   clear Bn
   obtain ⟨⟨cl0, cl1, cl2⟩, dl0, dl1, dl2⟩ := Kl2.out.o3
   obtain ⟨⟨cq0, cq1, cq2, cq3, cq4⟩, dq0, dq1, dq2, dq3, dq4⟩ := Kq2.out.of5
   go_wp2_with fail
   clear cl0 cl1 cl2 dl0 dl1 dl2 cq0 cq1 cq2 cq3 cq4 dq0 dq1 dq2 dq3 dq4
   refine (C2.out _ ((HR.out.below B2.out).mono B2.out.size)).mono ?_
   rintro e v3 ⟨g_o, c_o, rfl, ho_o, hb⟩
   have n_l_o : g_l ≠ g_o := by have h1 := Kl2.out.lt; have h2 := (ho_o.lt g_o rfl).1; omega
   have n_f_o : g_f ≠ g_o := by have h1 := Kf2.out.lt; have h2 := (ho_o.lt g_o rfl).1; omega
   have n_R_o : g_R ≠ g_o := by have h1 := KR2.out.lt; have h2 := (ho_o.lt g_o rfl).1; omega
   have n_P_o : g_P ≠ g_o := by have h1 := KP2.out.lt; have h2 := (ho_o.lt g_o rfl).1; omega
   have n_q_o : g_q ≠ g_o := by have h1 := Kq2.out.lt; have h2 := (ho_o.lt g_o rfl).1; omega
   have l_o : w.heap.size ≤ g_o := Nat.le_trans B2.out.size (ho_o.lt g_o rfl).1
   have B3 := Lib.hid (B2.out.trans (hb.mono B2.out.size))
   have Kl3 := Lib.hid (Kl2.out.below hb)
   have Kf3 := Lib.hid (Kf2.out.below hb)
   have KR3 := Lib.hid (KR2.out.below hb)
   have KP3 := Lib.hid (KP2.out.below hb)
   have Kq3 := Lib.hid (Kq2.out.below hb)
   have Oo3 := Lib.hid (own_down ho_o (Nat.zero_le _))
   clear hb B2 Kl2 Kf2 KR2 KP2 Kq2 ho_o
   obtain ⟨⟨cl0, cl1, cl2⟩, dl0, dl1, dl2⟩ := Kl3.out.o3
   obtain ⟨⟨cf0, cf1, cf2, cf3⟩, df0, df1, df2, df3⟩ := Kf3.out.four
   obtain ⟨⟨cR0, cR1, cR2⟩, dR0, dR1, dR2⟩ := KR3.out.o3
   obtain ⟨⟨cP0, cP1, cP2, cP3, cP4, cP5⟩, dP0, dP1, dP2, dP3, dP4, dP5⟩ := KP3.out.of6
   obtain ⟨⟨cq0, cq1, cq2, cq3, cq4⟩, dq0, dq1, dq2, dq3, dq4⟩ := Kq3.out.of5
   have Kl4 := Lib.hid (show Blk (v3.setCell ⟨g_l, 2, none⟩ (.slice (some ⟨g_o, 0, none⟩) L.length c_o)) g_l [.int .i64 m, .int .i64 ip, .slice (some ⟨g_o, 0, none⟩) L.length c_o] from (Kl3.out.set 2 (.slice (some ⟨g_o, 0, none⟩) L.length c_o)))
   have Kf4 := Lib.hid (show Blk (v3.setCell ⟨g_l, 2, none⟩ (.slice (some ⟨g_o, 0, none⟩) L.length c_o)) g_f [.int .i64 fd, .int .i64 fs, .int .i64 ft, .string fb] from (Kf3.out.setOther ⟨g_l, 2, none⟩ (.slice (some ⟨g_o, 0, none⟩) L.length c_o) (fun e => n_l_f e.symm)))
   have KR4 := Lib.hid (show Blk (v3.setCell ⟨g_l, 2, none⟩ (.slice (some ⟨g_o, 0, none⟩) L.length c_o)) g_R [.int .i64 0, .int .i64 0, .slice none 0 0] from (KR3.out.setOther ⟨g_l, 2, none⟩ (.slice (some ⟨g_o, 0, none⟩) L.length c_o) (fun e => n_l_R e.symm)))
   have KP4 := Lib.hid (show Blk (v3.setCell ⟨g_l, 2, none⟩ (.slice (some ⟨g_o, 0, none⟩) L.length c_o)) g_P [.int .i64 0, .int .i64 0, .int .i64 0, .int .i64 0, .int .i64 0, .string ⟨#[]⟩] from (KP3.out.setOther ⟨g_l, 2, none⟩ (.slice (some ⟨g_o, 0, none⟩) L.length c_o) (fun e => n_l_P e.symm)))
   have Kq4 := Lib.hid (show Blk (v3.setCell ⟨g_l, 2, none⟩ (.slice (some ⟨g_o, 0, none⟩) L.length c_o)) g_q [.int .i64 k, .int .i64 sh, .int .i64 si, .int .i64 th, .int .i64 di] from (Kq3.out.setOther ⟨g_l, 2, none⟩ (.slice (some ⟨g_o, 0, none⟩) L.length c_o) (fun e => n_l_q e.symm)))
   have Oo4 := Lib.hid (own_set' Oo3.out 2 (.slice (some ⟨g_o, 0, none⟩) L.length c_o) (n_l_o))
   have B4 := Lib.hid (show Below w.heap.size w (v3.setCell ⟨g_l, 2, none⟩ (.slice (some ⟨g_o, 0, none⟩) L.length c_o)) from (B3.out.setCell l_l (.slice (some ⟨g_o, 0, none⟩) L.length c_o)))
   clear B3
   go_wp2_with fail
   clear Kl3 Kf3 KR3 KP3 Kq3 Oo3
   clear cl0 cl1 cl2 dl0 dl1 dl2 cf0 cf1 cf2 cf3 df0 df1 df2 df3 cR0 cR1 cR2 dR0 dR1 dR2 cP0 cP1 cP2 cP3 cP4 cP5 dP0 dP1 dP2 dP3 dP4 dP5 cq0 cq1 cq2 cq3 cq4 dq0 dq1 dq2 dq3 dq4
   change Calls _ _ _ (v3.setCell ⟨g_l, 2, none⟩ (.slice (some ⟨g_o, 0, none⟩) L.length c_o)) _
   generalize v3.setCell ⟨g_l, 2, none⟩ (.slice (some ⟨g_o, 0, none⟩) L.length c_o) = v4 at B4 Kl4 Kf4 KR4 KP4 Kq4 Oo4 ⊢
   refine (C3.out _).mono ?_
   rintro e v5 ⟨rfl, hb⟩
   have B5 := Lib.hid (B4.out.trans (hb.mono B4.out.size))
   have Kl5 := Lib.hid (Kl4.out.below hb)
   have Kf5 := Lib.hid (Kf4.out.below hb)
   have KR5 := Lib.hid (KR4.out.below hb)
   have KP5 := Lib.hid (KP4.out.below hb)
   have Kq5 := Lib.hid (Kq4.out.below hb)
   have Oo5 := Lib.hid (Oo4.out.kept (below_any (row := none) hb) (.inr (by simp [Value.ownBlock])))
   clear hb B4 Kl4 Kf4 KR4 KP4 Kq4 Oo4
   have Krn := Lib.hid (Blk.new v5 [.int .i64 2, .int .i64 m, .int .i64 ip, .int .i64 sh, .int .i64 si] 96)
   have l_r : w.heap.size ≤ v5.heap.size := B5.out.size
   have n_l_r : g_l ≠ v5.heap.size := by have h1 := Kl5.out.lt; omega
   have n_f_r : g_f ≠ v5.heap.size := by have h1 := Kf5.out.lt; omega
   have n_R_r : g_R ≠ v5.heap.size := by have h1 := KR5.out.lt; omega
   have n_P_r : g_P ≠ v5.heap.size := by have h1 := KP5.out.lt; omega
   have n_q_r : g_q ≠ v5.heap.size := by have h1 := Kq5.out.lt; omega
   have n_o_r : g_o ≠ v5.heap.size := by have h1 := (Oo5.out.lt g_o rfl).2; omega
   have Bn := Lib.hid (B5.out.alloc B5.out.size (.cells #[.int .i64 2, .int .i64 m, .int .i64 ip, .int .i64 sh, .int .i64 si] 96))
   have Kln := Lib.hid (Kl5.out.alloc (.cells #[.int .i64 2, .int .i64 m, .int .i64 ip, .int .i64 sh, .int .i64 si] 96))
   have Kfn := Lib.hid (Kf5.out.alloc (.cells #[.int .i64 2, .int .i64 m, .int .i64 ip, .int .i64 sh, .int .i64 si] 96))
   have KRn := Lib.hid (KR5.out.alloc (.cells #[.int .i64 2, .int .i64 m, .int .i64 ip, .int .i64 sh, .int .i64 si] 96))
   have KPn := Lib.hid (KP5.out.alloc (.cells #[.int .i64 2, .int .i64 m, .int .i64 ip, .int .i64 sh, .int .i64 si] 96))
   have Kqn := Lib.hid (Kq5.out.alloc (.cells #[.int .i64 2, .int .i64 m, .int .i64 ip, .int .i64 sh, .int .i64 si] 96))
   have Oon := Lib.hid (Oo5.out.alloc (.cells #[.int .i64 2, .int .i64 m, .int .i64 ip, .int .i64 sh, .int .i64 si] 96))
   clear B5 Kl5 Kf5 KR5 KP5 Kq5 Oo5
   obtain ⟨⟨cl0, cl1, cl2⟩, dl0, dl1, dl2⟩ := Kln.out.o3
   obtain ⟨⟨cf0, cf1, cf2, cf3⟩, df0, df1, df2, df3⟩ := Kfn.out.four
   obtain ⟨⟨cR0, cR1, cR2⟩, dR0, dR1, dR2⟩ := KRn.out.o3
   obtain ⟨⟨cP0, cP1, cP2, cP3, cP4, cP5⟩, dP0, dP1, dP2, dP3, dP4, dP5⟩ := KPn.out.of6
   obtain ⟨⟨cq0, cq1, cq2, cq3, cq4⟩, dq0, dq1, dq2, dq3, dq4⟩ := Kqn.out.of5
   go_upto_region 8 with fail
   clear cl0 cl1 cl2 dl0 dl1 dl2 cf0 cf1 cf2 cf3 df0 df1 df2 df3 cR0 cR1 cR2 dR0 dR1 dR2 cP0 cP1 cP2 cP3 cP4 cP5 dP0 dP1 dP2 dP3 dP4 dP5 cq0 cq1 cq2 cq3 cq4 dq0 dq1 dq2 dq3 dq4
   generalize v5.alloc (.cells #[.int .i64 2, .int .i64 m, .int .i64 ip, .int .i64 sh, .int .i64 si] 96) = v6 at Krn Bn Kln Kfn KRn KPn Kqn Oon ⊢
   generalize v5.heap.size = g_r at Krn l_r n_l_r n_f_r n_R_r n_P_r n_q_r n_o_r ⊢
   clear v5
   have Kl6 := Kln
   clear Kln
   have Kf6 := Kfn
   clear Kfn
   have KR6 := KRn
   clear KRn
   have KP6 := KPn
   clear KPn
   have Kq6 := Kqn
   clear Kqn
   have Kr6 := Krn
   clear Krn
   have Oo6 := Oon
   clear Oon
   have B6 := Bn
   clear Bn
   refine wp_region_noPanic ?_
   refine wp_region_held_drew (S := fun w' => Blk w' g_l [.int .i64 m, .int .i64 ip, .slice (some ⟨g_o, 0, none⟩) L.length c_o] ∧ Blk w' g_q [.int .i64 k, .int .i64 sh, .int .i64 si, .int .i64 th, .int .i64 di] ∧ Blk w' g_r [.int .i64 2, .int .i64 m, .int .i64 ip, .int .i64 sh, .int .i64 si]) (by kernel_rfl) ⟨Kl6.out, Kq6.out, Kr6.out⟩ (fun hS => ?_)
   refine wpAnyH_take (i := 0) (v := .agg #[.int .i64 m, .int .i64 ip, .slice (some ⟨g_o, 0, none⟩) L.length c_o]) rfl (by kernel_rfl) (by kernel_rfl) (by kernel_rfl) (fun _ _ _ h => h) (Or.inl ⟨rfl, by intro w hS; obtain ⟨⟨h0, h1, h2⟩, _⟩ := hS.1.o3; go_simp⟩) hS ?_
   refine wpAnyH_take (i := 1) (v := .agg #[.int .i64 0, .int .i64 0, .int .i64 0, .int .i64 0, .int .i64 0, .string ⟨#[]⟩]) rfl (by kernel_rfl) (by kernel_rfl) (by kernel_rfl) (fun _ _ _ h => h) (Or.inl ⟨rfl, by intro w hS; go_simp⟩) hS ?_
   refine wpAnyH_take (i := 2) (v := .pointer (some ⟨g_q, 1, none⟩)) rfl (by kernel_rfl) (by kernel_rfl) (by kernel_rfl) (fun _ _ _ h => h) (Or.inl ⟨rfl, by intro w hS; go_simp⟩) hS ?_
   refine wpAnyH_take (i := 3) (v := .int .i64 sh) rfl (by kernel_rfl) (by kernel_rfl) (by kernel_rfl) (fun _ _ _ h => h) (Or.inl ⟨rfl, by intro w hS; obtain ⟨⟨h0, h1, h2, h3, h4⟩, _⟩ := hS.2.1.of5; go_simp⟩) hS ?_
   refine wpAnyH_take (i := 4) (v := .pointer (some ⟨g_l, 0, none⟩)) rfl (by kernel_rfl) (by kernel_rfl) (by kernel_rfl) (fun _ _ _ h => h) (Or.inl ⟨rfl, by intro w hS; go_simp⟩) hS ?_
   refine wpAnyH_take (i := 5) (v := .int .i64 m) rfl (by kernel_rfl) (by kernel_rfl) (by kernel_rfl) (fun _ _ _ h => h) (Or.inl ⟨rfl, by intro w hS; obtain ⟨⟨h0, h1, h2⟩, _⟩ := hS.1.o3; go_simp⟩) hS ?_
   refine wpAnyH_take (i := 6) (v := .agg #[.int .i64 2, .int .i64 m, .int .i64 ip, .int .i64 sh, .int .i64 si]) rfl (by kernel_rfl) (by kernel_rfl) (by kernel_rfl) (fun _ _ _ h => h) (Or.inl ⟨rfl, by intro w hS; obtain ⟨⟨h0, h1, h2, h3, h4⟩, _⟩ := hS.2.2.of5; go_simp⟩) hS ?_
   refine wpAnyH_ready (rs := [7]) (by kernel_rfl) (by simp) ?_
   refine AllReadyH.cons (i := 7) rfl (fun K hK => ?zr4) AllReadyH.nil
   rw [if_pos (by rfl)]
   go_simp
   clear hS
   refine (C4.out _).mono ?_
   rintro e v7 ⟨rfl, hb⟩
   replace hb := (Below.refl _ v6).drew.trans hb
   have B7 := Lib.hid (B6.out.trans (hb.mono B6.out.size))
   have Kl7 := Lib.hid (Kl6.out.below hb)
   have Kf7 := Lib.hid (Kf6.out.below hb)
   have KR7 := Lib.hid (KR6.out.below hb)
   have KP7 := Lib.hid (KP6.out.below hb)
   have Kq7 := Lib.hid (Kq6.out.below hb)
   have Kr7 := Lib.hid (Kr6.out.below hb)
   have Oo7 := Lib.hid (Oo6.out.kept (below_any (row := none) hb) (.inr (by simp [Value.ownBlock])))
   clear hb B6 Kl6 Kf6 KR6 KP6 Kq6 Kr6 Oo6
   refine hK.out _ _ ⟨Kl7.out, Kq7.out, Kr7.out⟩ (fun hS => ?_)
   clear hK K
   refine wpAnyH_take (i := 8) (v := .agg #[.int .i64 sh, .int .i64 m, .int .i64 2054, .string y]) rfl (by kernel_rfl) (by kernel_rfl) (by kernel_rfl) (fun _ _ _ h => h) (Or.inl ⟨rfl, by intro w hS; go_simp⟩) hS ?_
   refine wpAnyH_ready (rs := [9]) (by kernel_rfl) (by simp) ?_
   refine AllReadyH.cons (i := 9) rfl (fun K hK => ?zr5) AllReadyH.nil
   rw [if_pos (by rfl)]
   go_simp
   clear hS
   refine (C5.out _).mono ?_
   rintro e v8 ⟨rfl, hb⟩
   have B8 := Lib.hid (B7.out.trans (hb.mono B7.out.size))
   have Kl8 := Lib.hid (Kl7.out.below hb)
   have Kf8 := Lib.hid (Kf7.out.below hb)
   have KR8 := Lib.hid (KR7.out.below hb)
   have KP8 := Lib.hid (KP7.out.below hb)
   have Kq8 := Lib.hid (Kq7.out.below hb)
   have Kr8 := Lib.hid (Kr7.out.below hb)
   have Oo8 := Lib.hid (Oo7.out.kept (below_any (row := none) hb) (.inr (by simp [Value.ownBlock])))
   clear hb B7 Kl7 Kf7 KR7 KP7 Kq7 Kr7 Oo7
   refine hK.out _ _ ⟨Kl8.out, Kq8.out, Kr8.out⟩ (fun hS => ?_)
   clear hK K
   obtain ⟨⟨cR0, cR1, cR2⟩, dR0, dR1, dR2⟩ := KR8.out.o3
   refine wpAnyH_ready (rs := [10]) (by kernel_rfl) (by simp) ?_
   refine AllReadyH.cons (i := 10) rfl (fun K hK => ?zr6) AllReadyH.nil
   rw [if_pos (by rfl)]
   go_simp
   clear hS
   have Kl9 := Lib.hid (show Blk (((v8.setCell ⟨g_R, 0, none⟩ (.int .i64 m)).setCell ⟨g_R, 1, none⟩ (.int .i64 ip)).setCell ⟨g_R, 2, none⟩ (.slice (some ⟨g_o, 0, none⟩) L.length c_o)) g_l [.int .i64 m, .int .i64 ip, .slice (some ⟨g_o, 0, none⟩) L.length c_o] from (((Kl8.out.setOther ⟨g_R, 0, none⟩ (.int .i64 m) (n_l_R)).setOther ⟨g_R, 1, none⟩ (.int .i64 ip) (n_l_R)).setOther ⟨g_R, 2, none⟩ (.slice (some ⟨g_o, 0, none⟩) L.length c_o) (n_l_R)))
   have Kf9 := Lib.hid (show Blk (((v8.setCell ⟨g_R, 0, none⟩ (.int .i64 m)).setCell ⟨g_R, 1, none⟩ (.int .i64 ip)).setCell ⟨g_R, 2, none⟩ (.slice (some ⟨g_o, 0, none⟩) L.length c_o)) g_f [.int .i64 fd, .int .i64 fs, .int .i64 ft, .string fb] from (((Kf8.out.setOther ⟨g_R, 0, none⟩ (.int .i64 m) (n_f_R)).setOther ⟨g_R, 1, none⟩ (.int .i64 ip) (n_f_R)).setOther ⟨g_R, 2, none⟩ (.slice (some ⟨g_o, 0, none⟩) L.length c_o) (n_f_R)))
   have KR9 := Lib.hid (show Blk (((v8.setCell ⟨g_R, 0, none⟩ (.int .i64 m)).setCell ⟨g_R, 1, none⟩ (.int .i64 ip)).setCell ⟨g_R, 2, none⟩ (.slice (some ⟨g_o, 0, none⟩) L.length c_o)) g_R [.int .i64 m, .int .i64 ip, .slice (some ⟨g_o, 0, none⟩) L.length c_o] from (((KR8.out.set 0 (.int .i64 m)).set 1 (.int .i64 ip)).set 2 (.slice (some ⟨g_o, 0, none⟩) L.length c_o)))
   have KP9 := Lib.hid (show Blk (((v8.setCell ⟨g_R, 0, none⟩ (.int .i64 m)).setCell ⟨g_R, 1, none⟩ (.int .i64 ip)).setCell ⟨g_R, 2, none⟩ (.slice (some ⟨g_o, 0, none⟩) L.length c_o)) g_P [.int .i64 0, .int .i64 0, .int .i64 0, .int .i64 0, .int .i64 0, .string ⟨#[]⟩] from (((KP8.out.setOther ⟨g_R, 0, none⟩ (.int .i64 m) (fun e => n_R_P e.symm)).setOther ⟨g_R, 1, none⟩ (.int .i64 ip) (fun e => n_R_P e.symm)).setOther ⟨g_R, 2, none⟩ (.slice (some ⟨g_o, 0, none⟩) L.length c_o) (fun e => n_R_P e.symm)))
   have Kq9 := Lib.hid (show Blk (((v8.setCell ⟨g_R, 0, none⟩ (.int .i64 m)).setCell ⟨g_R, 1, none⟩ (.int .i64 ip)).setCell ⟨g_R, 2, none⟩ (.slice (some ⟨g_o, 0, none⟩) L.length c_o)) g_q [.int .i64 k, .int .i64 sh, .int .i64 si, .int .i64 th, .int .i64 di] from (((Kq8.out.setOther ⟨g_R, 0, none⟩ (.int .i64 m) (fun e => n_R_q e.symm)).setOther ⟨g_R, 1, none⟩ (.int .i64 ip) (fun e => n_R_q e.symm)).setOther ⟨g_R, 2, none⟩ (.slice (some ⟨g_o, 0, none⟩) L.length c_o) (fun e => n_R_q e.symm)))
   have Kr9 := Lib.hid (show Blk (((v8.setCell ⟨g_R, 0, none⟩ (.int .i64 m)).setCell ⟨g_R, 1, none⟩ (.int .i64 ip)).setCell ⟨g_R, 2, none⟩ (.slice (some ⟨g_o, 0, none⟩) L.length c_o)) g_r [.int .i64 2, .int .i64 m, .int .i64 ip, .int .i64 sh, .int .i64 si] from (((Kr8.out.setOther ⟨g_R, 0, none⟩ (.int .i64 m) (fun e => n_R_r e.symm)).setOther ⟨g_R, 1, none⟩ (.int .i64 ip) (fun e => n_R_r e.symm)).setOther ⟨g_R, 2, none⟩ (.slice (some ⟨g_o, 0, none⟩) L.length c_o) (fun e => n_R_r e.symm)))
   have B9 := Lib.hid (show Below w.heap.size w (((v8.setCell ⟨g_R, 0, none⟩ (.int .i64 m)).setCell ⟨g_R, 1, none⟩ (.int .i64 ip)).setCell ⟨g_R, 2, none⟩ (.slice (some ⟨g_o, 0, none⟩) L.length c_o)) from (((B8.out.setCell l_R (.int .i64 m)).setCell l_R (.int .i64 ip)).setCell l_R (.slice (some ⟨g_o, 0, none⟩) L.length c_o)))
   have Oo9 := Lib.hid (own_set' (own_set' (own_set' Oo8.out 0 (.int .i64 m) (n_R_o)) 1 (.int .i64 ip) (n_R_o)) 2 (.slice (some ⟨g_o, 0, none⟩) L.length c_o) (n_R_o))
   refine hK.out _ _ ⟨Kl9.out, Kq9.out, Kr9.out⟩ (fun hS => ?_)
   clear hK K B8 cR0 cR1 cR2 dR0 dR1 dR2 Kl8 Kf8 KR8 KP8 Kq8 Kr8 Oo8
   generalize ((v8.setCell ⟨g_R, 0, none⟩ (.int .i64 m)).setCell ⟨g_R, 1, none⟩ (.int .i64 ip)).setCell ⟨g_R, 2, none⟩ (.slice (some ⟨g_o, 0, none⟩) L.length c_o) = v9 at hS Kl9 Kf9 KR9 KP9 Kq9 Kr9 Oo9 B9 ⊢
   refine wpAnyH_take (i := 11) (v := .int .i64 1) rfl (by kernel_rfl) (by kernel_rfl) (by kernel_rfl) (fun _ _ _ h => h) (Or.inl ⟨rfl, by intro w hS; go_simp⟩) hS ?_
   obtain ⟨⟨cP0, cP1, cP2, cP3, cP4, cP5⟩, dP0, dP1, dP2, dP3, dP4, dP5⟩ := KP9.out.of6
   refine wpAnyH_ready (rs := [12]) (by kernel_rfl) (by simp) ?_
   refine AllReadyH.cons (i := 12) rfl (fun K hK => ?zr7) AllReadyH.nil
   rw [if_pos (by rfl)]
   go_simp
   clear hS
   have Kl10 := Lib.hid (show Blk ((((((v9.setCell ⟨g_P, 0, none⟩ (.int .i64 0)).setCell ⟨g_P, 1, none⟩ (.int .i64 0)).setCell ⟨g_P, 2, none⟩ (.int .i64 0)).setCell ⟨g_P, 3, none⟩ (.int .i64 0)).setCell ⟨g_P, 4, none⟩ (.int .i64 0)).setCell ⟨g_P, 5, none⟩ (.string ⟨#[]⟩)) g_l [.int .i64 m, .int .i64 ip, .slice (some ⟨g_o, 0, none⟩) L.length c_o] from ((((((Kl9.out.setOther ⟨g_P, 0, none⟩ (.int .i64 0) (n_l_P)).setOther ⟨g_P, 1, none⟩ (.int .i64 0) (n_l_P)).setOther ⟨g_P, 2, none⟩ (.int .i64 0) (n_l_P)).setOther ⟨g_P, 3, none⟩ (.int .i64 0) (n_l_P)).setOther ⟨g_P, 4, none⟩ (.int .i64 0) (n_l_P)).setOther ⟨g_P, 5, none⟩ (.string ⟨#[]⟩) (n_l_P)))
   have Kf10 := Lib.hid (show Blk ((((((v9.setCell ⟨g_P, 0, none⟩ (.int .i64 0)).setCell ⟨g_P, 1, none⟩ (.int .i64 0)).setCell ⟨g_P, 2, none⟩ (.int .i64 0)).setCell ⟨g_P, 3, none⟩ (.int .i64 0)).setCell ⟨g_P, 4, none⟩ (.int .i64 0)).setCell ⟨g_P, 5, none⟩ (.string ⟨#[]⟩)) g_f [.int .i64 fd, .int .i64 fs, .int .i64 ft, .string fb] from ((((((Kf9.out.setOther ⟨g_P, 0, none⟩ (.int .i64 0) (n_f_P)).setOther ⟨g_P, 1, none⟩ (.int .i64 0) (n_f_P)).setOther ⟨g_P, 2, none⟩ (.int .i64 0) (n_f_P)).setOther ⟨g_P, 3, none⟩ (.int .i64 0) (n_f_P)).setOther ⟨g_P, 4, none⟩ (.int .i64 0) (n_f_P)).setOther ⟨g_P, 5, none⟩ (.string ⟨#[]⟩) (n_f_P)))
   have KR10 := Lib.hid (show Blk ((((((v9.setCell ⟨g_P, 0, none⟩ (.int .i64 0)).setCell ⟨g_P, 1, none⟩ (.int .i64 0)).setCell ⟨g_P, 2, none⟩ (.int .i64 0)).setCell ⟨g_P, 3, none⟩ (.int .i64 0)).setCell ⟨g_P, 4, none⟩ (.int .i64 0)).setCell ⟨g_P, 5, none⟩ (.string ⟨#[]⟩)) g_R [.int .i64 m, .int .i64 ip, .slice (some ⟨g_o, 0, none⟩) L.length c_o] from ((((((KR9.out.setOther ⟨g_P, 0, none⟩ (.int .i64 0) (n_R_P)).setOther ⟨g_P, 1, none⟩ (.int .i64 0) (n_R_P)).setOther ⟨g_P, 2, none⟩ (.int .i64 0) (n_R_P)).setOther ⟨g_P, 3, none⟩ (.int .i64 0) (n_R_P)).setOther ⟨g_P, 4, none⟩ (.int .i64 0) (n_R_P)).setOther ⟨g_P, 5, none⟩ (.string ⟨#[]⟩) (n_R_P)))
   have KP10 := Lib.hid (show Blk ((((((v9.setCell ⟨g_P, 0, none⟩ (.int .i64 0)).setCell ⟨g_P, 1, none⟩ (.int .i64 0)).setCell ⟨g_P, 2, none⟩ (.int .i64 0)).setCell ⟨g_P, 3, none⟩ (.int .i64 0)).setCell ⟨g_P, 4, none⟩ (.int .i64 0)).setCell ⟨g_P, 5, none⟩ (.string ⟨#[]⟩)) g_P [.int .i64 0, .int .i64 0, .int .i64 0, .int .i64 0, .int .i64 0, .string ⟨#[]⟩] from ((((((KP9.out.set 0 (.int .i64 0)).set 1 (.int .i64 0)).set 2 (.int .i64 0)).set 3 (.int .i64 0)).set 4 (.int .i64 0)).set 5 (.string ⟨#[]⟩)))
   have Kq10 := Lib.hid (show Blk ((((((v9.setCell ⟨g_P, 0, none⟩ (.int .i64 0)).setCell ⟨g_P, 1, none⟩ (.int .i64 0)).setCell ⟨g_P, 2, none⟩ (.int .i64 0)).setCell ⟨g_P, 3, none⟩ (.int .i64 0)).setCell ⟨g_P, 4, none⟩ (.int .i64 0)).setCell ⟨g_P, 5, none⟩ (.string ⟨#[]⟩)) g_q [.int .i64 k, .int .i64 sh, .int .i64 si, .int .i64 th, .int .i64 di] from ((((((Kq9.out.setOther ⟨g_P, 0, none⟩ (.int .i64 0) (fun e => n_P_q e.symm)).setOther ⟨g_P, 1, none⟩ (.int .i64 0) (fun e => n_P_q e.symm)).setOther ⟨g_P, 2, none⟩ (.int .i64 0) (fun e => n_P_q e.symm)).setOther ⟨g_P, 3, none⟩ (.int .i64 0) (fun e => n_P_q e.symm)).setOther ⟨g_P, 4, none⟩ (.int .i64 0) (fun e => n_P_q e.symm)).setOther ⟨g_P, 5, none⟩ (.string ⟨#[]⟩) (fun e => n_P_q e.symm)))
   have Kr10 := Lib.hid (show Blk ((((((v9.setCell ⟨g_P, 0, none⟩ (.int .i64 0)).setCell ⟨g_P, 1, none⟩ (.int .i64 0)).setCell ⟨g_P, 2, none⟩ (.int .i64 0)).setCell ⟨g_P, 3, none⟩ (.int .i64 0)).setCell ⟨g_P, 4, none⟩ (.int .i64 0)).setCell ⟨g_P, 5, none⟩ (.string ⟨#[]⟩)) g_r [.int .i64 2, .int .i64 m, .int .i64 ip, .int .i64 sh, .int .i64 si] from ((((((Kr9.out.setOther ⟨g_P, 0, none⟩ (.int .i64 0) (fun e => n_P_r e.symm)).setOther ⟨g_P, 1, none⟩ (.int .i64 0) (fun e => n_P_r e.symm)).setOther ⟨g_P, 2, none⟩ (.int .i64 0) (fun e => n_P_r e.symm)).setOther ⟨g_P, 3, none⟩ (.int .i64 0) (fun e => n_P_r e.symm)).setOther ⟨g_P, 4, none⟩ (.int .i64 0) (fun e => n_P_r e.symm)).setOther ⟨g_P, 5, none⟩ (.string ⟨#[]⟩) (fun e => n_P_r e.symm)))
   have B10 := Lib.hid (show Below w.heap.size w ((((((v9.setCell ⟨g_P, 0, none⟩ (.int .i64 0)).setCell ⟨g_P, 1, none⟩ (.int .i64 0)).setCell ⟨g_P, 2, none⟩ (.int .i64 0)).setCell ⟨g_P, 3, none⟩ (.int .i64 0)).setCell ⟨g_P, 4, none⟩ (.int .i64 0)).setCell ⟨g_P, 5, none⟩ (.string ⟨#[]⟩)) from ((((((B9.out.setCell l_P (.int .i64 0)).setCell l_P (.int .i64 0)).setCell l_P (.int .i64 0)).setCell l_P (.int .i64 0)).setCell l_P (.int .i64 0)).setCell l_P (.string ⟨#[]⟩)))
   have Oo10 := Lib.hid (own_set' (own_set' (own_set' (own_set' (own_set' (own_set' Oo9.out 0 (.int .i64 0) (n_P_o)) 1 (.int .i64 0) (n_P_o)) 2 (.int .i64 0) (n_P_o)) 3 (.int .i64 0) (n_P_o)) 4 (.int .i64 0) (n_P_o)) 5 (.string ⟨#[]⟩) (n_P_o))
   refine hK.out _ _ ⟨Kl10.out, Kq10.out, Kr10.out⟩ (fun hS => ?_)
   clear hK K B9 cP0 cP1 cP2 cP3 cP4 cP5 dP0 dP1 dP2 dP3 dP4 dP5 Kl9 Kf9 KR9 KP9 Kq9 Kr9 Oo9
   generalize (((((v9.setCell ⟨g_P, 0, none⟩ (.int .i64 0)).setCell ⟨g_P, 1, none⟩ (.int .i64 0)).setCell ⟨g_P, 2, none⟩ (.int .i64 0)).setCell ⟨g_P, 3, none⟩ (.int .i64 0)).setCell ⟨g_P, 4, none⟩ (.int .i64 0)).setCell ⟨g_P, 5, none⟩ (.string ⟨#[]⟩) = v10 at hS Kl10 Kf10 KR10 KP10 Kq10 Kr10 Oo10 B10 ⊢
   refine wpAnyH_take (i := 13) (v := .string z) rfl (by kernel_rfl) (by kernel_rfl) (by kernel_rfl) (fun _ _ _ h => h) (Or.inl ⟨rfl, by intro w hS; go_simp⟩) hS ?_
   refine wpAnyH_done (by kernel_rfl) ?_ _
   refine NoPanic.normal ?_
   obtain ⟨⟨cl0, cl1, cl2⟩, dl0, dl1, dl2⟩ := Kl10.out.o3
   obtain ⟨⟨cf0, cf1, cf2, cf3⟩, df0, df1, df2, df3⟩ := Kf10.out.four
   obtain ⟨⟨cR0, cR1, cR2⟩, dR0, dR1, dR2⟩ := KR10.out.o3
   obtain ⟨⟨cP0, cP1, cP2, cP3, cP4, cP5⟩, dP0, dP1, dP2, dP3, dP4, dP5⟩ := KP10.out.of6
   obtain ⟨⟨cq0, cq1, cq2, cq3, cq4⟩, dq0, dq1, dq2, dq3, dq4⟩ := Kq10.out.of5
   obtain ⟨⟨cr0, cr1, cr2, cr3, cr4⟩, dr0, dr1, dr2, dr3, dr4⟩ := Kr10.out.of5
   go_wp2_with fail
   refine bodyPost_ret (v := .tuple #[.agg #[.int .i64 m, .int .i64 ip, .slice (some ⟨g_o, 0, none⟩) L.length c_o], .int .i64 1, .agg #[.int .i64 0, .int .i64 0, .int .i64 0, .int .i64 0, .int .i64 0, .string ⟨#[]⟩], .string z]) (by simp [results, Tryz.results35, go_sem, cR0, cR1, cR2, cP0, cP1, cP2, cP3, cP4, cP5]) rfl ⟨g_o, c_o, rfl, own_up Oo10.out l_o, B10.out⟩
end Go.Proofs.YtkkimgjcefojdaaGreatDoor
