/- The laws' own szReceiver, toReceiver, eqReceiver, markReceiver, heldReceiver. Nothing here is a claim. -/
import Derived.Test.YtajekjjaaohbnaaRcvLaw
namespace Go.Proofs.Ytajekjjaaohbnaa
open Go.RowKit Go.Lib

/-- A receiver whose pieces lie in new memory: never nil. -/
def NewRc (r : Rcv) (w : World) (e : Ending) (w' : World) : Prop :=
  ∃ g cap, e = .returned (.agg #[.int .i64 r.n, .string r.d, .slice (some ⟨g, 0, none⟩) r.rs.length cap, .int .i64 r.f, .bool r.z]) ∧ w'.ownsRow w.heap.size 100 2 (.slice (some ⟨g, 0, none⟩) r.rs.length cap) r.rs.length (hps r.rs) ∧ Below w.heap.size w w'
/-- As NewRc, perhaps nil. -/
def NewRE (r : Rcv) (w : World) (e : Ending) (w' : World) : Prop :=
  ∃ a cap, e = .returned (.agg #[.int .i64 r.n, .string r.d, .slice a r.rs.length cap, .int .i64 r.f, .bool r.z]) ∧ w'.ownsRow w.heap.size 100 2 (.slice a r.rs.length cap) r.rs.length (hps r.rs) ∧ Below w.heap.size w w'
theorem NewRc.weak {r : Rcv} {w : World} {e : Ending} {w' : World} (h : NewRc r w e w') : NewRE r w e w' := by
  obtain ⟨g, cap, h1, h2, h3⟩ := h
  exact ⟨_, cap, h1, h2, h3⟩
/-- What szReceiver tells. -/
def SzR (d : ByteArray) (rs : List HP) (left : Int) (w : World) (e : Ending) (w' : World) : Prop :=
  Below w.heap.size w w' ∧ ∃ r : Int, e = .returned (.int .i64 r) ∧ r ≤ left ∧ (0 ≤ r → r = left - d.size - rs.length - plens rs)

set_option maxRecDepth 100000 in
set_option maxHeartbeats 2000000 in
theorem szReceiver_any (n f : Int) (z : Bool) (d : ByteArray) (a : Option Addr) (cap : Nat) (rs : List HP) (left : Int) (w : World) (hrow : Row w w.heap.size a (hps rs)) (hd : d.size ≤ maxLen) (hl : rs.length ≤ maxLen) (hsz : ∀ r ∈ rs, r.t.size ≤ maxLen) (h0 : 0 ≤ left) (h1 : left ≤ 1048576) :
    Calls Try.prog 67 #[.agg #[.int .i64 n, .string d, .slice a rs.length cap, .int .i64 f, .bool z], .int .i64 left] w (SzR d rs left w) := by
  have HR := Lib.hid hrow
  unfold maxLen at hd
  replace hl := Lib.hid hl
  replace hsz := Lib.hid hsz
  clear hrow
  by_cases hq : left - d.size < 0
  · go_enter Try.func67, Try.ntmps67
    go_wp2
    go_ret
    exact ⟨(Below.refl _ _).alloc (Nat.le_refl _) _, -1, rfl, by omega, fun h => by omega⟩
  have hw : IntKind.i64.wrap (left - (d.size : Int)) = left - (d.size : Int) := IntWalk.i64_in _ (by omega)
  go_enter Try.func67, Try.ntmps67
  have B0 := Lib.hid (show Below w.heap.size w (w.alloc (.cells #[.int .i64 n, .string d, .slice a rs.length cap, .int .i64 f, .bool z] 56)) from ((Below.refl _ w).alloc (by simp) _))
  have Kl0 := Lib.hid (show Blk (w.alloc (.cells #[.int .i64 n, .string d, .slice a rs.length cap, .int .i64 f, .bool z] 56)) (w.heap.size) [.int .i64 n, .string d, .slice a rs.length cap, .int .i64 f, .bool z] from Blk.new w [.int .i64 n, .string d, .slice a rs.length cap, .int .i64 f, .bool z] 56)
  go_wp2_with fail
  change Calls _ _ _ (w.alloc (.cells #[.int .i64 n, .string d, .slice a rs.length cap, .int .i64 f, .bool z] 56)) _
  generalize w.alloc (.cells #[.int .i64 n, .string d, .slice a rs.length cap, .int .i64 f, .bool z] 56) = v0 at B0 Kl0 ⊢
  generalize w.heap.size = g_l at Kl0 ⊢
  refine (szPieceS_any a cap rs _ _ ((HR.out.below B0.out).mono B0.out.size) hl.out hsz.out (by omega) (by omega)).mono ?_
  rintro e w1 ⟨hb, r, rfl, hr1, hr2⟩
  have HB := Lib.hid (B0.out.trans (hb.mono B0.out.size))
  have HQ := Lib.hid hr2
  clear hb hr2 B0 Kl0
  by_cases hz : r < 0
  · go_wp2_with fail
    go_ret
    exact ⟨HB.out, -1, rfl, by omega, fun h => by omega⟩
  · go_wp2_with fail
    go_ret
    exact ⟨HB.out, r, rfl, by omega, fun h => by have := HQ.out h; omega⟩

/-- As NewRc, of full capacity. -/
def ToRc (r : Rcv) (w : World) (e : Ending) (w' : World) : Prop :=
  ∃ g, e = .returned (.agg #[.int .i64 r.n, .string r.d, .slice (some ⟨g, 0, none⟩) r.rs.length r.rs.length, .int .i64 r.f, .bool r.z]) ∧ w'.ownsRow w.heap.size 100 2 (.slice (some ⟨g, 0, none⟩) r.rs.length r.rs.length) r.rs.length (hps r.rs) ∧ Below w.heap.size w w'

set_option maxRecDepth 100000 in
set_option maxHeartbeats 2000000 in
theorem toReceiver_any (n f : Int) (z : Bool) (d : ByteArray) (a : Option Addr) (cap : Nat) (rs : List HP) (w : World) (hrow : Row w w.heap.size a (hps rs)) (hl : rs.length ≤ 1048576) :
    Calls Try.prog 73 #[.agg #[.int .i64 n, .string d, .slice a rs.length cap, .int .i64 f, .bool z]] w (ToRc ⟨n, d, rs, f, z⟩ w) := by
  have HR := Lib.hid hrow
  clear hrow
  go_enter Try.func73, Try.ntmps73
  have B0 := Lib.hid (show Below w.heap.size w (((w.alloc (.cells #[.int .i64 n, .string d, .slice a rs.length cap, .int .i64 f, .bool z] 56)).alloc (.cells #[.int .i64 0, .string ⟨#[]⟩, .slice none 0 0, .int .i64 0, .bool false] 34)).alloc (.cells #[.int .i64 n, .string d, .slice none 0 0, .int .i64 0, .bool false] 34)) from ((((Below.refl _ w).alloc (by simp) _).alloc (by simp) _).alloc (by simp; omega) _))
  have Kl0 := Lib.hid (show Blk (((w.alloc (.cells #[.int .i64 n, .string d, .slice a rs.length cap, .int .i64 f, .bool z] 56)).alloc (.cells #[.int .i64 0, .string ⟨#[]⟩, .slice none 0 0, .int .i64 0, .bool false] 34)).alloc (.cells #[.int .i64 n, .string d, .slice none 0 0, .int .i64 0, .bool false] 34)) (w.heap.size) [.int .i64 n, .string d, .slice a rs.length cap, .int .i64 f, .bool z] from ((Blk.new w [.int .i64 n, .string d, .slice a rs.length cap, .int .i64 f, .bool z] 56).alloc (.cells #[.int .i64 0, .string ⟨#[]⟩, .slice none 0 0, .int .i64 0, .bool false] 34)).alloc (.cells #[.int .i64 n, .string d, .slice none 0 0, .int .i64 0, .bool false] 34))
  have s1 : (w.alloc (.cells #[.int .i64 n, .string d, .slice a rs.length cap, .int .i64 f, .bool z] 56)).heap.size = w.heap.size + 1 := by simp
  have Kr0 := Lib.hid (show Blk (((w.alloc (.cells #[.int .i64 n, .string d, .slice a rs.length cap, .int .i64 f, .bool z] 56)).alloc (.cells #[.int .i64 0, .string ⟨#[]⟩, .slice none 0 0, .int .i64 0, .bool false] 34)).alloc (.cells #[.int .i64 n, .string d, .slice none 0 0, .int .i64 0, .bool false] 34)) (w.heap.size + 1) [.int .i64 0, .string ⟨#[]⟩, .slice none 0 0, .int .i64 0, .bool false] by have h0 := (Blk.new (w.alloc (.cells #[.int .i64 n, .string d, .slice a rs.length cap, .int .i64 f, .bool z] 56)) [.int .i64 0, .string ⟨#[]⟩, .slice none 0 0, .int .i64 0, .bool false] 34).alloc (.cells #[.int .i64 n, .string d, .slice none 0 0, .int .i64 0, .bool false] 34); rwa [s1] at h0)
  have n_l_r : w.heap.size ≠ w.heap.size + 1 := by omega
  have s2 : ((w.alloc (.cells #[.int .i64 n, .string d, .slice a rs.length cap, .int .i64 f, .bool z] 56)).alloc (.cells #[.int .i64 0, .string ⟨#[]⟩, .slice none 0 0, .int .i64 0, .bool false] 34)).heap.size = w.heap.size + 1 + 1 := by simp
  have Ko0 := Lib.hid (show Blk (((w.alloc (.cells #[.int .i64 n, .string d, .slice a rs.length cap, .int .i64 f, .bool z] 56)).alloc (.cells #[.int .i64 0, .string ⟨#[]⟩, .slice none 0 0, .int .i64 0, .bool false] 34)).alloc (.cells #[.int .i64 n, .string d, .slice none 0 0, .int .i64 0, .bool false] 34)) (w.heap.size + 1 + 1) [.int .i64 n, .string d, .slice none 0 0, .int .i64 0, .bool false] by have h0 := Blk.new ((w.alloc (.cells #[.int .i64 n, .string d, .slice a rs.length cap, .int .i64 f, .bool z] 56)).alloc (.cells #[.int .i64 0, .string ⟨#[]⟩, .slice none 0 0, .int .i64 0, .bool false] 34)) [.int .i64 n, .string d, .slice none 0 0, .int .i64 0, .bool false] 34; rwa [s2] at h0)
  have n_l_o : w.heap.size ≠ w.heap.size + 1 + 1 := by omega
  have n_r_o : w.heap.size + 1 ≠ w.heap.size + 1 + 1 := by omega
  clear s1 s2
  go_wp2_with fail
  change Calls _ _ _ (((w.alloc (.cells #[.int .i64 n, .string d, .slice a rs.length cap, .int .i64 f, .bool z] 56)).alloc (.cells #[.int .i64 0, .string ⟨#[]⟩, .slice none 0 0, .int .i64 0, .bool false] 34)).alloc (.cells #[.int .i64 n, .string d, .slice none 0 0, .int .i64 0, .bool false] 34)) _
  generalize ((w.alloc (.cells #[.int .i64 n, .string d, .slice a rs.length cap, .int .i64 f, .bool z] 56)).alloc (.cells #[.int .i64 0, .string ⟨#[]⟩, .slice none 0 0, .int .i64 0, .bool false] 34)).alloc (.cells #[.int .i64 n, .string d, .slice none 0 0, .int .i64 0, .bool false] 34) = v0 at B0 Kl0 Kr0 Ko0 ⊢
  generalize hh_o : w.heap.size + 1 + 1 = g_o at Ko0 n_l_o n_r_o ⊢
  generalize hh_r : w.heap.size + 1 = g_r at Kr0 n_l_r n_r_o ⊢
  generalize hh_l : w.heap.size = g_l at Kl0 n_l_r n_l_o ⊢
  have l_l : w.heap.size ≤ g_l := by omega
  have l_r : w.heap.size ≤ g_r := by omega
  have l_o : w.heap.size ≤ g_o := by omega
  clear hh_l hh_r hh_o
  refine (toPieceS_any a cap rs _ ((HR.out.below B0.out).mono B0.out.size) hl).mono ?_
  rintro e v1 ⟨g_p, rfl, ho_p, hb⟩
  have hown := own_down ho_p B0.out.size
  have n_l_p : g_l ≠ g_p := by have h1 := Kl0.out.lt; have h2 := (ho_p.lt g_p rfl).1; omega
  have n_r_p : g_r ≠ g_p := by have h1 := Kr0.out.lt; have h2 := (ho_p.lt g_p rfl).1; omega
  have n_o_p : g_o ≠ g_p := by have h1 := Ko0.out.lt; have h2 := (ho_p.lt g_p rfl).1; omega
  have l_p : w.heap.size ≤ g_p := Nat.le_trans B0.out.size (ho_p.lt g_p rfl).1
  have B1 := Lib.hid (B0.out.trans (hb.mono B0.out.size))
  have Kl1 := Lib.hid (Kl0.out.below hb)
  have Kr1 := Lib.hid (Kr0.out.below hb)
  have Ko1 := Lib.hid (Ko0.out.below hb)
  have Op1 := Lib.hid (own_down ho_p (Nat.zero_le _))
  clear hb B0 Kl0 Kr0 Ko0 ho_p
  have HO := Lib.hid hown
  clear hown
  obtain ⟨⟨cl0, cl1, cl2, cl3, cl4⟩, dl0, dl1, dl2, dl3, dl4⟩ := Kl1.out.of5
  obtain ⟨⟨cr0, cr1, cr2, cr3, cr4⟩, dr0, dr1, dr2, dr3, dr4⟩ := Kr1.out.of5
  obtain ⟨⟨co0, co1, co2, co3, co4⟩, do0, do1, do2, do3, do4⟩ := Ko1.out.of5
  go_wp2_with fail
  refine bodyPost_ret (v := .agg #[.int .i64 n, .string d, .slice (some ⟨g_p, 0, none⟩) rs.length rs.length, .int .i64 f, .bool z]) (by simp [results, Try.results73, go_sem, cr0, cr1, cr2, cr3, cr4]) rfl ⟨g_p, rfl, ?_, ?_⟩
  · exact own_set' (own_set' (own_set' (own_set' (own_set' (own_set' (own_set' (own_set' HO.out 2 _ n_o_p) 3 _ n_o_p) 4 _ n_o_p) 0 _ n_r_p) 1 _ n_r_p) 2 _ n_r_p) 3 _ n_r_p) 4 _ n_r_p
  · exact ((((((((B1.out.setCell l_o _).setCell l_o _).setCell l_o _).setCell l_r _).setCell l_r _).setCell l_r _).setCell l_r _).setCell l_r _)

set_option maxRecDepth 100000 in
set_option maxHeartbeats 2000000 in
theorem eqReceiver_self (n f : Int) (z : Bool) (d : ByteArray) (a b : Option Addr) (c e : Nat) (rs : List HP) (w : World) (ha : Row w w.heap.size a (hps rs)) (hb : Row w w.heap.size b (hps rs)) (hl : rs.length ≤ 1048576) :
    Calls Try.prog 62 #[.agg #[.int .i64 n, .string d, .slice a rs.length c, .int .i64 f, .bool z], .agg #[.int .i64 n, .string d, .slice b rs.length e, .int .i64 f, .bool z]] w (BoolE true w) := by
  have HA := Lib.hid ha
  have HB := Lib.hid hb
  clear ha hb
  go_enter Try.func62, Try.ntmps62
  have B0 := Lib.hid (show Below w.heap.size w ((w.alloc (.cells #[.int .i64 n, .string d, .slice a rs.length c, .int .i64 f, .bool z] 34)).alloc (.cells #[.int .i64 n, .string d, .slice b rs.length e, .int .i64 f, .bool z] 34)) from (((Below.refl _ w).alloc (by simp) _).alloc (by simp) _))
  have Kl0 := Lib.hid (show Blk ((w.alloc (.cells #[.int .i64 n, .string d, .slice a rs.length c, .int .i64 f, .bool z] 34)).alloc (.cells #[.int .i64 n, .string d, .slice b rs.length e, .int .i64 f, .bool z] 34)) (w.heap.size) [.int .i64 n, .string d, .slice a rs.length c, .int .i64 f, .bool z] from (Blk.new w [.int .i64 n, .string d, .slice a rs.length c, .int .i64 f, .bool z] 34).alloc (.cells #[.int .i64 n, .string d, .slice b rs.length e, .int .i64 f, .bool z] 34))
  have s1 : (w.alloc (.cells #[.int .i64 n, .string d, .slice a rs.length c, .int .i64 f, .bool z] 34)).heap.size = w.heap.size + 1 := by simp
  have Kr0 := Lib.hid (show Blk ((w.alloc (.cells #[.int .i64 n, .string d, .slice a rs.length c, .int .i64 f, .bool z] 34)).alloc (.cells #[.int .i64 n, .string d, .slice b rs.length e, .int .i64 f, .bool z] 34)) (w.heap.size + 1) [.int .i64 n, .string d, .slice b rs.length e, .int .i64 f, .bool z] by have h0 := Blk.new (w.alloc (.cells #[.int .i64 n, .string d, .slice a rs.length c, .int .i64 f, .bool z] 34)) [.int .i64 n, .string d, .slice b rs.length e, .int .i64 f, .bool z] 34; rwa [s1] at h0)
  have n_l_r : w.heap.size ≠ w.heap.size + 1 := by omega
  clear s1
  go_wp2_with fail
  change Calls _ _ _ ((w.alloc (.cells #[.int .i64 n, .string d, .slice a rs.length c, .int .i64 f, .bool z] 34)).alloc (.cells #[.int .i64 n, .string d, .slice b rs.length e, .int .i64 f, .bool z] 34)) _
  generalize (w.alloc (.cells #[.int .i64 n, .string d, .slice a rs.length c, .int .i64 f, .bool z] 34)).alloc (.cells #[.int .i64 n, .string d, .slice b rs.length e, .int .i64 f, .bool z] 34) = v0 at B0 Kl0 Kr0 ⊢
  generalize w.heap.size + 1 = g_r at Kr0 n_l_r ⊢
  generalize w.heap.size = g_l at Kl0 n_l_r ⊢
  refine (eqPieceS_self a b c e rs _ ((HA.out.below B0.out).mono B0.out.size) ((HB.out.below B0.out).mono B0.out.size) hl).mono ?_
  rintro e v1 ⟨rfl, hb⟩
  have B1 := Lib.hid (B0.out.trans (hb.mono B0.out.size))
  have Kl1 := Lib.hid (Kl0.out.below hb)
  have Kr1 := Lib.hid (Kr0.out.below hb)
  clear hb B0 Kl0 Kr0
  obtain ⟨⟨cl0, cl1, cl2, cl3, cl4⟩, dl0, dl1, dl2, dl3, dl4⟩ := Kl1.out.of5
  obtain ⟨⟨cr0, cr1, cr2, cr3, cr4⟩, dr0, dr1, dr2, dr3, dr4⟩ := Kr1.out.of5
  go_wp2_with fail
  go_ret
  exact ⟨rfl, B1.out⟩

set_option maxRecDepth 100000 in
set_option maxHeartbeats 2000000 in
theorem heldReceiver_any (n f : Int) (z : Bool) (d : ByteArray) (a : Option Addr) (m cap u : Nat) (w : World) (hrow : Row w w.heap.size a (hps (marksP u m))) (h0 : 0 < u) (h1 : u ≤ 1000000000) (h2 : m ≤ 1048577) :
    Calls Try.prog 65 #[.agg #[.int .i64 n, .string d, .slice a m cap, .int .i64 f, .bool z], .int .i64 u] w (IntE ((u + 2 * m : Nat) : Int) w) := by
  have HR := Lib.hid hrow
  clear hrow
  go_enter Try.func65, Try.ntmps65
  have B0 := Lib.hid (show Below w.heap.size w (w.alloc (.cells #[.int .i64 n, .string d, .slice a m cap, .int .i64 f, .bool z] 34)) from ((Below.refl _ w).alloc (by simp) _))
  have Kl0 := Lib.hid (show Blk (w.alloc (.cells #[.int .i64 n, .string d, .slice a m cap, .int .i64 f, .bool z] 34)) (w.heap.size) [.int .i64 n, .string d, .slice a m cap, .int .i64 f, .bool z] from Blk.new w [.int .i64 n, .string d, .slice a m cap, .int .i64 f, .bool z] 34)
  go_wp2_with fail
  change Calls _ _ _ (w.alloc (.cells #[.int .i64 n, .string d, .slice a m cap, .int .i64 f, .bool z] 34)) _
  generalize w.alloc (.cells #[.int .i64 n, .string d, .slice a m cap, .int .i64 f, .bool z] 34) = v0 at B0 Kl0 ⊢
  generalize w.heap.size = g_l at Kl0 ⊢
  refine (heldP_any a m cap u _ ((HR.out.below B0.out).mono B0.out.size) h0 h1 h2).mono ?_
  rintro e v1 ⟨rfl, hb⟩
  have B1 := Lib.hid (B0.out.trans (hb.mono B0.out.size))
  have Kl1 := Lib.hid (Kl0.out.below hb)
  clear hb B0 Kl0
  have h3 : ¬ ((u + 2 * m : Nat) : Int) < 0 := by omega
  obtain ⟨⟨cl0, cl1, cl2, cl3, cl4⟩, dl0, dl1, dl2, dl3, dl4⟩ := Kl1.out.of5
  go_wp2_with fail
  go_ret
  exact ⟨rfl, B1.out⟩

set_option maxRecDepth 100000 in
set_option maxHeartbeats 2000000 in
theorem markReceiver_any (n f : Int) (z : Bool) (d : ByteArray) (B g m cap u : Nat) (rs : List HP) (w : World) (hn : rs.length = m) (hown : w.ownsRow B 100 2 (.slice (some ⟨g, 0, none⟩) m cap) m (hps rs)) (h0 : 0 < u) (h1 : u ≤ 1000000000) (h2 : m ≤ 1048577) :
    Calls Try.prog 64 #[.agg #[.int .i64 n, .string d, .slice (some ⟨g, 0, none⟩) m cap, .int .i64 f, .bool z], .int .i64 u] w (fun e w' => e = .returned (.int .i64 (u + 2 * m : Nat)) ∧ w'.ownsRow B 100 2 (.slice (some ⟨g, 0, none⟩) m cap) m (hps (marksP u m)) ∧ w.grownBy w' (some g)) := by
  have O1 := Lib.hid (show (w.alloc (.cells #[.int .i64 n, .string d, .slice (some ⟨g, 0, none⟩) m cap, .int .i64 f, .bool z] 34)).ownsRow B 100 2 (.slice (some ⟨g, 0, none⟩) m cap) m (hps rs) from hown.alloc _)
  have G1 := Lib.hid (World.grownBy_alloc w (.cells #[.int .i64 n, .string d, .slice (some ⟨g, 0, none⟩) m cap, .int .i64 f, .bool z] 34) (some g))
  clear hown
  go_enter Try.func64, Try.ntmps64
  go_wp2_with fail
  refine (markP_any B g m cap u rs _ hn O1.out h0 h1 h2).mono ?_
  rintro e w1 ⟨rfl, ho, hg⟩
  have O2 := Lib.hid ho
  have G2 := Lib.hid (G1.out.trans hg)
  clear ho hg G1 O1
  go_wp2_with fail
  go_ret
  exact ⟨rfl, O2.out, G2.out⟩

set_option maxRecDepth 100000 in
set_option maxHeartbeats 2000000 in
theorem markReceiver_none (n f : Int) (z : Bool) (d : ByteArray) (a : Option Addr) (cap u : Nat) (w : World) :
    Calls Try.prog 64 #[.agg #[.int .i64 n, .string d, .slice a 0 cap, .int .i64 f, .bool z], .int .i64 u] w (IntE (u : Int) w) := by
  go_enter Try.func64, Try.ntmps64
  go_wp2_with fail
  refine (markP_nil a cap u _).mono ?_
  rintro e w' ⟨rfl, hw'⟩
  rw [hw']
  go_wp2_with fail
  go_ret
  exact ⟨rfl, (Below.refl _ _).alloc (Nat.le_refl _) _⟩
end Go.Proofs.Ytajekjjaaohbnaa
