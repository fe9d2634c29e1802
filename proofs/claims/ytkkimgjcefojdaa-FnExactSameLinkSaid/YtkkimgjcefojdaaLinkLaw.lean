/- The laws' own szLink, toLink, eqLink, markLink, heldLink. Nothing here is a claim. -/
import Derived.Test.YtkkimgjcefojdaaEntLaw
import Derived.Test.YtkkimgjcefojdaaBlk10
import Derived.Test.YtkkimgjcefojdaaTabMac
namespace Go.Proofs.Ytkkimgjcefojdaa
open Go.RowKit Go.Lib

/-- A link in new memory: never nil. -/
def NewLk (m ip : Int) (rs : List ER) (w : World) (e : Ending) (w' : World) : Prop :=
  ∃ g cap, e = .returned (.agg #[.int .i64 m, .int .i64 ip, .slice (some ⟨g, 0, none⟩) rs.length cap]) ∧ w'.ownsRow w.heap.size 51 3 (.slice (some ⟨g, 0, none⟩) rs.length cap) rs.length (ers rs) ∧ Below w.heap.size w w'
/-- As NewLk, of full capacity. -/
def ToLk (m ip : Int) (rs : List ER) (w : World) (e : Ending) (w' : World) : Prop :=
  ∃ g, e = .returned (.agg #[.int .i64 m, .int .i64 ip, .slice (some ⟨g, 0, none⟩) rs.length rs.length]) ∧ w'.ownsRow w.heap.size 51 3 (.slice (some ⟨g, 0, none⟩) rs.length rs.length) rs.length (ers rs) ∧ Below w.heap.size w w'
theorem szEntryS_left (a : Option Addr) (n cap left : Nat) (w : World) (hl : n ≤ maxLen) (h2 : left ≤ 1048576) :
    Calls Try.prog 15 #[.slice a n cap, .int .i64 left] w fun e w' => e = .returned (.int .i64 (if n ≤ left then (left : Int) - (n : Int) else -1)) ∧ w' = w := by
  unfold maxLen at hl
  have hw : IntKind.i64.wrap ((left : Int) - (n : Int)) = (left : Int) - (n : Int) := IntWalk.i64_in _ (by omega)
  by_cases h : n ≤ left
  · rw [if_pos h]
    have h3 : ¬ (left : Int) - (n : Int) < 0 := by omega
    go_enter Try.func15, Try.ntmps15
    go_wp2_with fail
    go_ret
    exact ⟨rfl, rfl⟩
  · rw [if_neg h]
    have h3 : (left : Int) - (n : Int) < 0 := by omega
    go_enter Try.func15, Try.ntmps15
    go_wp2_with fail
    go_ret
    exact ⟨rfl, rfl⟩

set_option maxRecDepth 100000 in
set_option maxHeartbeats 2000000 in
theorem szLink_any (m ip : Int) (a : Option Addr) (n cap left : Nat) (w : World) (hl : n ≤ maxLen) (h2 : left ≤ 1048576) :
    Calls Try.prog 6 #[.agg #[.int .i64 m, .int .i64 ip, .slice a n cap], .int .i64 left] w (IntE (if n ≤ left then (left : Int) - (n : Int) else -1) w) := by
  have C := Lib.hid (fun w => szEntryS_left a n cap left w hl h2)
  clear hl h2
  by_cases hs : n ≤ left
  · rw [if_pos hs] at C ⊢
    go_enter Try.func6, Try.ntmps6
    have B0 := Lib.hid (show Below w.heap.size w (w.alloc (.cells #[.int .i64 m, .int .i64 ip, .slice a n cap] 24)) from ((Below.refl _ w).alloc (by simp) _))
    have Kl0 := Lib.hid (show Blk (w.alloc (.cells #[.int .i64 m, .int .i64 ip, .slice a n cap] 24)) (w.heap.size) [.int .i64 m, .int .i64 ip, .slice a n cap] from Blk.new w [.int .i64 m, .int .i64 ip, .slice a n cap] 24)
    go_wp2_with fail
    change Calls _ _ _ (w.alloc (.cells #[.int .i64 m, .int .i64 ip, .slice a n cap] 24)) _
    generalize w.alloc (.cells #[.int .i64 m, .int .i64 ip, .slice a n cap] 24) = v0 at B0 Kl0 ⊢
    generalize w.heap.size = g_l at Kl0 ⊢
    refine (C.out _).mono ?_
    rintro e w' ⟨rfl, hw'⟩
    rw [hw']
    clear hw' w'
    have h3 : ¬ (left : Int) - (n : Int) < 0 := by omega
    clear hs
    obtain ⟨⟨cl0, cl1, cl2⟩, dl0, dl1, dl2⟩ := Kl0.out.o3
    go_wp2_with fail
    go_ret
    exact ⟨rfl, B0.out⟩
  · rw [if_neg hs] at C ⊢
    clear hs
    go_enter Try.func6, Try.ntmps6
    have B0 := Lib.hid (show Below w.heap.size w (w.alloc (.cells #[.int .i64 m, .int .i64 ip, .slice a n cap] 24)) from ((Below.refl _ w).alloc (by simp) _))
    have Kl0 := Lib.hid (show Blk (w.alloc (.cells #[.int .i64 m, .int .i64 ip, .slice a n cap] 24)) (w.heap.size) [.int .i64 m, .int .i64 ip, .slice a n cap] from Blk.new w [.int .i64 m, .int .i64 ip, .slice a n cap] 24)
    go_wp2_with fail
    change Calls _ _ _ (w.alloc (.cells #[.int .i64 m, .int .i64 ip, .slice a n cap] 24)) _
    generalize w.alloc (.cells #[.int .i64 m, .int .i64 ip, .slice a n cap] 24) = v0 at B0 Kl0 ⊢
    generalize w.heap.size = g_l at Kl0 ⊢
    refine (C.out _).mono ?_
    rintro e w' ⟨rfl, hw'⟩
    rw [hw']
    clear hw' w'
    obtain ⟨⟨cl0, cl1, cl2⟩, dl0, dl1, dl2⟩ := Kl0.out.o3
    go_wp2_with fail
    go_ret
    exact ⟨rfl, B0.out⟩

set_option maxRecDepth 100000 in
set_option maxHeartbeats 2000000 in
theorem toLink_any (m ip : Int) (a : Option Addr) (cap : Nat) (rs : List ER) (w : World) (hrow : Row w w.heap.size a (ers rs)) (hl : rs.length ≤ 1048576) :
    Calls Try.prog 8 #[.agg #[.int .i64 m, .int .i64 ip, .slice a rs.length cap]] w (ToLk m ip rs w) := by
  have HR := Lib.hid hrow
  clear hrow
  go_enter Try.func8, Try.ntmps8
  have B0 := Lib.hid (show Below w.heap.size w (((w.alloc (.cells #[.int .i64 m, .int .i64 ip, .slice a rs.length cap] 24)).alloc (.cells #[.int .i64 0, .int .i64 0, .slice none 0 0] 29)).alloc (.cells #[.int .i64 m, .int .i64 ip, .slice none 0 0] 29)) from ((((Below.refl _ w).alloc (by simp) _).alloc (by simp) _).alloc (by simp; omega) _))
  have Kl0 := Lib.hid (show Blk (((w.alloc (.cells #[.int .i64 m, .int .i64 ip, .slice a rs.length cap] 24)).alloc (.cells #[.int .i64 0, .int .i64 0, .slice none 0 0] 29)).alloc (.cells #[.int .i64 m, .int .i64 ip, .slice none 0 0] 29)) (w.heap.size) [.int .i64 m, .int .i64 ip, .slice a rs.length cap] from ((Blk.new w [.int .i64 m, .int .i64 ip, .slice a rs.length cap] 24).alloc (.cells #[.int .i64 0, .int .i64 0, .slice none 0 0] 29)).alloc (.cells #[.int .i64 m, .int .i64 ip, .slice none 0 0] 29))
  have s1 : (w.alloc (.cells #[.int .i64 m, .int .i64 ip, .slice a rs.length cap] 24)).heap.size = w.heap.size + 1 := by simp
  have Kr0 := Lib.hid (show Blk (((w.alloc (.cells #[.int .i64 m, .int .i64 ip, .slice a rs.length cap] 24)).alloc (.cells #[.int .i64 0, .int .i64 0, .slice none 0 0] 29)).alloc (.cells #[.int .i64 m, .int .i64 ip, .slice none 0 0] 29)) (w.heap.size + 1) [.int .i64 0, .int .i64 0, .slice none 0 0] by have h0 := (Blk.new (w.alloc (.cells #[.int .i64 m, .int .i64 ip, .slice a rs.length cap] 24)) [.int .i64 0, .int .i64 0, .slice none 0 0] 29).alloc (.cells #[.int .i64 m, .int .i64 ip, .slice none 0 0] 29); rwa [s1] at h0)
  have n_l_r : w.heap.size ≠ w.heap.size + 1 := by omega
  have s2 : ((w.alloc (.cells #[.int .i64 m, .int .i64 ip, .slice a rs.length cap] 24)).alloc (.cells #[.int .i64 0, .int .i64 0, .slice none 0 0] 29)).heap.size = w.heap.size + 1 + 1 := by simp
  have Ko0 := Lib.hid (show Blk (((w.alloc (.cells #[.int .i64 m, .int .i64 ip, .slice a rs.length cap] 24)).alloc (.cells #[.int .i64 0, .int .i64 0, .slice none 0 0] 29)).alloc (.cells #[.int .i64 m, .int .i64 ip, .slice none 0 0] 29)) (w.heap.size + 1 + 1) [.int .i64 m, .int .i64 ip, .slice none 0 0] by have h0 := Blk.new ((w.alloc (.cells #[.int .i64 m, .int .i64 ip, .slice a rs.length cap] 24)).alloc (.cells #[.int .i64 0, .int .i64 0, .slice none 0 0] 29)) [.int .i64 m, .int .i64 ip, .slice none 0 0] 29; rwa [s2] at h0)
  have n_l_o : w.heap.size ≠ w.heap.size + 1 + 1 := by omega
  have n_r_o : w.heap.size + 1 ≠ w.heap.size + 1 + 1 := by omega
  clear s1 s2
  go_wp2_with fail
  change Calls _ _ _ (((w.alloc (.cells #[.int .i64 m, .int .i64 ip, .slice a rs.length cap] 24)).alloc (.cells #[.int .i64 0, .int .i64 0, .slice none 0 0] 29)).alloc (.cells #[.int .i64 m, .int .i64 ip, .slice none 0 0] 29)) _
  generalize ((w.alloc (.cells #[.int .i64 m, .int .i64 ip, .slice a rs.length cap] 24)).alloc (.cells #[.int .i64 0, .int .i64 0, .slice none 0 0] 29)).alloc (.cells #[.int .i64 m, .int .i64 ip, .slice none 0 0] 29) = v0 at B0 Kl0 Kr0 Ko0 ⊢
  generalize hh_o : w.heap.size + 1 + 1 = g_o at Ko0 n_l_o n_r_o ⊢
  generalize hh_r : w.heap.size + 1 = g_r at Kr0 n_l_r n_r_o ⊢
  generalize hh_l : w.heap.size = g_l at Kl0 n_l_r n_l_o ⊢
  have l_l : w.heap.size ≤ g_l := by omega
  have l_r : w.heap.size ≤ g_r := by omega
  have l_o : w.heap.size ≤ g_o := by omega
  clear hh_l hh_r hh_o
  refine (toEntryS_any a cap rs _ ((HR.out.below B0.out).mono B0.out.size) hl).mono ?_
  rintro e v1 ⟨g_p, rfl, ho_p, hb⟩
  have hown := own_down ho_p B0.out.size
  have n_l_p : g_l ≠ g_p := by have h1 := Kl0.out.lt; have h2 := (ho_p.lt g_p rfl).1; omega
  have n_r_p : g_r ≠ g_p := by have h1 := Kr0.out.lt; have h2 := (ho_p.lt g_p rfl).1; omega
  have n_o_p : g_o ≠ g_p := by have h1 := Ko0.out.lt; have h2 := (ho_p.lt g_p rfl).1; omega
  have l_p : w.heap.size ≤ g_p := Nat.le_trans B0.out.size (ho_p.lt g_p rfl).1
  have B1 := Lib.hid (B0.out.trans (hb.mono B0.out.size))
  have Kl1 := Lib.hid (Kl0.out.below hb)
  have Kr1 := Lib.hid (Kr0.out.below hb)
  have Ko1 := Lib.hid (Ko0.out.below hb)
  have Op1 := Lib.hid (own_down ho_p (Nat.zero_le _))
  clear hb B0 Kl0 Kr0 Ko0 ho_p
  have HO := Lib.hid hown
  clear hown
  obtain ⟨⟨cl0, cl1, cl2⟩, dl0, dl1, dl2⟩ := Kl1.out.o3
  obtain ⟨⟨cr0, cr1, cr2⟩, dr0, dr1, dr2⟩ := Kr1.out.o3
  obtain ⟨⟨co0, co1, co2⟩, do0, do1, do2⟩ := Ko1.out.o3
  go_wp2_with fail
  refine bodyPost_ret (v := .agg #[.int .i64 m, .int .i64 ip, .slice (some ⟨g_p, 0, none⟩) rs.length rs.length]) (by simp [results, Try.results8, go_sem, cr0, cr1, cr2]) rfl ⟨g_p, rfl, ?_, ?_⟩
  · exact own_set' (own_set' (own_set' (own_set' HO.out 2 _ n_o_p) 0 _ n_r_p) 1 _ n_r_p) 2 _ n_r_p
  · exact ((((B1.out.setCell l_o _).setCell l_r _).setCell l_r _).setCell l_r _)

set_option maxRecDepth 100000 in
set_option maxHeartbeats 2000000 in
theorem eqLink_self (m ip : Int) (a b : Option Addr) (n c d : Nat) (rs : List ER) (w : World) (hn : rs.length = n) (ha : Row w w.heap.size a (ers rs)) (hb : Row w w.heap.size b (ers rs)) (hl : n ≤ 1048577) :
    Calls Try.prog 10 #[.agg #[.int .i64 m, .int .i64 ip, .slice a n c], .agg #[.int .i64 m, .int .i64 ip, .slice b n d]] w (BoolE true w) := by
  have HA := Lib.hid ha
  have HB := Lib.hid hb
  clear ha hb
  go_enter Try.func10, Try.ntmps10
  have B0 := Lib.hid (show Below w.heap.size w ((w.alloc (.cells #[.int .i64 m, .int .i64 ip, .slice a n c] 29)).alloc (.cells #[.int .i64 m, .int .i64 ip, .slice b n d] 29)) from (((Below.refl _ w).alloc (by simp) _).alloc (by simp) _))
  have Kl0 := Lib.hid (show Blk ((w.alloc (.cells #[.int .i64 m, .int .i64 ip, .slice a n c] 29)).alloc (.cells #[.int .i64 m, .int .i64 ip, .slice b n d] 29)) (w.heap.size) [.int .i64 m, .int .i64 ip, .slice a n c] from (Blk.new w [.int .i64 m, .int .i64 ip, .slice a n c] 29).alloc (.cells #[.int .i64 m, .int .i64 ip, .slice b n d] 29))
  have s1 : (w.alloc (.cells #[.int .i64 m, .int .i64 ip, .slice a n c] 29)).heap.size = w.heap.size + 1 := by simp
  have Kr0 := Lib.hid (show Blk ((w.alloc (.cells #[.int .i64 m, .int .i64 ip, .slice a n c] 29)).alloc (.cells #[.int .i64 m, .int .i64 ip, .slice b n d] 29)) (w.heap.size + 1) [.int .i64 m, .int .i64 ip, .slice b n d] by have h0 := Blk.new (w.alloc (.cells #[.int .i64 m, .int .i64 ip, .slice a n c] 29)) [.int .i64 m, .int .i64 ip, .slice b n d] 29; rwa [s1] at h0)
  have n_l_r : w.heap.size ≠ w.heap.size + 1 := by omega
  clear s1
  go_wp2_with fail
  change Calls _ _ _ ((w.alloc (.cells #[.int .i64 m, .int .i64 ip, .slice a n c] 29)).alloc (.cells #[.int .i64 m, .int .i64 ip, .slice b n d] 29)) _
  generalize (w.alloc (.cells #[.int .i64 m, .int .i64 ip, .slice a n c] 29)).alloc (.cells #[.int .i64 m, .int .i64 ip, .slice b n d] 29) = v0 at B0 Kl0 Kr0 ⊢
  generalize w.heap.size + 1 = g_r at Kr0 n_l_r ⊢
  generalize w.heap.size = g_l at Kl0 n_l_r ⊢
  refine (eqEntryS_self a b n c d rs _ hn ((HA.out.below B0.out).mono B0.out.size) ((HB.out.below B0.out).mono B0.out.size) hl).mono ?_
  rintro e v1 ⟨rfl, hb⟩
  have B1 := Lib.hid (B0.out.trans (hb.mono B0.out.size))
  have Kl1 := Lib.hid (Kl0.out.below hb)
  have Kr1 := Lib.hid (Kr0.out.below hb)
  clear hb B0 Kl0 Kr0
  obtain ⟨⟨cl0, cl1, cl2⟩, dl0, dl1, dl2⟩ := Kl1.out.o3
  obtain ⟨⟨cr0, cr1, cr2⟩, dr0, dr1, dr2⟩ := Kr1.out.o3
  go_wp2_with fail
  go_ret
  exact ⟨rfl, B1.out⟩

end Go.Proofs.Ytkkimgjcefojdaa
