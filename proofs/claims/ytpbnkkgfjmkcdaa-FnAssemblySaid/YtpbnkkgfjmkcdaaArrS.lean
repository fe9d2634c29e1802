/- Arrived of the model. Nothing here is a claim. -/
import Derived.Test.YtpbnkkgfjmkcdaaArrK
import Derived.Test.YtpbnkkgfjmkcdaaPieS
import Derived.Test.YtpbnkkgfjmkcdaaRcvTakeK
import Derived.Test.YtpbnkkgfjmkcdaaRowN
import Derived.Test.YtpbnkkgfjmkcdaaCopyUnder
import Derived.Deep.DeepCutAuto
namespace Go.Proofs.Ytpbnkkgfjmkcdaa
open Go.RowKit Go.Lib

/-- The bytes in order, one behind another. -/
def gotL (T : Tab) (j : Nat) : List UInt8 := (List.range j).map fun o => (T o).getD 0
theorem gotL_succ {T : Tab} {j : Nat} {b : UInt8} (h : T j = some b) : gotL T (j + 1) = gotL T j ++ [b] := by simp [gotL, List.range_succ, h]
theorem got_is (T : Tab) (j : Nat) : (⟨(gotL T j).toArray⟩ : ByteArray) = got T j := rfl
theorem pieces_up {rs : List HP} {l m : Int} {k : Nat} (h : PiecesOk rs l k) (hlm : l ≤ m) : PiecesOk rs m k := fun j a hj => by
  have h1 := h j a hj
  exact ⟨h1.1, h1.2.1, by have := h1.2.2; omega⟩
theorem arrived_not {r : Rcv} {s : Int} {x : ByteArray} {fin : Bool} (h : (rcvOk r && !r.z) = false) : arrived r s x fin = r := by simp only [arrived, h, cond_false]
theorem arrived_yes {r : Rcv} {s : Int} {x : ByteArray} {fin : Bool} (h : (rcvOk r && !r.z) = true) : arrived r s x fin = arrEnd r (arrTab r s x) (cnt (arrTab r s x)) (finAt r.f fin (pl (s + x.size - r.n)) (lim r.d r.f r.z) (arrTab r s x)) := by simp only [arrived, h, cond_true]
theorem finAt_no {f e l : Int} {fin : Bool} {T : Tab} (h : fin = true → f = -1 → e ≤ l → freeB T e = true → False) : finAt f fin e l T = f := by
  unfold finAt
  cases hb : (fin && (f == -1) && (decide (e ≤ l) && freeB T e)) with
  | false => rfl
  | true =>
    simp only [Bool.and_eq_true, decide_eq_true_eq, beq_iff_eq] at hb
    exact (h hb.1.1 hb.1.2 hb.2.1 hb.2.2).elim
theorem newRE_of {R r : Rcv} {w : World} {e : Ending} {w' : World} (h : R = r) (k : NewRE r w e w') : NewRE R w e w' := by rw [h]; exact k
theorem newRE_fin {R : Rcv} {n' f' : Int} {d' : ByteArray} {z' : Bool} {L : List HP} {nL cap : Nat} {a : Option Addr} {w w' : World} (eR : R = ⟨n', d', L, f', z'⟩) (hn : L.length = nL)
    (ho : w'.ownsRow w.heap.size 64 2 (.slice a nL cap) nL (hps L)) (hb : Below w.heap.size w w') : NewRE R w (.returned (.agg #[.int .i64 n', .string d', .slice a nL cap, .int .i64 f', .bool z'])) w' := by
  subst eR hn
  exact ⟨a, cap, rfl, ho, hb⟩
theorem finAt_yes {e l : Int} {T : Tab} (h : e ≤ l) (h2 : freeB T e = true) : finAt (-1) true e l T = e := by simp [finAt, h, h2]

set_option maxRecDepth 100000 in
set_option maxHeartbeats 16000000 in
theorem arrS_same (n f sq : Int) (z fin : Bool) (d x : ByteArray) (a : Option Addr) (cap : Nat) (rs : List HP) (hB : RB d rs) (w : World) (hrow : HasP w a cap rs) (hno : (rcvOk ⟨n, d, rs, f, z⟩ && !z) = false) :
    Calls Try.prog 12 #[.agg #[.int .i64 n, .string d, .slice a rs.length cap, .int .i64 f, .bool z], .int .i64 sq, .string x, .bool fin] w (NewRE ⟨n, d, rs, f, z⟩ w) := by
  have OK := fun w (h : HasP w a cap rs) => rcvOkS n f z d a cap rs hB w h.1
  have HR := Lib.hid hrow
  have hl := Lib.hid hB.2.1
  clear hrow hB
  unfold NewRE
  cases hok : rcvOk ⟨n, d, rs, f, z⟩ with
  | false =>
    simp only [hok] at OK
    replace OK := Lib.hid OK
    clear hok hno
    go_enter Try.func12, Try.ntmps12
    have B0 := Lib.hid (show Below w.heap.size w ((w.alloc (.cells #[.int .i64 n, .string d, .slice a rs.length cap, .int .i64 f, .bool z] 26)).alloc (.cells #[.int .i64 0, .string ⟨#[]⟩, .slice none 0 0, .int .i64 0, .bool false] 26)) from (((Below.refl _ w).alloc (by simp) _).alloc (by simp) _))
    have Kl0 := Lib.hid (show Blk ((w.alloc (.cells #[.int .i64 n, .string d, .slice a rs.length cap, .int .i64 f, .bool z] 26)).alloc (.cells #[.int .i64 0, .string ⟨#[]⟩, .slice none 0 0, .int .i64 0, .bool false] 26)) (w.heap.size) [.int .i64 n, .string d, .slice a rs.length cap, .int .i64 f, .bool z] from (Blk.new w [.int .i64 n, .string d, .slice a rs.length cap, .int .i64 f, .bool z] 26).alloc (.cells #[.int .i64 0, .string ⟨#[]⟩, .slice none 0 0, .int .i64 0, .bool false] 26))
    have s1 : (w.alloc (.cells #[.int .i64 n, .string d, .slice a rs.length cap, .int .i64 f, .bool z] 26)).heap.size = w.heap.size + 1 := by simp
    have Ko0 := Lib.hid (show Blk ((w.alloc (.cells #[.int .i64 n, .string d, .slice a rs.length cap, .int .i64 f, .bool z] 26)).alloc (.cells #[.int .i64 0, .string ⟨#[]⟩, .slice none 0 0, .int .i64 0, .bool false] 26)) (w.heap.size + 1) [.int .i64 0, .string ⟨#[]⟩, .slice none 0 0, .int .i64 0, .bool false] by have h0 := Blk.new (w.alloc (.cells #[.int .i64 n, .string d, .slice a rs.length cap, .int .i64 f, .bool z] 26)) [.int .i64 0, .string ⟨#[]⟩, .slice none 0 0, .int .i64 0, .bool false] 26; rwa [s1] at h0)
    have n_l_o : w.heap.size ≠ w.heap.size + 1 := by omega
    clear s1
    go_wp2_with fail
    change Calls _ _ _ ((w.alloc (.cells #[.int .i64 n, .string d, .slice a rs.length cap, .int .i64 f, .bool z] 26)).alloc (.cells #[.int .i64 0, .string ⟨#[]⟩, .slice none 0 0, .int .i64 0, .bool false] 26)) _
    generalize (w.alloc (.cells #[.int .i64 n, .string d, .slice a rs.length cap, .int .i64 f, .bool z] 26)).alloc (.cells #[.int .i64 0, .string ⟨#[]⟩, .slice none 0 0, .int .i64 0, .bool false] 26) = v0 at B0 Kl0 Ko0 ⊢
    generalize hh_o : w.heap.size + 1 = g_o at Ko0 n_l_o ⊢
    generalize hh_l : w.heap.size = g_l at Kl0 n_l_o ⊢
    have l_l : w.heap.size ≤ g_l := by omega
    have l_o : w.heap.size ≤ g_o := by omega
    clear hh_l hh_o
    have hz0 := B0.out.size
    have lt0_l := Kl0.out.lt
    have lt0_o := Ko0.out.lt
    refine (rcopyS_any n f z d a cap rs _ (HR.out.below B0.out) hl.out).mono ?_
    rintro e v1 ⟨g2, cap2, rfl, ho_p, hb⟩
    have B1 := Lib.hid (B0.out.trans (hb.mono B0.out.size))
    have Kl1 := Lib.hid (Kl0.out.below hb)
    have Ko1 := Lib.hid (Ko0.out.below hb)
    clear hb B0 Kl0 Ko0
    replace ho_p := (show World.ownsRow v1 _ 64 2 (.slice (some ⟨g2, 0, none⟩) rs.length cap2) rs.length (hps rs) from ho_p)
    have m_p_l : (.slice (some ⟨g2, 0, none⟩) rs.length cap2 : Value).ownBlock ≠ some g_l := fun e => by have h1 := (ho_p.lt _ e).1; have h2 := lt0_l; omega
    have m_p_o : (.slice (some ⟨g2, 0, none⟩) rs.length cap2 : Value).ownBlock ≠ some g_o := fun e => by have h1 := (ho_p.lt _ e).1; have h2 := lt0_o; omega
    have Np1 := Lib.hid ho_p
    clear ho_p
    clear lt0_l lt0_o
    have m_p_q : (.slice (some ⟨g2, 0, none⟩) rs.length cap2 : Value).ownBlock ≠ some v1.heap.size := fun e => by have h1 := (Np1.out.lt _ e).2; omega
    have Npn := Lib.hid (own_below Np1.out ((Below.refl _ v1).alloc (Nat.le_refl _) (.cells #[.int .i64 n, .string d, .slice (some ⟨g2, 0, none⟩) rs.length cap2, .int .i64 f, .bool z] 26)))
    clear Np1
    have Kqn := Lib.hid (Blk.new v1 [.int .i64 n, .string d, .slice (some ⟨g2, 0, none⟩) rs.length cap2, .int .i64 f, .bool z] 26)
    have l_q : w.heap.size ≤ v1.heap.size := B1.out.size
    have n_l_q : g_l ≠ v1.heap.size := by have h1 := Kl1.out.lt; omega
    have n_o_q : g_o ≠ v1.heap.size := by have h1 := Ko1.out.lt; omega
    have Bn := Lib.hid (B1.out.alloc B1.out.size (.cells #[.int .i64 n, .string d, .slice (some ⟨g2, 0, none⟩) rs.length cap2, .int .i64 f, .bool z] 26))
    have Kln := Lib.hid (Kl1.out.alloc (.cells #[.int .i64 n, .string d, .slice (some ⟨g2, 0, none⟩) rs.length cap2, .int .i64 f, .bool z] 26))
    have Kon := Lib.hid (Ko1.out.alloc (.cells #[.int .i64 n, .string d, .slice (some ⟨g2, 0, none⟩) rs.length cap2, .int .i64 f, .bool z] 26))
    clear B1 Kl1 Ko1
    obtain ⟨⟨cl0, cl1, cl2, cl3, cl4⟩, dl0, dl1, dl2, dl3, dl4⟩ := Kln.out.of5
    obtain ⟨⟨co0, co1, co2, co3, co4⟩, do0, do1, do2, do3, do4⟩ := Kon.out.of5
    go_wp2_with fail
    clear cl0 cl1 cl2 cl3 cl4 dl0 dl1 dl2 dl3 dl4 co0 co1 co2 co3 co4 do0 do1 do2 do3 do4
    change Calls _ _ _ (v1.alloc (.cells #[.int .i64 n, .string d, .slice (some ⟨g2, 0, none⟩) rs.length cap2, .int .i64 f, .bool z] 26)) _
    generalize v1.alloc (.cells #[.int .i64 n, .string d, .slice (some ⟨g2, 0, none⟩) rs.length cap2, .int .i64 f, .bool z] 26) = v2 at Kqn Bn Kln Kon Npn ⊢
    generalize v1.heap.size = g_q at Kqn l_q n_l_q n_o_q m_p_q ⊢
    clear v1
    have Kl2 := Kln
    clear Kln
    have Ko2 := Kon
    clear Kon
    have Kq2 := Kqn
    clear Kqn
    have B2 := Bn
    clear Bn
    have Np2 := Npn
    clear Npn
    refine (OK.out _ (HR.out.below B2.out)).mono ?_
    rintro e v3 ⟨rfl, hb⟩
    have B3 := Lib.hid (B2.out.trans (hb.mono B2.out.size))
    have Kl3 := Lib.hid (Kl2.out.below hb)
    have Ko3 := Lib.hid (Ko2.out.below hb)
    have Kq3 := Lib.hid (Kq2.out.below hb)
    have Np3 := Lib.hid (own_below Np2.out hb)
    clear hb B2 Kl2 Ko2 Kq2 Np2
    obtain ⟨⟨cl0, cl1, cl2, cl3, cl4⟩, dl0, dl1, dl2, dl3, dl4⟩ := Kl3.out.of5
    obtain ⟨⟨co0, co1, co2, co3, co4⟩, do0, do1, do2, do3, do4⟩ := Ko3.out.of5
    obtain ⟨⟨cq0, cq1, cq2, cq3, cq4⟩, dq0, dq1, dq2, dq3, dq4⟩ := Kq3.out.of5
    go_wp2_with fail
    refine bodyPost_ret (v := .agg #[.int .i64 n, .string d, .slice (some ⟨g2, 0, none⟩) rs.length cap2, .int .i64 f, .bool z]) (by simp [results, Try.results12, go_sem, co0, co1, co2, co3, co4]) rfl ⟨_, _, rfl, ?_, ?_⟩
    · exact own_down (own_setn (own_setn (own_setn (own_setn (own_setn Np3.out (g := g_o) (k := 0) m_p_o (.int .i64 n)) (g := g_o) (k := 1) m_p_o (.string d)) (g := g_o) (k := 2) m_p_o (.slice (some ⟨g2, 0, none⟩) rs.length cap2)) (g := g_o) (k := 3) m_p_o (.int .i64 f)) (g := g_o) (k := 4) m_p_o (.bool z)) hz0
    · exact (((((B3.out.setCell l_o (.int .i64 n)).setCell l_o (.string d)).setCell l_o (.slice (some ⟨g2, 0, none⟩) rs.length cap2)).setCell l_o (.int .i64 f)).setCell l_o (.bool z))
  | true =>
    have hz : z = true := by rw [hok] at hno; simpa using hno
    subst hz
    simp only [hok] at OK
    replace OK := Lib.hid OK
    clear hok hno
    go_enter Try.func12, Try.ntmps12
    have B0 := Lib.hid (show Below w.heap.size w ((w.alloc (.cells #[.int .i64 n, .string d, .slice a rs.length cap, .int .i64 f, .bool true] 26)).alloc (.cells #[.int .i64 0, .string ⟨#[]⟩, .slice none 0 0, .int .i64 0, .bool false] 26)) from (((Below.refl _ w).alloc (by simp) _).alloc (by simp) _))
    have Kl0 := Lib.hid (show Blk ((w.alloc (.cells #[.int .i64 n, .string d, .slice a rs.length cap, .int .i64 f, .bool true] 26)).alloc (.cells #[.int .i64 0, .string ⟨#[]⟩, .slice none 0 0, .int .i64 0, .bool false] 26)) (w.heap.size) [.int .i64 n, .string d, .slice a rs.length cap, .int .i64 f, .bool true] from (Blk.new w [.int .i64 n, .string d, .slice a rs.length cap, .int .i64 f, .bool true] 26).alloc (.cells #[.int .i64 0, .string ⟨#[]⟩, .slice none 0 0, .int .i64 0, .bool false] 26))
    have s1 : (w.alloc (.cells #[.int .i64 n, .string d, .slice a rs.length cap, .int .i64 f, .bool true] 26)).heap.size = w.heap.size + 1 := by simp
    have Ko0 := Lib.hid (show Blk ((w.alloc (.cells #[.int .i64 n, .string d, .slice a rs.length cap, .int .i64 f, .bool true] 26)).alloc (.cells #[.int .i64 0, .string ⟨#[]⟩, .slice none 0 0, .int .i64 0, .bool false] 26)) (w.heap.size + 1) [.int .i64 0, .string ⟨#[]⟩, .slice none 0 0, .int .i64 0, .bool false] by have h0 := Blk.new (w.alloc (.cells #[.int .i64 n, .string d, .slice a rs.length cap, .int .i64 f, .bool true] 26)) [.int .i64 0, .string ⟨#[]⟩, .slice none 0 0, .int .i64 0, .bool false] 26; rwa [s1] at h0)
    have n_l_o : w.heap.size ≠ w.heap.size + 1 := by omega
    clear s1
    go_wp2_with fail
    change Calls _ _ _ ((w.alloc (.cells #[.int .i64 n, .string d, .slice a rs.length cap, .int .i64 f, .bool true] 26)).alloc (.cells #[.int .i64 0, .string ⟨#[]⟩, .slice none 0 0, .int .i64 0, .bool false] 26)) _
    generalize (w.alloc (.cells #[.int .i64 n, .string d, .slice a rs.length cap, .int .i64 f, .bool true] 26)).alloc (.cells #[.int .i64 0, .string ⟨#[]⟩, .slice none 0 0, .int .i64 0, .bool false] 26) = v0 at B0 Kl0 Ko0 ⊢
    generalize hh_o : w.heap.size + 1 = g_o at Ko0 n_l_o ⊢
    generalize hh_l : w.heap.size = g_l at Kl0 n_l_o ⊢
    have l_l : w.heap.size ≤ g_l := by omega
    have l_o : w.heap.size ≤ g_o := by omega
    clear hh_l hh_o
    have hz0 := B0.out.size
    have lt0_l := Kl0.out.lt
    have lt0_o := Ko0.out.lt
    refine (rcopyS_any n f true d a cap rs _ (HR.out.below B0.out) hl.out).mono ?_
    rintro e v1 ⟨g2, cap2, rfl, ho_p, hb⟩
    have B1 := Lib.hid (B0.out.trans (hb.mono B0.out.size))
    have Kl1 := Lib.hid (Kl0.out.below hb)
    have Ko1 := Lib.hid (Ko0.out.below hb)
    clear hb B0 Kl0 Ko0
    replace ho_p := (show World.ownsRow v1 _ 64 2 (.slice (some ⟨g2, 0, none⟩) rs.length cap2) rs.length (hps rs) from ho_p)
    have m_p_l : (.slice (some ⟨g2, 0, none⟩) rs.length cap2 : Value).ownBlock ≠ some g_l := fun e => by have h1 := (ho_p.lt _ e).1; have h2 := lt0_l; omega
    have m_p_o : (.slice (some ⟨g2, 0, none⟩) rs.length cap2 : Value).ownBlock ≠ some g_o := fun e => by have h1 := (ho_p.lt _ e).1; have h2 := lt0_o; omega
    have Np1 := Lib.hid ho_p
    clear ho_p
    clear lt0_l lt0_o
    have m_p_q : (.slice (some ⟨g2, 0, none⟩) rs.length cap2 : Value).ownBlock ≠ some v1.heap.size := fun e => by have h1 := (Np1.out.lt _ e).2; omega
    have Npn := Lib.hid (own_below Np1.out ((Below.refl _ v1).alloc (Nat.le_refl _) (.cells #[.int .i64 n, .string d, .slice (some ⟨g2, 0, none⟩) rs.length cap2, .int .i64 f, .bool true] 26)))
    clear Np1
    have Kqn := Lib.hid (Blk.new v1 [.int .i64 n, .string d, .slice (some ⟨g2, 0, none⟩) rs.length cap2, .int .i64 f, .bool true] 26)
    have l_q : w.heap.size ≤ v1.heap.size := B1.out.size
    have n_l_q : g_l ≠ v1.heap.size := by have h1 := Kl1.out.lt; omega
    have n_o_q : g_o ≠ v1.heap.size := by have h1 := Ko1.out.lt; omega
    have Bn := Lib.hid (B1.out.alloc B1.out.size (.cells #[.int .i64 n, .string d, .slice (some ⟨g2, 0, none⟩) rs.length cap2, .int .i64 f, .bool true] 26))
    have Kln := Lib.hid (Kl1.out.alloc (.cells #[.int .i64 n, .string d, .slice (some ⟨g2, 0, none⟩) rs.length cap2, .int .i64 f, .bool true] 26))
    have Kon := Lib.hid (Ko1.out.alloc (.cells #[.int .i64 n, .string d, .slice (some ⟨g2, 0, none⟩) rs.length cap2, .int .i64 f, .bool true] 26))
    clear B1 Kl1 Ko1
    obtain ⟨⟨cl0, cl1, cl2, cl3, cl4⟩, dl0, dl1, dl2, dl3, dl4⟩ := Kln.out.of5
    obtain ⟨⟨co0, co1, co2, co3, co4⟩, do0, do1, do2, do3, do4⟩ := Kon.out.of5
    go_wp2_with fail
    clear cl0 cl1 cl2 cl3 cl4 dl0 dl1 dl2 dl3 dl4 co0 co1 co2 co3 co4 do0 do1 do2 do3 do4
    change Calls _ _ _ (v1.alloc (.cells #[.int .i64 n, .string d, .slice (some ⟨g2, 0, none⟩) rs.length cap2, .int .i64 f, .bool true] 26)) _
    generalize v1.alloc (.cells #[.int .i64 n, .string d, .slice (some ⟨g2, 0, none⟩) rs.length cap2, .int .i64 f, .bool true] 26) = v2 at Kqn Bn Kln Kon Npn ⊢
    generalize v1.heap.size = g_q at Kqn l_q n_l_q n_o_q m_p_q ⊢
    clear v1
    have Kl2 := Kln
    clear Kln
    have Ko2 := Kon
    clear Kon
    have Kq2 := Kqn
    clear Kqn
    have B2 := Bn
    clear Bn
    have Np2 := Npn
    clear Npn
    refine (OK.out _ (HR.out.below B2.out)).mono ?_
    rintro e v3 ⟨rfl, hb⟩
    have B3 := Lib.hid (B2.out.trans (hb.mono B2.out.size))
    have Kl3 := Lib.hid (Kl2.out.below hb)
    have Ko3 := Lib.hid (Ko2.out.below hb)
    have Kq3 := Lib.hid (Kq2.out.below hb)
    have Np3 := Lib.hid (own_below Np2.out hb)
    clear hb B2 Kl2 Ko2 Kq2 Np2
    obtain ⟨⟨cl0, cl1, cl2, cl3, cl4⟩, dl0, dl1, dl2, dl3, dl4⟩ := Kl3.out.of5
    obtain ⟨⟨co0, co1, co2, co3, co4⟩, do0, do1, do2, do3, do4⟩ := Ko3.out.of5
    obtain ⟨⟨cq0, cq1, cq2, cq3, cq4⟩, dq0, dq1, dq2, dq3, dq4⟩ := Kq3.out.of5
    go_wp2_with fail
    refine bodyPost_ret (v := .agg #[.int .i64 n, .string d, .slice (some ⟨g2, 0, none⟩) rs.length cap2, .int .i64 f, .bool true]) (by simp [results, Try.results12, go_sem, co0, co1, co2, co3, co4]) rfl ⟨_, _, rfl, ?_, ?_⟩
    · exact own_down (own_setn (own_setn (own_setn (own_setn (own_setn Np3.out (g := g_o) (k := 0) m_p_o (.int .i64 n)) (g := g_o) (k := 1) m_p_o (.string d)) (g := g_o) (k := 2) m_p_o (.slice (some ⟨g2, 0, none⟩) rs.length cap2)) (g := g_o) (k := 3) m_p_o (.int .i64 f)) (g := g_o) (k := 4) m_p_o (.bool true)) hz0
    · exact (((((B3.out.setCell l_o (.int .i64 n)).setCell l_o (.string d)).setCell l_o (.slice (some ⟨g2, 0, none⟩) rs.length cap2)).setCell l_o (.int .i64 f)).setCell l_o (.bool true))

set_option maxRecDepth 100000 in
set_option maxHeartbeats 32000000 in
theorem arrS_yes (n f sq : Int) (fin : Bool) (d x : ByteArray) (a : Option Addr) (cap : Nat) (rs : List HP) (hx : x.size ≤ 1048576) (w : World) (hrow : HasP w a cap rs) (hok : rcvOk ⟨n, d, rs, f, false⟩ = true) :
    Calls Try.prog 12 #[.agg #[.int .i64 n, .string d, .slice a rs.length cap, .int .i64 f, .bool false], .int .i64 sq, .string x, .bool fin] w (NewRE (arrEnd ⟨n, d, rs, f, false⟩ (arrTab ⟨n, d, rs, f, false⟩ sq x) (cnt (arrTab ⟨n, d, rs, f, false⟩ sq x)) (finAt f fin (pl (sq + x.size - n)) (lim d f false) (arrTab ⟨n, d, rs, f, false⟩ sq x))) w) := by
  have hR := rcvOk_iff.1 hok
  have hwb := win_bd d false
  have hlb := lim_bd hR
  have hac := arr_cnt hR sq x
  have hpb := pl_bd (sq + x.size - n)
  have hfa := finAt_ge hR sq x fin (pl (sq + x.size - n)) hpb.1
  simp only at hac hfa hlb
  have hnw : 0 ≤ n ∧ n < 4294967296 := by have h1 := hR.1; unfold wordOk at h1; simpa using h1
  have hds : d.size ≤ 32 := hR.2.1
  have hfb := hR.2.2.2.1
  simp only at hfb
  have hB : RB d rs := ⟨by omega, by have := hR.2.2.1; simp only at this; omega, fun r hr => by
    obtain ⟨k, hk, rfl⟩ := List.getElem_of_mem hr
    have h1 := hR.2.2.2.2 k hk hk
    have h2 := PiecesOk.end_bd (k := k) hlb.1 (fun j y hj => hR.2.2.2.2 j y (by simp only; omega)) (by simp only; omega)
    have h3 := h1.2.1
    have h4 := h1.2.2
    simp only at h2 h3 h4
    omega⟩
  have hl3 : rs.length ≤ 3 := hR.2.2.1
  have HPk := Lib.hid (pieces_up (m := 32) hR.2.2.2.2 (by simp only; omega))
  have OK := fun w (h : HasP w a cap rs) => rcvOkS n f false d a cap rs hB w h.1
  simp only [hok] at OK
  replace OK := Lib.hid OK
  have HR := Lib.hid hrow
  have hl := Lib.hid hB.2.1
  have hd := Lib.hid hB.1
  clear hrow hB hok hR
  have hT0 : arrTab ⟨n, d, rs, f, false⟩ sq x = arrTo n sq x (lim d f false) (heldT rs) x.size := (arrTo_all _ _ _ _ _).symm
  generalize hTd : arrTab ⟨n, d, rs, f, false⟩ sq x = T at hac hfa hT0 ⊢
  clear hTd
  generalize cnt T = c at hac hfa ⊢
  have hlw : ∀ q : Nat, (q : Int) < lim d f false ↔ (q : Int) < win d false ∧ (f < 0 ∨ (q : Int) < f) := fun q => by
    rcases hfb with h1 | h1
    · rw [h1, lim_yes]; omega
    · rw [lim_no (by omega)]; omega
  have hlw2 : f = -1 → lim d f false = win d false := fun e => by rw [e, lim_yes]
  generalize hlg : lim d f false = l at hlb hac hfa hT0 hlw hlw2 ⊢
  clear hlg
  have hpw : pl (IntKind.i64.wrap (pl (sq + (x.size : Int)) - n)) = pl (sq + (x.size : Int) - n) := by rw [IntKind.wrap_i64]; unfold pl; omega
  obtain ⟨p, hpe⟩ : ∃ p : Nat, pl (sq + (x.size : Int) - n) = (p : Int) := ⟨(pl (sq + (x.size : Int) - n)).toNat, by omega⟩
  rw [hpe] at hpw hfa ⊢
  clear hpe hpb
  replace hpw := Lib.hid hpw
  obtain ⟨F, hF⟩ : ∃ F, finAt f fin p l T = F := ⟨_, rfl⟩
  rw [hF] at hfa ⊢
  replace hF := Lib.hid hF
  obtain ⟨R, hRe⟩ : ∃ R, arrEnd ⟨n, d, rs, f, false⟩ T c F = R := ⟨_, rfl⟩
  rw [hRe]
  replace hRe := Lib.hid hRe
  replace hT0 := Lib.hid hT0
  replace hac := Lib.hid hac
  replace hfa := Lib.hid hfa
  replace hlw := Lib.hid hlw
  replace hlw2 := Lib.hid hlw2
  go_enter Try.func12, Try.ntmps12
  have B0 := Lib.hid (show Below w.heap.size w ((w.alloc (.cells #[.int .i64 n, .string d, .slice a rs.length cap, .int .i64 f, .bool false] 26)).alloc (.cells #[.int .i64 0, .string ⟨#[]⟩, .slice none 0 0, .int .i64 0, .bool false] 26)) from (((Below.refl _ w).alloc (by simp) _).alloc (by simp) _))
  have Kl0 := Lib.hid (show Blk ((w.alloc (.cells #[.int .i64 n, .string d, .slice a rs.length cap, .int .i64 f, .bool false] 26)).alloc (.cells #[.int .i64 0, .string ⟨#[]⟩, .slice none 0 0, .int .i64 0, .bool false] 26)) (w.heap.size) [.int .i64 n, .string d, .slice a rs.length cap, .int .i64 f, .bool false] from (Blk.new w [.int .i64 n, .string d, .slice a rs.length cap, .int .i64 f, .bool false] 26).alloc (.cells #[.int .i64 0, .string ⟨#[]⟩, .slice none 0 0, .int .i64 0, .bool false] 26))
  have s1 : (w.alloc (.cells #[.int .i64 n, .string d, .slice a rs.length cap, .int .i64 f, .bool false] 26)).heap.size = w.heap.size + 1 := by simp
  have Ko0 := Lib.hid (show Blk ((w.alloc (.cells #[.int .i64 n, .string d, .slice a rs.length cap, .int .i64 f, .bool false] 26)).alloc (.cells #[.int .i64 0, .string ⟨#[]⟩, .slice none 0 0, .int .i64 0, .bool false] 26)) (w.heap.size + 1) [.int .i64 0, .string ⟨#[]⟩, .slice none 0 0, .int .i64 0, .bool false] by have h0 := Blk.new (w.alloc (.cells #[.int .i64 n, .string d, .slice a rs.length cap, .int .i64 f, .bool false] 26)) [.int .i64 0, .string ⟨#[]⟩, .slice none 0 0, .int .i64 0, .bool false] 26; rwa [s1] at h0)
  have n_l_o : w.heap.size ≠ w.heap.size + 1 := by omega
  clear s1
  go_wp2_with fail
  change Calls _ _ _ ((w.alloc (.cells #[.int .i64 n, .string d, .slice a rs.length cap, .int .i64 f, .bool false] 26)).alloc (.cells #[.int .i64 0, .string ⟨#[]⟩, .slice none 0 0, .int .i64 0, .bool false] 26)) _
  generalize (w.alloc (.cells #[.int .i64 n, .string d, .slice a rs.length cap, .int .i64 f, .bool false] 26)).alloc (.cells #[.int .i64 0, .string ⟨#[]⟩, .slice none 0 0, .int .i64 0, .bool false] 26) = v0 at B0 Kl0 Ko0 ⊢
  generalize hh_o : w.heap.size + 1 = g_o at Ko0 n_l_o ⊢
  generalize hh_l : w.heap.size = g_l at Kl0 n_l_o ⊢
  have l_l : w.heap.size ≤ g_l := by omega
  have l_o : w.heap.size ≤ g_o := by omega
  clear hh_l hh_o
  have hz0 := B0.out.size
  have lt0_l := Kl0.out.lt
  have lt0_o := Ko0.out.lt
  refine (rcopyS_any n f false d a cap rs _ (HR.out.below B0.out) hl.out).mono ?_
  rintro e v1 ⟨g2, cap2, rfl, ho_p, hb⟩
  have B1 := Lib.hid (B0.out.trans (hb.mono B0.out.size))
  have Kl1 := Lib.hid (Kl0.out.below hb)
  have Ko1 := Lib.hid (Ko0.out.below hb)
  clear hb B0 Kl0 Ko0
  replace ho_p := (show World.ownsRow v1 _ 64 2 (.slice (some ⟨g2, 0, none⟩) rs.length cap2) rs.length (hps rs) from ho_p)
  have m_p_l : (.slice (some ⟨g2, 0, none⟩) rs.length cap2 : Value).ownBlock ≠ some g_l := fun e => by have h1 := (ho_p.lt _ e).1; have h2 := lt0_l; omega
  have m_p_o : (.slice (some ⟨g2, 0, none⟩) rs.length cap2 : Value).ownBlock ≠ some g_o := fun e => by have h1 := (ho_p.lt _ e).1; have h2 := lt0_o; omega
  have Np1 := Lib.hid ho_p
  clear ho_p
  clear lt0_l lt0_o
  have m_p_q : (.slice (some ⟨g2, 0, none⟩) rs.length cap2 : Value).ownBlock ≠ some v1.heap.size := fun e => by have h1 := (Np1.out.lt _ e).2; omega
  have Npn := Lib.hid (own_below Np1.out ((Below.refl _ v1).alloc (Nat.le_refl _) (.cells #[.int .i64 n, .string d, .slice (some ⟨g2, 0, none⟩) rs.length cap2, .int .i64 f, .bool false] 26)))
  clear Np1
  have Kqn := Lib.hid (Blk.new v1 [.int .i64 n, .string d, .slice (some ⟨g2, 0, none⟩) rs.length cap2, .int .i64 f, .bool false] 26)
  have l_q : w.heap.size ≤ v1.heap.size := B1.out.size
  have n_l_q : g_l ≠ v1.heap.size := by have h1 := Kl1.out.lt; omega
  have n_o_q : g_o ≠ v1.heap.size := by have h1 := Ko1.out.lt; omega
  have Bn := Lib.hid (B1.out.alloc B1.out.size (.cells #[.int .i64 n, .string d, .slice (some ⟨g2, 0, none⟩) rs.length cap2, .int .i64 f, .bool false] 26))
  have Kln := Lib.hid (Kl1.out.alloc (.cells #[.int .i64 n, .string d, .slice (some ⟨g2, 0, none⟩) rs.length cap2, .int .i64 f, .bool false] 26))
  have Kon := Lib.hid (Ko1.out.alloc (.cells #[.int .i64 n, .string d, .slice (some ⟨g2, 0, none⟩) rs.length cap2, .int .i64 f, .bool false] 26))
  clear B1 Kl1 Ko1
  obtain ⟨⟨cl0, cl1, cl2, cl3, cl4⟩, dl0, dl1, dl2, dl3, dl4⟩ := Kln.out.of5
  obtain ⟨⟨co0, co1, co2, co3, co4⟩, do0, do1, do2, do3, do4⟩ := Kon.out.of5
  go_wp2_with fail
  clear cl0 cl1 cl2 cl3 cl4 dl0 dl1 dl2 dl3 dl4 co0 co1 co2 co3 co4 do0 do1 do2 do3 do4
  change Calls _ _ _ (v1.alloc (.cells #[.int .i64 n, .string d, .slice (some ⟨g2, 0, none⟩) rs.length cap2, .int .i64 f, .bool false] 26)) _
  generalize v1.alloc (.cells #[.int .i64 n, .string d, .slice (some ⟨g2, 0, none⟩) rs.length cap2, .int .i64 f, .bool false] 26) = v2 at Kqn Bn Kln Kon Npn ⊢
  generalize v1.heap.size = g_q at Kqn l_q n_l_q n_o_q m_p_q ⊢
  clear v1
  have Kl2 := Kln
  clear Kln
  have Ko2 := Kon
  clear Kon
  have Kq2 := Kqn
  clear Kqn
  have B2 := Bn
  clear Bn
  have Np2 := Npn
  clear Npn
  refine (OK.out _ (HR.out.below B2.out)).mono ?_
  rintro e v3 ⟨rfl, hb⟩
  have B3 := Lib.hid (B2.out.trans (hb.mono B2.out.size))
  have Kl3 := Lib.hid (Kl2.out.below hb)
  have Ko3 := Lib.hid (Ko2.out.below hb)
  have Kq3 := Lib.hid (Kq2.out.below hb)
  have Np3 := Lib.hid (own_below Np2.out hb)
  clear hb B2 Kl2 Ko2 Kq2 Np2
  obtain ⟨⟨cl0, cl1, cl2, cl3, cl4⟩, dl0, dl1, dl2, dl3, dl4⟩ := Kl3.out.of5
  obtain ⟨⟨co0, co1, co2, co3, co4⟩, do0, do1, do2, do3, do4⟩ := Ko3.out.of5
  obtain ⟨⟨cq0, cq1, cq2, cq3, cq4⟩, dq0, dq1, dq2, dq3, dq4⟩ := Kq3.out.of5
  go_wp2_with fail
  clear cl0 cl1 cl2 cl3 cl4 dl0 dl1 dl2 dl3 dl4 co0 co1 co2 co3 co4 do0 do1 do2 do3 do4 cq0 cq1 cq2 cq3 cq4 dq0 dq1 dq2 dq3 dq4
  refine (windowS n f false d a cap rs hd.out _).mono ?_
  rintro e v4 ⟨rfl, hb⟩
  have B4 := Lib.hid (B3.out.trans (hb.mono B3.out.size))
  have Kl4 := Lib.hid (Kl3.out.below hb)
  have Ko4 := Lib.hid (Ko3.out.below hb)
  have Kq4 := Lib.hid (Kq3.out.below hb)
  have Np4 := Lib.hid (own_below Np3.out hb)
  clear hb B3 Kl3 Ko3 Kq3 Np3
  generalize hwg : win d false = u at hwb hlb hlw hlw2 ⊢
  clear hwg
  obtain ⟨⟨cl0, cl1, cl2, cl3, cl4⟩, dl0, dl1, dl2, dl3, dl4⟩ := Kl4.out.of5
  obtain ⟨⟨co0, co1, co2, co3, co4⟩, do0, do1, do2, do3, do4⟩ := Ko4.out.of5
  obtain ⟨⟨cq0, cq1, cq2, cq3, cq4⟩, dq0, dq1, dq2, dq3, dq4⟩ := Kq4.out.of5
  go_wp2_with fail
  clear cl0 cl1 cl2 cl3 cl4 dl0 dl1 dl2 dl3 dl4 co0 co1 co2 co3 co4 do0 do1 do2 do3 do4 cq0 cq1 cq2 cq3 cq4 dq0 dq1 dq2 dq3 dq4
  have hzq := B4.out.size
  have hq_lt_l := Kl4.out.lt
  have hq_lt_o := Ko4.out.lt
  have hq_lt_q := Kq4.out.lt
  refine (slotsS n f false d a cap rs _ (HR.out.below B4.out).1 HPk.out hl3).mono ?_
  rintro e v5 ⟨g3, rfl, ho_s, hb⟩
  have B5 := Lib.hid (B4.out.trans (hb.mono B4.out.size))
  have Kl5 := Lib.hid (Kl4.out.below hb)
  have Ko5 := Lib.hid (Ko4.out.below hb)
  have Kq5 := Lib.hid (Kq4.out.below hb)
  have Np5 := Lib.hid (own_below Np4.out hb)
  clear hb B4 Kl4 Ko4 Kq4 Np4
  have hown_s := ho_s
  have e_s_l : g_l ≠ g3 := by have h1 := (hown_s.lt g3 rfl).1; have h2 := hq_lt_l; omega
  have e_s_o : g_o ≠ g3 := by have h1 := (hown_s.lt g3 rfl).1; have h2 := hq_lt_o; omega
  have e_s_q : g_q ≠ g3 := by have h1 := (hown_s.lt g3 rfl).1; have h2 := hq_lt_q; omega
  have m_s_l : (.slice (some ⟨g3, 0, none⟩) 33 33 : Value).ownBlock ≠ some g_l := own_ne (fun e => e_s_l e.symm)
  have m_s_o : (.slice (some ⟨g3, 0, none⟩) 33 33 : Value).ownBlock ≠ some g_o := own_ne (fun e => e_s_o e.symm)
  have m_s_q : (.slice (some ⟨g3, 0, none⟩) 33 33 : Value).ownBlock ≠ some g_q := own_ne (fun e => e_s_q e.symm)
  have l_s : w.heap.size ≤ g3 := by have h1 := (hown_s.lt g3 rfl).1; have h2 := hzq; omega
  have Os := Lib.hid (show World.ownsRow v5 g3 3 1 (.slice (some ⟨g3, 0, none⟩) 33 33) 33 (slotsV (arrTo n sq x l (heldT rs) 0)) by rw [arrTo_zero]; exact ⟨hown_s.1, hown_s.2.imp id (fun ⟨g, cp, cur, h1, h2, h3⟩ => ⟨g, cp, cur, h1, by cases h1; exact Nat.le_refl _, h3⟩)⟩)
  clear hown_s ho_s hq_lt_l hq_lt_o hq_lt_q hzq Np5
  obtain ⟨⟨cl0, cl1, cl2, cl3, cl4⟩, dl0, dl1, dl2, dl3, dl4⟩ := Kl5.out.of5
  obtain ⟨⟨co0, co1, co2, co3, co4⟩, do0, do1, do2, do3, do4⟩ := Ko5.out.of5
  obtain ⟨⟨cq0, cq1, cq2, cq3, cq4⟩, dq0, dq1, dq2, dq3, dq4⟩ := Kq5.out.of5
  go_wp2_with fail
  clear cl0 cl1 cl2 cl3 cl4 dl0 dl1 dl2 dl3 dl4 co0 co1 co2 co3 co4 do0 do1 do2 do3 do4 cq0 cq1 cq2 cq3 cq4 dq0 dq1 dq2 dq3 dq4
  go_loopw [12] (fun i wr => ∃ k : Nat, k ≤ x.size ∧ i = .int .i64 k ∧ Hid (wr.ownsRow g3 3 1 (.slice (some ⟨g3, 0, none⟩) 33 33) 33 (slotsV (arrTo n sq x l (heldT rs) k))) ∧ Hid (Blk wr g_l [.int .i64 n, .string d, .slice a rs.length cap, .int .i64 f, .bool false]) ∧ Hid (Blk wr g_o [.int .i64 0, .string ⟨#[]⟩, .slice none 0 0, .int .i64 0, .bool false]) ∧ Hid (Blk wr g_q [.int .i64 n, .string d, .slice (some ⟨g2, 0, none⟩) rs.length cap2, .int .i64 f, .bool false]) ∧ Hid (Below w.heap.size w wr)) (fun i _ => x.size - (RowKit.intOf i).toNat)
  case atStart => exact ⟨0, Nat.zero_le _, rfl, Os, Kl5, Ko5, Kq5, B5⟩
  case round =>
    obtain ⟨k, hk, rfl, Os1, Kl1, Ko1, Kq1, B1⟩ := hrel
    clear Os Kl5 Ko5 Kq5 B5
    by_cases hlt : k < x.size
    · obtain ⟨p, hp⟩ : ∃ p : Nat, pl (sq + (k : Int) - n) = (p : Int) := ⟨(pl (sq + (k : Int) - n)).toNat, by have := (pl_bd (sq + (k : Int) - n)).1; omega⟩
      have hoff : pl (IntKind.i64.wrap (pl (sq + (k : Int)) - n)) = (p : Int) := by rw [← hp, IntKind.wrap_i64]; unfold pl; omega
      have hHP := Lib.hid hp.symm
      have hk0 : (0 : Int) ≤ (k : Int) := Int.natCast_nonneg _
      have hk1 : (k : Int) < (x.size : Int) := by omega
      have hb8 := x[k].toNat_lt
      have hw8 : IntKind.i64.wrap (x[k].toNat : Int) = (x[k].toNat : Int) := IntWalk.i64_in _ (by omega)
      have C2 := restS (IntKind.i64.wrap (pl (sq + (k : Int)) - n))
      rw [hoff] at C2
      replace C2 := Lib.hid C2
      clear hp hoff
      obtain ⟨⟨c0, c1, c2, c3, c4⟩, d0, d1, d2, d3, d4⟩ := Kl1.out.of5
      go_wp2_with fail
      go_region_held3 (fun w' => w'.cell? ⟨g_l, 0, none⟩ = some (.int .i64 n))
        (first | go_keep | exact c0)
        (first | (go_at_call 19; refine (seqAddS sq (k : Int) _).mono ?_; rintro e w1 ⟨rfl, rfl⟩) | (go_at_call 43; refine (C2.out _).mono ?_; rintro e w1 ⟨rfl, rfl⟩))
      clear c0 c1 c2 c3 c4 d0 d1 d2 d3 d4 C2
      have Os2 := Lib.hid (own_drewn Os1.out)
      have Kl2 := Lib.hid Kl1.out.drew
      have Ko2 := Lib.hid Ko1.out.drew
      have Kq2 := Lib.hid Kq1.out.drew
      have B2 := Lib.hid B1.out.drew
      clear Os1 Kl1 Ko1 Kq1 B1
      generalize wr.drew = v1 at Os2 Kl2 Ko2 Kq2 B2 ⊢
      have hi32 : k < 4294967296 := by omega
      have hl32 : l ≤ 32 := by omega
      obtain ⟨⟨c0, c1, c2, c3, c4⟩, d0, d1, d2, d3, d4⟩ := Kl2.out.of5
      have hp0 : (0 : Int) ≤ (p : Int) := Int.natCast_nonneg _
      by_cases hlim : (p : Int) < l
      · have hlq := (hlw.out p).1 hlim
        have hpu := hlq.1
        have hp33 : (p : Int) < 33 := by omega
        have hd0 := (Os2.out.cellAt p (by omega)).trans (slotsV_at _ p (by omega))
        have hsv := sv_bd (arrTo n sq x l (heldT rs) k p)
        have hf0 := Os2.out.frozenAt p
        by_cases hT : arrTo n sq x l (heldT rs) k p = none
        · have HN := Lib.hid (arrTo_put hl32 hi32 hlt hHP.out hlim hT)
          rw [sv_neg hT] at hd0
          have S1 := Os2.out.stored p (.int .i64 (x[k].toNat : Int))
          rw [slotsV_put, ← HN.out] at S1
          have O3 := Lib.hid S1.1
          have B3 := Lib.hid (B2.out.setCell (p := ⟨g3, p, none⟩) l_s (.int .i64 (x[k].toNat : Int)))
          have Kl3 := Lib.hid (Kl2.out.setOther ⟨g3, p, none⟩ (.int .i64 (x[k].toNat : Int)) e_s_l)
          have Ko3 := Lib.hid (Ko2.out.setOther ⟨g3, p, none⟩ (.int .i64 (x[k].toNat : Int)) e_s_o)
          have Kq3 := Lib.hid (Kq2.out.setOther ⟨g3, p, none⟩ (.int .i64 (x[k].toNat : Int)) e_s_q)
          clear S1 Os2 B2 Kl2 Ko2 Kq2 hT hsv HN hlim
          rcases hlq.2 with hf | hf
          · go_wp2_with fail
            go_roundw
            case rel => exact ⟨k + 1, by omega, by go_num, O3, Kl3, Ko3, Kq3, B3⟩
            case measure => simp [RowKit.intOf]; omega
          · have hfn : ¬ f < 0 := by omega
            go_wp2_with fail
            go_roundw
            case rel => exact ⟨k + 1, by omega, by go_num, O3, Kl3, Ko3, Kq3, B3⟩
            case measure => simp [RowKit.intOf]; omega
        · have HN := Lib.hid (arrTo_held hl32 hi32 hHP.out hlim hT)
          have hsn := (sv_some hT).1
          generalize sv (arrTo n sq x l (heldT rs) k p) = u2 at hd0 hsv hsn
          have hsn2 : ¬ u2 < 0 := by omega
          rw [← HN.out] at Os2
          clear hT HN hlim hsv hf0
          rcases hlq.2 with hf | hf
          · go_wp2_with fail
            go_roundw
            case rel => exact ⟨k + 1, by omega, by go_num, Os2, Kl2, Ko2, Kq2, B2⟩
            case measure => simp [RowKit.intOf]; omega
          · have hfn : ¬ f < 0 := by omega
            go_wp2_with fail
            go_roundw
            case rel => exact ⟨k + 1, by omega, by go_num, Os2, Kl2, Ko2, Kq2, B2⟩
            case measure => simp [RowKit.intOf]; omega
      · rw [← arrTo_skip hl32 hi32 hHP.out hlim] at Os2
        have hlq : ¬ ((p : Int) < u ∧ (f < 0 ∨ (p : Int) < f)) := fun h => hlim ((hlw.out p).2 h)
        by_cases hpu : (p : Int) < u
        · have hfn : ¬ f < 0 := fun h => hlq ⟨hpu, .inl h⟩
          have hfn2 : ¬ (p : Int) < f := fun h => hlq ⟨hpu, .inr h⟩
          clear hlq hlim
          go_wp2_with fail
          go_roundw
          case rel => exact ⟨k + 1, by omega, by go_num, Os2, Kl2, Ko2, Kq2, B2⟩
          case measure => simp [RowKit.intOf]; omega
        · clear hlq hlim
          go_wp2_with fail
          go_roundw
          case rel => exact ⟨k + 1, by omega, by go_num, Os2, Kl2, Ko2, Kq2, B2⟩
          case measure => simp [RowKit.intOf]; omega
    · obtain rfl : k = x.size := by omega
      rw [← hT0.out] at Os1
      clear hk hlt
      have C2 := restS (IntKind.i64.wrap (pl (sq + (x.size : Int)) - n))
      rw [hpw.out] at C2
      replace C2 := Lib.hid C2
      obtain ⟨⟨cl0, cl1, cl2, cl3, cl4⟩, dl0, dl1, dl2, dl3, dl4⟩ := Kl1.out.of5
      go_wp2_with fail
      go_region_held3 (fun w' => w'.cell? ⟨g_l, 0, none⟩ = some (.int .i64 n))
        (first | go_keep | exact cl0)
        (first | (go_at_call 19; refine (seqAddS sq (x.size : Int) _).mono ?_; rintro e w1 ⟨rfl, rfl⟩) | (go_at_call 43; refine (C2.out _).mono ?_; rintro e w1 ⟨rfl, rfl⟩))
      clear C2
      clear cl0 cl1 cl2 cl3 cl4 dl0 dl1 dl2 dl3 dl4
      have Kl2 := Lib.hid (show Blk wr.drew g_l [.int .i64 n, .string d, .slice a rs.length cap, .int .i64 f, .bool false] from Kl1.out.drew)
      have Ko2 := Lib.hid (show Blk wr.drew g_o [.int .i64 0, .string ⟨#[]⟩, .slice none 0 0, .int .i64 0, .bool false] from Ko1.out.drew)
      have Kq2 := Lib.hid (show Blk wr.drew g_q [.int .i64 n, .string d, .slice (some ⟨g2, 0, none⟩) rs.length cap2, .int .i64 f, .bool false] from Kq1.out.drew)
      have Ns2 := Lib.hid (own_drewn Os1.out)
      have B2 := Lib.hid B1.out.drew
      clear B1 Kl1 Ko1 Kq1 Os1
      generalize wr.drew = v2 at Kl2 Ko2 Kq2 Ns2 B2 ⊢
      go_upto_region 13 with fail
      go_cut [95] (fun s95 wx => ∃ b : Bool, s95 = .bool b ∧ Hid (F = bif b then (p : Int) else f) ∧ Hid (Blk wx g_l [.int .i64 n, .string d, .slice a rs.length cap, .int .i64 f, .bool false]) ∧ Hid (Blk wx g_o [.int .i64 0, .string ⟨#[]⟩, .slice none 0 0, .int .i64 0, .bool false]) ∧ Hid (Blk wx g_q [.int .i64 n, .string d, .slice (some ⟨g2, 0, none⟩) rs.length cap2, .int .i64 f, .bool false]) ∧ Hid (wx.ownsRow g3 3 1 (.slice (some ⟨g3, 0, none⟩) 33 33) 33 (slotsV T)) ∧ Hid (Below w.heap.size w wx))
      case first =>
        cases fin with
        | false =>
          have hFf := Lib.hid (show F = bif false then (p : Int) else f from hF.out.symm.trans (finAt_no (f := f) (e := (p : Int)) (l := l) (fin := false) (T := T) (fun h1 h2 h3 h4 => by cases h1)))
          obtain ⟨⟨cl0, cl1, cl2, cl3, cl4⟩, dl0, dl1, dl2, dl3, dl4⟩ := Kl2.out.of5
          obtain ⟨⟨co0, co1, co2, co3, co4⟩, do0, do1, do2, do3, do4⟩ := Ko2.out.of5
          obtain ⟨⟨cq0, cq1, cq2, cq3, cq4⟩, dq0, dq1, dq2, dq3, dq4⟩ := Kq2.out.of5
          go_wp2_with fail
          clear cl0 cl1 cl2 cl3 cl4 dl0 dl1 dl2 dl3 dl4 co0 co1 co2 co3 co4 do0 do1 do2 do3 do4 cq0 cq1 cq2 cq3 cq4 dq0 dq1 dq2 dq3 dq4
          go_meet
          exact ⟨false, rfl, hFf, Kl2, Ko2, Kq2, Ns2, B2⟩
        | true =>
          by_cases hf : f = -1
          case neg =>
            have hfn : ¬ f < 0 := by omega
            have hFf := Lib.hid (show F = bif false then (p : Int) else f from hF.out.symm.trans (finAt_no (f := f) (e := (p : Int)) (l := l) (fin := true) (T := T) (fun h1 h2 h3 h4 => by exact hf h2)))
            clear hf
            obtain ⟨⟨cl0, cl1, cl2, cl3, cl4⟩, dl0, dl1, dl2, dl3, dl4⟩ := Kl2.out.of5
            obtain ⟨⟨co0, co1, co2, co3, co4⟩, do0, do1, do2, do3, do4⟩ := Ko2.out.of5
            obtain ⟨⟨cq0, cq1, cq2, cq3, cq4⟩, dq0, dq1, dq2, dq3, dq4⟩ := Kq2.out.of5
            go_wp2_with fail
            clear cl0 cl1 cl2 cl3 cl4 dl0 dl1 dl2 dl3 dl4 co0 co1 co2 co3 co4 do0 do1 do2 do3 do4 cq0 cq1 cq2 cq3 cq4 dq0 dq1 dq2 dq3 dq4
            go_meet
            exact ⟨false, rfl, hFf, Kl2, Ko2, Kq2, Ns2, B2⟩
          have hf0 : f < 0 := by omega
          by_cases hpu : (p : Int) ≤ u
          case neg =>
            have hFf := Lib.hid (show F = bif false then (p : Int) else f from hF.out.symm.trans (finAt_no (f := f) (e := (p : Int)) (l := l) (fin := true) (T := T) (fun h1 h2 h3 h4 => by have := hlw2.out hf; omega)))
            clear hf
            obtain ⟨⟨cl0, cl1, cl2, cl3, cl4⟩, dl0, dl1, dl2, dl3, dl4⟩ := Kl2.out.of5
            obtain ⟨⟨co0, co1, co2, co3, co4⟩, do0, do1, do2, do3, do4⟩ := Ko2.out.of5
            obtain ⟨⟨cq0, cq1, cq2, cq3, cq4⟩, dq0, dq1, dq2, dq3, dq4⟩ := Kq2.out.of5
            go_wp2_with fail
            clear cl0 cl1 cl2 cl3 cl4 dl0 dl1 dl2 dl3 dl4 co0 co1 co2 co3 co4 do0 do1 do2 do3 do4 cq0 cq1 cq2 cq3 cq4 dq0 dq1 dq2 dq3 dq4
            go_meet
            exact ⟨false, rfl, hFf, Kl2, Ko2, Kq2, Ns2, B2⟩
          cases hfr : freeB T p with
          | false =>
            have C := fun w (h : Row w w.heap.size (some ⟨g3, 0, none⟩) (slotsV T)) => freeS T p (by omega) (some ⟨g3, 0, none⟩) w h
            simp only [hfr] at C
            replace C := Lib.hid C
            have hFf := Lib.hid (show F = bif false then (p : Int) else f from hF.out.symm.trans (finAt_no (f := f) (e := (p : Int)) (l := l) (fin := true) (T := T) (fun h1 h2 h3 h4 => by exact absurd (hfr.symm.trans h4) (by decide))))
            clear hf hfr
            obtain ⟨⟨cl0, cl1, cl2, cl3, cl4⟩, dl0, dl1, dl2, dl3, dl4⟩ := Kl2.out.of5
            obtain ⟨⟨co0, co1, co2, co3, co4⟩, do0, do1, do2, do3, do4⟩ := Ko2.out.of5
            obtain ⟨⟨cq0, cq1, cq2, cq3, cq4⟩, dq0, dq1, dq2, dq3, dq4⟩ := Kq2.out.of5
            go_wp2_with fail
            clear cl0 cl1 cl2 cl3 cl4 dl0 dl1 dl2 dl3 dl4 co0 co1 co2 co3 co4 do0 do1 do2 do3 do4 cq0 cq1 cq2 cq3 cq4 dq0 dq1 dq2 dq3 dq4
            refine (C.out _ (Row.ownK Ns2.out)).mono ?_
            rintro e v3 ⟨rfl, hb⟩
            have B3 := Lib.hid (B2.out.trans (hb.mono B2.out.size))
            have Kl3 := Lib.hid (Kl2.out.below hb)
            have Ko3 := Lib.hid (Ko2.out.below hb)
            have Kq3 := Lib.hid (Kq2.out.below hb)
            have Ns3 := Lib.hid (own_below Ns2.out hb)
            clear hb B2 Kl2 Ko2 Kq2 Ns2
            obtain ⟨⟨cl0, cl1, cl2, cl3, cl4⟩, dl0, dl1, dl2, dl3, dl4⟩ := Kl3.out.of5
            obtain ⟨⟨co0, co1, co2, co3, co4⟩, do0, do1, do2, do3, do4⟩ := Ko3.out.of5
            obtain ⟨⟨cq0, cq1, cq2, cq3, cq4⟩, dq0, dq1, dq2, dq3, dq4⟩ := Kq3.out.of5
            go_wp2_with fail
            clear cl0 cl1 cl2 cl3 cl4 dl0 dl1 dl2 dl3 dl4 co0 co1 co2 co3 co4 do0 do1 do2 do3 do4 cq0 cq1 cq2 cq3 cq4 dq0 dq1 dq2 dq3 dq4
            go_meet
            exact ⟨false, rfl, hFf, Kl3, Ko3, Kq3, Ns3, B3⟩
          | true =>
            have C := fun w (h : Row w w.heap.size (some ⟨g3, 0, none⟩) (slotsV T)) => freeS T p (by omega) (some ⟨g3, 0, none⟩) w h
            simp only [hfr] at C
            replace C := Lib.hid C
            have hFf := Lib.hid (show F = bif true then (p : Int) else f from (show F = finAt (-1) true (p : Int) l T by have h9 := hF.out; rw [hf] at h9; exact h9.symm).trans (finAt_yes (e := (p : Int)) (l := l) (T := T) (by have := hlw2.out hf; omega) hfr))
            clear hf hfr
            obtain ⟨⟨cl0, cl1, cl2, cl3, cl4⟩, dl0, dl1, dl2, dl3, dl4⟩ := Kl2.out.of5
            obtain ⟨⟨co0, co1, co2, co3, co4⟩, do0, do1, do2, do3, do4⟩ := Ko2.out.of5
            obtain ⟨⟨cq0, cq1, cq2, cq3, cq4⟩, dq0, dq1, dq2, dq3, dq4⟩ := Kq2.out.of5
            go_wp2_with fail
            clear cl0 cl1 cl2 cl3 cl4 dl0 dl1 dl2 dl3 dl4 co0 co1 co2 co3 co4 do0 do1 do2 do3 do4 cq0 cq1 cq2 cq3 cq4 dq0 dq1 dq2 dq3 dq4
            refine (C.out _ (Row.ownK Ns2.out)).mono ?_
            rintro e v3 ⟨rfl, hb⟩
            have B3 := Lib.hid (B2.out.trans (hb.mono B2.out.size))
            have Kl3 := Lib.hid (Kl2.out.below hb)
            have Ko3 := Lib.hid (Ko2.out.below hb)
            have Kq3 := Lib.hid (Kq2.out.below hb)
            have Ns3 := Lib.hid (own_below Ns2.out hb)
            clear hb B2 Kl2 Ko2 Kq2 Ns2
            obtain ⟨⟨cl0, cl1, cl2, cl3, cl4⟩, dl0, dl1, dl2, dl3, dl4⟩ := Kl3.out.of5
            obtain ⟨⟨co0, co1, co2, co3, co4⟩, do0, do1, do2, do3, do4⟩ := Ko3.out.of5
            obtain ⟨⟨cq0, cq1, cq2, cq3, cq4⟩, dq0, dq1, dq2, dq3, dq4⟩ := Kq3.out.of5
            go_wp2_with fail
            clear cl0 cl1 cl2 cl3 cl4 dl0 dl1 dl2 dl3 dl4 co0 co1 co2 co3 co4 do0 do1 do2 do3 do4 cq0 cq1 cq2 cq3 cq4 dq0 dq1 dq2 dq3 dq4
            go_meet
            exact ⟨true, rfl, hFf, Kl3, Ko3, Kq3, Ns3, B3⟩
      case rest =>
        obtain ⟨b, rfl, hFf, Kl40, Ko40, Kq40, Ns40, B40⟩ := hcut
        clear hF hlw hlw2 hpw
        go_upto_if 95 with fail
        go_cut [14] (fun s14 wx => s14 = .int .i64 (p : Int) ∧ Hid (Blk wx g_l [.int .i64 n, .string d, .slice a rs.length cap, .int .i64 f, .bool false]) ∧ Hid (Blk wx g_o [.int .i64 0, .string ⟨#[]⟩, .slice none 0 0, .int .i64 0, .bool false]) ∧ Hid (Blk wx g_q [.int .i64 n, .string d, .slice (some ⟨g2, 0, none⟩) rs.length cap2, .int .i64 F, .bool false]) ∧ Hid (wx.ownsRow g3 3 1 (.slice (some ⟨g3, 0, none⟩) 33 33) 33 (slotsV T)) ∧ Hid (Below w.heap.size w wx))
        case first =>
          cases b with
          | false =>
            go_wp2_with fail
            go_meet
            rw [show F = f from hFf.out]
            exact ⟨rfl, Kl40, Ko40, Kq40, Ns40, B40⟩
          | true =>
            obtain ⟨⟨cl0, cl1, cl2, cl3, cl4⟩, dl0, dl1, dl2, dl3, dl4⟩ := Kl40.out.of5
            obtain ⟨⟨co0, co1, co2, co3, co4⟩, do0, do1, do2, do3, do4⟩ := Ko40.out.of5
            obtain ⟨⟨cq0, cq1, cq2, cq3, cq4⟩, dq0, dq1, dq2, dq3, dq4⟩ := Kq40.out.of5
            have Ns41 := Lib.hid (own_setn Ns40.out (g := g_q) (k := 3) m_s_q (.int .i64 (p : Int)))
            have Kl41 := Lib.hid (show Blk (wc.setCell ⟨g_q, 3, none⟩ (.int .i64 (p : Int))) g_l [.int .i64 n, .string d, .slice a rs.length cap, .int .i64 f, .bool false] from (Kl40.out.setOther ⟨g_q, 3, none⟩ (.int .i64 (p : Int)) (n_l_q)))
            have Ko41 := Lib.hid (show Blk (wc.setCell ⟨g_q, 3, none⟩ (.int .i64 (p : Int))) g_o [.int .i64 0, .string ⟨#[]⟩, .slice none 0 0, .int .i64 0, .bool false] from (Ko40.out.setOther ⟨g_q, 3, none⟩ (.int .i64 (p : Int)) (n_o_q)))
            have Kq41 := Lib.hid (show Blk (wc.setCell ⟨g_q, 3, none⟩ (.int .i64 (p : Int))) g_q [.int .i64 n, .string d, .slice (some ⟨g2, 0, none⟩) rs.length cap2, .int .i64 (p : Int), .bool false] from (Kq40.out.set 3 (.int .i64 (p : Int))))
            have B41 := Lib.hid (show Below w.heap.size w (wc.setCell ⟨g_q, 3, none⟩ (.int .i64 (p : Int))) from (B40.out.setCell l_q (.int .i64 (p : Int))))
            clear B40
            go_wp2_with fail
            clear Kl40 Ko40 Kq40
            clear cl0 cl1 cl2 cl3 cl4 dl0 dl1 dl2 dl3 dl4 co0 co1 co2 co3 co4 do0 do1 do2 do3 do4 cq0 cq1 cq2 cq3 cq4 dq0 dq1 dq2 dq3 dq4
            generalize wc.setCell ⟨g_q, 3, none⟩ (.int .i64 (p : Int)) = v41 at B41 Kl41 Ko41 Kq41 Ns41 ⊢
            clear Ns40
            go_meet
            rw [show F = (p : Int) from hFf.out]
            exact ⟨rfl, Kl41, Ko41, Kq41, Ns41, B41⟩
        case rest =>
          obtain ⟨rfl, Kl60, Ko60, Kq60, Ns60, B60⟩ := hcut
          clear Kl40 Ko40 Kq40 Ns40 B40 hFf
          obtain ⟨iu, hiu, hu0, hu1, hu2⟩ := info_parts Try.info5
          have O0 := Lib.hid (World.ownsRow_lit (base := wc.heap.size) (e := 5) (size := 1) wc #[] 0 (Nat.le_refl _) (Nat.zero_le _) rfl)
          have BB0 := Lib.hid (show Below wc.heap.size wc (wc.alloc (.cells #[] 5)) from (Below.refl _ _).alloc (Nat.le_refl _) _)
          have hc32 : c ≤ 32 := by have := hac.out.1; omega
          go_wp2_with fail
          go_loopw [15, 16] (fun v s16 wr => ∃ j : Nat, j ≤ c ∧ v = .int .i64 j ∧ Hid (wr.ownsRow wc.heap.size 5 1 s16 j (byteCells (gotL T j))) ∧ Hid (Below wc.heap.size wc wr)) (fun v _ _ => 33 - (RowKit.intOf v).toNat)
          case atStart => exact ⟨0, Nat.zero_le _, rfl, O0, BB0⟩
          case round =>
            obtain ⟨j, hj, rfl, hO, hBB⟩ := hrel
            clear O0 BB0
            have hj0 : (0 : Int) ≤ (j : Int) := Int.natCast_nonneg _
            have hj33 : (j : Int) < 33 := by omega
            have hd0 := ((own_below Ns60.out hBB.out).cellAt j (by omega)).trans (slotsV_at T j (by omega))
            by_cases hlt : j < c
            · obtain ⟨b, hT⟩ : ∃ b, T j = some b := by
                cases hT : T j with
                | none => exact absurd hT (hac.out.2.2 j hlt)
                | some b => exact ⟨b, rfl⟩
              rw [show sv (T j) = (b.toNat : Int) by rw [hT]; rfl] at hd0
              have hb8 := b.toNat_lt
              have hw8 : IntKind.u8.wrap (b.toNat : Int) = (b.toNat : Int) := IntWalk.u8_in _ (by omega)
              have HG := Lib.hid (show byteCells (gotL T j) ++ [.int .u8 (b.toNat : Int)] = byteCells (gotL T (j + 1)) by rw [gotL_succ hT, byteCells_append]; rfl)
              have hbs := hBB.out.size
              clear hT
              go_wp2_with (at_builtin; refine wpList_append_lies _ rfl _ _ _ rfl wc.heap.size 5 iu _ 1 1 Try.underlying22 hiu hu0 hu1 hu2 rfl (by omega) _ j _ rfl (hO.out.alloc _) ⟨wr.heap.size, 0, none⟩ 1 1 [.int .u8 (b.toNat : Int)] rfl rfl (World.news_of_block (cs := #[.int .u8 (b.toNat : Int)]) (t := 5) (fr := (0, 0)) (heap_alloc_new wr _)) (by simp [Value.oneCell']) (by omega) (by unfold maxLen; omega) (by omega) (by simp; omega) (wr.heap.size + 1) (by simp) ?_; intro gg cap' w4 hown4 hgrow hat hlt')
              have hb1 := Lib.hid (below_app' hBB.out hO.out hgrow)
              rw [HG.out] at hown4
              clear hgrow hO hBB HG hat hlt' hd0
              go_roundw
              case rel => exact ⟨j + 1, by omega, by go_num, hown4, hb1⟩
              case measure => simp [RowKit.intOf]; omega
            · obtain rfl : j = c := by omega
              rw [sv_neg hac.out.2.1] at hd0
              have Kl61 := Lib.hid (blk_under Kl60.out hBB.out Kl60.out.lt)
              have Ko61 := Lib.hid (blk_under Ko60.out hBB.out Ko60.out.lt)
              have Kq61 := Lib.hid (blk_under Kq60.out hBB.out Kq60.out.lt)
              have Ns61 := Lib.hid (own_below Ns60.out hBB.out)
              have B61 := Lib.hid (B60.out.trans (hBB.out.mono B60.out.size))
              have hcv := run_string_own (P := Try.prog) Try.underlying22 Try.underlying5 Try.underlying9 hO.out
              rw [got_is] at hcv
              have hsz : (got T j).size = j := got_size T j
              obtain ⟨y, hy⟩ : ∃ y, got T j = y := ⟨_, rfl⟩
              rw [hy] at hcv hsz
              replace hy := Lib.hid hy
              have hdn : ¬ 9223372036854775807 < d.size + y.size := by omega
              replace hsz := Lib.hid hsz
              clear Kl60 Ko60 Kq60 Ns60 B60 hO hBB hlt hj
              obtain ⟨⟨cl0, cl1, cl2, cl3, cl4⟩, dl0, dl1, dl2, dl3, dl4⟩ := Kl61.out.of5
              obtain ⟨⟨cq0, cq1, cq2, cq3, cq4⟩, dq0, dq1, dq2, dq3, dq4⟩ := Kq61.out.of5
              have Ns62 := Lib.hid (own_setn Ns61.out (g := g_q) (k := 1) m_s_q (.string (d ++ y)))
              have Kl62 := Lib.hid (show Blk (wr.setCell ⟨g_q, 1, none⟩ (.string (d ++ y))) g_l [.int .i64 n, .string d, .slice a rs.length cap, .int .i64 f, .bool false] from (Kl61.out.setOther ⟨g_q, 1, none⟩ (.string (d ++ y)) (n_l_q)))
              have Ko62 := Lib.hid (show Blk (wr.setCell ⟨g_q, 1, none⟩ (.string (d ++ y))) g_o [.int .i64 0, .string ⟨#[]⟩, .slice none 0 0, .int .i64 0, .bool false] from (Ko61.out.setOther ⟨g_q, 1, none⟩ (.string (d ++ y)) (n_o_q)))
              have Kq62 := Lib.hid (show Blk (wr.setCell ⟨g_q, 1, none⟩ (.string (d ++ y))) g_q [.int .i64 n, .string (d ++ y), .slice (some ⟨g2, 0, none⟩) rs.length cap2, .int .i64 F, .bool false] from (Kq61.out.set 1 (.string (d ++ y))))
              have B62 := Lib.hid (show Below w.heap.size w (wr.setCell ⟨g_q, 1, none⟩ (.string (d ++ y))) from (B61.out.setCell l_q (.string (d ++ y))))
              clear B61
              go_wp2_with fail
              clear Kl61 Ko61 Kq61
              clear cl0 cl1 cl2 cl3 cl4 dl0 dl1 dl2 dl3 dl4 cq0 cq1 cq2 cq3 cq4 dq0 dq1 dq2 dq3 dq4
              change Calls _ _ _ (wr.setCell ⟨g_q, 1, none⟩ (.string (d ++ y))) _
              generalize wr.setCell ⟨g_q, 1, none⟩ (.string (d ++ y)) = v62 at B62 Kl62 Ko62 Kq62 Ns62 ⊢
              clear Ns61
              clear hcv hdn hd0
              refine (seqAddS_s n (j : Int) _).mono ?_
              rintro e v63 ⟨rfl, hb⟩
              have B63 := Lib.hid (B62.out.trans (hb.mono B62.out.size))
              have Kl63 := Lib.hid (Kl62.out.below hb)
              have Ko63 := Lib.hid (Ko62.out.below hb)
              have Kq63 := Lib.hid (Kq62.out.below hb)
              have Ns63 := Lib.hid (own_below Ns62.out hb)
              clear hb B62 Kl62 Ko62 Kq62 Ns62
              obtain ⟨⟨cl0, cl1, cl2, cl3, cl4⟩, dl0, dl1, dl2, dl3, dl4⟩ := Kl63.out.of5
              obtain ⟨⟨co0, co1, co2, co3, co4⟩, do0, do1, do2, do3, do4⟩ := Ko63.out.of5
              obtain ⟨⟨cq0, cq1, cq2, cq3, cq4⟩, dq0, dq1, dq2, dq3, dq4⟩ := Kq63.out.of5
              have Ns64 := Lib.hid (own_setn Ns63.out (g := g_q) (k := 0) m_s_q (.int .i64 (pl (n + (j : Int)))))
              have Kl64 := Lib.hid (show Blk (v63.setCell ⟨g_q, 0, none⟩ (.int .i64 (pl (n + (j : Int))))) g_l [.int .i64 n, .string d, .slice a rs.length cap, .int .i64 f, .bool false] from (Kl63.out.setOther ⟨g_q, 0, none⟩ (.int .i64 (pl (n + (j : Int)))) (n_l_q)))
              have Ko64 := Lib.hid (show Blk (v63.setCell ⟨g_q, 0, none⟩ (.int .i64 (pl (n + (j : Int))))) g_o [.int .i64 0, .string ⟨#[]⟩, .slice none 0 0, .int .i64 0, .bool false] from (Ko63.out.setOther ⟨g_q, 0, none⟩ (.int .i64 (pl (n + (j : Int)))) (n_o_q)))
              have Kq64 := Lib.hid (show Blk (v63.setCell ⟨g_q, 0, none⟩ (.int .i64 (pl (n + (j : Int))))) g_q [.int .i64 (pl (n + (j : Int))), .string (d ++ y), .slice (some ⟨g2, 0, none⟩) rs.length cap2, .int .i64 F, .bool false] from (Kq63.out.set 0 (.int .i64 (pl (n + (j : Int))))))
              have B64 := Lib.hid (show Below w.heap.size w (v63.setCell ⟨g_q, 0, none⟩ (.int .i64 (pl (n + (j : Int))))) from (B63.out.setCell l_q (.int .i64 (pl (n + (j : Int))))))
              clear B63
              go_wp2_with fail
              clear Kl63 Ko63 Kq63
              clear cl0 cl1 cl2 cl3 cl4 dl0 dl1 dl2 dl3 dl4 co0 co1 co2 co3 co4 do0 do1 do2 do3 do4 cq0 cq1 cq2 cq3 cq4 dq0 dq1 dq2 dq3 dq4
              change Calls _ _ _ (v63.setCell ⟨g_q, 0, none⟩ (.int .i64 (pl (n + (j : Int))))) _
              generalize v63.setCell ⟨g_q, 0, none⟩ (.int .i64 (pl (n + (j : Int)))) = v64 at B64 Kl64 Ko64 Kq64 Ns64 ⊢
              clear Ns63
              have lt0_l := Kl64.out.lt
              have lt0_o := Ko64.out.lt
              have lt0_q := Kq64.out.lt
              have hz9 := B64.out.size
              refine (piecesS T j hc32 (some ⟨g3, 0, none⟩) _ (Row.ownK Ns64.out)).mono ?_
              rintro e v65 ⟨g4, cap4, rfl, ho_t, hb⟩
              have B65 := Lib.hid (B64.out.trans (hb.mono B64.out.size))
              have Kl65 := Lib.hid (Kl64.out.below hb)
              have Ko65 := Lib.hid (Ko64.out.below hb)
              have Kq65 := Lib.hid (Kq64.out.below hb)
              have Ns65 := Lib.hid (own_below Ns64.out hb)
              clear hb B64 Kl64 Ko64 Kq64 Ns64
              generalize hL : pcs T j (33 - j) = L at ho_t ⊢
              replace hL := Lib.hid hL
              have m_t_l : (.slice (some ⟨g4, 0, none⟩) L.length cap4 : Value).ownBlock ≠ some g_l := fun e => by have h1 := (ho_t.lt _ e).1; have h2 := lt0_l; omega
              have m_t_o : (.slice (some ⟨g4, 0, none⟩) L.length cap4 : Value).ownBlock ≠ some g_o := fun e => by have h1 := (ho_t.lt _ e).1; have h2 := lt0_o; omega
              have m_t_q : (.slice (some ⟨g4, 0, none⟩) L.length cap4 : Value).ownBlock ≠ some g_q := fun e => by have h1 := (ho_t.lt _ e).1; have h2 := lt0_q; omega
              have Nt65 := Lib.hid ho_t
              clear ho_t
              obtain ⟨nL, hnL⟩ : ∃ m, L.length = m := ⟨_, rfl⟩
              have HLn := Lib.hid hnL
              rw [hnL] at Nt65 m_t_l m_t_o m_t_q ⊢
              clear hnL lt0_l lt0_o lt0_q
              by_cases hF1 : F = -1
              · subst hF1
                clear hfa
                by_cases hbig : (3 : Int) < (nL : Int)
                · have hbL : 3 < (pcs T j (33 - j)).length := by rw [hL.out, HLn.out]; omega
                  have eR := hRe.out.symm.trans (show arrEnd ⟨n, d, rs, f, false⟩ T j (-1) = ⟨n, d, rs, f, false⟩ by unfold arrEnd; rw [if_pos hbL])
                  clear hbL
                  obtain ⟨⟨cl0, cl1, cl2, cl3, cl4⟩, dl0, dl1, dl2, dl3, dl4⟩ := Kl65.out.of5
                  obtain ⟨⟨co0, co1, co2, co3, co4⟩, do0, do1, do2, do3, do4⟩ := Ko65.out.of5
                  obtain ⟨⟨cq0, cq1, cq2, cq3, cq4⟩, dq0, dq1, dq2, dq3, dq4⟩ := Kq65.out.of5
                  have Nt66 := Lib.hid (own_setn Nt65.out (g := g_q) (k := 2) m_t_q (.slice (some ⟨g4, 0, none⟩) nL cap4))
                  have Kl66 := Lib.hid (show Blk (v65.setCell ⟨g_q, 2, none⟩ (.slice (some ⟨g4, 0, none⟩) nL cap4)) g_l [.int .i64 n, .string d, .slice a rs.length cap, .int .i64 f, .bool false] from (Kl65.out.setOther ⟨g_q, 2, none⟩ (.slice (some ⟨g4, 0, none⟩) nL cap4) (n_l_q)))
                  have Ko66 := Lib.hid (show Blk (v65.setCell ⟨g_q, 2, none⟩ (.slice (some ⟨g4, 0, none⟩) nL cap4)) g_o [.int .i64 0, .string ⟨#[]⟩, .slice none 0 0, .int .i64 0, .bool false] from (Ko65.out.setOther ⟨g_q, 2, none⟩ (.slice (some ⟨g4, 0, none⟩) nL cap4) (n_o_q)))
                  have Kq66 := Lib.hid (show Blk (v65.setCell ⟨g_q, 2, none⟩ (.slice (some ⟨g4, 0, none⟩) nL cap4)) g_q [.int .i64 (pl (n + (j : Int))), .string (d ++ y), .slice (some ⟨g4, 0, none⟩) nL cap4, .int .i64 (-1), .bool false] from (Kq65.out.set 2 (.slice (some ⟨g4, 0, none⟩) nL cap4)))
                  have B66 := Lib.hid (show Below w.heap.size w (v65.setCell ⟨g_q, 2, none⟩ (.slice (some ⟨g4, 0, none⟩) nL cap4)) from (B65.out.setCell l_q (.slice (some ⟨g4, 0, none⟩) nL cap4)))
                  clear B65
                  go_wp2_with fail
                  clear Kl65 Ko65 Kq65
                  clear cl0 cl1 cl2 cl3 cl4 dl0 dl1 dl2 dl3 dl4 co0 co1 co2 co3 co4 do0 do1 do2 do3 do4 cq0 cq1 cq2 cq3 cq4 dq0 dq1 dq2 dq3 dq4
                  change Calls _ _ _ (v65.setCell ⟨g_q, 2, none⟩ (.slice (some ⟨g4, 0, none⟩) nL cap4)) _
                  generalize v65.setCell ⟨g_q, 2, none⟩ (.slice (some ⟨g4, 0, none⟩) nL cap4) = v66 at B66 Kl66 Ko66 Kq66 Nt66 ⊢
                  clear Nt65
                  have hz7 := B66.out.size
                  have hlo7 := Ko66.out.lt
                  refine (rcopyS_any n f false d a cap rs _ (HR.out.below B66.out) hl.out).mono ?_
                  rintro e v67 ⟨g5, cap5, rfl, ho_u, hb⟩
                  have B67 := Lib.hid (B66.out.trans (hb.mono B66.out.size))
                  have Kl67 := Lib.hid (Kl66.out.below hb)
                  have Ko67 := Lib.hid (Ko66.out.below hb)
                  have Kq67 := Lib.hid (Kq66.out.below hb)
                  have Nt67 := Lib.hid (own_below Nt66.out hb)
                  clear hb B66 Kl66 Ko66 Kq66 Nt66
                  have hz8 := hz7
                  have mu : (.slice (some ⟨g5, 0, none⟩) rs.length cap5 : Value).ownBlock ≠ some g_o := fun e => by have h1 := (ho_u.lt _ e).1; have h2 := hlo7; omega
                  obtain ⟨⟨cl0, cl1, cl2, cl3, cl4⟩, dl0, dl1, dl2, dl3, dl4⟩ := Kl67.out.of5
                  obtain ⟨⟨co0, co1, co2, co3, co4⟩, do0, do1, do2, do3, do4⟩ := Ko67.out.of5
                  obtain ⟨⟨cq0, cq1, cq2, cq3, cq4⟩, dq0, dq1, dq2, dq3, dq4⟩ := Kq67.out.of5
                  go_wp2_with fail
                  refine bodyPost_ret (v := .agg #[.int .i64 n, .string d, .slice (some ⟨g5, 0, none⟩) rs.length cap5, .int .i64 f, .bool false]) (by simp [results, Try.results12, go_sem, co0, co1, co2, co3, co4]) rfl (newRE_fin eR rfl ?_ ?_)
                  · exact own_down (own_setn (own_setn (own_setn (own_setn (own_setn ho_u (g := g_o) (k := 0) mu (.int .i64 n)) (g := g_o) (k := 1) mu (.string d)) (g := g_o) (k := 2) mu (.slice (some ⟨g5, 0, none⟩) rs.length cap5)) (g := g_o) (k := 3) mu (.int .i64 f)) (g := g_o) (k := 4) mu (.bool false)) hz8
                  · exact (((((B67.out.setCell l_o (.int .i64 n)).setCell l_o (.string d)).setCell l_o (.slice (some ⟨g5, 0, none⟩) rs.length cap5)).setCell l_o (.int .i64 f)).setCell l_o (.bool false))
                · have hbL : ¬ 3 < (pcs T j (33 - j)).length := by rw [hL.out, HLn.out]; omega
                  have eR := hRe.out.symm.trans (show arrEnd ⟨n, d, rs, f, false⟩ T j (-1) = ⟨pl (n + (j : Int)), d ++ got T j, pcs T j (33 - j), -1, false⟩ by unfold arrEnd; exact (if_neg hbL).trans (if_pos rfl))
                  rw [hL.out, hy.out] at eR
                  clear hbL
                  obtain ⟨⟨cl0, cl1, cl2, cl3, cl4⟩, dl0, dl1, dl2, dl3, dl4⟩ := Kl65.out.of5
                  obtain ⟨⟨co0, co1, co2, co3, co4⟩, do0, do1, do2, do3, do4⟩ := Ko65.out.of5
                  obtain ⟨⟨cq0, cq1, cq2, cq3, cq4⟩, dq0, dq1, dq2, dq3, dq4⟩ := Kq65.out.of5
                  go_wp2_with fail
                  refine bodyPost_ret (v := .agg #[.int .i64 (pl (n + (j : Int))), .string (d ++ y), .slice (some ⟨g4, 0, none⟩) nL cap4, .int .i64 (-1), .bool false]) (by simp [results, Try.results12, go_sem, co0, co1, co2, co3, co4]) rfl (newRE_fin eR HLn.out ?_ ?_)
                  · exact own_down (own_setn (own_setn (own_setn (own_setn (own_setn (own_setn Nt65.out (g := g_q) (k := 2) m_t_q (.slice (some ⟨g4, 0, none⟩) nL cap4)) (g := g_o) (k := 0) m_t_o (.int .i64 (pl (n + (j : Int))))) (g := g_o) (k := 1) m_t_o (.string (d ++ y))) (g := g_o) (k := 2) m_t_o (.slice (some ⟨g4, 0, none⟩) nL cap4)) (g := g_o) (k := 3) m_t_o (.int .i64 (-1))) (g := g_o) (k := 4) m_t_o (.bool false)) hz9
                  · exact ((((((B65.out.setCell l_q (.slice (some ⟨g4, 0, none⟩) nL cap4)).setCell l_o (.int .i64 (pl (n + (j : Int))))).setCell l_o (.string (d ++ y))).setCell l_o (.slice (some ⟨g4, 0, none⟩) nL cap4)).setCell l_o (.int .i64 (-1))).setCell l_o (.bool false))
              have hFr : (j : Int) ≤ F ∧ F ≤ l := by rcases hfa.out with h | h; exact absurd h hF1; exact h
              have hF0 : 0 ≤ F := by omega
              have hwF : IntKind.i64.wrap (F - (j : Int)) = F - (j : Int) := IntWalk.i64_in _ (by omega)
              clear hfa
              by_cases hF2 : F = (j : Int)
              · subst hF2
                rw [Int.sub_self] at hwF
                by_cases hbig : (3 : Int) < (nL : Int)
                · have hbL : 3 < (pcs T j (33 - j)).length := by rw [hL.out, HLn.out]; omega
                  have eR := hRe.out.symm.trans (show arrEnd ⟨n, d, rs, f, false⟩ T j (j : Int) = ⟨n, d, rs, f, false⟩ by unfold arrEnd; rw [if_pos hbL])
                  clear hbL
                  obtain ⟨⟨cl0, cl1, cl2, cl3, cl4⟩, dl0, dl1, dl2, dl3, dl4⟩ := Kl65.out.of5
                  obtain ⟨⟨co0, co1, co2, co3, co4⟩, do0, do1, do2, do3, do4⟩ := Ko65.out.of5
                  obtain ⟨⟨cq0, cq1, cq2, cq3, cq4⟩, dq0, dq1, dq2, dq3, dq4⟩ := Kq65.out.of5
                  have Nt66 := Lib.hid (own_setn (own_setn (own_setn (own_setn Nt65.out (g := g_q) (k := 2) m_t_q (.slice (some ⟨g4, 0, none⟩) nL cap4)) (g := g_q) (k := 3) m_t_q (.int .i64 0)) (g := g_q) (k := 3) m_t_q (.int .i64 (-1))) (g := g_q) (k := 4) m_t_q (.bool true))
                  have Kl66 := Lib.hid (show Blk ((((v65.setCell ⟨g_q, 2, none⟩ (.slice (some ⟨g4, 0, none⟩) nL cap4)).setCell ⟨g_q, 3, none⟩ (.int .i64 0)).setCell ⟨g_q, 3, none⟩ (.int .i64 (-1))).setCell ⟨g_q, 4, none⟩ (.bool true)) g_l [.int .i64 n, .string d, .slice a rs.length cap, .int .i64 f, .bool false] from ((((Kl65.out.setOther ⟨g_q, 2, none⟩ (.slice (some ⟨g4, 0, none⟩) nL cap4) (n_l_q)).setOther ⟨g_q, 3, none⟩ (.int .i64 0) (n_l_q)).setOther ⟨g_q, 3, none⟩ (.int .i64 (-1)) (n_l_q)).setOther ⟨g_q, 4, none⟩ (.bool true) (n_l_q)))
                  have Ko66 := Lib.hid (show Blk ((((v65.setCell ⟨g_q, 2, none⟩ (.slice (some ⟨g4, 0, none⟩) nL cap4)).setCell ⟨g_q, 3, none⟩ (.int .i64 0)).setCell ⟨g_q, 3, none⟩ (.int .i64 (-1))).setCell ⟨g_q, 4, none⟩ (.bool true)) g_o [.int .i64 0, .string ⟨#[]⟩, .slice none 0 0, .int .i64 0, .bool false] from ((((Ko65.out.setOther ⟨g_q, 2, none⟩ (.slice (some ⟨g4, 0, none⟩) nL cap4) (n_o_q)).setOther ⟨g_q, 3, none⟩ (.int .i64 0) (n_o_q)).setOther ⟨g_q, 3, none⟩ (.int .i64 (-1)) (n_o_q)).setOther ⟨g_q, 4, none⟩ (.bool true) (n_o_q)))
                  have Kq66 := Lib.hid (show Blk ((((v65.setCell ⟨g_q, 2, none⟩ (.slice (some ⟨g4, 0, none⟩) nL cap4)).setCell ⟨g_q, 3, none⟩ (.int .i64 0)).setCell ⟨g_q, 3, none⟩ (.int .i64 (-1))).setCell ⟨g_q, 4, none⟩ (.bool true)) g_q [.int .i64 (pl (n + (j : Int))), .string (d ++ y), .slice (some ⟨g4, 0, none⟩) nL cap4, .int .i64 (-1), .bool true] from ((((Kq65.out.set 2 (.slice (some ⟨g4, 0, none⟩) nL cap4)).set 3 (.int .i64 0)).set 3 (.int .i64 (-1))).set 4 (.bool true)))
                  have B66 := Lib.hid (show Below w.heap.size w ((((v65.setCell ⟨g_q, 2, none⟩ (.slice (some ⟨g4, 0, none⟩) nL cap4)).setCell ⟨g_q, 3, none⟩ (.int .i64 0)).setCell ⟨g_q, 3, none⟩ (.int .i64 (-1))).setCell ⟨g_q, 4, none⟩ (.bool true)) from ((((B65.out.setCell l_q (.slice (some ⟨g4, 0, none⟩) nL cap4)).setCell l_q (.int .i64 0)).setCell l_q (.int .i64 (-1))).setCell l_q (.bool true)))
                  clear B65
                  go_wp2_with fail
                  clear Kl65 Ko65 Kq65
                  clear cl0 cl1 cl2 cl3 cl4 dl0 dl1 dl2 dl3 dl4 co0 co1 co2 co3 co4 do0 do1 do2 do3 do4 cq0 cq1 cq2 cq3 cq4 dq0 dq1 dq2 dq3 dq4
                  change Calls _ _ _ ((((v65.setCell ⟨g_q, 2, none⟩ (.slice (some ⟨g4, 0, none⟩) nL cap4)).setCell ⟨g_q, 3, none⟩ (.int .i64 0)).setCell ⟨g_q, 3, none⟩ (.int .i64 (-1))).setCell ⟨g_q, 4, none⟩ (.bool true)) _
                  generalize (((v65.setCell ⟨g_q, 2, none⟩ (.slice (some ⟨g4, 0, none⟩) nL cap4)).setCell ⟨g_q, 3, none⟩ (.int .i64 0)).setCell ⟨g_q, 3, none⟩ (.int .i64 (-1))).setCell ⟨g_q, 4, none⟩ (.bool true) = v66 at B66 Kl66 Ko66 Kq66 Nt66 ⊢
                  clear Nt65
                  refine (seqAddS_s (pl (n + (j : Int))) 1 _).mono ?_
                  rintro e v67 ⟨rfl, hb⟩
                  have B67 := Lib.hid (B66.out.trans (hb.mono B66.out.size))
                  have Kl67 := Lib.hid (Kl66.out.below hb)
                  have Ko67 := Lib.hid (Ko66.out.below hb)
                  have Kq67 := Lib.hid (Kq66.out.below hb)
                  have Nt67 := Lib.hid (own_below Nt66.out hb)
                  clear hb B66 Kl66 Ko66 Kq66 Nt66
                  obtain ⟨⟨cl0, cl1, cl2, cl3, cl4⟩, dl0, dl1, dl2, dl3, dl4⟩ := Kl67.out.of5
                  obtain ⟨⟨co0, co1, co2, co3, co4⟩, do0, do1, do2, do3, do4⟩ := Ko67.out.of5
                  obtain ⟨⟨cq0, cq1, cq2, cq3, cq4⟩, dq0, dq1, dq2, dq3, dq4⟩ := Kq67.out.of5
                  have Nt68 := Lib.hid (own_setn Nt67.out (g := g_q) (k := 0) m_t_q (.int .i64 (pl (pl (n + (j : Int)) + 1))))
                  have Kl68 := Lib.hid (show Blk (v67.setCell ⟨g_q, 0, none⟩ (.int .i64 (pl (pl (n + (j : Int)) + 1)))) g_l [.int .i64 n, .string d, .slice a rs.length cap, .int .i64 f, .bool false] from (Kl67.out.setOther ⟨g_q, 0, none⟩ (.int .i64 (pl (pl (n + (j : Int)) + 1))) (n_l_q)))
                  have Ko68 := Lib.hid (show Blk (v67.setCell ⟨g_q, 0, none⟩ (.int .i64 (pl (pl (n + (j : Int)) + 1)))) g_o [.int .i64 0, .string ⟨#[]⟩, .slice none 0 0, .int .i64 0, .bool false] from (Ko67.out.setOther ⟨g_q, 0, none⟩ (.int .i64 (pl (pl (n + (j : Int)) + 1))) (n_o_q)))
                  have Kq68 := Lib.hid (show Blk (v67.setCell ⟨g_q, 0, none⟩ (.int .i64 (pl (pl (n + (j : Int)) + 1)))) g_q [.int .i64 (pl (pl (n + (j : Int)) + 1)), .string (d ++ y), .slice (some ⟨g4, 0, none⟩) nL cap4, .int .i64 (-1), .bool true] from (Kq67.out.set 0 (.int .i64 (pl (pl (n + (j : Int)) + 1)))))
                  have B68 := Lib.hid (show Below w.heap.size w (v67.setCell ⟨g_q, 0, none⟩ (.int .i64 (pl (pl (n + (j : Int)) + 1)))) from (B67.out.setCell l_q (.int .i64 (pl (pl (n + (j : Int)) + 1)))))
                  clear B67
                  go_wp2_with fail
                  clear Kl67 Ko67 Kq67
                  clear cl0 cl1 cl2 cl3 cl4 dl0 dl1 dl2 dl3 dl4 co0 co1 co2 co3 co4 do0 do1 do2 do3 do4 cq0 cq1 cq2 cq3 cq4 dq0 dq1 dq2 dq3 dq4
                  change Calls _ _ _ (v67.setCell ⟨g_q, 0, none⟩ (.int .i64 (pl (pl (n + (j : Int)) + 1)))) _
                  generalize v67.setCell ⟨g_q, 0, none⟩ (.int .i64 (pl (pl (n + (j : Int)) + 1))) = v68 at B68 Kl68 Ko68 Kq68 Nt68 ⊢
                  clear Nt67
                  have hz7 := B68.out.size
                  have hlo7 := Ko68.out.lt
                  refine (rcopyS_any n f false d a cap rs _ (HR.out.below B68.out) hl.out).mono ?_
                  rintro e v69 ⟨g5, cap5, rfl, ho_u, hb⟩
                  have B69 := Lib.hid (B68.out.trans (hb.mono B68.out.size))
                  have Kl69 := Lib.hid (Kl68.out.below hb)
                  have Ko69 := Lib.hid (Ko68.out.below hb)
                  have Kq69 := Lib.hid (Kq68.out.below hb)
                  have Nt69 := Lib.hid (own_below Nt68.out hb)
                  clear hb B68 Kl68 Ko68 Kq68 Nt68
                  have hz8 := hz7
                  have mu : (.slice (some ⟨g5, 0, none⟩) rs.length cap5 : Value).ownBlock ≠ some g_o := fun e => by have h1 := (ho_u.lt _ e).1; have h2 := hlo7; omega
                  obtain ⟨⟨cl0, cl1, cl2, cl3, cl4⟩, dl0, dl1, dl2, dl3, dl4⟩ := Kl69.out.of5
                  obtain ⟨⟨co0, co1, co2, co3, co4⟩, do0, do1, do2, do3, do4⟩ := Ko69.out.of5
                  obtain ⟨⟨cq0, cq1, cq2, cq3, cq4⟩, dq0, dq1, dq2, dq3, dq4⟩ := Kq69.out.of5
                  go_wp2_with fail
                  refine bodyPost_ret (v := .agg #[.int .i64 n, .string d, .slice (some ⟨g5, 0, none⟩) rs.length cap5, .int .i64 f, .bool false]) (by simp [results, Try.results12, go_sem, co0, co1, co2, co3, co4]) rfl (newRE_fin eR rfl ?_ ?_)
                  · exact own_down (own_setn (own_setn (own_setn (own_setn (own_setn ho_u (g := g_o) (k := 0) mu (.int .i64 n)) (g := g_o) (k := 1) mu (.string d)) (g := g_o) (k := 2) mu (.slice (some ⟨g5, 0, none⟩) rs.length cap5)) (g := g_o) (k := 3) mu (.int .i64 f)) (g := g_o) (k := 4) mu (.bool false)) hz8
                  · exact (((((B69.out.setCell l_o (.int .i64 n)).setCell l_o (.string d)).setCell l_o (.slice (some ⟨g5, 0, none⟩) rs.length cap5)).setCell l_o (.int .i64 f)).setCell l_o (.bool false))
                · have hbL : ¬ 3 < (pcs T j (33 - j)).length := by rw [hL.out, HLn.out]; omega
                  have eR := hRe.out.symm.trans (show arrEnd ⟨n, d, rs, f, false⟩ T j (j : Int) = ⟨pl (pl (n + (j : Int)) + 1), d ++ got T j, pcs T j (33 - j), -1, true⟩ by unfold arrEnd; exact (if_neg hbL).trans ((if_neg hF1).trans (if_pos rfl)))
                  rw [hL.out, hy.out] at eR
                  clear hbL
                  obtain ⟨⟨cl0, cl1, cl2, cl3, cl4⟩, dl0, dl1, dl2, dl3, dl4⟩ := Kl65.out.of5
                  obtain ⟨⟨co0, co1, co2, co3, co4⟩, do0, do1, do2, do3, do4⟩ := Ko65.out.of5
                  obtain ⟨⟨cq0, cq1, cq2, cq3, cq4⟩, dq0, dq1, dq2, dq3, dq4⟩ := Kq65.out.of5
                  have Nt66 := Lib.hid (own_setn (own_setn (own_setn (own_setn Nt65.out (g := g_q) (k := 2) m_t_q (.slice (some ⟨g4, 0, none⟩) nL cap4)) (g := g_q) (k := 3) m_t_q (.int .i64 0)) (g := g_q) (k := 3) m_t_q (.int .i64 (-1))) (g := g_q) (k := 4) m_t_q (.bool true))
                  have Kl66 := Lib.hid (show Blk ((((v65.setCell ⟨g_q, 2, none⟩ (.slice (some ⟨g4, 0, none⟩) nL cap4)).setCell ⟨g_q, 3, none⟩ (.int .i64 0)).setCell ⟨g_q, 3, none⟩ (.int .i64 (-1))).setCell ⟨g_q, 4, none⟩ (.bool true)) g_l [.int .i64 n, .string d, .slice a rs.length cap, .int .i64 f, .bool false] from ((((Kl65.out.setOther ⟨g_q, 2, none⟩ (.slice (some ⟨g4, 0, none⟩) nL cap4) (n_l_q)).setOther ⟨g_q, 3, none⟩ (.int .i64 0) (n_l_q)).setOther ⟨g_q, 3, none⟩ (.int .i64 (-1)) (n_l_q)).setOther ⟨g_q, 4, none⟩ (.bool true) (n_l_q)))
                  have Ko66 := Lib.hid (show Blk ((((v65.setCell ⟨g_q, 2, none⟩ (.slice (some ⟨g4, 0, none⟩) nL cap4)).setCell ⟨g_q, 3, none⟩ (.int .i64 0)).setCell ⟨g_q, 3, none⟩ (.int .i64 (-1))).setCell ⟨g_q, 4, none⟩ (.bool true)) g_o [.int .i64 0, .string ⟨#[]⟩, .slice none 0 0, .int .i64 0, .bool false] from ((((Ko65.out.setOther ⟨g_q, 2, none⟩ (.slice (some ⟨g4, 0, none⟩) nL cap4) (n_o_q)).setOther ⟨g_q, 3, none⟩ (.int .i64 0) (n_o_q)).setOther ⟨g_q, 3, none⟩ (.int .i64 (-1)) (n_o_q)).setOther ⟨g_q, 4, none⟩ (.bool true) (n_o_q)))
                  have Kq66 := Lib.hid (show Blk ((((v65.setCell ⟨g_q, 2, none⟩ (.slice (some ⟨g4, 0, none⟩) nL cap4)).setCell ⟨g_q, 3, none⟩ (.int .i64 0)).setCell ⟨g_q, 3, none⟩ (.int .i64 (-1))).setCell ⟨g_q, 4, none⟩ (.bool true)) g_q [.int .i64 (pl (n + (j : Int))), .string (d ++ y), .slice (some ⟨g4, 0, none⟩) nL cap4, .int .i64 (-1), .bool true] from ((((Kq65.out.set 2 (.slice (some ⟨g4, 0, none⟩) nL cap4)).set 3 (.int .i64 0)).set 3 (.int .i64 (-1))).set 4 (.bool true)))
                  have B66 := Lib.hid (show Below w.heap.size w ((((v65.setCell ⟨g_q, 2, none⟩ (.slice (some ⟨g4, 0, none⟩) nL cap4)).setCell ⟨g_q, 3, none⟩ (.int .i64 0)).setCell ⟨g_q, 3, none⟩ (.int .i64 (-1))).setCell ⟨g_q, 4, none⟩ (.bool true)) from ((((B65.out.setCell l_q (.slice (some ⟨g4, 0, none⟩) nL cap4)).setCell l_q (.int .i64 0)).setCell l_q (.int .i64 (-1))).setCell l_q (.bool true)))
                  clear B65
                  go_wp2_with fail
                  clear Kl65 Ko65 Kq65
                  clear cl0 cl1 cl2 cl3 cl4 dl0 dl1 dl2 dl3 dl4 co0 co1 co2 co3 co4 do0 do1 do2 do3 do4 cq0 cq1 cq2 cq3 cq4 dq0 dq1 dq2 dq3 dq4
                  change Calls _ _ _ ((((v65.setCell ⟨g_q, 2, none⟩ (.slice (some ⟨g4, 0, none⟩) nL cap4)).setCell ⟨g_q, 3, none⟩ (.int .i64 0)).setCell ⟨g_q, 3, none⟩ (.int .i64 (-1))).setCell ⟨g_q, 4, none⟩ (.bool true)) _
                  generalize (((v65.setCell ⟨g_q, 2, none⟩ (.slice (some ⟨g4, 0, none⟩) nL cap4)).setCell ⟨g_q, 3, none⟩ (.int .i64 0)).setCell ⟨g_q, 3, none⟩ (.int .i64 (-1))).setCell ⟨g_q, 4, none⟩ (.bool true) = v66 at B66 Kl66 Ko66 Kq66 Nt66 ⊢
                  clear Nt65
                  refine (seqAddS_s (pl (n + (j : Int))) 1 _).mono ?_
                  rintro e v67 ⟨rfl, hb⟩
                  have B67 := Lib.hid (B66.out.trans (hb.mono B66.out.size))
                  have Kl67 := Lib.hid (Kl66.out.below hb)
                  have Ko67 := Lib.hid (Ko66.out.below hb)
                  have Kq67 := Lib.hid (Kq66.out.below hb)
                  have Nt67 := Lib.hid (own_below Nt66.out hb)
                  clear hb B66 Kl66 Ko66 Kq66 Nt66
                  obtain ⟨⟨cl0, cl1, cl2, cl3, cl4⟩, dl0, dl1, dl2, dl3, dl4⟩ := Kl67.out.of5
                  obtain ⟨⟨co0, co1, co2, co3, co4⟩, do0, do1, do2, do3, do4⟩ := Ko67.out.of5
                  obtain ⟨⟨cq0, cq1, cq2, cq3, cq4⟩, dq0, dq1, dq2, dq3, dq4⟩ := Kq67.out.of5
                  go_wp2_with fail
                  refine bodyPost_ret (v := .agg #[.int .i64 (pl (pl (n + (j : Int)) + 1)), .string (d ++ y), .slice (some ⟨g4, 0, none⟩) nL cap4, .int .i64 (-1), .bool true]) (by simp [results, Try.results12, go_sem, co0, co1, co2, co3, co4]) rfl (newRE_fin eR HLn.out ?_ ?_)
                  · exact own_down (own_setn (own_setn (own_setn (own_setn (own_setn (own_setn Nt67.out (g := g_q) (k := 0) m_t_q (.int .i64 (pl (pl (n + (j : Int)) + 1)))) (g := g_o) (k := 0) m_t_o (.int .i64 (pl (pl (n + (j : Int)) + 1)))) (g := g_o) (k := 1) m_t_o (.string (d ++ y))) (g := g_o) (k := 2) m_t_o (.slice (some ⟨g4, 0, none⟩) nL cap4)) (g := g_o) (k := 3) m_t_o (.int .i64 (-1))) (g := g_o) (k := 4) m_t_o (.bool true)) hz9
                  · exact ((((((B67.out.setCell l_q (.int .i64 (pl (pl (n + (j : Int)) + 1)))).setCell l_o (.int .i64 (pl (pl (n + (j : Int)) + 1)))).setCell l_o (.string (d ++ y))).setCell l_o (.slice (some ⟨g4, 0, none⟩) nL cap4)).setCell l_o (.int .i64 (-1))).setCell l_o (.bool true))
              have hF3 : (F - (j : Int) == 0) = false := by simp; omega
              by_cases hbig : (3 : Int) < (nL : Int)
              · have hbL : 3 < (pcs T j (33 - j)).length := by rw [hL.out, HLn.out]; omega
                have eR := hRe.out.symm.trans (show arrEnd ⟨n, d, rs, f, false⟩ T j F = ⟨n, d, rs, f, false⟩ by unfold arrEnd; rw [if_pos hbL])
                clear hbL
                obtain ⟨⟨cl0, cl1, cl2, cl3, cl4⟩, dl0, dl1, dl2, dl3, dl4⟩ := Kl65.out.of5
                obtain ⟨⟨co0, co1, co2, co3, co4⟩, do0, do1, do2, do3, do4⟩ := Ko65.out.of5
                obtain ⟨⟨cq0, cq1, cq2, cq3, cq4⟩, dq0, dq1, dq2, dq3, dq4⟩ := Kq65.out.of5
                have Nt66 := Lib.hid (own_setn (own_setn Nt65.out (g := g_q) (k := 2) m_t_q (.slice (some ⟨g4, 0, none⟩) nL cap4)) (g := g_q) (k := 3) m_t_q (.int .i64 (F - (j : Int))))
                have Kl66 := Lib.hid (show Blk ((v65.setCell ⟨g_q, 2, none⟩ (.slice (some ⟨g4, 0, none⟩) nL cap4)).setCell ⟨g_q, 3, none⟩ (.int .i64 (F - (j : Int)))) g_l [.int .i64 n, .string d, .slice a rs.length cap, .int .i64 f, .bool false] from ((Kl65.out.setOther ⟨g_q, 2, none⟩ (.slice (some ⟨g4, 0, none⟩) nL cap4) (n_l_q)).setOther ⟨g_q, 3, none⟩ (.int .i64 (F - (j : Int))) (n_l_q)))
                have Ko66 := Lib.hid (show Blk ((v65.setCell ⟨g_q, 2, none⟩ (.slice (some ⟨g4, 0, none⟩) nL cap4)).setCell ⟨g_q, 3, none⟩ (.int .i64 (F - (j : Int)))) g_o [.int .i64 0, .string ⟨#[]⟩, .slice none 0 0, .int .i64 0, .bool false] from ((Ko65.out.setOther ⟨g_q, 2, none⟩ (.slice (some ⟨g4, 0, none⟩) nL cap4) (n_o_q)).setOther ⟨g_q, 3, none⟩ (.int .i64 (F - (j : Int))) (n_o_q)))
                have Kq66 := Lib.hid (show Blk ((v65.setCell ⟨g_q, 2, none⟩ (.slice (some ⟨g4, 0, none⟩) nL cap4)).setCell ⟨g_q, 3, none⟩ (.int .i64 (F - (j : Int)))) g_q [.int .i64 (pl (n + (j : Int))), .string (d ++ y), .slice (some ⟨g4, 0, none⟩) nL cap4, .int .i64 (F - (j : Int)), .bool false] from ((Kq65.out.set 2 (.slice (some ⟨g4, 0, none⟩) nL cap4)).set 3 (.int .i64 (F - (j : Int)))))
                have B66 := Lib.hid (show Below w.heap.size w ((v65.setCell ⟨g_q, 2, none⟩ (.slice (some ⟨g4, 0, none⟩) nL cap4)).setCell ⟨g_q, 3, none⟩ (.int .i64 (F - (j : Int)))) from ((B65.out.setCell l_q (.slice (some ⟨g4, 0, none⟩) nL cap4)).setCell l_q (.int .i64 (F - (j : Int)))))
                clear B65
                go_wp2_with fail
                clear Kl65 Ko65 Kq65
                clear cl0 cl1 cl2 cl3 cl4 dl0 dl1 dl2 dl3 dl4 co0 co1 co2 co3 co4 do0 do1 do2 do3 do4 cq0 cq1 cq2 cq3 cq4 dq0 dq1 dq2 dq3 dq4
                change Calls _ _ _ ((v65.setCell ⟨g_q, 2, none⟩ (.slice (some ⟨g4, 0, none⟩) nL cap4)).setCell ⟨g_q, 3, none⟩ (.int .i64 (F - (j : Int)))) _
                generalize (v65.setCell ⟨g_q, 2, none⟩ (.slice (some ⟨g4, 0, none⟩) nL cap4)).setCell ⟨g_q, 3, none⟩ (.int .i64 (F - (j : Int))) = v66 at B66 Kl66 Ko66 Kq66 Nt66 ⊢
                clear Nt65
                have hz7 := B66.out.size
                have hlo7 := Ko66.out.lt
                refine (rcopyS_any n f false d a cap rs _ (HR.out.below B66.out) hl.out).mono ?_
                rintro e v67 ⟨g5, cap5, rfl, ho_u, hb⟩
                have B67 := Lib.hid (B66.out.trans (hb.mono B66.out.size))
                have Kl67 := Lib.hid (Kl66.out.below hb)
                have Ko67 := Lib.hid (Ko66.out.below hb)
                have Kq67 := Lib.hid (Kq66.out.below hb)
                have Nt67 := Lib.hid (own_below Nt66.out hb)
                clear hb B66 Kl66 Ko66 Kq66 Nt66
                have hz8 := hz7
                have mu : (.slice (some ⟨g5, 0, none⟩) rs.length cap5 : Value).ownBlock ≠ some g_o := fun e => by have h1 := (ho_u.lt _ e).1; have h2 := hlo7; omega
                obtain ⟨⟨cl0, cl1, cl2, cl3, cl4⟩, dl0, dl1, dl2, dl3, dl4⟩ := Kl67.out.of5
                obtain ⟨⟨co0, co1, co2, co3, co4⟩, do0, do1, do2, do3, do4⟩ := Ko67.out.of5
                obtain ⟨⟨cq0, cq1, cq2, cq3, cq4⟩, dq0, dq1, dq2, dq3, dq4⟩ := Kq67.out.of5
                go_wp2_with fail
                refine bodyPost_ret (v := .agg #[.int .i64 n, .string d, .slice (some ⟨g5, 0, none⟩) rs.length cap5, .int .i64 f, .bool false]) (by simp [results, Try.results12, go_sem, co0, co1, co2, co3, co4]) rfl (newRE_fin eR rfl ?_ ?_)
                · exact own_down (own_setn (own_setn (own_setn (own_setn (own_setn ho_u (g := g_o) (k := 0) mu (.int .i64 n)) (g := g_o) (k := 1) mu (.string d)) (g := g_o) (k := 2) mu (.slice (some ⟨g5, 0, none⟩) rs.length cap5)) (g := g_o) (k := 3) mu (.int .i64 f)) (g := g_o) (k := 4) mu (.bool false)) hz8
                · exact (((((B67.out.setCell l_o (.int .i64 n)).setCell l_o (.string d)).setCell l_o (.slice (some ⟨g5, 0, none⟩) rs.length cap5)).setCell l_o (.int .i64 f)).setCell l_o (.bool false))
              · have hbL : ¬ 3 < (pcs T j (33 - j)).length := by rw [hL.out, HLn.out]; omega
                have eR := hRe.out.symm.trans (show arrEnd ⟨n, d, rs, f, false⟩ T j F = ⟨pl (n + (j : Int)), d ++ got T j, pcs T j (33 - j), F - (j : Int), false⟩ by unfold arrEnd; exact (if_neg hbL).trans ((if_neg hF1).trans (if_neg hF2)))
                rw [hL.out, hy.out] at eR
                clear hbL
                obtain ⟨⟨cl0, cl1, cl2, cl3, cl4⟩, dl0, dl1, dl2, dl3, dl4⟩ := Kl65.out.of5
                obtain ⟨⟨co0, co1, co2, co3, co4⟩, do0, do1, do2, do3, do4⟩ := Ko65.out.of5
                obtain ⟨⟨cq0, cq1, cq2, cq3, cq4⟩, dq0, dq1, dq2, dq3, dq4⟩ := Kq65.out.of5
                go_wp2_with fail
                refine bodyPost_ret (v := .agg #[.int .i64 (pl (n + (j : Int))), .string (d ++ y), .slice (some ⟨g4, 0, none⟩) nL cap4, .int .i64 (F - (j : Int)), .bool false]) (by simp [results, Try.results12, go_sem, co0, co1, co2, co3, co4]) rfl (newRE_fin eR HLn.out ?_ ?_)
                · exact own_down (own_setn (own_setn (own_setn (own_setn (own_setn (own_setn (own_setn Nt65.out (g := g_q) (k := 2) m_t_q (.slice (some ⟨g4, 0, none⟩) nL cap4)) (g := g_q) (k := 3) m_t_q (.int .i64 (F - (j : Int)))) (g := g_o) (k := 0) m_t_o (.int .i64 (pl (n + (j : Int))))) (g := g_o) (k := 1) m_t_o (.string (d ++ y))) (g := g_o) (k := 2) m_t_o (.slice (some ⟨g4, 0, none⟩) nL cap4)) (g := g_o) (k := 3) m_t_o (.int .i64 (F - (j : Int)))) (g := g_o) (k := 4) m_t_o (.bool false)) hz9
                · exact (((((((B65.out.setCell l_q (.slice (some ⟨g4, 0, none⟩) nL cap4)).setCell l_q (.int .i64 (F - (j : Int)))).setCell l_o (.int .i64 (pl (n + (j : Int))))).setCell l_o (.string (d ++ y))).setCell l_o (.slice (some ⟨g4, 0, none⟩) nL cap4)).setCell l_o (.int .i64 (F - (j : Int)))).setCell l_o (.bool false))

theorem arrS (n f sq : Int) (z fin : Bool) (d x : ByteArray) (a : Option Addr) (cap : Nat) (rs : List HP) (hB : RB d rs) (hx : x.size ≤ 1048576) (w : World) (hrow : HasP w a cap rs) :
    Calls Try.prog 12 #[.agg #[.int .i64 n, .string d, .slice a rs.length cap, .int .i64 f, .bool z], .int .i64 sq, .string x, .bool fin] w (NewRE (arrived ⟨n, d, rs, f, z⟩ sq x fin) w) := by
  cases h : (rcvOk ⟨n, d, rs, f, z⟩ && !z) with
  | false =>
    rw [arrived_not h]
    exact arrS_same n f sq z fin d x a cap rs hB w hrow h
  | true =>
    rw [arrived_yes h]
    have h2 := Bool.and_eq_true_iff.1 h
    have hz : z = false := by cases z with
      | false => rfl
      | true => exact absurd h2.2 (by decide)
    subst hz
    exact arrS_yes n f sq fin d x a cap rs hx w hrow h2.1
end Go.Proofs.Ytpbnkkgfjmkcdaa
