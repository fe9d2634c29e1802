/- Arrived of the program. Nothing here is a claim. -/
import Derived.Test.YtpbnkkgfjmkcdaaArrS
import Derived.Test.YtpbnkkgfjmkcdaaTabR
import Derived.Test.YtpbnkkgfjmkcdaaTabS
import Derived.Test.YtpbnkkgfjmkcdaaTabE
import Derived.Test.YtpbnkkgfjmkcdaaRoundHeld
import Derived.Test.YtpbnkkgfjmkcdaaAdv
import Derived.Sort.CutIn
namespace Go.Proofs.Ytpbnkkgfjmkcdaa
open Go.RowKit Go.Lib Go.Shelf

attribute [local go_sem] Oper.semAt_some

/-- What is known within Arrived's loop. -/
def ArI (w : World) (gT gl go gs gm Bx : Nat) (cl co cs cm c0 c1 c2 : List Value) (T0 : Tab) (l : Int) (pre : List PB) (W : World) : Prop :=
  Blk W gT (tabC (foldF T0 (valsP pre))) ∧ (Blk W gl cl ∧ Blk W go co ∧ Blk W gs cs ∧ Blk W gm cm) ∧ (Blk W Bx c0 ∧ Blk W (Bx + 1) c1 ∧ Blk W (Bx + 2) c2) ∧ Below w.heap.size w W ∧ UnderL l (valsP pre)
theorem blk_row {X Y : World} {g : Nat} {vs : List Value} {row : Option Nat} (h : Blk X g vs) (hg : X.grownBy Y row) (hr : ∀ r, row = some r → ∃ o : Obj, X.heap[r]? = some o ∧ o.isCells = false) : Blk Y g vs :=
  (blk_grown (β := Unit) g (fun _ => vs)) () X Y row h hg hr
theorem arI_own (w : World) (gT gl go gs gm Bx : Nat) (cl co cs cm c0 c1 c2 : List Value) (T0 : Tab) (l : Int) (B : Nat) (hB : w.heap.size ≤ B) : OwnFrom B (ArI w gT gl go gs gm Bx cl co cs cm c0 c1 c2 T0 l) := by
  rintro s X Y row ⟨h1, ⟨h2, h3, h4, h5⟩, ⟨h6, h7, h8⟩, h9, h10⟩ hg hr
  have hr2 := fun r e => (hr r e).2
  exact ⟨blk_row h1 hg hr2, ⟨blk_row h2 hg hr2, blk_row h3 hg hr2, blk_row h4 hg hr2, blk_row h5 hg hr2⟩, ⟨blk_row h6 hg hr2, blk_row h7 hg hr2, blk_row h8 hg hr2⟩, h9.grown hg h9.size (fun k e => Nat.le_trans hB (hr k e).1), h10⟩
theorem kpR_grown {B g : Nat} {W W' : World} {c0 c1 c2 : Value} (hg : W.grownBy W' (some g)) (h0 : Blk W B [c0]) (h1 : Blk W (B + 1) [c1]) (h2 : Blk W (B + 2) [c2]) (n0 : B ≠ g) (n1 : B + 1 ≠ g) (n2 : B + 2 ≠ g) : KpR B W W' := fun k hk v hv => by
  have h3 : k = 0 ∨ k = 1 ∨ k = 2 := by omega
  rcases h3 with rfl | rfl | rfl
  · rw [Nat.add_zero] at hv ⊢
    rw [h0.cell 0 _ rfl] at hv; cases hv; exact (h0.grown hg n0).cell 0 _ rfl
  · rw [h1.cell 0 _ rfl] at hv; cases hv; exact (h1.grown hg n1).cell 0 _ rfl
  · rw [h2.cell 0 _ rfl] at hv; cases hv; exact (h2.grown hg n2).cell 0 _ rfl

set_option maxRecDepth 100000 in
set_option maxHeartbeats 8000000 in
theorem arrI_same (n f sq : Int) (z fin : Bool) (d x : ByteArray) (a : Option Addr) (cap : Nat) (rs : List HP) (hB : RB d rs) (w : World) (hrow : HasP w a cap rs) (hno : (rcvOk ⟨n, d, rs, f, z⟩ && !z) = false) :
    Calls Try.prog 10 #[.agg #[.int .i64 n, .string d, .slice a rs.length cap, .int .i64 f, .bool z], .int .i64 sq, .string x, .bool fin] w (NewRE ⟨n, d, rs, f, z⟩ w) := by
  have OK := fun w (h : HasP w a cap rs) => rcvOkI n f z d a cap rs hB w h.1
  have HR := Lib.hid hrow
  have hl := Lib.hid hB.2.1
  clear hrow hB
  cases hok : rcvOk ⟨n, d, rs, f, z⟩ with
  | false =>
    simp only [hok] at OK
    replace OK := Lib.hid OK
    clear hok hno
    go_enter Try.func10, Try.ntmps10
    have B0 := Lib.hid (show Below w.heap.size w ((w.alloc (.cells #[.int .i64 n, .string d, .slice a rs.length cap, .int .i64 f, .bool z] 26)).alloc (.cells #[.int .i64 0, .string ⟨#[]⟩, .slice none 0 0, .int .i64 0, .bool false] 26)) from (((Below.refl _ w).alloc (by simp) _).alloc (by simp) _))
    have Kl0 := Lib.hid (show Blk ((w.alloc (.cells #[.int .i64 n, .string d, .slice a rs.length cap, .int .i64 f, .bool z] 26)).alloc (.cells #[.int .i64 0, .string ⟨#[]⟩, .slice none 0 0, .int .i64 0, .bool false] 26)) (w.heap.size) [.int .i64 n, .string d, .slice a rs.length cap, .int .i64 f, .bool z] from (Blk.new w [.int .i64 n, .string d, .slice a rs.length cap, .int .i64 f, .bool z] 26).alloc (.cells #[.int .i64 0, .string ⟨#[]⟩, .slice none 0 0, .int .i64 0, .bool false] 26))
    have s1 : (w.alloc (.cells #[.int .i64 n, .string d, .slice a rs.length cap, .int .i64 f, .bool z] 26)).heap.size = w.heap.size + 1 := by simp
    have Ko0 := Lib.hid (show Blk ((w.alloc (.cells #[.int .i64 n, .string d, .slice a rs.length cap, .int .i64 f, .bool z] 26)).alloc (.cells #[.int .i64 0, .string ⟨#[]⟩, .slice none 0 0, .int .i64 0, .bool false] 26)) (w.heap.size + 1) [.int .i64 0, .string ⟨#[]⟩, .slice none 0 0, .int .i64 0, .bool false] by have h0 := Blk.new (w.alloc (.cells #[.int .i64 n, .string d, .slice a rs.length cap, .int .i64 f, .bool z] 26)) [.int .i64 0, .string ⟨#[]⟩, .slice none 0 0, .int .i64 0, .bool false] 26; rwa [s1] at h0)
    have n_l_o : w.heap.size ≠ w.heap.size + 1 := by omega
    clear s1
    go_wp2_with fail
    change Calls _ _ _ ((w.alloc (.cells #[.int .i64 n, .string d, .slice a rs.length cap, .int .i64 f, .bool z] 26)).alloc (.cells #[.int .i64 0, .string ⟨#[]⟩, .slice none 0 0, .int .i64 0, .bool false] 26)) _
    generalize (w.alloc (.cells #[.int .i64 n, .string d, .slice a rs.length cap, .int .i64 f, .bool z] 26)).alloc (.cells #[.int .i64 0, .string ⟨#[]⟩, .slice none 0 0, .int .i64 0, .bool false] 26) = v0 at B0 Kl0 Ko0 ⊢
    generalize hh_o : w.heap.size + 1 = g_o at Ko0 n_l_o ⊢
    generalize hh_l : w.heap.size = g_l at Kl0 n_l_o ⊢
    have l_l : w.heap.size ≤ g_l := by omega
    have l_o : w.heap.size ≤ g_o := by omega
    clear hh_l hh_o
    refine (OK.out _ (HR.out.below B0.out)).mono ?_
    rintro e v1 ⟨rfl, hb⟩
    have B1 := Lib.hid (B0.out.trans (hb.mono B0.out.size))
    have Kl1 := Lib.hid (Kl0.out.below hb)
    have Ko1 := Lib.hid (Ko0.out.below hb)
    clear hb B0 Kl0 Ko0
    obtain ⟨⟨cl0, cl1, cl2, cl3, cl4⟩, dl0, dl1, dl2, dl3, dl4⟩ := Kl1.out.of5
    obtain ⟨⟨co0, co1, co2, co3, co4⟩, do0, do1, do2, do3, do4⟩ := Ko1.out.of5
    go_wp2_with fail
    have hz0 := B1.out.size
    have lt0_o := Ko1.out.lt
    have lt0_l := Kl1.out.lt
    clear cl0 cl1 cl2 cl3 cl4 dl0 dl1 dl2 dl3 dl4 co0 co1 co2 co3 co4 do0 do1 do2 do3 do4
    refine (rcopyI n f z d a cap rs _ (HR.out.below B1.out).1 (HR.out.below B1.out).2 (by have := hl.out; omega)).mono ?_
    rintro e v2 ⟨a2, cap2, rfl, ho_p, hb⟩
    have B2 := Lib.hid (B1.out.trans (hb.mono B1.out.size))
    have Kl2 := Lib.hid (Kl1.out.below hb)
    have Ko2 := Lib.hid (Ko1.out.below hb)
    clear hb B1 Kl1 Ko1
    have m_p_l : (.slice a2 rs.length cap2 : Value).ownBlock ≠ some g_l := fun e => by have h1 := (ho_p.lt _ e).1; have h2 := lt0_l; omega
    have m_p_o : (.slice a2 rs.length cap2 : Value).ownBlock ≠ some g_o := fun e => by have h1 := (ho_p.lt _ e).1; have h2 := lt0_o; omega
    have Np2 := Lib.hid ho_p
    clear ho_p
    obtain ⟨⟨cl0, cl1, cl2, cl3, cl4⟩, dl0, dl1, dl2, dl3, dl4⟩ := Kl2.out.of5
    obtain ⟨⟨co0, co1, co2, co3, co4⟩, do0, do1, do2, do3, do4⟩ := Ko2.out.of5
    go_wp2_with fail
    refine bodyPost_ret (v := .agg #[.int .i64 n, .string d, .slice a2 rs.length cap2, .int .i64 f, .bool z]) (by simp [results, Try.results10, go_sem, co0, co1, co2, co3, co4]) rfl (newRE_end rfl rfl ?_ ?_)
    · exact own_down (own_setn (own_setn (own_setn (own_setn (own_setn Np2.out (g := g_o) (k := 0) m_p_o (.int .i64 n)) (g := g_o) (k := 1) m_p_o (.string d)) (g := g_o) (k := 2) m_p_o (.slice a2 rs.length cap2)) (g := g_o) (k := 3) m_p_o (.int .i64 f)) (g := g_o) (k := 4) m_p_o (.bool z)) hz0
    · exact (((((B2.out.setCell l_o (.int .i64 n)).setCell l_o (.string d)).setCell l_o (.slice a2 rs.length cap2)).setCell l_o (.int .i64 f)).setCell l_o (.bool z))
  | true =>
    have hz : z = true := by rw [hok] at hno; simpa using hno
    subst hz
    simp only [hok] at OK
    replace OK := Lib.hid OK
    clear hok hno
    go_enter Try.func10, Try.ntmps10
    have B0 := Lib.hid (show Below w.heap.size w ((w.alloc (.cells #[.int .i64 n, .string d, .slice a rs.length cap, .int .i64 f, .bool true] 26)).alloc (.cells #[.int .i64 0, .string ⟨#[]⟩, .slice none 0 0, .int .i64 0, .bool false] 26)) from (((Below.refl _ w).alloc (by simp) _).alloc (by simp) _))
    have Kl0 := Lib.hid (show Blk ((w.alloc (.cells #[.int .i64 n, .string d, .slice a rs.length cap, .int .i64 f, .bool true] 26)).alloc (.cells #[.int .i64 0, .string ⟨#[]⟩, .slice none 0 0, .int .i64 0, .bool false] 26)) (w.heap.size) [.int .i64 n, .string d, .slice a rs.length cap, .int .i64 f, .bool true] from (Blk.new w [.int .i64 n, .string d, .slice a rs.length cap, .int .i64 f, .bool true] 26).alloc (.cells #[.int .i64 0, .string ⟨#[]⟩, .slice none 0 0, .int .i64 0, .bool false] 26))
    have s1 : (w.alloc (.cells #[.int .i64 n, .string d, .slice a rs.length cap, .int .i64 f, .bool true] 26)).heap.size = w.heap.size + 1 := by simp
    have Ko0 := Lib.hid (show Blk ((w.alloc (.cells #[.int .i64 n, .string d, .slice a rs.length cap, .int .i64 f, .bool true] 26)).alloc (.cells #[.int .i64 0, .string ⟨#[]⟩, .slice none 0 0, .int .i64 0, .bool false] 26)) (w.heap.size + 1) [.int .i64 0, .string ⟨#[]⟩, .slice none 0 0, .int .i64 0, .bool false] by have h0 := Blk.new (w.alloc (.cells #[.int .i64 n, .string d, .slice a rs.length cap, .int .i64 f, .bool true] 26)) [.int .i64 0, .string ⟨#[]⟩, .slice none 0 0, .int .i64 0, .bool false] 26; rwa [s1] at h0)
    have n_l_o : w.heap.size ≠ w.heap.size + 1 := by omega
    clear s1
    go_wp2_with fail
    change Calls _ _ _ ((w.alloc (.cells #[.int .i64 n, .string d, .slice a rs.length cap, .int .i64 f, .bool true] 26)).alloc (.cells #[.int .i64 0, .string ⟨#[]⟩, .slice none 0 0, .int .i64 0, .bool false] 26)) _
    generalize (w.alloc (.cells #[.int .i64 n, .string d, .slice a rs.length cap, .int .i64 f, .bool true] 26)).alloc (.cells #[.int .i64 0, .string ⟨#[]⟩, .slice none 0 0, .int .i64 0, .bool false] 26) = v0 at B0 Kl0 Ko0 ⊢
    generalize hh_o : w.heap.size + 1 = g_o at Ko0 n_l_o ⊢
    generalize hh_l : w.heap.size = g_l at Kl0 n_l_o ⊢
    have l_l : w.heap.size ≤ g_l := by omega
    have l_o : w.heap.size ≤ g_o := by omega
    clear hh_l hh_o
    refine (OK.out _ (HR.out.below B0.out)).mono ?_
    rintro e v1 ⟨rfl, hb⟩
    have B1 := Lib.hid (B0.out.trans (hb.mono B0.out.size))
    have Kl1 := Lib.hid (Kl0.out.below hb)
    have Ko1 := Lib.hid (Ko0.out.below hb)
    clear hb B0 Kl0 Ko0
    obtain ⟨⟨cl0, cl1, cl2, cl3, cl4⟩, dl0, dl1, dl2, dl3, dl4⟩ := Kl1.out.of5
    obtain ⟨⟨co0, co1, co2, co3, co4⟩, do0, do1, do2, do3, do4⟩ := Ko1.out.of5
    go_wp2_with fail
    have hz0 := B1.out.size
    have lt0_o := Ko1.out.lt
    have lt0_l := Kl1.out.lt
    clear cl0 cl1 cl2 cl3 cl4 dl0 dl1 dl2 dl3 dl4 co0 co1 co2 co3 co4 do0 do1 do2 do3 do4
    refine (rcopyI n f true d a cap rs _ (HR.out.below B1.out).1 (HR.out.below B1.out).2 (by have := hl.out; omega)).mono ?_
    rintro e v2 ⟨a2, cap2, rfl, ho_p, hb⟩
    have B2 := Lib.hid (B1.out.trans (hb.mono B1.out.size))
    have Kl2 := Lib.hid (Kl1.out.below hb)
    have Ko2 := Lib.hid (Ko1.out.below hb)
    clear hb B1 Kl1 Ko1
    have m_p_l : (.slice a2 rs.length cap2 : Value).ownBlock ≠ some g_l := fun e => by have h1 := (ho_p.lt _ e).1; have h2 := lt0_l; omega
    have m_p_o : (.slice a2 rs.length cap2 : Value).ownBlock ≠ some g_o := fun e => by have h1 := (ho_p.lt _ e).1; have h2 := lt0_o; omega
    have Np2 := Lib.hid ho_p
    clear ho_p
    obtain ⟨⟨cl0, cl1, cl2, cl3, cl4⟩, dl0, dl1, dl2, dl3, dl4⟩ := Kl2.out.of5
    obtain ⟨⟨co0, co1, co2, co3, co4⟩, do0, do1, do2, do3, do4⟩ := Ko2.out.of5
    go_wp2_with fail
    refine bodyPost_ret (v := .agg #[.int .i64 n, .string d, .slice a2 rs.length cap2, .int .i64 f, .bool true]) (by simp [results, Try.results10, go_sem, co0, co1, co2, co3, co4]) rfl (newRE_end rfl rfl ?_ ?_)
    · exact own_down (own_setn (own_setn (own_setn (own_setn (own_setn Np2.out (g := g_o) (k := 0) m_p_o (.int .i64 n)) (g := g_o) (k := 1) m_p_o (.string d)) (g := g_o) (k := 2) m_p_o (.slice a2 rs.length cap2)) (g := g_o) (k := 3) m_p_o (.int .i64 f)) (g := g_o) (k := 4) m_p_o (.bool true)) hz0
    · exact (((((B2.out.setCell l_o (.int .i64 n)).setCell l_o (.string d)).setCell l_o (.slice a2 rs.length cap2)).setCell l_o (.int .i64 f)).setCell l_o (.bool true))

theorem adv_rs (n F : Int) (d : ByteArray) (T : Tab) (c : Nat) : (advR n F d T c).rs = pcs T c (32 - c) := by
  unfold advR; split
  · rfl
  · split <;> rfl
theorem arrEnd_adv {n F f : Int} {d : ByteArray} {rs : List HP} {T : Tab} (h32 : T 32 = none) (hc : cnt T ≤ 32) : arrEnd ⟨n, d, rs, f, false⟩ T (cnt T) F = if 3 < (advR n F d T (cnt T)).rs.length then ⟨n, d, rs, f, false⟩ else advR n F d T (cnt T) := by
  rw [adv_rs]
  unfold arrEnd advR
  simp only [pcs_33 h32 hc]
/-- What stands when the range has ended. -/
structure ArA (w : World) (gT gl go gs gm ga D : Nat) (cT cl co cs cm ca : List Value) (W : World) : Prop where
  a : Blk W ga ca
  T : Blk W gT cT
  l : Blk W gl cl
  o : Blk W go co
  s : Blk W gs cs
  m : Blk W gm cm
  low : Below w.heap.size w W
  mark : W.heap[D]? = some (.deferred (some []))
theorem ArA.lt {w : World} {gT gl go gs gm ga D : Nat} {cT cl co cs cm ca : List Value} {W : World} (h : ArA w gT gl go gs gm ga D cT cl co cs cm ca W) : D < W.heap.size := by
  rcases Nat.lt_or_ge D W.heap.size with h1 | h1
  · exact h1
  · have h2 := h.mark; rw [Array.getElem?_eq_none h1] at h2; cases h2
theorem ArA.below {w : World} {gT gl go gs gm ga D : Nat} {cT cl co cs cm ca : List Value} {W W' : World} (h : ArA w gT gl go gs gm ga D cT cl co cs cm ca W) (hb : Below W.heap.size W W') : ArA w gT gl go gs gm ga D cT cl co cs cm ca W' :=
  ⟨h.a.below hb, h.T.below hb, h.l.below hb, h.o.below hb, h.s.below hb, h.m.below hb, h.low.trans (hb.mono h.low.size), (hb.block D h.lt).trans h.mark⟩
theorem ArA.drew {w : World} {gT gl go gs gm ga D : Nat} {cT cl co cs cm ca : List Value} {W : World} (h : ArA w gT gl go gs gm ga D cT cl co cs cm ca W) : ArA w gT gl go gs gm ga D cT cl co cs cm ca W.drew := h.below (Below.refl _ _).drew
theorem mark_set {W : World} {D g k : Nat} {v : Value} (h : W.heap[D]? = some (.deferred (some []))) (hn : D ≠ g) : (W.setCell ⟨g, k, none⟩ v).heap[D]? = some (.deferred (some [])) := by
  have hl : D < W.heap.size := by
    rcases Nat.lt_or_ge D W.heap.size with h1 | h1
    · exact h1
    · rw [Array.getElem?_eq_none h1] at h; cases h
  exact ((grown_setn W g k v).block D hl (fun e => hn (by injection e))).trans h
theorem ArA.setA {w : World} {gT gl go gs gm ga D : Nat} {cT cl co cs cm ca : List Value} {W : World} (h : ArA w gT gl go gs gm ga D cT cl co cs cm ca W) (k : Nat) (v : Value) (n1 : gT ≠ ga) (n2 : gl ≠ ga) (n3 : go ≠ ga) (n4 : gs ≠ ga) (n5 : gm ≠ ga) (n6 : D ≠ ga) (l : w.heap.size ≤ ga) : ArA w gT gl go gs gm ga D cT cl co cs cm (ca.set k v) (W.setCell ⟨ga, k, none⟩ v) :=
  ⟨h.a.set k v, h.T.setOther ⟨ga, k, none⟩ v n1, h.l.setOther ⟨ga, k, none⟩ v n2, h.o.setOther ⟨ga, k, none⟩ v n3, h.s.setOther ⟨ga, k, none⟩ v n4, h.m.setOther ⟨ga, k, none⟩ v n5, h.low.setCell l v, mark_set h.mark n6⟩

set_option maxRecDepth 100000 in
set_option maxHeartbeats 32000000 in
theorem arrI_in (m : Nat) (hm3 : 4 ≤ m) (n f sq : Int) (fin : Bool) (d x : ByteArray) (a : Option Addr) (cap : Nat) (rs : List HP) (w : World) (hrow : HasP w a cap rs) (hok : rcvOk ⟨n, d, rs, f, false⟩ = true) :
    CallsIn Fence.wide m Try.prog 10 #[.agg #[.int .i64 n, .string d, .slice a rs.length cap, .int .i64 f, .bool false], .int .i64 sq, .string x, .bool fin] w (NewRE (arrEnd ⟨n, d, rs, f, false⟩ (arrTab ⟨n, d, rs, f, false⟩ sq x) (cnt (arrTab ⟨n, d, rs, f, false⟩ sq x)) (finAt f fin (pl (sq + x.size - n)) (lim d f false) (arrTab ⟨n, d, rs, f, false⟩ sq x))) w) := by
  have h1 : 1 ≤ m := by omega
  have hR := rcvOk_iff.1 hok
  have hlb := lim_bd hR
  have hwb := win_bd d false
  have hac := arr_cnt hR sq x
  have hpb := pl_bd (sq + x.size - n)
  have hfa := finAt_ge hR sq x fin (pl (sq + x.size - n)) hpb.1
  have h32 := arrTab_out hR sq x 32 (by simp only at hlb ⊢; omega)
  simp only at hac hfa hlb
  have hnw : 0 ≤ n ∧ n < 4294967296 := by have h1 := hR.1; unfold wordOk at h1; simpa using h1
  have hds : d.size ≤ 32 := hR.2.1
  have hB : RB d rs := ⟨by omega, by have := hR.2.2.1; simp only at this; omega, fun r hr => by
    obtain ⟨k, hk, rfl⟩ := List.getElem_of_mem hr
    have h1 := hR.2.2.2.2 k hk hk
    have h2 := PiecesOk.end_bd (k := k) hlb.1 (fun j y hj => hR.2.2.2.2 j y (by simp only; omega)) (by simp only; omega)
    have h3 := h1.2.1
    have h4 := h1.2.2
    simp only at h2 h3 h4
    omega⟩
  have hl3 : rs.length ≤ 3 := hR.2.2.1
  have HPk := Lib.hid (pieces_up (m := 32) hR.2.2.2.2 (by simp only; omega))
  have OK := fun w (h : HasP w a cap rs) => rcvOkI n f false d a cap rs hB w h.1
  simp only [hok] at OK
  replace OK := Lib.hid OK
  have HR := Lib.hid hrow
  have hl := Lib.hid hB.2.1
  have hd := Lib.hid hB.1
  have hT0 : arrTab ⟨n, d, rs, f, false⟩ sq x = arrT n sq x (lim d f false) (heldT rs) := rfl
  clear hrow hB hok hR hwb
  generalize arrTab ⟨n, d, rs, f, false⟩ sq x = T at hac hfa h32 hT0 ⊢
  have CL := fun w => limitI n f false d a cap rs hd.out w
  generalize lim d f false = l at hlb hac hfa hT0 CL ⊢
  replace CL := Lib.hid CL
  replace hac := Lib.hid hac
  replace hfa := Lib.hid hfa
  replace hT0 := Lib.hid hT0
  replace h32 := Lib.hid h32
  obtain ⟨Fv, hFv⟩ : ∃ Fv, finAt f fin (pl (sq + x.size - n)) l T = Fv := ⟨_, rfl⟩
  simp only [hFv] at hfa ⊢
  replace hFv := Lib.hid hFv
  obtain ⟨R, hRe⟩ : ∃ R, arrEnd ⟨n, d, rs, f, false⟩ T (cnt T) Fv = R := ⟨_, rfl⟩
  rw [hRe]
  replace hRe := Lib.hid hRe
  have hf_ReceiverOk : Fence.wide.fn 13 := trivial
  have hf_copy : Fence.wide.fn 33 := trivial
  have hf_storedIn : Fence.wide.fn 34 := trivial
  have hf_limitOf : Fence.wide.fn 35 := trivial
  have hf_received : Fence.wide.fn 36 := trivial
  have hf_store : Fence.wide.fn 37 := trivial
  have hf_SeqAdd : Fence.wide.fn 15 := trivial
  have hf_end : Fence.wide.fn 38 := trivial
  have hf_advanced : Fence.wide.fn 39 := trivial
  refine callsIn_of_wp_marks Try.func10 rfl trivial ?_ rfl
  simp only [Try.ntmps10, List.size_toArray, List.length_cons, List.length_nil, Nat.reduceAdd, Nat.reduceSub, Array.replicate_succ, Array.replicate_zero, List.push_toArray, List.append_toArray, List.nil_append, List.cons_append]
  have B0 := Lib.hid (show Below w.heap.size w ((w.alloc (.cells #[.int .i64 n, .string d, .slice a rs.length cap, .int .i64 f, .bool false] 26)).alloc (.cells #[.int .i64 0, .string ⟨#[]⟩, .slice none 0 0, .int .i64 0, .bool false] 26)) from (((Below.refl _ w).alloc (by simp) _).alloc (by simp) _))
  have Kl0 := Lib.hid (show Blk ((w.alloc (.cells #[.int .i64 n, .string d, .slice a rs.length cap, .int .i64 f, .bool false] 26)).alloc (.cells #[.int .i64 0, .string ⟨#[]⟩, .slice none 0 0, .int .i64 0, .bool false] 26)) (w.heap.size) [.int .i64 n, .string d, .slice a rs.length cap, .int .i64 f, .bool false] from (Blk.new w [.int .i64 n, .string d, .slice a rs.length cap, .int .i64 f, .bool false] 26).alloc (.cells #[.int .i64 0, .string ⟨#[]⟩, .slice none 0 0, .int .i64 0, .bool false] 26))
  have s1 : (w.alloc (.cells #[.int .i64 n, .string d, .slice a rs.length cap, .int .i64 f, .bool false] 26)).heap.size = w.heap.size + 1 := by simp
  have Ko0 := Lib.hid (show Blk ((w.alloc (.cells #[.int .i64 n, .string d, .slice a rs.length cap, .int .i64 f, .bool false] 26)).alloc (.cells #[.int .i64 0, .string ⟨#[]⟩, .slice none 0 0, .int .i64 0, .bool false] 26)) (w.heap.size + 1) [.int .i64 0, .string ⟨#[]⟩, .slice none 0 0, .int .i64 0, .bool false] by have h0 := Blk.new (w.alloc (.cells #[.int .i64 n, .string d, .slice a rs.length cap, .int .i64 f, .bool false] 26)) [.int .i64 0, .string ⟨#[]⟩, .slice none 0 0, .int .i64 0, .bool false] 26; rwa [s1] at h0)
  have n_l_o : w.heap.size ≠ w.heap.size + 1 := by omega
  clear s1
  gi_wp2
  generalize (w.alloc (.cells #[.int .i64 n, .string d, .slice a rs.length cap, .int .i64 f, .bool false] 26)).alloc (.cells #[.int .i64 0, .string ⟨#[]⟩, .slice none 0 0, .int .i64 0, .bool false] 26) = v0 at B0 Kl0 Ko0 ⊢
  generalize hh_o : w.heap.size + 1 = g_o at Ko0 n_l_o ⊢
  generalize hh_l : w.heap.size = g_l at Kl0 n_l_o ⊢
  have l_l : w.heap.size ≤ g_l := by omega
  have l_o : w.heap.size ≤ g_o := by omega
  clear hh_l hh_o
  refine (callsIn_wide.2 (OK.out _ (HR.out.below B0.out))).mono ?_
  rintro e v1 ⟨rfl, hb⟩
  have B1 := Lib.hid (B0.out.trans (hb.mono B0.out.size))
  have Kl1 := Lib.hid (Kl0.out.below hb)
  have Ko1 := Lib.hid (Ko0.out.below hb)
  clear hb B0 Kl0 Ko0
  obtain ⟨⟨cl0, cl1, cl2, cl3, cl4⟩, dl0, dl1, dl2, dl3, dl4⟩ := Kl1.out.of5
  obtain ⟨⟨co0, co1, co2, co3, co4⟩, do0, do1, do2, do3, do4⟩ := Ko1.out.of5
  gi_wp2
  clear cl0 cl1 cl2 cl3 cl4 dl0 dl1 dl2 dl3 dl4 co0 co1 co2 co3 co4 do0 do1 do2 do3 do4
  refine (callsIn_wide.2 (storedInI a cap rs _ (HR.out.below B1.out).1 HPk.out hl3)).mono ?_
  rintro e v2 ⟨g_T, rfl, hKT, hgT, hb⟩
  have bT := B1.out.size
  have hlt_l := Kl1.out.lt
  have hlt_o := Ko1.out.lt
  have B2 := Lib.hid (B1.out.trans (hb.mono B1.out.size))
  have Kl2 := Lib.hid (Kl1.out.below hb)
  have Ko2 := Lib.hid (Ko1.out.below hb)
  clear hb B1 Kl1 Ko1
  have n_l_T : g_l ≠ g_T := by omega
  have n_o_T : g_o ≠ g_T := by omega
  have l_T : w.heap.size ≤ g_T := by omega
  clear bT hlt_l hlt_o hgT
  have KT2 := Lib.hid hKT
  clear hKT
  have Ksn := Lib.hid (Blk.new v2 [.pointer (some ⟨g_T, 0, none⟩)] 55)
  have l_s : w.heap.size ≤ v2.heap.size := B2.out.size
  have n_l_s : g_l ≠ v2.heap.size := by have h1 := Kl2.out.lt; omega
  have n_o_s : g_o ≠ v2.heap.size := by have h1 := Ko2.out.lt; omega
  have n_T_s : g_T ≠ v2.heap.size := by have h1 := KT2.out.lt; omega
  have Bn := Lib.hid (B2.out.alloc B2.out.size (.cells #[.pointer (some ⟨g_T, 0, none⟩)] 55))
  have Kln := Lib.hid (Kl2.out.alloc (.cells #[.pointer (some ⟨g_T, 0, none⟩)] 55))
  have Kon := Lib.hid (Ko2.out.alloc (.cells #[.pointer (some ⟨g_T, 0, none⟩)] 55))
  have KTn := Lib.hid (KT2.out.alloc (.cells #[.pointer (some ⟨g_T, 0, none⟩)] 55))
  clear B2 Kl2 Ko2 KT2
  obtain ⟨⟨cl0, cl1, cl2, cl3, cl4⟩, dl0, dl1, dl2, dl3, dl4⟩ := Kln.out.of5
  obtain ⟨⟨co0, co1, co2, co3, co4⟩, do0, do1, do2, do3, do4⟩ := Kon.out.of5
  gi_wp2
  clear cl0 cl1 cl2 cl3 cl4 dl0 dl1 dl2 dl3 dl4 co0 co1 co2 co3 co4 do0 do1 do2 do3 do4
  generalize v2.alloc (.cells #[.pointer (some ⟨g_T, 0, none⟩)] 55) = v3 at Ksn Bn Kln Kon KTn ⊢
  generalize v2.heap.size = g_s at Ksn l_s n_l_s n_o_s n_T_s ⊢
  clear v2
  have Kl3 := Kln
  clear Kln
  have Ko3 := Kon
  clear Kon
  have KT3 := KTn
  clear KTn
  have Ks3 := Ksn
  clear Ksn
  have B3 := Bn
  clear Bn
  refine (callsIn_wide.2 (CL.out _)).mono ?_
  rintro e v4 ⟨rfl, hb⟩
  have B4 := Lib.hid (B3.out.trans (hb.mono B3.out.size))
  have Kl4 := Lib.hid (Kl3.out.below hb)
  have Ko4 := Lib.hid (Ko3.out.below hb)
  have KT4 := Lib.hid (KT3.out.below hb)
  have Ks4 := Lib.hid (Ks3.out.below hb)
  clear hb B3 Kl3 Ko3 KT3 Ks3
  have Kmn := Lib.hid (Blk.new v4 [.int .i64 l] 3)
  have l_m : w.heap.size ≤ v4.heap.size := B4.out.size
  have n_l_m : g_l ≠ v4.heap.size := by have h1 := Kl4.out.lt; omega
  have n_o_m : g_o ≠ v4.heap.size := by have h1 := Ko4.out.lt; omega
  have n_T_m : g_T ≠ v4.heap.size := by have h1 := KT4.out.lt; omega
  have n_s_m : g_s ≠ v4.heap.size := by have h1 := Ks4.out.lt; omega
  have Bn := Lib.hid (B4.out.alloc B4.out.size (.cells #[.int .i64 l] 3))
  have Kln := Lib.hid (Kl4.out.alloc (.cells #[.int .i64 l] 3))
  have Kon := Lib.hid (Ko4.out.alloc (.cells #[.int .i64 l] 3))
  have KTn := Lib.hid (KT4.out.alloc (.cells #[.int .i64 l] 3))
  have Ksn := Lib.hid (Ks4.out.alloc (.cells #[.int .i64 l] 3))
  clear B4 Kl4 Ko4 KT4 Ks4
  obtain ⟨⟨cl0, cl1, cl2, cl3, cl4⟩, dl0, dl1, dl2, dl3, dl4⟩ := Kln.out.of5
  obtain ⟨⟨co0, co1, co2, co3, co4⟩, do0, do1, do2, do3, do4⟩ := Kon.out.of5
  have cs0 := Ksn.out.cell 0 _ rfl
  have ds0 := Ksn.out.open 0
  gi_wp2
  clear cl0 cl1 cl2 cl3 cl4 dl0 dl1 dl2 dl3 dl4 co0 co1 co2 co3 co4 do0 do1 do2 do3 do4 cs0 ds0
  generalize v4.alloc (.cells #[.int .i64 l] 3) = v5 at Kmn Bn Kln Kon KTn Ksn ⊢
  generalize v4.heap.size = g_m at Kmn l_m n_l_m n_o_m n_T_m n_s_m ⊢
  clear v4
  have Kl5 := Kln
  clear Kln
  have Ko5 := Kon
  clear Kon
  have KT5 := KTn
  clear KTn
  have Ks5 := Ksn
  clear Ksn
  have Km5 := Kmn
  clear Kmn
  have B5 := Bn
  clear Bn
  refine (rcvMk (m - 1) x n sq _).mono ?_
  rintro e w' ⟨rfl, rfl⟩
  have Kl9 := Lib.hid (((Kl5.out.alloc (.cells #[.int .i64 n] 3)).alloc (.cells #[.int .i64 sq] 3)).alloc (.cells #[.string x] 9))
  have Ko9 := Lib.hid (((Ko5.out.alloc (.cells #[.int .i64 n] 3)).alloc (.cells #[.int .i64 sq] 3)).alloc (.cells #[.string x] 9))
  have KT9 := Lib.hid (((KT5.out.alloc (.cells #[.int .i64 n] 3)).alloc (.cells #[.int .i64 sq] 3)).alloc (.cells #[.string x] 9))
  have Ks9 := Lib.hid (((Ks5.out.alloc (.cells #[.int .i64 n] 3)).alloc (.cells #[.int .i64 sq] 3)).alloc (.cells #[.string x] 9))
  have Km9 := Lib.hid (((Km5.out.alloc (.cells #[.int .i64 n] 3)).alloc (.cells #[.int .i64 sq] 3)).alloc (.cells #[.string x] 9))
  have hzb := B5.out.size
  have b_l := Kl5.out.lt
  have b_o := Ko5.out.lt
  have b_T := KT5.out.lt
  have b_s := Ks5.out.lt
  have b_m := Km5.out.lt
  have X0 := Lib.hid (((Blk.new v5 [.int .i64 n] 3).alloc (.cells #[.int .i64 sq] 3)).alloc (.cells #[.string x] 9))
  have X1 := Lib.hid (show Blk (((v5.alloc (.cells #[.int .i64 n] 3)).alloc (.cells #[.int .i64 sq] 3)).alloc (.cells #[.string x] 9)) (v5.heap.size + 1) [.int .i64 sq] by have h0 := (Blk.new (v5.alloc (.cells #[.int .i64 n] 3)) [.int .i64 sq] 3).alloc (.cells #[.string x] 9); rwa [show (v5.alloc (.cells #[.int .i64 n] 3)).heap.size = v5.heap.size + 1 by simp] at h0)
  have X2 := Lib.hid (show Blk (((v5.alloc (.cells #[.int .i64 n] 3)).alloc (.cells #[.int .i64 sq] 3)).alloc (.cells #[.string x] 9)) (v5.heap.size + 2) [.string x] by have h0 := Blk.new ((v5.alloc (.cells #[.int .i64 n] 3)).alloc (.cells #[.int .i64 sq] 3)) [.string x] 9; rwa [show ((v5.alloc (.cells #[.int .i64 n] 3)).alloc (.cells #[.int .i64 sq] 3)).heap.size = v5.heap.size + 2 by simp] at h0)
  have B9 := Lib.hid ((((B5.out.alloc B5.out.size (.cells #[.int .i64 n] 3)).alloc (by simp; omega) (.cells #[.int .i64 sq] 3)).alloc (by simp; omega) (.cells #[.string x] 9)))
  have hs9 : (((v5.alloc (.cells #[.int .i64 n] 3)).alloc (.cells #[.int .i64 sq] 3)).alloc (.cells #[.string x] 9)).heap.size = v5.heap.size + 3 := by simp
  clear Kl5 Ko5 KT5 Ks5 Km5 B5
  gi_wp2
  generalize ((v5.alloc (.cells #[.int .i64 n] 3)).alloc (.cells #[.int .i64 sq] 3)).alloc (.cells #[.string x] 9) = V9 at Kl9 Ko9 KT9 Ks9 Km9 X0 X1 X2 B9 hs9 ⊢
  generalize hBx : v5.heap.size = Bx at X0 X1 X2 hs9 hzb b_l b_o b_T b_s b_m ⊢
  rename_i K haK
  have tail : ∀ (D : Nat) (W : World), V9.heap.size ≤ D → Blk W g_T (tabC T) → Blk W g_l [.int .i64 n, .string d, .slice a rs.length cap, .int .i64 f, .bool false] → Blk W g_o [.int .i64 0, .string ⟨#[]⟩, .slice none 0 0, .int .i64 0, .bool false] → Blk W g_s [.pointer (some ⟨g_T, 0, none⟩)] → Blk W g_m [.int .i64 l] → Below w.heap.size w W → W.heap[D]? = some (.deferred (some [])) →
      K { tmps := #[.agg #[.int .i64 n, .string d, .slice a rs.length cap, .int .i64 f, .bool false], .int .i64 sq, .string x, .bool fin, .pointer (some ⟨g_l, 0, none⟩), undef, undef, undef, .pointer (some ⟨g_o, 0, none⟩), .pointer (some ⟨g_s, 0, none⟩), .pointer (some ⟨g_m, 0, none⟩), undef, undef, undef, undef, .agg #[.int .i64 n, .string d, .slice a rs.length cap, .int .i64 f, .bool false], .bool true, .bool false, .bool false, .pointer (some ⟨g_l, 4, none⟩), .bool false, .bool false, undef, undef, .pointer (some ⟨g_l, 2, none⟩), .slice a rs.length cap, .pointer (some ⟨g_T, 0, none⟩), .agg #[.int .i64 n, .string d, .slice a rs.length cap, .int .i64 f, .bool false], .int .i64 l, .pointer (some ⟨g_l, 0, none⟩), .int .i64 n, .int .i64 sq, .string x, .func (.func 67) #[] #[.pointer (some ⟨Bx, 0, none⟩), .pointer (some ⟨Bx + 1, 0, none⟩), .pointer (some ⟨Bx + 2, 0, none⟩)], undef, undef, undef, undef, undef, undef, undef, undef, undef, undef, undef, undef, undef, undef, undef, undef, undef, undef, undef, undef, undef, undef, undef, undef, undef, undef, undef, undef, undef, undef, undef, undef, undef, undef, undef, undef, undef, undef, undef, undef, undef, undef, undef, undef, undef, undef, undef], defers := [{ target := .collected D, args := #[] }] } W := by
    intro D W hD KT KL KO KS KM hB hK
    have hDl : D < W.heap.size := by rcases Nat.lt_or_ge D W.heap.size with h | h; exact h; rw [Array.getElem?_eq_none h] at hK; cases hK
    refine haK _ _ ?_
    obtain ⟨⟨cl0, cl1, cl2, cl3, cl4⟩, dl0, dl1, dl2, dl3, dl4⟩ := KL.of5
    have KA := Lib.hid (show Blk (W.alloc (.cells #[.int .i64 n, .string d, .slice a rs.length cap, .int .i64 f, .bool false] 26)) W.heap.size [.int .i64 n, .string d, .slice a rs.length cap, .int .i64 f, .bool false] from Blk.new W [.int .i64 n, .string d, .slice a rs.length cap, .int .i64 f, .bool false] 26)
    have n_T_a : g_T ≠ W.heap.size := by have h1 := KT.lt; omega
    have n_l_a : g_l ≠ W.heap.size := by have h1 := KL.lt; omega
    have n_o_a : g_o ≠ W.heap.size := by have h1 := KO.lt; omega
    have n_s_a : g_s ≠ W.heap.size := by have h1 := KS.lt; omega
    have n_m_a : g_m ≠ W.heap.size := by have h1 := KM.lt; omega
    have n_D_a : D ≠ W.heap.size := by omega
    have l_a : w.heap.size ≤ W.heap.size := hB.size
    have KT1 := Lib.hid (show Blk (W.alloc (.cells #[.int .i64 n, .string d, .slice a rs.length cap, .int .i64 f, .bool false] 26)) g_T (tabC T) from KT.alloc (.cells #[.int .i64 n, .string d, .slice a rs.length cap, .int .i64 f, .bool false] 26))
    have KL1 := Lib.hid (show Blk (W.alloc (.cells #[.int .i64 n, .string d, .slice a rs.length cap, .int .i64 f, .bool false] 26)) g_l [.int .i64 n, .string d, .slice a rs.length cap, .int .i64 f, .bool false] from KL.alloc (.cells #[.int .i64 n, .string d, .slice a rs.length cap, .int .i64 f, .bool false] 26))
    have KO1 := Lib.hid (show Blk (W.alloc (.cells #[.int .i64 n, .string d, .slice a rs.length cap, .int .i64 f, .bool false] 26)) g_o [.int .i64 0, .string ⟨#[]⟩, .slice none 0 0, .int .i64 0, .bool false] from KO.alloc (.cells #[.int .i64 n, .string d, .slice a rs.length cap, .int .i64 f, .bool false] 26))
    have KS1 := Lib.hid (show Blk (W.alloc (.cells #[.int .i64 n, .string d, .slice a rs.length cap, .int .i64 f, .bool false] 26)) g_s [.pointer (some ⟨g_T, 0, none⟩)] from KS.alloc (.cells #[.int .i64 n, .string d, .slice a rs.length cap, .int .i64 f, .bool false] 26))
    have KM1 := Lib.hid (show Blk (W.alloc (.cells #[.int .i64 n, .string d, .slice a rs.length cap, .int .i64 f, .bool false] 26)) g_m [.int .i64 l] from KM.alloc (.cells #[.int .i64 n, .string d, .slice a rs.length cap, .int .i64 f, .bool false] 26))
    have B1 := Lib.hid (show Below w.heap.size w (W.alloc (.cells #[.int .i64 n, .string d, .slice a rs.length cap, .int .i64 f, .bool false] 26)) from hB.alloc hB.size _)
    have K1 := Lib.hid (show (W.alloc (.cells #[.int .i64 n, .string d, .slice a rs.length cap, .int .i64 f, .bool false] 26)).heap[D]? = some (.deferred (some [])) from (((Below.refl W.heap.size W).alloc (Nat.le_refl _) (.cells #[.int .i64 n, .string d, .slice a rs.length cap, .int .i64 f, .bool false] 26)).block D hDl).trans hK)
    gi_wp2
    generalize (W.alloc (.cells #[.int .i64 n, .string d, .slice a rs.length cap, .int .i64 f, .bool false] 26)) = W1 at KA KT1 KL1 KO1 KS1 KM1 B1 K1 ⊢
    generalize W.heap.size = g_a at KA n_T_a n_l_a n_o_a n_s_a n_m_a n_D_a l_a hDl ⊢
    clear cl0 cl1 cl2 cl3 cl4 dl0 dl1 dl2 dl3 dl4 KT KL KO KS KM hB hK
    clear W
    have hsz : g_a ≤ W1.heap.size := Nat.le_of_lt KA.out.lt
    refine wpIn_region_tillW (S := fun w' => Blk w' g_l [.int .i64 n, .string d, .slice a rs.length cap, .int .i64 f, .bool false]) 8 (by kernel_rfl) (by kernel_rfl) KL1.out.drew (fun hS => ?_)
    replace KA := Lib.hid KA.out.drew
    replace KT1 := Lib.hid KT1.out.drew
    replace KL1 := Lib.hid KL1.out.drew
    replace KO1 := Lib.hid KO1.out.drew
    replace KS1 := Lib.hid KS1.out.drew
    replace KM1 := Lib.hid KM1.out.drew
    replace B1 := Lib.hid B1.out.drew
    replace K1 := Lib.hid (show W1.drew.heap[D]? = some (.deferred (some [])) from K1.out)
    replace hsz : g_a ≤ W1.drew.heap.size := hsz
    clear hS
    generalize W1.drew = W2 at KA KT1 KL1 KO1 KS1 KM1 B1 K1 hsz ⊢
    have hng : IntKind.i64.wrap (-n) = -n := IntWalk.i64_in _ (by omega)
    refine wpTill_takeU (i := 0) (v := .int .i64 sq) rfl (by kernel_rfl) (by kernel_rfl) (by kernel_rfl) (by kernel_rfl) (fun _ _ _ h => h) (Or.inl ⟨by kernel_rfl, by intro w _; go_simp⟩) (fun _ => KL1.out) ?_
    refine wpTill_takeU (i := 1) (v := .string x) rfl (by kernel_rfl) (by kernel_rfl) (by kernel_rfl) (by kernel_rfl) (fun _ _ _ h => h) (Or.inl ⟨by kernel_rfl, by intro w _; go_simp⟩) (fun _ => KL1.out) ?_
    refine wpTill_takeU (i := 2) (v := .int .i64 (x.size : Int)) rfl (by kernel_rfl) (by kernel_rfl) (by kernel_rfl) (by kernel_rfl) (fun _ _ _ h => h) (Or.inl ⟨by kernel_rfl, by intro w _; go_simp⟩) (fun _ => KL1.out) ?_
    refine wpTill_takeU (i := 4) (v := .pointer (some ⟨g_l, 0, none⟩)) rfl (by kernel_rfl) (by kernel_rfl) (by kernel_rfl) (by kernel_rfl) (fun _ _ _ h => h) (Or.inl ⟨by kernel_rfl, by intro w _; go_simp⟩) (fun _ => KL1.out) ?_
    refine wpTill_take (i := 5) (v := .int .i64 n) rfl (by kernel_rfl) (by kernel_rfl) (by kernel_rfl) (by kernel_rfl) (by kernel_rfl) (by kernel_rfl) (fun _ _ _ h => h) (Or.inl ⟨by kernel_rfl, by intro w hS; have s1 := hS.cell 0 _ rfl; go_simp⟩) (fun _ => KL1.out) ?_
    refine wpTill_takeU (i := 6) (v := .int .i64 (-n)) rfl (by kernel_rfl) (by kernel_rfl) (by kernel_rfl) (by kernel_rfl) (fun _ _ _ h => h) (Or.inl ⟨by kernel_rfl, by intro w _; go_simp⟩) (fun _ => KL1.out) ?_
    refine wpTill_one (i := 3) (by kernel_rfl) rfl (fun K2 hK2 => ?ha1)
    rw [if_pos (by rfl)]
    go_simp
    refine (seqAddI_s sq (x.size : Int) W2).mono ?_
    rintro e W3 ⟨rfl, hb3⟩
    replace KA := Lib.hid (KA.out.below hb3)
    replace KT1 := Lib.hid (KT1.out.below hb3)
    replace KL1 := Lib.hid (KL1.out.below hb3)
    replace KO1 := Lib.hid (KO1.out.below hb3)
    replace KS1 := Lib.hid (KS1.out.below hb3)
    replace KM1 := Lib.hid (KM1.out.below hb3)
    replace K1 := Lib.hid ((hb3.block D (Nat.lt_of_lt_of_le hDl hsz)).trans K1.out)
    replace hsz : g_a ≤ W3.heap.size := Nat.le_trans hsz hb3.size
    replace B1 := Lib.hid (B1.out.trans (hb3.mono B1.out.size))
    refine hK2.out _ _ (fun _ => KL1.out) (fun _ => ?_)
    clear hK2 K2 hb3
    refine wpTill_one (i := 7) (by kernel_rfl) rfl (fun K2 hK2 => ?ha2)
    rw [if_pos (by rfl)]
    go_simp
    refine (seqAddI_s (pl (sq + x.size)) (-n) W3).mono ?_
    rintro e W4 ⟨rfl, hb4⟩
    replace KA := Lib.hid (KA.out.below hb4)
    replace KT1 := Lib.hid (KT1.out.below hb4)
    replace KL1 := Lib.hid (KL1.out.below hb4)
    replace KO1 := Lib.hid (KO1.out.below hb4)
    replace KS1 := Lib.hid (KS1.out.below hb4)
    replace KM1 := Lib.hid (KM1.out.below hb4)
    replace K1 := Lib.hid ((hb4.block D (Nat.lt_of_lt_of_le hDl hsz)).trans K1.out)
    replace hsz : g_a ≤ W4.heap.size := Nat.le_trans hsz hb4.size
    replace B1 := Lib.hid (B1.out.trans (hb4.mono B1.out.size))
    refine hK2.out _ _ (fun _ => KL1.out) (fun _ => ?_)
    clear hK2 K2 hb4
    rw [show pl (pl (sq + x.size) + -n) = pl (sq + x.size - n) by unfold pl; omega]
    refine wpTill_one (i := 8) (by kernel_rfl) rfl (fun K2 hK2 => ?ha3)
    rw [if_pos (by rfl)]
    go_simp
    refine hK2.out _ _ (fun _ => KL1.out) (fun _ => ?_)
    clear hK2 K2
    refine wpTill_done (by kernel_rfl) ?_ _
    refine NoOut.normal ?_
    have A4 := Lib.hid (show ArA w g_T g_l g_o g_s g_m g_a D (tabC T) [.int .i64 n, .string d, .slice a rs.length cap, .int .i64 f, .bool false] [.int .i64 0, .string ⟨#[]⟩, .slice none 0 0, .int .i64 0, .bool false] [.pointer (some ⟨g_T, 0, none⟩)] [.int .i64 l] [.int .i64 n, .string d, .slice a rs.length cap, .int .i64 f, .bool false] W4 from ⟨KA.out, KT1.out, KL1.out, KO1.out, KS1.out, KM1.out, B1.out, K1.out⟩)
    clear KA KT1 KL1 KO1 KS1 KM1 B1 K1 hsz
    gi_step
    gi_step
    gi_step
    gi_cut [] from 52 (fun w' : World => ArA w g_T g_l g_o g_s g_m g_a D (tabC T) [.int .i64 n, .string d, .slice a rs.length cap, .int .i64 f, .bool false] [.int .i64 0, .string ⟨#[]⟩, .slice none 0 0, .int .i64 0, .bool false] [.pointer (some ⟨g_T, 0, none⟩)] [.int .i64 l] [.int .i64 n, .string d, .slice a rs.length cap, .int .i64 Fv, .bool false] w')
    case first =>
      have hF := hFv.out.symm
      obtain ⟨cl0, cl1, cl2, cl3, cl4⟩ := A4.out.l.of5.1
      have cs0 := A4.out.s.cell 0 _ rfl
      have cm0 := A4.out.m.cell 0 _ rfl
      cases fin with
      | false =>
        gi_wp2
        gi_meet
        case rel =>
          rw [hF, show finAt f false (pl (sq + x.size - n)) l T = f by simp [finAt]]
          exact A4.out
      | true =>
        by_cases hf1 : f = -1
        · subst hf1
          gi_wp2
          refine (callsIn_wide.2 (tabEndI g_T T _ A4.out.T)).mono ?_
          rintro e W5 ⟨rfl, hb5⟩
          have A5 := Lib.hid (A4.out.below hb5)
          clear hb5 cl0 cl1 cl2 cl3 cl4 cs0 cm0
          have cm0 := A5.out.m.cell 0 _ rfl
          obtain ⟨⟨ca0, ca1, ca2, ca3, ca4⟩, da0, da1, da2, da3, da4⟩ := A5.out.a.of5
          by_cases hle : (lastP (ordTo T 32) : Int) ≤ pl (sq + x.size - n)
          · by_cases hll : pl (sq + x.size - n) ≤ l
            · gi_wp2
              gi_meet
              case rel =>
                rw [hF, show finAt (-1) true (pl (sq + x.size - n)) l T = pl (sq + x.size - n) by simp [finAt, lastP_free h32.out hpb.1, hle, hll]]
                exact A5.out.setA 3 _ n_T_a n_l_a n_o_a n_s_a n_m_a n_D_a l_a
            · gi_wp2
              gi_meet
              case rel =>
                rw [hF, show finAt (-1) true (pl (sq + x.size - n)) l T = -1 by simp [finAt, show ¬ pl (sq + x.size - n) ≤ l by omega]]
                exact A5.out
          · gi_wp2
            gi_meet
            case rel =>
              rw [hF, show finAt (-1) true (pl (sq + x.size - n)) l T = -1 by simp [finAt, lastP_free h32.out hpb.1, show ¬ (lastP (ordTo T 32) : Int) ≤ pl (sq + x.size - n) by omega]]
              exact A5.out
        · have hb1 := Lib.hid (show (f == -1) = false by simpa using hf1)
          gi_wp2
          gi_meet
          case rel =>
            rw [hF, show finAt f true (pl (sq + x.size - n)) l T = f by simp [finAt, hb1.out]]
            exact A4.out
    case rest =>
      clear A4
      have A4 := Lib.hid hcut
      clear hcut
      obtain ⟨⟨ca0, ca1, ca2, ca3, ca4⟩, da0, da1, da2, da3, da4⟩ := A4.out.a.of5
      have cs0 := A4.out.s.cell 0 _ rfl
      gi_wp2
      refine (callsIn_wide.2 (advI n Fv d a cap rs g_T T h32.out hds ⟨by have := hfa.out; omega, by have := hfa.out; have := win_bd d false; omega⟩ (by have := hac.out; have := win_bd d false; omega) _ A4.out.T)).mono ?_
      rintro e W5 ⟨a2, cap2, rfl, ho, hb5⟩
      have A5 := Lib.hid (A4.out.below hb5)
      have hz4 := A4.out.low.size
      have la4 := A4.out.a.lt
      have lo4 := A4.out.o.lt
      clear hb5 A4 ca0 ca1 ca2 ca3 ca4 da0 da1 da2 da3 da4 cs0
      have hRa := hRe.out
      rw [arrEnd_adv h32.out (by have := hac.out; have := win_bd d false; omega)] at hRa
      generalize advR n Fv d T (cnt T) = Q at ho hRa ⊢
      obtain ⟨Qn, Qd, Qr, Qf, Qz⟩ := Q
      simp only at ho hRa ⊢
      obtain ⟨nL, hnL⟩ : ∃ m, Qr.length = m := ⟨_, rfl⟩
      have HLn := Lib.hid hnL
      rw [hnL] at ho hRa ⊢
      clear hnL
      have m_a : (.slice a2 nL cap2 : Value).ownBlock ≠ some g_a := fun e => by have h1 := (ho.lt _ e).1; omega
      have m_o : (.slice a2 nL cap2 : Value).ownBlock ≠ some g_o := fun e => by have h1 := (ho.lt _ e).1; omega
      have A6 := Lib.hid (((((A5.out.setA 0 (.int .i64 Qn) n_T_a n_l_a n_o_a n_s_a n_m_a n_D_a l_a).setA 1 (.string Qd) n_T_a n_l_a n_o_a n_s_a n_m_a n_D_a l_a).setA 2 (.slice a2 nL cap2) n_T_a n_l_a n_o_a n_s_a n_m_a n_D_a l_a).setA 3 (.int .i64 Qf) n_T_a n_l_a n_o_a n_s_a n_m_a n_D_a l_a).setA 4 (.bool Qz) n_T_a n_l_a n_o_a n_s_a n_m_a n_D_a l_a)
      have O6 := Lib.hid (own_setn (own_setn (own_setn (own_setn (own_setn ho (g := g_a) (k := 0) m_a (.int .i64 Qn)) (g := g_a) (k := 1) m_a (.string Qd)) (g := g_a) (k := 2) m_a (.slice a2 nL cap2)) (g := g_a) (k := 3) m_a (.int .i64 Qf)) (g := g_a) (k := 4) m_a (.bool Qz))
      obtain ⟨⟨ca0, ca1, ca2, ca3, ca4⟩, da0, da1, da2, da3, da4⟩ := A5.out.a.of5
      gi_upto_region 15 with fail
      generalize (((((W5.setCell ⟨g_a, 0, none⟩ (.int .i64 Qn)).setCell ⟨g_a, 1, none⟩ (.string Qd)).setCell ⟨g_a, 2, none⟩ (.slice a2 nL cap2)).setCell ⟨g_a, 3, none⟩ (.int .i64 Qf)).setCell ⟨g_a, 4, none⟩ (.bool Qz)) = W6 at A6 O6 ⊢
      clear ca0 ca1 ca2 ca3 ca4 da0 da1 da2 da3 da4 A5 ho m_a
      have n_D_o : D ≠ g_o := by omega
      obtain ⟨ca0, ca1, ca2, ca3, ca4⟩ := A6.out.a.of5.1
      obtain ⟨⟨co0, co1, co2, co3, co4⟩, do0, do1, do2, do3, do4⟩ := A6.out.o.of5
      obtain ⟨cl0, cl1, cl2, cl3, cl4⟩ := A6.out.l.of5.1
      by_cases h3 : 3 < (nL : Int)
      · rw [if_pos (by omega)] at hRa
        gi_wp2
        refine (callsIn_wide.2 (rcopyI n f false d a cap rs _ (HR.out.below A6.out.low).1 (HR.out.below A6.out.low).2 (by have := hl.out; omega))).mono ?_
        rintro e W7 ⟨a3, cap3, rfl, ho, hb7⟩
        have A7 := Lib.hid (A6.out.below hb7)
        have hz6 := A6.out.low.size
        have lo6 := A6.out.o.lt
        clear hb7 A6 O6 ca0 ca1 ca2 ca3 ca4 co0 co1 co2 co3 co4 do0 do1 do2 do3 do4 cl0 cl1 cl2 cl3 cl4
        simp only at ho ⊢
        have m_o3 : (.slice a3 rs.length cap3 : Value).ownBlock ≠ some g_o := fun e => by have h1 := (ho.lt _ e).1; omega
        obtain ⟨⟨co0, co1, co2, co3, co4⟩, do0, do1, do2, do3, do4⟩ := A7.out.o.of5
        have KO8 := Lib.hid (show Blk (((((W7.setCell ⟨g_o, 0, none⟩ (.int .i64 n)).setCell ⟨g_o, 1, none⟩ (.string d)).setCell ⟨g_o, 2, none⟩ (.slice a3 rs.length cap3)).setCell ⟨g_o, 3, none⟩ (.int .i64 f)).setCell ⟨g_o, 4, none⟩ (.bool false)) g_o [.int .i64 n, .string d, .slice a3 rs.length cap3, .int .i64 f, .bool false] from ((((A7.out.o.set 0 (.int .i64 n)).set 1 (.string d)).set 2 (.slice a3 rs.length cap3)).set 3 (.int .i64 f)).set 4 (.bool false))
        have B8 := Lib.hid (show Below w.heap.size w (((((W7.setCell ⟨g_o, 0, none⟩ (.int .i64 n)).setCell ⟨g_o, 1, none⟩ (.string d)).setCell ⟨g_o, 2, none⟩ (.slice a3 rs.length cap3)).setCell ⟨g_o, 3, none⟩ (.int .i64 f)).setCell ⟨g_o, 4, none⟩ (.bool false)) from ((((A7.out.low.setCell l_o _).setCell l_o _).setCell l_o _).setCell l_o _).setCell l_o _)
        have O8 := Lib.hid (show (((((W7.setCell ⟨g_o, 0, none⟩ (.int .i64 n)).setCell ⟨g_o, 1, none⟩ (.string d)).setCell ⟨g_o, 2, none⟩ (.slice a3 rs.length cap3)).setCell ⟨g_o, 3, none⟩ (.int .i64 f)).setCell ⟨g_o, 4, none⟩ (.bool false)).ownsRow W6.heap.size 64 2 (.slice a3 rs.length cap3) rs.length (hps rs) from own_setn (own_setn (own_setn (own_setn (own_setn ho m_o3 _) m_o3 _) m_o3 _) m_o3 _) m_o3 _)
        have K8 := Lib.hid (show (((((W7.setCell ⟨g_o, 0, none⟩ (.int .i64 n)).setCell ⟨g_o, 1, none⟩ (.string d)).setCell ⟨g_o, 2, none⟩ (.slice a3 rs.length cap3)).setCell ⟨g_o, 3, none⟩ (.int .i64 f)).setCell ⟨g_o, 4, none⟩ (.bool false)).heap[D]? = some (.deferred (some [])) from mark_set (mark_set (mark_set (mark_set (mark_set A7.out.mark n_D_o) n_D_o) n_D_o) n_D_o) n_D_o)
        gi_wp2
        generalize (((((W7.setCell ⟨g_o, 0, none⟩ (.int .i64 n)).setCell ⟨g_o, 1, none⟩ (.string d)).setCell ⟨g_o, 2, none⟩ (.slice a3 rs.length cap3)).setCell ⟨g_o, 3, none⟩ (.int .i64 f)).setCell ⟨g_o, 4, none⟩ (.bool false)) = W8 at KO8 B8 O8 K8 ⊢
        refine ⟨by simp, .inl ⟨_, _, rfl, run_takeDeferred K8.out, ?_⟩⟩
        obtain ⟨c0, c1, c2, c3, c4⟩ := (blk_row KO8.out (grownBy_putObj' W8 D (.deferred none)) (fun r e => by cases e; exact ⟨_, K8.out, rfl⟩)).of5.1
        refine ⟨.agg #[.int .i64 n, .string d, .slice a3 rs.length cap3, .int .i64 f, .bool false], by simp [results, Try.results10, go_sem, c0, c1, c2, c3, c4], ?_⟩
        exact newRE_end hRa.symm rfl (own_down (ownsRow_putObj O8.out _ K8.out rfl) hz6) (B8.out.trans (belowK_b (w := w) (Nat.le_refl _) W8 D _ _ (by omega) K8.out rfl rfl))
      · rw [if_neg (by omega)] at hRa
        have KO8 := Lib.hid (show Blk (((((W6.setCell ⟨g_o, 0, none⟩ (.int .i64 Qn)).setCell ⟨g_o, 1, none⟩ (.string Qd)).setCell ⟨g_o, 2, none⟩ (.slice a2 nL cap2)).setCell ⟨g_o, 3, none⟩ (.int .i64 Qf)).setCell ⟨g_o, 4, none⟩ (.bool Qz)) g_o [.int .i64 Qn, .string Qd, .slice a2 nL cap2, .int .i64 Qf, .bool Qz] from ((((A6.out.o.set 0 (.int .i64 Qn)).set 1 (.string Qd)).set 2 (.slice a2 nL cap2)).set 3 (.int .i64 Qf)).set 4 (.bool Qz))
        have B8 := Lib.hid (show Below w.heap.size w (((((W6.setCell ⟨g_o, 0, none⟩ (.int .i64 Qn)).setCell ⟨g_o, 1, none⟩ (.string Qd)).setCell ⟨g_o, 2, none⟩ (.slice a2 nL cap2)).setCell ⟨g_o, 3, none⟩ (.int .i64 Qf)).setCell ⟨g_o, 4, none⟩ (.bool Qz)) from ((((A6.out.low.setCell l_o _).setCell l_o _).setCell l_o _).setCell l_o _).setCell l_o _)
        have O8 := Lib.hid (show (((((W6.setCell ⟨g_o, 0, none⟩ (.int .i64 Qn)).setCell ⟨g_o, 1, none⟩ (.string Qd)).setCell ⟨g_o, 2, none⟩ (.slice a2 nL cap2)).setCell ⟨g_o, 3, none⟩ (.int .i64 Qf)).setCell ⟨g_o, 4, none⟩ (.bool Qz)).ownsRow wc.heap.size 64 2 (.slice a2 nL cap2) nL (hps Qr) from own_setn (own_setn (own_setn (own_setn (own_setn O6.out m_o _) m_o _) m_o _) m_o _) m_o _)
        have K8 := Lib.hid (show (((((W6.setCell ⟨g_o, 0, none⟩ (.int .i64 Qn)).setCell ⟨g_o, 1, none⟩ (.string Qd)).setCell ⟨g_o, 2, none⟩ (.slice a2 nL cap2)).setCell ⟨g_o, 3, none⟩ (.int .i64 Qf)).setCell ⟨g_o, 4, none⟩ (.bool Qz)).heap[D]? = some (.deferred (some [])) from mark_set (mark_set (mark_set (mark_set (mark_set A6.out.mark n_D_o) n_D_o) n_D_o) n_D_o) n_D_o)
        gi_wp2
        generalize (((((W6.setCell ⟨g_o, 0, none⟩ (.int .i64 Qn)).setCell ⟨g_o, 1, none⟩ (.string Qd)).setCell ⟨g_o, 2, none⟩ (.slice a2 nL cap2)).setCell ⟨g_o, 3, none⟩ (.int .i64 Qf)).setCell ⟨g_o, 4, none⟩ (.bool Qz)) = W8 at KO8 B8 O8 K8 ⊢
        refine ⟨by simp, .inl ⟨_, _, rfl, run_takeDeferred K8.out, ?_⟩⟩
        obtain ⟨c0, c1, c2, c3, c4⟩ := (blk_row KO8.out (grownBy_putObj' W8 D (.deferred none)) (fun r e => by cases e; exact ⟨_, K8.out, rfl⟩)).of5.1
        refine ⟨.agg #[.int .i64 Qn, .string Qd, .slice a2 nL cap2, .int .i64 Qf, .bool Qz], by simp [results, Try.results10, go_sem, c0, c1, c2, c3, c4], ?_⟩
        exact newRE_end hRa.symm HLn.out (own_down (ownsRow_putObj O8.out _ K8.out rfl) hz4) (B8.out.trans (belowK_b (w := w) (Nat.le_refl _) W8 D _ _ (by omega) K8.out rfl rfl))
  have hbl := B9.out.size
  refine wpIn_rangeFunc_ownH rfl h1 (gf := 67) (lb := #[.pointer (some ⟨Bx, 0, none⟩), .pointer (some ⟨Bx + 1, 0, none⟩), .pointer (some ⟨Bx + 2, 0, none⟩)]) rfl trivial (enters_of Try.func67 (by kernel_rfl) rfl)
    (rcv_stops (m - 1) (by omega) Bx n sq x V9 (by omega) (X0.out.cell 0 _ rfl) (X1.out.cell 0 _ rfl) (X2.out.cell 0 _ rfl)) kpR_t kpR_b (Below.refl _ _) (fun _ => rfl)
    (ArI w g_T g_l g_o g_s g_m Bx [.int .i64 n, .string d, .slice a rs.length cap, .int .i64 f, .bool false] [.int .i64 0, .string ⟨#[]⟩, .slice none 0 0, .int .i64 0, .bool false] [.pointer (some ⟨g_T, 0, none⟩)] [.int .i64 l] [.int .i64 n] [.int .i64 sq] [.string x] (heldT rs) l) (BrkT (ArI w g_T g_l g_o g_s g_m Bx [.int .i64 n, .string d, .slice a rs.length cap, .int .i64 f, .bool false] [.int .i64 0, .string ⟨#[]⟩, .slice none 0 0, .int .i64 0, .bool false] [.pointer (some ⟨g_T, 0, none⟩)] [.int .i64 l] [.int .i64 n] [.int .i64 sq] [.string x] (heldT rs) l) (fun _ y => l ≤ (y.1.1 : Int)) 0) (arI_own w g_T g_l g_o g_s g_m Bx _ _ _ _ _ _ _ _ _ _ B9.out.size) (brk_own (arI_own w g_T g_l g_o g_s g_m Bx _ _ _ _ _ _ _ _ _ _ B9.out.size))
    ⟨KT9.out, ⟨Kl9.out, Ko9.out, Ks9.out, Km9.out⟩, ⟨X0.out, X1.out, X2.out⟩, B9.out, fun y hy => by simp [valsP] at hy⟩
    (fun y a' _ => a' = { tmps := #[.agg #[.int .i64 n, .string d, .slice a rs.length cap, .int .i64 f, .bool false], .int .i64 sq, .string x, .bool fin, .pointer (some ⟨g_l, 0, none⟩), undef, undef, undef, .pointer (some ⟨g_o, 0, none⟩), .pointer (some ⟨g_s, 0, none⟩), .pointer (some ⟨g_m, 0, none⟩), .int .i64 (y.1.1 : Int), .int .u8 (y.1.2.toNat : Int), undef, undef, .agg #[.int .i64 n, .string d, .slice a rs.length cap, .int .i64 f, .bool false], .bool true, .bool false, .bool false, .pointer (some ⟨g_l, 4, none⟩), .bool false, .bool false, undef, undef, .pointer (some ⟨g_l, 2, none⟩), .slice a rs.length cap, .pointer (some ⟨g_T, 0, none⟩), .agg #[.int .i64 n, .string d, .slice a rs.length cap, .int .i64 f, .bool false], .int .i64 l, .pointer (some ⟨g_l, 0, none⟩), .int .i64 n, .int .i64 sq, .string x, .func (.func 67) #[] #[.pointer (some ⟨Bx, 0, none⟩), .pointer (some ⟨Bx + 1, 0, none⟩), .pointer (some ⟨Bx + 2, 0, none⟩)], .int .i64 (y.1.1 : Int), .int .u8 (y.1.2.toNat : Int), undef, undef, undef, undef, undef, undef, undef, undef, undef, undef, undef, undef, undef, undef, undef, undef, undef, undef, undef, undef, undef, undef, undef, undef, undef, undef, undef, undef, undef, undef, undef, undef, undef, undef, undef, undef, undef, undef, undef, undef, undef, undef, undef, undef, undef], defers := [] })
    (fun x a' => ownFrom_pure _ (fun (_ : Unit) => _)) ?assign ?body ?done ?stop
  case assign =>
    rintro l' pre y W K hI hK
    dsimp only [encB]
    gi_wp2
    exact hK _ _ (KeepsFrom.refl _ _) (fun _ _ _ h => h) hI rfl
  case body =>
    rintro l' pre y a' W _ _ ⟨hT, ⟨hl', ho, hs, hm⟩, ⟨x0, x1, x2⟩, hB, hU⟩ rfl hlt
    have cm0 := hm.cell 0 _ rfl
    have cs0 := hs.cell 0 _ rfl
    have hyo := y.2
    by_cases hge : l ≤ (y.1.1 : Int)
    · gi_wp2
      exact ⟨KeepsFrom.refl _ _, rfl, pre, y, rfl, ⟨hT, ⟨hl', ho, hs, hm⟩, ⟨x0, x1, x2⟩, hB, hU⟩, hge⟩
    · have hlt2 : ¬ l ≤ (y.1.1 : Int) := hge
      gi_wp2
      refine ⟨fun h => (by cases h), (CallsIn.inRound l' (callsIn_wide.2 (storeI g_T y.1.1 y.1.2 _ y.2 W hT))).mono ?_⟩
      rintro e w1 ⟨rfl, hT1, hg⟩
      gi_wp2
      refine ⟨KeepsFrom.of_grownBy hg (fun j e => by cases e; omega), kpR_grown hg x0 x1 x2 (by omega) (by omega) (by omega), ?_, ⟨hl'.grown hg n_l_T, ho.grown hg n_o_T, hs.grown hg (fun e => n_T_s e.symm), hm.grown hg (fun e => n_T_m e.symm)⟩, ⟨x0.grown hg (by omega), x1.grown hg (by omega), x2.grown hg (by omega)⟩, hB.grown hg hB.size (fun k e => by cases e; exact l_T), ?_⟩
      · rw [valsP_snoc, foldF_snoc]; exact hT1
      · rw [valsP_snoc]; exact hU.snoc (by omega)
  case done =>
    rintro D ys W hD hS ⟨hT, ⟨hl', ho, hs, hm⟩, _, hB, hU⟩ hK
    rw [hS] at hT hU
    rw [fold_arr hU (by have := win_bd d false; omega), ← hT0.out] at hT
    exact tail D W hD hT hl' ho hs hm hB hK
  case stop =>
    rintro D c pre W hD ⟨k, b, hk, hb, hv0⟩ ⟨rfl, p, y, rfl, ⟨hT, ⟨hl', ho, hs, hm⟩, _, hB, hU⟩, hge⟩ hK
    rw [valsP_snoc] at hv0
    obtain ⟨e1, e2⟩ := List.append_inj' hv0 rfl
    have e3 : y.1 = (k, b) := List.head_eq_of_cons_eq e2
    rw [e1] at hT hU
    rw [e3] at hge
    rw [fold_arr hU hge, ← hT0.out] at hT
    gi_wp2
    exact tail D W hD hT hl' ho hs hm hB hK
theorem arrI (n f sq : Int) (z fin : Bool) (d x : ByteArray) (a : Option Addr) (cap : Nat) (rs : List HP) (hB : RB d rs) (w : World) (hrow : HasP w a cap rs) :
    Calls Try.prog 10 #[.agg #[.int .i64 n, .string d, .slice a rs.length cap, .int .i64 f, .bool z], .int .i64 sq, .string x, .bool fin] w (NewRE (arrived ⟨n, d, rs, f, z⟩ sq x fin) w) := by
  cases h : (rcvOk ⟨n, d, rs, f, z⟩ && !z) with
  | false =>
    rw [arrived_not h]
    exact arrI_same n f sq z fin d x a cap rs hB w hrow h
  | true =>
    rw [arrived_yes h]
    have h2 := Bool.and_eq_true_iff.1 h
    have hz : z = false := by cases z with
      | false => rfl
      | true => exact absurd h2.2 (by decide)
    subst hz
    exact (callsIn_wide (n := 5)).1 (arrI_in 5 (by decide) n f sq fin d x a cap rs w hrow h2.1)
end Go.Proofs.Ytpbnkkgfjmkcdaa
