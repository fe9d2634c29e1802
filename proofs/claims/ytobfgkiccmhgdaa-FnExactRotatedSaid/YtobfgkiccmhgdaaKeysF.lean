/- CheckCookie, of the model and of the program. Nothing here is a claim. -/
import Derived.Test.YtobfgkiccmhgdaaKeysC
import Derived.Test.YtobfgkiccmhgdaaCookP
import Derived.IntWalk
namespace Go.Proofs.Ytobfgkiccmhgdaa
open Go.RowKit Go.Lib

theorem M.on_I {m : M} {a : Option Addr} {c B : Nat} {w : World} {e : TypeId} (ho : w.ownsRow B e 2 (.slice a m.rs.length c) m.rs.length (mrs m.rs)) (hn : (m.a = none ∧ a = none ∧ c = 0 ∧ m.rs = []) ∨ ∃ g, a = some ⟨g, 0, none⟩) : (m.at a c).On w := by
  rcases hn with ⟨_, h1, h2, h3⟩ | ⟨g, rfl⟩
  · exact .inl ⟨h1, h2, h3⟩
  · exact M.on_at ho
/-- What is answered of valid keys and a 32-bit word; y1, y2: the cookies of the two epochs. -/
def ckR (e : Int) (t : Bool) (y1 y2 c i : Int) : Int × Int × Bool := if y1 = c then (e, i, true) else if t = true ∧ y2 = c then (e - 1, i, true) else (0, 0, false)
/-- What CheckCookie answers. -/
noncomputable def ck (e : Int) (p q : M) (t : Bool) (x y z s c : Int) : Int × Int × Bool :=
  if (keysOk e p q t && wordOk c 32) = true then ckR e t (cookieOf p x y z s e (cpI c)) (cookieOf q x y z s (e - 1) (cpI c)) c (cpI c) else (0, 0, false)
def EndC (v : Int × Int × Bool) (w : World) (x : Ending) (w' : World) : Prop := x = .returned (.tuple #[.int .i64 v.1, .int .i64 v.2.1, .bool v.2.2]) ∧ Below w.heap.size w w'
theorem cpI_neg {c : Int} (h : wordOk c 32 = false) : cpI c = -1 := (cp_no h).2.1
theorem ckR_one {e : Int} {t : Bool} {y1 y2 c i : Int} (h : y1 = c) : ckR e t y1 y2 c i = (e, i, true) := if_pos h
theorem ckR_two {e : Int} {y1 y2 c i : Int} (h : (y1 == c) = false) (h2 : y2 = c) : ckR e true y1 y2 c i = (e - 1, i, true) := by
  unfold ckR; rw [if_neg (by simpa using h), if_pos ⟨rfl, h2⟩]
theorem ckR_no {e : Int} {t : Bool} {y1 y2 c i : Int} (h : (y1 == c) = false) (h2 : t = false ∨ (y2 == c) = false) : ckR e t y1 y2 c i = (0, 0, false) := by
  unfold ckR
  rw [if_neg (by simpa using h), if_neg]
  rintro ⟨h3, h4⟩
  rcases h2 with h2 | h2
  · rw [h2] at h3; cases h3
  · simp [h4] at h2

theorem secNowI (e : Int) (p q : M) (t : Bool) (w : World) (hp : p.On w) (hq : q.On w) (fp : p.Fit) : Calls Try.prog 30 #[.agg #[.int .i64 e, .bool p.u, .int .u64 (n64 p.k), .int .u64 (n64 p.l), .slice p.a p.rs.length p.c, .bool q.u, .int .u64 (n64 q.k), .int .u64 (n64 q.l), .slice q.a q.rs.length q.c, .bool t], .int .i64 e] w (SecI p w) := by
  cases t
  · exact secNowOneI e p q w hp hq fp
  · exact secNowTwoI e p q w hp hq fp
theorem secNowS (e : Int) (p q : M) (t : Bool) (w : World) (hp : p.On w) (hq : q.On w) (fp : p.Fit) : Calls Try.prog 29 #[.agg #[.int .i64 e, .bool p.u, .int .u64 (n64 p.k), .int .u64 (n64 p.l), .slice p.a p.rs.length p.c, .bool q.u, .int .u64 (n64 q.k), .int .u64 (n64 q.l), .slice q.a q.rs.length q.c, .bool t], .int .i64 e] w (SecS p w) := by
  cases t
  · exact secNowOneS e p q w hp hq fp
  · exact secNowTwoS e p q w hp hq fp
set_option maxRecDepth 100000 in
set_option maxHeartbeats 4000000 in
theorem checkI (e : Int) (p q : M) (t : Bool) (x y z s c : Int) (w : World) (hp : p.On w) (hq : q.On w) (fp : p.Fit) (fq : q.Fit) :
    Calls Try.prog 20 #[.agg #[.int .i64 e, .bool p.u, .int .u64 (n64 p.k), .int .u64 (n64 p.l), .slice p.a p.rs.length p.c, .bool q.u, .int .u64 (n64 q.k), .int .u64 (n64 q.l), .slice q.a q.rs.length q.c, .bool t], .agg #[.int .i64 x, .int .i64 y, .int .i64 z], .int .i64 s, .int .i64 c] w (EndC (ck e p q t x y z s c) w) := by
  have HP := Lib.hid hp
  have HQ := Lib.hid hq
  clear hp hq
  have C1 := Lib.hid (fun w h1 h2 => keysOkI e p q t w h1 h2 fp fq)
  have C2 := Lib.hid (fun w => wordOkI_b c 32 w)
  have C3 : Hid (∀ w, Calls Try.prog 25 #[.int .i64 c] w fun x w' => x = .returned (.tuple #[.int .i64 (cpE c), .int .i64 (cpI c), .int .i64 (cpT c)]) ∧ Below w.heap.size w w') := fun w => (cookPI c w).mono fun x w' h => ⟨h.1, by rw [h.2]; exact Below.refl _ _⟩
  obtain ⟨k1, hk⟩ : ∃ b, keysOk e p q t = b := ⟨_, rfl⟩
  rw [hk] at C1
  cases k1 with
  | false =>
    unfold ck
    rw [hk, Bool.false_and, if_neg (by simp)]
    clear hk C2
    go_enter Try.func20, Try.ntmps20
    have B0 := Lib.hid (show Below w.heap.size w ((w.alloc (.cells #[.int .i64 e, .bool p.u, .int .u64 (n64 p.k), .int .u64 (n64 p.l), .slice p.a p.rs.length p.c, .bool q.u, .int .u64 (n64 q.k), .int .u64 (n64 q.l), .slice q.a q.rs.length q.c, .bool t] 29)).alloc (.cells #[.int .i64 x, .int .i64 y, .int .i64 z] 33)) from (((Below.refl _ w).alloc (by simp) _).alloc (by simp) _))
    have KK0 := Lib.hid (show Blk ((w.alloc (.cells #[.int .i64 e, .bool p.u, .int .u64 (n64 p.k), .int .u64 (n64 p.l), .slice p.a p.rs.length p.c, .bool q.u, .int .u64 (n64 q.k), .int .u64 (n64 q.l), .slice q.a q.rs.length q.c, .bool t] 29)).alloc (.cells #[.int .i64 x, .int .i64 y, .int .i64 z] 33)) (w.heap.size) [.int .i64 e, .bool p.u, .int .u64 (n64 p.k), .int .u64 (n64 p.l), .slice p.a p.rs.length p.c, .bool q.u, .int .u64 (n64 q.k), .int .u64 (n64 q.l), .slice q.a q.rs.length q.c, .bool t] from (Blk.new w [.int .i64 e, .bool p.u, .int .u64 (n64 p.k), .int .u64 (n64 p.l), .slice p.a p.rs.length p.c, .bool q.u, .int .u64 (n64 q.k), .int .u64 (n64 q.l), .slice q.a q.rs.length q.c, .bool t] 29).alloc (.cells #[.int .i64 x, .int .i64 y, .int .i64 z] 33))
    have s1 : (w.alloc (.cells #[.int .i64 e, .bool p.u, .int .u64 (n64 p.k), .int .u64 (n64 p.l), .slice p.a p.rs.length p.c, .bool q.u, .int .u64 (n64 q.k), .int .u64 (n64 q.l), .slice q.a q.rs.length q.c, .bool t] 29)).heap.size = w.heap.size + 1 := by simp
    have KT0 := Lib.hid (show Blk ((w.alloc (.cells #[.int .i64 e, .bool p.u, .int .u64 (n64 p.k), .int .u64 (n64 p.l), .slice p.a p.rs.length p.c, .bool q.u, .int .u64 (n64 q.k), .int .u64 (n64 q.l), .slice q.a q.rs.length q.c, .bool t] 29)).alloc (.cells #[.int .i64 x, .int .i64 y, .int .i64 z] 33)) (w.heap.size + 1) [.int .i64 x, .int .i64 y, .int .i64 z] by have h0 := Blk.new (w.alloc (.cells #[.int .i64 e, .bool p.u, .int .u64 (n64 p.k), .int .u64 (n64 p.l), .slice p.a p.rs.length p.c, .bool q.u, .int .u64 (n64 q.k), .int .u64 (n64 q.l), .slice q.a q.rs.length q.c, .bool t] 29)) [.int .i64 x, .int .i64 y, .int .i64 z] 33; rwa [s1] at h0)
    have n_K_T : w.heap.size ≠ w.heap.size + 1 := by omega
    clear s1
    go_wp2_with fail
    change Calls _ _ _ ((w.alloc (.cells #[.int .i64 e, .bool p.u, .int .u64 (n64 p.k), .int .u64 (n64 p.l), .slice p.a p.rs.length p.c, .bool q.u, .int .u64 (n64 q.k), .int .u64 (n64 q.l), .slice q.a q.rs.length q.c, .bool t] 29)).alloc (.cells #[.int .i64 x, .int .i64 y, .int .i64 z] 33)) _
    generalize (w.alloc (.cells #[.int .i64 e, .bool p.u, .int .u64 (n64 p.k), .int .u64 (n64 p.l), .slice p.a p.rs.length p.c, .bool q.u, .int .u64 (n64 q.k), .int .u64 (n64 q.l), .slice q.a q.rs.length q.c, .bool t] 29)).alloc (.cells #[.int .i64 x, .int .i64 y, .int .i64 z] 33) = v0 at B0 KK0 KT0 ⊢
    generalize hh_T : w.heap.size + 1 = g_T at KT0 n_K_T ⊢
    generalize hh_K : w.heap.size = g_K at KK0 n_K_T ⊢
    have l_K : w.heap.size ≤ g_K := by omega
    have l_T : w.heap.size ≤ g_T := by omega
    clear hh_K hh_T
    refine (C1.out _ (HP.out.below B0.out) (HQ.out.below B0.out)).mono ?_
    rintro e v1 ⟨rfl, hb⟩
    have B1 := Lib.hid (B0.out.trans (hb.mono B0.out.size))
    have KK1 := Lib.hid (KK0.out.below hb)
    have KT1 := Lib.hid (KT0.out.below hb)
    clear hb B0 KK0 KT0
    obtain ⟨⟨cK0, cK1, cK2, cK3, cK4, cK5, cK6, cK7, cK8, cK9⟩, dK0, dK1, dK2, dK3, dK4, dK5, dK6, dK7, dK8, dK9⟩ := KK1.out.of10
    obtain ⟨⟨cT0, cT1, cT2⟩, dT0, dT1, dT2⟩ := KT1.out.o3
    go_wp2_with fail
    exact bodyPost_ret (v := .tuple #[.int .i64 0, .int .i64 0, .bool false]) (by simp [results, Try.results20, go_sem]) rfl ⟨rfl, B1.out⟩
  | true =>
    obtain ⟨⟨e0, e1⟩, _, _, ht1, _⟩ := keysOk_all hk
    cases hw : wordOk c 32 with
    | false =>
      unfold ck
      rw [hw, Bool.and_false, if_neg (by simp)]
      rw [hw] at C2
      clear hk hw ht1
      go_enter Try.func20, Try.ntmps20
      have B0 := Lib.hid (show Below w.heap.size w ((w.alloc (.cells #[.int .i64 e, .bool p.u, .int .u64 (n64 p.k), .int .u64 (n64 p.l), .slice p.a p.rs.length p.c, .bool q.u, .int .u64 (n64 q.k), .int .u64 (n64 q.l), .slice q.a q.rs.length q.c, .bool t] 29)).alloc (.cells #[.int .i64 x, .int .i64 y, .int .i64 z] 33)) from (((Below.refl _ w).alloc (by simp) _).alloc (by simp) _))
      have KK0 := Lib.hid (show Blk ((w.alloc (.cells #[.int .i64 e, .bool p.u, .int .u64 (n64 p.k), .int .u64 (n64 p.l), .slice p.a p.rs.length p.c, .bool q.u, .int .u64 (n64 q.k), .int .u64 (n64 q.l), .slice q.a q.rs.length q.c, .bool t] 29)).alloc (.cells #[.int .i64 x, .int .i64 y, .int .i64 z] 33)) (w.heap.size) [.int .i64 e, .bool p.u, .int .u64 (n64 p.k), .int .u64 (n64 p.l), .slice p.a p.rs.length p.c, .bool q.u, .int .u64 (n64 q.k), .int .u64 (n64 q.l), .slice q.a q.rs.length q.c, .bool t] from (Blk.new w [.int .i64 e, .bool p.u, .int .u64 (n64 p.k), .int .u64 (n64 p.l), .slice p.a p.rs.length p.c, .bool q.u, .int .u64 (n64 q.k), .int .u64 (n64 q.l), .slice q.a q.rs.length q.c, .bool t] 29).alloc (.cells #[.int .i64 x, .int .i64 y, .int .i64 z] 33))
      have s1 : (w.alloc (.cells #[.int .i64 e, .bool p.u, .int .u64 (n64 p.k), .int .u64 (n64 p.l), .slice p.a p.rs.length p.c, .bool q.u, .int .u64 (n64 q.k), .int .u64 (n64 q.l), .slice q.a q.rs.length q.c, .bool t] 29)).heap.size = w.heap.size + 1 := by simp
      have KT0 := Lib.hid (show Blk ((w.alloc (.cells #[.int .i64 e, .bool p.u, .int .u64 (n64 p.k), .int .u64 (n64 p.l), .slice p.a p.rs.length p.c, .bool q.u, .int .u64 (n64 q.k), .int .u64 (n64 q.l), .slice q.a q.rs.length q.c, .bool t] 29)).alloc (.cells #[.int .i64 x, .int .i64 y, .int .i64 z] 33)) (w.heap.size + 1) [.int .i64 x, .int .i64 y, .int .i64 z] by have h0 := Blk.new (w.alloc (.cells #[.int .i64 e, .bool p.u, .int .u64 (n64 p.k), .int .u64 (n64 p.l), .slice p.a p.rs.length p.c, .bool q.u, .int .u64 (n64 q.k), .int .u64 (n64 q.l), .slice q.a q.rs.length q.c, .bool t] 29)) [.int .i64 x, .int .i64 y, .int .i64 z] 33; rwa [s1] at h0)
      have n_K_T : w.heap.size ≠ w.heap.size + 1 := by omega
      clear s1
      go_wp2_with fail
      change Calls _ _ _ ((w.alloc (.cells #[.int .i64 e, .bool p.u, .int .u64 (n64 p.k), .int .u64 (n64 p.l), .slice p.a p.rs.length p.c, .bool q.u, .int .u64 (n64 q.k), .int .u64 (n64 q.l), .slice q.a q.rs.length q.c, .bool t] 29)).alloc (.cells #[.int .i64 x, .int .i64 y, .int .i64 z] 33)) _
      generalize (w.alloc (.cells #[.int .i64 e, .bool p.u, .int .u64 (n64 p.k), .int .u64 (n64 p.l), .slice p.a p.rs.length p.c, .bool q.u, .int .u64 (n64 q.k), .int .u64 (n64 q.l), .slice q.a q.rs.length q.c, .bool t] 29)).alloc (.cells #[.int .i64 x, .int .i64 y, .int .i64 z] 33) = v0 at B0 KK0 KT0 ⊢
      generalize hh_T : w.heap.size + 1 = g_T at KT0 n_K_T ⊢
      generalize hh_K : w.heap.size = g_K at KK0 n_K_T ⊢
      have l_K : w.heap.size ≤ g_K := by omega
      have l_T : w.heap.size ≤ g_T := by omega
      clear hh_K hh_T
      refine (C1.out _ (HP.out.below B0.out) (HQ.out.below B0.out)).mono ?_
      rintro e v1 ⟨rfl, hb⟩
      have B1 := Lib.hid (B0.out.trans (hb.mono B0.out.size))
      have KK1 := Lib.hid (KK0.out.below hb)
      have KT1 := Lib.hid (KT0.out.below hb)
      clear hb B0 KK0 KT0
      obtain ⟨⟨cK0, cK1, cK2, cK3, cK4, cK5, cK6, cK7, cK8, cK9⟩, dK0, dK1, dK2, dK3, dK4, dK5, dK6, dK7, dK8, dK9⟩ := KK1.out.of10
      obtain ⟨⟨cT0, cT1, cT2⟩, dT0, dT1, dT2⟩ := KT1.out.o3
      go_wp2_with fail
      clear cK0 cK1 cK2 cK3 cK4 cK5 cK6 cK7 cK8 cK9 dK0 dK1 dK2 dK3 dK4 dK5 dK6 dK7 dK8 dK9 cT0 cT1 cT2 dT0 dT1 dT2
      refine (C2.out _).mono ?_
      rintro e v2 ⟨rfl, hb⟩
      have B2 := Lib.hid (B1.out.trans (hb.mono B1.out.size))
      have KK2 := Lib.hid (KK1.out.below hb)
      have KT2 := Lib.hid (KT1.out.below hb)
      clear hb B1 KK1 KT1
      obtain ⟨⟨cK0, cK1, cK2, cK3, cK4, cK5, cK6, cK7, cK8, cK9⟩, dK0, dK1, dK2, dK3, dK4, dK5, dK6, dK7, dK8, dK9⟩ := KK2.out.of10
      obtain ⟨⟨cT0, cT1, cT2⟩, dT0, dT1, dT2⟩ := KT2.out.o3
      go_wp2_with fail
      exact bodyPost_ret (v := .tuple #[.int .i64 0, .int .i64 0, .bool false]) (by simp [results, Try.results20, go_sem]) rfl ⟨rfl, B2.out⟩
    | true =>
      have hi := (cp_bd hw).2.2.1
      have hi7 := cpI_small c
      unfold ck
      rw [hk, hw, Bool.true_and, if_pos rfl]
      rw [hw] at C2
      generalize cpE c = c0 at *
      generalize cpI c = i at *
      generalize cpT c = c2 at *
      clear hk hw
      have D1 : Hid (∀ (a : Option Addr) (d : Nat) (w : World), (p.at a d).On w → Calls Try.prog 19 #[.agg #[.bool p.u, .int .u64 (n64 p.k), .int .u64 (n64 p.l), .slice a p.rs.length d], .agg #[.int .i64 x, .int .i64 y, .int .i64 z], .int .i64 s, .int .i64 e, .int .i64 i] w (EndN (cookieOf p x y z s e i) w)) := fun a d w h => cookieOfI (p.at a d) x y z s e i w h fp
      have D2 : Hid (∀ (a : Option Addr) (d : Nat) (w : World), (q.at a d).On w → Calls Try.prog 19 #[.agg #[.bool q.u, .int .u64 (n64 q.k), .int .u64 (n64 q.l), .slice a q.rs.length d], .agg #[.int .i64 x, .int .i64 y, .int .i64 z], .int .i64 s, .int .i64 (e - 1), .int .i64 i] w (EndN (cookieOf q x y z s (e - 1) i) w)) := fun a d w h => cookieOfI (q.at a d) x y z s (e - 1) i w h fq
      generalize cookieOf p x y z s e i = y1 at *
      generalize cookieOf q x y z s (e - 1) i = y2 at *
      have w1 : IntKind.i64.wrap (e - 1) = e - 1 := IntWalk.i64_in _ (by omega)
      have w2 : wrap64 (e - 1) = e - 1 := by unfold wrap64; omega
      have HT1 := Lib.hid ht1
      clear ht1
      go_enter Try.func20, Try.ntmps20
      have B0 := Lib.hid (show Below w.heap.size w ((w.alloc (.cells #[.int .i64 e, .bool p.u, .int .u64 (n64 p.k), .int .u64 (n64 p.l), .slice p.a p.rs.length p.c, .bool q.u, .int .u64 (n64 q.k), .int .u64 (n64 q.l), .slice q.a q.rs.length q.c, .bool t] 29)).alloc (.cells #[.int .i64 x, .int .i64 y, .int .i64 z] 33)) from (((Below.refl _ w).alloc (by simp) _).alloc (by simp) _))
      have KK0 := Lib.hid (show Blk ((w.alloc (.cells #[.int .i64 e, .bool p.u, .int .u64 (n64 p.k), .int .u64 (n64 p.l), .slice p.a p.rs.length p.c, .bool q.u, .int .u64 (n64 q.k), .int .u64 (n64 q.l), .slice q.a q.rs.length q.c, .bool t] 29)).alloc (.cells #[.int .i64 x, .int .i64 y, .int .i64 z] 33)) (w.heap.size) [.int .i64 e, .bool p.u, .int .u64 (n64 p.k), .int .u64 (n64 p.l), .slice p.a p.rs.length p.c, .bool q.u, .int .u64 (n64 q.k), .int .u64 (n64 q.l), .slice q.a q.rs.length q.c, .bool t] from (Blk.new w [.int .i64 e, .bool p.u, .int .u64 (n64 p.k), .int .u64 (n64 p.l), .slice p.a p.rs.length p.c, .bool q.u, .int .u64 (n64 q.k), .int .u64 (n64 q.l), .slice q.a q.rs.length q.c, .bool t] 29).alloc (.cells #[.int .i64 x, .int .i64 y, .int .i64 z] 33))
      have s1 : (w.alloc (.cells #[.int .i64 e, .bool p.u, .int .u64 (n64 p.k), .int .u64 (n64 p.l), .slice p.a p.rs.length p.c, .bool q.u, .int .u64 (n64 q.k), .int .u64 (n64 q.l), .slice q.a q.rs.length q.c, .bool t] 29)).heap.size = w.heap.size + 1 := by simp
      have KT0 := Lib.hid (show Blk ((w.alloc (.cells #[.int .i64 e, .bool p.u, .int .u64 (n64 p.k), .int .u64 (n64 p.l), .slice p.a p.rs.length p.c, .bool q.u, .int .u64 (n64 q.k), .int .u64 (n64 q.l), .slice q.a q.rs.length q.c, .bool t] 29)).alloc (.cells #[.int .i64 x, .int .i64 y, .int .i64 z] 33)) (w.heap.size + 1) [.int .i64 x, .int .i64 y, .int .i64 z] by have h0 := Blk.new (w.alloc (.cells #[.int .i64 e, .bool p.u, .int .u64 (n64 p.k), .int .u64 (n64 p.l), .slice p.a p.rs.length p.c, .bool q.u, .int .u64 (n64 q.k), .int .u64 (n64 q.l), .slice q.a q.rs.length q.c, .bool t] 29)) [.int .i64 x, .int .i64 y, .int .i64 z] 33; rwa [s1] at h0)
      have n_K_T : w.heap.size ≠ w.heap.size + 1 := by omega
      clear s1
      go_wp2_with fail
      change Calls _ _ _ ((w.alloc (.cells #[.int .i64 e, .bool p.u, .int .u64 (n64 p.k), .int .u64 (n64 p.l), .slice p.a p.rs.length p.c, .bool q.u, .int .u64 (n64 q.k), .int .u64 (n64 q.l), .slice q.a q.rs.length q.c, .bool t] 29)).alloc (.cells #[.int .i64 x, .int .i64 y, .int .i64 z] 33)) _
      generalize (w.alloc (.cells #[.int .i64 e, .bool p.u, .int .u64 (n64 p.k), .int .u64 (n64 p.l), .slice p.a p.rs.length p.c, .bool q.u, .int .u64 (n64 q.k), .int .u64 (n64 q.l), .slice q.a q.rs.length q.c, .bool t] 29)).alloc (.cells #[.int .i64 x, .int .i64 y, .int .i64 z] 33) = v0 at B0 KK0 KT0 ⊢
      generalize hh_T : w.heap.size + 1 = g_T at KT0 n_K_T ⊢
      generalize hh_K : w.heap.size = g_K at KK0 n_K_T ⊢
      have l_K : w.heap.size ≤ g_K := by omega
      have l_T : w.heap.size ≤ g_T := by omega
      clear hh_K hh_T
      refine (C1.out _ (HP.out.below B0.out) (HQ.out.below B0.out)).mono ?_
      rintro e v1 ⟨rfl, hb⟩
      have B1 := Lib.hid (B0.out.trans (hb.mono B0.out.size))
      have KK1 := Lib.hid (KK0.out.below hb)
      have KT1 := Lib.hid (KT0.out.below hb)
      clear hb B0 KK0 KT0
      obtain ⟨⟨cK0, cK1, cK2, cK3, cK4, cK5, cK6, cK7, cK8, cK9⟩, dK0, dK1, dK2, dK3, dK4, dK5, dK6, dK7, dK8, dK9⟩ := KK1.out.of10
      obtain ⟨⟨cT0, cT1, cT2⟩, dT0, dT1, dT2⟩ := KT1.out.o3
      go_wp2_with fail
      clear cK0 cK1 cK2 cK3 cK4 cK5 cK6 cK7 cK8 cK9 dK0 dK1 dK2 dK3 dK4 dK5 dK6 dK7 dK8 dK9 cT0 cT1 cT2 dT0 dT1 dT2
      refine (C2.out _).mono ?_
      rintro e v2 ⟨rfl, hb⟩
      have B2 := Lib.hid (B1.out.trans (hb.mono B1.out.size))
      have KK2 := Lib.hid (KK1.out.below hb)
      have KT2 := Lib.hid (KT1.out.below hb)
      clear hb B1 KK1 KT1
      obtain ⟨⟨cK0, cK1, cK2, cK3, cK4, cK5, cK6, cK7, cK8, cK9⟩, dK0, dK1, dK2, dK3, dK4, dK5, dK6, dK7, dK8, dK9⟩ := KK2.out.of10
      obtain ⟨⟨cT0, cT1, cT2⟩, dT0, dT1, dT2⟩ := KT2.out.o3
      go_wp2_with fail
      clear cK0 cK1 cK2 cK3 cK4 cK5 cK6 cK7 cK8 cK9 dK0 dK1 dK2 dK3 dK4 dK5 dK6 dK7 dK8 dK9 cT0 cT1 cT2 dT0 dT1 dT2
      refine (C3.out _).mono ?_
      rintro e v3 ⟨rfl, hb⟩
      have B3 := Lib.hid (B2.out.trans (hb.mono B2.out.size))
      have KK3 := Lib.hid (KK2.out.below hb)
      have KT3 := Lib.hid (KT2.out.below hb)
      clear hb B2 KK2 KT2
      obtain ⟨⟨cK0, cK1, cK2, cK3, cK4, cK5, cK6, cK7, cK8, cK9⟩, dK0, dK1, dK2, dK3, dK4, dK5, dK6, dK7, dK8, dK9⟩ := KK3.out.of10
      obtain ⟨⟨cT0, cT1, cT2⟩, dT0, dT1, dT2⟩ := KT3.out.o3
      go_wp2_with fail
      clear cK0 cK1 cK2 cK3 cK4 cK5 cK6 cK7 cK8 cK9 dK0 dK1 dK2 dK3 dK4 dK5 dK6 dK7 dK8 dK9 cT0 cT1 cT2 dT0 dT1 dT2
      have ix0 : ∀ w : World, (Instr.index 88 (.agg #[.int .i64 e, .int .i64 (e - 1)]) (.int .i64 0)).run Try.prog w = .ok (.int .i64 e) w := fun _ => by kernel_rfl
      have ix1 : ∀ w : World, (Instr.index 88 (.agg #[.int .i64 e, .int .i64 (e - 1)]) (.int .i64 1)).run Try.prog w = .ok (.int .i64 (e - 1)) w := fun _ => by kernel_rfl
      go_loopw [38] (fun i0 wr => ∃ j : Nat, i0 = .int .i64 ((j : Nat) : Int) ∧ Hid (Below v3.heap.size v3 wr) ∧ (j = 0 ∨ (j = 1 ∧ Hid ((y1 == c) = false)) ∨ (j = 2 ∧ Hid ((y1 == c) = false) ∧ Hid (t = false ∨ (y2 == c) = false)))) (fun i0 _ => 2 - (RowKit.intOf i0).toNat)
      case atStart => exact ⟨0, by rfl, Below.refl _ _, .inl rfl⟩
      case round =>
        obtain ⟨j, rfl, hbl, hj⟩ := hrel
        rcases hj with rfl | ⟨rfl, hy1⟩ | ⟨rfl, hy1, hy2⟩
        · have B50 := Lib.hid (B3.out.trans (hbl.out.mono B3.out.size))
          have hbl' := hbl
          have KK50 := Lib.hid (KK3.out.below hbl.out)
          have KT50 := Lib.hid (KT3.out.below hbl.out)
          clear hbl
          obtain ⟨⟨cK0, cK1, cK2, cK3, cK4, cK5, cK6, cK7, cK8, cK9⟩, dK0, dK1, dK2, dK3, dK4, dK5, dK6, dK7, dK8, dK9⟩ := KK50.out.of10
          obtain ⟨⟨cT0, cT1, cT2⟩, dT0, dT1, dT2⟩ := KT50.out.o3
          go_wp2_with fail
          clear cK0 cK1 cK2 cK3 cK4 cK5 cK6 cK7 cK8 cK9 dK0 dK1 dK2 dK3 dK4 dK5 dK6 dK7 dK8 dK9 cT0 cT1 cT2 dT0 dT1 dT2
          refine (secNowI e p q t _ (HP.out.below B50.out) (HQ.out.below B50.out) fp).mono ?_
          rintro e v51 ⟨a, d, rfl, ho, hn, hb⟩
          have O := Lib.hid ho
          clear ho
          have B51 := Lib.hid (B50.out.trans (hb.mono B50.out.size))
          replace hbl' := Lib.hid (hbl'.out.trans (hb.mono hbl'.out.size))
          have KK51 := Lib.hid (KK50.out.below hb)
          have KT51 := Lib.hid (KT50.out.below hb)
          clear hb B50 KK50 KT50
          have hon := Lib.hid (M.on_I O.out hn)
          clear O hn
          have KSn := Lib.hid (Blk.new v51 [.bool p.u, .int .u64 (n64 p.k), .int .u64 (n64 p.l), .slice a p.rs.length d] 27)
          have n_K_S : g_K ≠ v51.heap.size := by have h1 := KK51.out.lt; omega
          have n_T_S : g_T ≠ v51.heap.size := by have h1 := KT51.out.lt; omega
          have Bn := Lib.hid (B51.out.alloc B51.out.size (.cells #[.bool p.u, .int .u64 (n64 p.k), .int .u64 (n64 p.l), .slice a p.rs.length d] 27))
          replace hbl' := Lib.hid (hbl'.out.alloc hbl'.out.size (.cells #[.bool p.u, .int .u64 (n64 p.k), .int .u64 (n64 p.l), .slice a p.rs.length d] 27))
          have KKn := Lib.hid (KK51.out.alloc (.cells #[.bool p.u, .int .u64 (n64 p.k), .int .u64 (n64 p.l), .slice a p.rs.length d] 27))
          have KTn := Lib.hid (KT51.out.alloc (.cells #[.bool p.u, .int .u64 (n64 p.k), .int .u64 (n64 p.l), .slice a p.rs.length d] 27))
          have Hmn := Lib.hid (hon.out.alloc (.cells #[.bool p.u, .int .u64 (n64 p.k), .int .u64 (n64 p.l), .slice a p.rs.length d] 27))
          clear B51 KK51 KT51 hon
          obtain ⟨⟨cK0, cK1, cK2, cK3, cK4, cK5, cK6, cK7, cK8, cK9⟩, dK0, dK1, dK2, dK3, dK4, dK5, dK6, dK7, dK8, dK9⟩ := KKn.out.of10
          obtain ⟨⟨cT0, cT1, cT2⟩, dT0, dT1, dT2⟩ := KTn.out.o3
          go_wp2_with fail
          clear cK0 cK1 cK2 cK3 cK4 cK5 cK6 cK7 cK8 cK9 dK0 dK1 dK2 dK3 dK4 dK5 dK6 dK7 dK8 dK9 cT0 cT1 cT2 dT0 dT1 dT2
          change Calls _ _ _ (v51.alloc (.cells #[.bool p.u, .int .u64 (n64 p.k), .int .u64 (n64 p.l), .slice a p.rs.length d] 27)) _
          generalize v51.alloc (.cells #[.bool p.u, .int .u64 (n64 p.k), .int .u64 (n64 p.l), .slice a p.rs.length d] 27) = v52 at hbl' KSn Bn KKn KTn Hmn ⊢
          generalize v51.heap.size = g_S at KSn n_K_S n_T_S ⊢
          clear v51
          have KK52 := KKn
          clear KKn
          have KT52 := KTn
          clear KTn
          have KS52 := KSn
          clear KSn
          have Hm52 := Hmn
          clear Hmn
          have B52 := Bn
          clear Bn
          refine (D1.out a d _ Hm52.out).mono ?_
          rintro e v53 ⟨rfl, hb⟩
          have B53 := Lib.hid (B52.out.trans (hb.mono B52.out.size))
          replace hbl' := Lib.hid (hbl'.out.trans (hb.mono hbl'.out.size))
          have KK53 := Lib.hid (KK52.out.below hb)
          have KT53 := Lib.hid (KT52.out.below hb)
          have KS53 := Lib.hid (KS52.out.below hb)
          have Hm53 := Lib.hid (Hm52.out.below hb)
          clear hb B52 KK52 KT52 KS52 Hm52
          by_cases hy : (y1 == c) = false
          obtain ⟨⟨cK0, cK1, cK2, cK3, cK4, cK5, cK6, cK7, cK8, cK9⟩, dK0, dK1, dK2, dK3, dK4, dK5, dK6, dK7, dK8, dK9⟩ := KK53.out.of10
          obtain ⟨⟨cT0, cT1, cT2⟩, dT0, dT1, dT2⟩ := KT53.out.o3
          obtain ⟨⟨cS0, cS1, cS2, cS3⟩, dS0, dS1, dS2, dS3⟩ := KS53.out.four
          · go_wp2_with fail
            go_roundw
            case rel => exact ⟨1, by go_num, hbl', .inr (.inl ⟨rfl, hy⟩)⟩
            case measure => simp [RowKit.intOf] <;> omega
          · obtain rfl : y1 = c := by simpa using hy
            clear hy
            go_wp2_with fail
            exact bodyPost_ret (v := .tuple #[.int .i64 e, .int .i64 i, .bool true]) (by simp [results, Try.results20, go_sem]) rfl ⟨by rw [ckR_one rfl], B53.out⟩
        · have hne : ((e - 1) == e) = false := by simp; omega
          cases t with
          | true =>
            have B50 := Lib.hid (B3.out.trans (hbl.out.mono B3.out.size))
            have hbl' := hbl
            have KK50 := Lib.hid (KK3.out.below hbl.out)
            have KT50 := Lib.hid (KT3.out.below hbl.out)
            clear hbl
            obtain ⟨⟨cK0, cK1, cK2, cK3, cK4, cK5, cK6, cK7, cK8, cK9⟩, dK0, dK1, dK2, dK3, dK4, dK5, dK6, dK7, dK8, dK9⟩ := KK50.out.of10
            obtain ⟨⟨cT0, cT1, cT2⟩, dT0, dT1, dT2⟩ := KT50.out.o3
            go_wp2_with fail
            clear cK0 cK1 cK2 cK3 cK4 cK5 cK6 cK7 cK8 cK9 dK0 dK1 dK2 dK3 dK4 dK5 dK6 dK7 dK8 dK9 cT0 cT1 cT2 dT0 dT1 dT2
            refine (secBefI e (e - 1) p q _ (HP.out.below B50.out) (HQ.out.below B50.out) fq hne w2.symm).mono ?_
            rintro e v51 ⟨a, d, rfl, ho, hn, hb⟩
            have O := Lib.hid ho
            clear ho
            have B51 := Lib.hid (B50.out.trans (hb.mono B50.out.size))
            replace hbl' := Lib.hid (hbl'.out.trans (hb.mono hbl'.out.size))
            have KK51 := Lib.hid (KK50.out.below hb)
            have KT51 := Lib.hid (KT50.out.below hb)
            clear hb B50 KK50 KT50
            have hon := Lib.hid (M.on_I O.out hn)
            clear O hn
            have KSn := Lib.hid (Blk.new v51 [.bool q.u, .int .u64 (n64 q.k), .int .u64 (n64 q.l), .slice a q.rs.length d] 27)
            have n_K_S : g_K ≠ v51.heap.size := by have h1 := KK51.out.lt; omega
            have n_T_S : g_T ≠ v51.heap.size := by have h1 := KT51.out.lt; omega
            have Bn := Lib.hid (B51.out.alloc B51.out.size (.cells #[.bool q.u, .int .u64 (n64 q.k), .int .u64 (n64 q.l), .slice a q.rs.length d] 27))
            replace hbl' := Lib.hid (hbl'.out.alloc hbl'.out.size (.cells #[.bool q.u, .int .u64 (n64 q.k), .int .u64 (n64 q.l), .slice a q.rs.length d] 27))
            have KKn := Lib.hid (KK51.out.alloc (.cells #[.bool q.u, .int .u64 (n64 q.k), .int .u64 (n64 q.l), .slice a q.rs.length d] 27))
            have KTn := Lib.hid (KT51.out.alloc (.cells #[.bool q.u, .int .u64 (n64 q.k), .int .u64 (n64 q.l), .slice a q.rs.length d] 27))
            have Hmn := Lib.hid (hon.out.alloc (.cells #[.bool q.u, .int .u64 (n64 q.k), .int .u64 (n64 q.l), .slice a q.rs.length d] 27))
            clear B51 KK51 KT51 hon
            obtain ⟨⟨cK0, cK1, cK2, cK3, cK4, cK5, cK6, cK7, cK8, cK9⟩, dK0, dK1, dK2, dK3, dK4, dK5, dK6, dK7, dK8, dK9⟩ := KKn.out.of10
            obtain ⟨⟨cT0, cT1, cT2⟩, dT0, dT1, dT2⟩ := KTn.out.o3
            go_wp2_with fail
            clear cK0 cK1 cK2 cK3 cK4 cK5 cK6 cK7 cK8 cK9 dK0 dK1 dK2 dK3 dK4 dK5 dK6 dK7 dK8 dK9 cT0 cT1 cT2 dT0 dT1 dT2
            change Calls _ _ _ (v51.alloc (.cells #[.bool q.u, .int .u64 (n64 q.k), .int .u64 (n64 q.l), .slice a q.rs.length d] 27)) _
            generalize v51.alloc (.cells #[.bool q.u, .int .u64 (n64 q.k), .int .u64 (n64 q.l), .slice a q.rs.length d] 27) = v52 at hbl' KSn Bn KKn KTn Hmn ⊢
            generalize v51.heap.size = g_S at KSn n_K_S n_T_S ⊢
            clear v51
            have KK52 := KKn
            clear KKn
            have KT52 := KTn
            clear KTn
            have KS52 := KSn
            clear KSn
            have Hm52 := Hmn
            clear Hmn
            have B52 := Bn
            clear Bn
            refine (D2.out a d _ Hm52.out).mono ?_
            rintro e v53 ⟨rfl, hb⟩
            have B53 := Lib.hid (B52.out.trans (hb.mono B52.out.size))
            replace hbl' := Lib.hid (hbl'.out.trans (hb.mono hbl'.out.size))
            have KK53 := Lib.hid (KK52.out.below hb)
            have KT53 := Lib.hid (KT52.out.below hb)
            have KS53 := Lib.hid (KS52.out.below hb)
            have Hm53 := Lib.hid (Hm52.out.below hb)
            clear hb B52 KK52 KT52 KS52 Hm52
            by_cases hy : (y2 == c) = false
            obtain ⟨⟨cK0, cK1, cK2, cK3, cK4, cK5, cK6, cK7, cK8, cK9⟩, dK0, dK1, dK2, dK3, dK4, dK5, dK6, dK7, dK8, dK9⟩ := KK53.out.of10
            obtain ⟨⟨cT0, cT1, cT2⟩, dT0, dT1, dT2⟩ := KT53.out.o3
            obtain ⟨⟨cS0, cS1, cS2, cS3⟩, dS0, dS1, dS2, dS3⟩ := KS53.out.four
            · go_wp2_with fail
              go_roundw
              case rel => exact ⟨2, by go_num, hbl', .inr (.inr ⟨rfl, hy1, .inr hy⟩)⟩
              case measure => simp [RowKit.intOf] <;> omega
            · obtain rfl : y2 = c := by simpa using hy
              clear hy
              go_wp2_with fail
              exact bodyPost_ret (v := .tuple #[.int .i64 (e - 1), .int .i64 i, .bool true]) (by simp [results, Try.results20, go_sem]) rfl ⟨by rw [ckR_two hy1.out rfl], B53.out⟩
          | false =>
            have B50 := Lib.hid (B3.out.trans (hbl.out.mono B3.out.size))
            have hbl' := hbl
            have KK50 := Lib.hid (KK3.out.below hbl.out)
            have KT50 := Lib.hid (KT3.out.below hbl.out)
            clear hbl
            obtain ⟨⟨cK0, cK1, cK2, cK3, cK4, cK5, cK6, cK7, cK8, cK9⟩, dK0, dK1, dK2, dK3, dK4, dK5, dK6, dK7, dK8, dK9⟩ := KK50.out.of10
            obtain ⟨⟨cT0, cT1, cT2⟩, dT0, dT1, dT2⟩ := KT50.out.o3
            go_wp2_with fail
            clear cK0 cK1 cK2 cK3 cK4 cK5 cK6 cK7 cK8 cK9 dK0 dK1 dK2 dK3 dK4 dK5 dK6 dK7 dK8 dK9 cT0 cT1 cT2 dT0 dT1 dT2
            refine (secNoOneI e (e - 1) p q _ hne).mono ?_
            rintro e v51 ⟨rfl, hb⟩
            have B51 := Lib.hid (B50.out.trans (hb.mono B50.out.size))
            replace hbl' := Lib.hid (hbl'.out.trans (hb.mono hbl'.out.size))
            have KK51 := Lib.hid (KK50.out.below hb)
            have KT51 := Lib.hid (KT50.out.below hb)
            clear hb B50 KK50 KT50
            obtain ⟨⟨cK0, cK1, cK2, cK3, cK4, cK5, cK6, cK7, cK8, cK9⟩, dK0, dK1, dK2, dK3, dK4, dK5, dK6, dK7, dK8, dK9⟩ := KK51.out.of10
            obtain ⟨⟨cT0, cT1, cT2⟩, dT0, dT1, dT2⟩ := KT51.out.o3
            go_wp2_with fail
            go_roundw
            case rel => exact ⟨2, by go_num, hbl'.out.alloc hbl'.out.size _, .inr (.inr ⟨rfl, hy1, .inl (by simp)⟩)⟩
            case measure => simp [RowKit.intOf] <;> omega
        · have B50 := Lib.hid (B3.out.trans (hbl.out.mono B3.out.size))
          have KK50 := Lib.hid (KK3.out.below hbl.out)
          have KT50 := Lib.hid (KT3.out.below hbl.out)
          clear hbl
          obtain ⟨⟨cK0, cK1, cK2, cK3, cK4, cK5, cK6, cK7, cK8, cK9⟩, dK0, dK1, dK2, dK3, dK4, dK5, dK6, dK7, dK8, dK9⟩ := KK50.out.of10
          obtain ⟨⟨cT0, cT1, cT2⟩, dT0, dT1, dT2⟩ := KT50.out.o3
          go_wp2_with fail
          all_goals exact bodyPost_ret (v := .tuple #[.int .i64 0, .int .i64 0, .bool false]) (by simp [results, Try.results20, go_sem]) rfl ⟨by rw [ckR_no hy1.out hy2.out], B50.out⟩

set_option maxRecDepth 100000 in
set_option maxHeartbeats 4000000 in
theorem checkS (e : Int) (p q : M) (t : Bool) (x y z s c : Int) (w : World) (hp : p.On w) (hq : q.On w) (fp : p.Fit) (fq : q.Fit) :
    Calls Try.prog 40 #[.agg #[.int .i64 e, .bool p.u, .int .u64 (n64 p.k), .int .u64 (n64 p.l), .slice p.a p.rs.length p.c, .bool q.u, .int .u64 (n64 q.k), .int .u64 (n64 q.l), .slice q.a q.rs.length q.c, .bool t], .agg #[.int .i64 x, .int .i64 y, .int .i64 z], .int .i64 s, .int .i64 c] w (EndC (ck e p q t x y z s c) w) := by
  have HP := Lib.hid hp
  have HQ := Lib.hid hq
  clear hp hq
  have C1 := Lib.hid (fun w h1 h2 => keysOkS e p q t w h1 h2 fp fq)
  have C2 := True.intro
  have C3 : Hid (∀ w, Calls Try.prog 39 #[.int .i64 c] w fun x w' => x = .returned (.tuple #[.int .i64 (cpE c), .int .i64 (cpI c), .int .i64 (cpT c)]) ∧ Below w.heap.size w w') := fun w => (cookPS c w).mono fun x w' h => ⟨h.1, by rw [h.2]; exact Below.refl _ _⟩
  obtain ⟨k1, hk⟩ : ∃ b, keysOk e p q t = b := ⟨_, rfl⟩
  rw [hk] at C1
  cases k1 with
  | false =>
    unfold ck
    rw [hk, Bool.false_and, if_neg (by simp)]
    clear hk C2
    go_enter Try.func40, Try.ntmps40
    have B0 := Lib.hid (show Below w.heap.size w ((w.alloc (.cells #[.int .i64 e, .bool p.u, .int .u64 (n64 p.k), .int .u64 (n64 p.l), .slice p.a p.rs.length p.c, .bool q.u, .int .u64 (n64 q.k), .int .u64 (n64 q.l), .slice q.a q.rs.length q.c, .bool t] 29)).alloc (.cells #[.int .i64 x, .int .i64 y, .int .i64 z] 33)) from (((Below.refl _ w).alloc (by simp) _).alloc (by simp) _))
    have KK0 := Lib.hid (show Blk ((w.alloc (.cells #[.int .i64 e, .bool p.u, .int .u64 (n64 p.k), .int .u64 (n64 p.l), .slice p.a p.rs.length p.c, .bool q.u, .int .u64 (n64 q.k), .int .u64 (n64 q.l), .slice q.a q.rs.length q.c, .bool t] 29)).alloc (.cells #[.int .i64 x, .int .i64 y, .int .i64 z] 33)) (w.heap.size) [.int .i64 e, .bool p.u, .int .u64 (n64 p.k), .int .u64 (n64 p.l), .slice p.a p.rs.length p.c, .bool q.u, .int .u64 (n64 q.k), .int .u64 (n64 q.l), .slice q.a q.rs.length q.c, .bool t] from (Blk.new w [.int .i64 e, .bool p.u, .int .u64 (n64 p.k), .int .u64 (n64 p.l), .slice p.a p.rs.length p.c, .bool q.u, .int .u64 (n64 q.k), .int .u64 (n64 q.l), .slice q.a q.rs.length q.c, .bool t] 29).alloc (.cells #[.int .i64 x, .int .i64 y, .int .i64 z] 33))
    have s1 : (w.alloc (.cells #[.int .i64 e, .bool p.u, .int .u64 (n64 p.k), .int .u64 (n64 p.l), .slice p.a p.rs.length p.c, .bool q.u, .int .u64 (n64 q.k), .int .u64 (n64 q.l), .slice q.a q.rs.length q.c, .bool t] 29)).heap.size = w.heap.size + 1 := by simp
    have KT0 := Lib.hid (show Blk ((w.alloc (.cells #[.int .i64 e, .bool p.u, .int .u64 (n64 p.k), .int .u64 (n64 p.l), .slice p.a p.rs.length p.c, .bool q.u, .int .u64 (n64 q.k), .int .u64 (n64 q.l), .slice q.a q.rs.length q.c, .bool t] 29)).alloc (.cells #[.int .i64 x, .int .i64 y, .int .i64 z] 33)) (w.heap.size + 1) [.int .i64 x, .int .i64 y, .int .i64 z] by have h0 := Blk.new (w.alloc (.cells #[.int .i64 e, .bool p.u, .int .u64 (n64 p.k), .int .u64 (n64 p.l), .slice p.a p.rs.length p.c, .bool q.u, .int .u64 (n64 q.k), .int .u64 (n64 q.l), .slice q.a q.rs.length q.c, .bool t] 29)) [.int .i64 x, .int .i64 y, .int .i64 z] 33; rwa [s1] at h0)
    have n_K_T : w.heap.size ≠ w.heap.size + 1 := by omega
    clear s1
    go_wp2_with fail
    change Calls _ _ _ ((w.alloc (.cells #[.int .i64 e, .bool p.u, .int .u64 (n64 p.k), .int .u64 (n64 p.l), .slice p.a p.rs.length p.c, .bool q.u, .int .u64 (n64 q.k), .int .u64 (n64 q.l), .slice q.a q.rs.length q.c, .bool t] 29)).alloc (.cells #[.int .i64 x, .int .i64 y, .int .i64 z] 33)) _
    generalize (w.alloc (.cells #[.int .i64 e, .bool p.u, .int .u64 (n64 p.k), .int .u64 (n64 p.l), .slice p.a p.rs.length p.c, .bool q.u, .int .u64 (n64 q.k), .int .u64 (n64 q.l), .slice q.a q.rs.length q.c, .bool t] 29)).alloc (.cells #[.int .i64 x, .int .i64 y, .int .i64 z] 33) = v0 at B0 KK0 KT0 ⊢
    generalize hh_T : w.heap.size + 1 = g_T at KT0 n_K_T ⊢
    generalize hh_K : w.heap.size = g_K at KK0 n_K_T ⊢
    have l_K : w.heap.size ≤ g_K := by omega
    have l_T : w.heap.size ≤ g_T := by omega
    clear hh_K hh_T
    refine (C3.out _).mono ?_
    rintro e v1 ⟨rfl, hb⟩
    have B1 := Lib.hid (B0.out.trans (hb.mono B0.out.size))
    have KK1 := Lib.hid (KK0.out.below hb)
    have KT1 := Lib.hid (KT0.out.below hb)
    clear hb B0 KK0 KT0
    obtain ⟨⟨cK0, cK1, cK2, cK3, cK4, cK5, cK6, cK7, cK8, cK9⟩, dK0, dK1, dK2, dK3, dK4, dK5, dK6, dK7, dK8, dK9⟩ := KK1.out.of10
    obtain ⟨⟨cT0, cT1, cT2⟩, dT0, dT1, dT2⟩ := KT1.out.o3
    go_wp2_with fail
    clear cK0 cK1 cK2 cK3 cK4 cK5 cK6 cK7 cK8 cK9 dK0 dK1 dK2 dK3 dK4 dK5 dK6 dK7 dK8 dK9 cT0 cT1 cT2 dT0 dT1 dT2
    refine (C1.out _ (HP.out.below B1.out) (HQ.out.below B1.out)).mono ?_
    rintro e v2 ⟨rfl, hb⟩
    have B2 := Lib.hid (B1.out.trans (hb.mono B1.out.size))
    have KK2 := Lib.hid (KK1.out.below hb)
    have KT2 := Lib.hid (KT1.out.below hb)
    clear hb B1 KK1 KT1
    obtain ⟨⟨cK0, cK1, cK2, cK3, cK4, cK5, cK6, cK7, cK8, cK9⟩, dK0, dK1, dK2, dK3, dK4, dK5, dK6, dK7, dK8, dK9⟩ := KK2.out.of10
    obtain ⟨⟨cT0, cT1, cT2⟩, dT0, dT1, dT2⟩ := KT2.out.o3
    go_wp2_with fail
    exact bodyPost_ret (v := .tuple #[.int .i64 0, .int .i64 0, .bool false]) (by simp [results, Try.results40, go_sem]) rfl ⟨rfl, B2.out⟩
  | true =>
    obtain ⟨⟨e0, e1⟩, _, _, ht1, _⟩ := keysOk_all hk
    cases hw : wordOk c 32 with
    | false =>
      unfold ck
      rw [hw, Bool.and_false, if_neg (by simp)]
      rw [cpI_neg hw] at C3
      clear hk hw ht1
      go_enter Try.func40, Try.ntmps40
      have B0 := Lib.hid (show Below w.heap.size w ((w.alloc (.cells #[.int .i64 e, .bool p.u, .int .u64 (n64 p.k), .int .u64 (n64 p.l), .slice p.a p.rs.length p.c, .bool q.u, .int .u64 (n64 q.k), .int .u64 (n64 q.l), .slice q.a q.rs.length q.c, .bool t] 29)).alloc (.cells #[.int .i64 x, .int .i64 y, .int .i64 z] 33)) from (((Below.refl _ w).alloc (by simp) _).alloc (by simp) _))
      have KK0 := Lib.hid (show Blk ((w.alloc (.cells #[.int .i64 e, .bool p.u, .int .u64 (n64 p.k), .int .u64 (n64 p.l), .slice p.a p.rs.length p.c, .bool q.u, .int .u64 (n64 q.k), .int .u64 (n64 q.l), .slice q.a q.rs.length q.c, .bool t] 29)).alloc (.cells #[.int .i64 x, .int .i64 y, .int .i64 z] 33)) (w.heap.size) [.int .i64 e, .bool p.u, .int .u64 (n64 p.k), .int .u64 (n64 p.l), .slice p.a p.rs.length p.c, .bool q.u, .int .u64 (n64 q.k), .int .u64 (n64 q.l), .slice q.a q.rs.length q.c, .bool t] from (Blk.new w [.int .i64 e, .bool p.u, .int .u64 (n64 p.k), .int .u64 (n64 p.l), .slice p.a p.rs.length p.c, .bool q.u, .int .u64 (n64 q.k), .int .u64 (n64 q.l), .slice q.a q.rs.length q.c, .bool t] 29).alloc (.cells #[.int .i64 x, .int .i64 y, .int .i64 z] 33))
      have s1 : (w.alloc (.cells #[.int .i64 e, .bool p.u, .int .u64 (n64 p.k), .int .u64 (n64 p.l), .slice p.a p.rs.length p.c, .bool q.u, .int .u64 (n64 q.k), .int .u64 (n64 q.l), .slice q.a q.rs.length q.c, .bool t] 29)).heap.size = w.heap.size + 1 := by simp
      have KT0 := Lib.hid (show Blk ((w.alloc (.cells #[.int .i64 e, .bool p.u, .int .u64 (n64 p.k), .int .u64 (n64 p.l), .slice p.a p.rs.length p.c, .bool q.u, .int .u64 (n64 q.k), .int .u64 (n64 q.l), .slice q.a q.rs.length q.c, .bool t] 29)).alloc (.cells #[.int .i64 x, .int .i64 y, .int .i64 z] 33)) (w.heap.size + 1) [.int .i64 x, .int .i64 y, .int .i64 z] by have h0 := Blk.new (w.alloc (.cells #[.int .i64 e, .bool p.u, .int .u64 (n64 p.k), .int .u64 (n64 p.l), .slice p.a p.rs.length p.c, .bool q.u, .int .u64 (n64 q.k), .int .u64 (n64 q.l), .slice q.a q.rs.length q.c, .bool t] 29)) [.int .i64 x, .int .i64 y, .int .i64 z] 33; rwa [s1] at h0)
      have n_K_T : w.heap.size ≠ w.heap.size + 1 := by omega
      clear s1
      go_wp2_with fail
      change Calls _ _ _ ((w.alloc (.cells #[.int .i64 e, .bool p.u, .int .u64 (n64 p.k), .int .u64 (n64 p.l), .slice p.a p.rs.length p.c, .bool q.u, .int .u64 (n64 q.k), .int .u64 (n64 q.l), .slice q.a q.rs.length q.c, .bool t] 29)).alloc (.cells #[.int .i64 x, .int .i64 y, .int .i64 z] 33)) _
      generalize (w.alloc (.cells #[.int .i64 e, .bool p.u, .int .u64 (n64 p.k), .int .u64 (n64 p.l), .slice p.a p.rs.length p.c, .bool q.u, .int .u64 (n64 q.k), .int .u64 (n64 q.l), .slice q.a q.rs.length q.c, .bool t] 29)).alloc (.cells #[.int .i64 x, .int .i64 y, .int .i64 z] 33) = v0 at B0 KK0 KT0 ⊢
      generalize hh_T : w.heap.size + 1 = g_T at KT0 n_K_T ⊢
      generalize hh_K : w.heap.size = g_K at KK0 n_K_T ⊢
      have l_K : w.heap.size ≤ g_K := by omega
      have l_T : w.heap.size ≤ g_T := by omega
      clear hh_K hh_T
      refine (C3.out _).mono ?_
      rintro e v1 ⟨rfl, hb⟩
      have B1 := Lib.hid (B0.out.trans (hb.mono B0.out.size))
      have KK1 := Lib.hid (KK0.out.below hb)
      have KT1 := Lib.hid (KT0.out.below hb)
      clear hb B0 KK0 KT0
      obtain ⟨⟨cK0, cK1, cK2, cK3, cK4, cK5, cK6, cK7, cK8, cK9⟩, dK0, dK1, dK2, dK3, dK4, dK5, dK6, dK7, dK8, dK9⟩ := KK1.out.of10
      obtain ⟨⟨cT0, cT1, cT2⟩, dT0, dT1, dT2⟩ := KT1.out.o3
      go_wp2_with fail
      clear cK0 cK1 cK2 cK3 cK4 cK5 cK6 cK7 cK8 cK9 dK0 dK1 dK2 dK3 dK4 dK5 dK6 dK7 dK8 dK9 cT0 cT1 cT2 dT0 dT1 dT2
      refine (C1.out _ (HP.out.below B1.out) (HQ.out.below B1.out)).mono ?_
      rintro e v2 ⟨rfl, hb⟩
      have B2 := Lib.hid (B1.out.trans (hb.mono B1.out.size))
      have KK2 := Lib.hid (KK1.out.below hb)
      have KT2 := Lib.hid (KT1.out.below hb)
      clear hb B1 KK1 KT1
      obtain ⟨⟨cK0, cK1, cK2, cK3, cK4, cK5, cK6, cK7, cK8, cK9⟩, dK0, dK1, dK2, dK3, dK4, dK5, dK6, dK7, dK8, dK9⟩ := KK2.out.of10
      obtain ⟨⟨cT0, cT1, cT2⟩, dT0, dT1, dT2⟩ := KT2.out.o3
      go_wp2_with fail
      exact bodyPost_ret (v := .tuple #[.int .i64 0, .int .i64 0, .bool false]) (by simp [results, Try.results40, go_sem]) rfl ⟨rfl, B2.out⟩
    | true =>
      have hi := (cp_bd hw).2.2.1
      have hi7 := cpI_small c
      unfold ck
      rw [hk, hw, Bool.true_and, if_pos rfl]
      generalize cpE c = c0 at *
      generalize cpI c = i at *
      generalize cpT c = c2 at *
      clear hk hw
      have D1 : Hid (∀ (a : Option Addr) (d : Nat) (w : World), (p.at a d).On w → Calls Try.prog 36 #[.agg #[.bool p.u, .int .u64 (n64 p.k), .int .u64 (n64 p.l), .slice a p.rs.length d], .agg #[.int .i64 x, .int .i64 y, .int .i64 z], .int .i64 s, .int .i64 e, .int .i64 i] w (EndN (cookieOf p x y z s e i) w)) := fun a d w h => cookieOfS (p.at a d) x y z s e i w h fp
      have D2 : Hid (∀ (a : Option Addr) (d : Nat) (w : World), (q.at a d).On w → Calls Try.prog 36 #[.agg #[.bool q.u, .int .u64 (n64 q.k), .int .u64 (n64 q.l), .slice a q.rs.length d], .agg #[.int .i64 x, .int .i64 y, .int .i64 z], .int .i64 s, .int .i64 (e - 1), .int .i64 i] w (EndN (cookieOf q x y z s (e - 1) i) w)) := fun a d w h => cookieOfS (q.at a d) x y z s (e - 1) i w h fq
      generalize cookieOf p x y z s e i = y1 at *
      generalize cookieOf q x y z s (e - 1) i = y2 at *
      have w1 : IntKind.i64.wrap (e - 1) = e - 1 := IntWalk.i64_in _ (by omega)
      have w2 : wrap64 (e - 1) = e - 1 := by unfold wrap64; omega
      have HT1 := Lib.hid ht1
      clear ht1
      go_enter Try.func40, Try.ntmps40
      have B0 := Lib.hid (show Below w.heap.size w ((w.alloc (.cells #[.int .i64 e, .bool p.u, .int .u64 (n64 p.k), .int .u64 (n64 p.l), .slice p.a p.rs.length p.c, .bool q.u, .int .u64 (n64 q.k), .int .u64 (n64 q.l), .slice q.a q.rs.length q.c, .bool t] 29)).alloc (.cells #[.int .i64 x, .int .i64 y, .int .i64 z] 33)) from (((Below.refl _ w).alloc (by simp) _).alloc (by simp) _))
      have KK0 := Lib.hid (show Blk ((w.alloc (.cells #[.int .i64 e, .bool p.u, .int .u64 (n64 p.k), .int .u64 (n64 p.l), .slice p.a p.rs.length p.c, .bool q.u, .int .u64 (n64 q.k), .int .u64 (n64 q.l), .slice q.a q.rs.length q.c, .bool t] 29)).alloc (.cells #[.int .i64 x, .int .i64 y, .int .i64 z] 33)) (w.heap.size) [.int .i64 e, .bool p.u, .int .u64 (n64 p.k), .int .u64 (n64 p.l), .slice p.a p.rs.length p.c, .bool q.u, .int .u64 (n64 q.k), .int .u64 (n64 q.l), .slice q.a q.rs.length q.c, .bool t] from (Blk.new w [.int .i64 e, .bool p.u, .int .u64 (n64 p.k), .int .u64 (n64 p.l), .slice p.a p.rs.length p.c, .bool q.u, .int .u64 (n64 q.k), .int .u64 (n64 q.l), .slice q.a q.rs.length q.c, .bool t] 29).alloc (.cells #[.int .i64 x, .int .i64 y, .int .i64 z] 33))
      have s1 : (w.alloc (.cells #[.int .i64 e, .bool p.u, .int .u64 (n64 p.k), .int .u64 (n64 p.l), .slice p.a p.rs.length p.c, .bool q.u, .int .u64 (n64 q.k), .int .u64 (n64 q.l), .slice q.a q.rs.length q.c, .bool t] 29)).heap.size = w.heap.size + 1 := by simp
      have KT0 := Lib.hid (show Blk ((w.alloc (.cells #[.int .i64 e, .bool p.u, .int .u64 (n64 p.k), .int .u64 (n64 p.l), .slice p.a p.rs.length p.c, .bool q.u, .int .u64 (n64 q.k), .int .u64 (n64 q.l), .slice q.a q.rs.length q.c, .bool t] 29)).alloc (.cells #[.int .i64 x, .int .i64 y, .int .i64 z] 33)) (w.heap.size + 1) [.int .i64 x, .int .i64 y, .int .i64 z] by have h0 := Blk.new (w.alloc (.cells #[.int .i64 e, .bool p.u, .int .u64 (n64 p.k), .int .u64 (n64 p.l), .slice p.a p.rs.length p.c, .bool q.u, .int .u64 (n64 q.k), .int .u64 (n64 q.l), .slice q.a q.rs.length q.c, .bool t] 29)) [.int .i64 x, .int .i64 y, .int .i64 z] 33; rwa [s1] at h0)
      have n_K_T : w.heap.size ≠ w.heap.size + 1 := by omega
      clear s1
      go_wp2_with fail
      change Calls _ _ _ ((w.alloc (.cells #[.int .i64 e, .bool p.u, .int .u64 (n64 p.k), .int .u64 (n64 p.l), .slice p.a p.rs.length p.c, .bool q.u, .int .u64 (n64 q.k), .int .u64 (n64 q.l), .slice q.a q.rs.length q.c, .bool t] 29)).alloc (.cells #[.int .i64 x, .int .i64 y, .int .i64 z] 33)) _
      generalize (w.alloc (.cells #[.int .i64 e, .bool p.u, .int .u64 (n64 p.k), .int .u64 (n64 p.l), .slice p.a p.rs.length p.c, .bool q.u, .int .u64 (n64 q.k), .int .u64 (n64 q.l), .slice q.a q.rs.length q.c, .bool t] 29)).alloc (.cells #[.int .i64 x, .int .i64 y, .int .i64 z] 33) = v0 at B0 KK0 KT0 ⊢
      generalize hh_T : w.heap.size + 1 = g_T at KT0 n_K_T ⊢
      generalize hh_K : w.heap.size = g_K at KK0 n_K_T ⊢
      have l_K : w.heap.size ≤ g_K := by omega
      have l_T : w.heap.size ≤ g_T := by omega
      clear hh_K hh_T
      refine (C3.out _).mono ?_
      rintro e v1 ⟨rfl, hb⟩
      have B1 := Lib.hid (B0.out.trans (hb.mono B0.out.size))
      have KK1 := Lib.hid (KK0.out.below hb)
      have KT1 := Lib.hid (KT0.out.below hb)
      clear hb B0 KK0 KT0
      obtain ⟨⟨cK0, cK1, cK2, cK3, cK4, cK5, cK6, cK7, cK8, cK9⟩, dK0, dK1, dK2, dK3, dK4, dK5, dK6, dK7, dK8, dK9⟩ := KK1.out.of10
      obtain ⟨⟨cT0, cT1, cT2⟩, dT0, dT1, dT2⟩ := KT1.out.o3
      go_wp2_with fail
      clear cK0 cK1 cK2 cK3 cK4 cK5 cK6 cK7 cK8 cK9 dK0 dK1 dK2 dK3 dK4 dK5 dK6 dK7 dK8 dK9 cT0 cT1 cT2 dT0 dT1 dT2
      refine (C1.out _ (HP.out.below B1.out) (HQ.out.below B1.out)).mono ?_
      rintro e v2 ⟨rfl, hb⟩
      have B2 := Lib.hid (B1.out.trans (hb.mono B1.out.size))
      have KK2 := Lib.hid (KK1.out.below hb)
      have KT2 := Lib.hid (KT1.out.below hb)
      clear hb B1 KK1 KT1
      obtain ⟨⟨cK0, cK1, cK2, cK3, cK4, cK5, cK6, cK7, cK8, cK9⟩, dK0, dK1, dK2, dK3, dK4, dK5, dK6, dK7, dK8, dK9⟩ := KK2.out.of10
      obtain ⟨⟨cT0, cT1, cT2⟩, dT0, dT1, dT2⟩ := KT2.out.o3
      go_wp2_with fail
      clear cK0 cK1 cK2 cK3 cK4 cK5 cK6 cK7 cK8 cK9 dK0 dK1 dK2 dK3 dK4 dK5 dK6 dK7 dK8 dK9 cT0 cT1 cT2 dT0 dT1 dT2
      go_loopw [14] (fun i0 wr => ∃ j : Nat, i0 = .int .i64 (e - ((j : Nat) : Int)) ∧ Hid (Below v2.heap.size v2 wr) ∧ (j = 0 ∨ (j = 1 ∧ Hid ((y1 == c) = false)) ∨ (j = 2 ∧ Hid ((y1 == c) = false) ∧ Hid (t = false ∨ (y2 == c) = false)))) (fun i0 _ => (RowKit.intOf i0 + 2 - e).toNat)
      case atStart => exact ⟨0, by simp, Below.refl _ _, .inl rfl⟩
      case round =>
        obtain ⟨j, rfl, hbl, hj⟩ := hrel
        rcases hj with rfl | ⟨rfl, hy1⟩ | ⟨rfl, hy1, hy2⟩
        · have q0 : e - ((0 : Nat) : Int) = e := by omega
          rw [q0]
          clear q0
          have B50 := Lib.hid (B2.out.trans (hbl.out.mono B2.out.size))
          have hbl' := hbl
          have KK50 := Lib.hid (KK2.out.below hbl.out)
          have KT50 := Lib.hid (KT2.out.below hbl.out)
          clear hbl
          obtain ⟨⟨cK0, cK1, cK2, cK3, cK4, cK5, cK6, cK7, cK8, cK9⟩, dK0, dK1, dK2, dK3, dK4, dK5, dK6, dK7, dK8, dK9⟩ := KK50.out.of10
          obtain ⟨⟨cT0, cT1, cT2⟩, dT0, dT1, dT2⟩ := KT50.out.o3
          go_wp2_with fail
          clear cK0 cK1 cK2 cK3 cK4 cK5 cK6 cK7 cK8 cK9 dK0 dK1 dK2 dK3 dK4 dK5 dK6 dK7 dK8 dK9 cT0 cT1 cT2 dT0 dT1 dT2
          refine (secNowS e p q t _ (HP.out.below B50.out) (HQ.out.below B50.out) fp).mono ?_
          rintro e v51 ⟨g, d, rfl, ho, hb⟩
          have O := Lib.hid ho
          clear ho
          have B51 := Lib.hid (B50.out.trans (hb.mono B50.out.size))
          replace hbl' := Lib.hid (hbl'.out.trans (hb.mono hbl'.out.size))
          have KK51 := Lib.hid (KK50.out.below hb)
          have KT51 := Lib.hid (KT50.out.below hb)
          clear hb B50 KK50 KT50
          have hon := Lib.hid (M.on_at O.out)
          clear O
          have KSn := Lib.hid (Blk.new v51 [.bool p.u, .int .u64 (n64 p.k), .int .u64 (n64 p.l), .slice (some ⟨g, 0, none⟩) p.rs.length d] 27)
          have n_K_S : g_K ≠ v51.heap.size := by have h1 := KK51.out.lt; omega
          have n_T_S : g_T ≠ v51.heap.size := by have h1 := KT51.out.lt; omega
          have Bn := Lib.hid (B51.out.alloc B51.out.size (.cells #[.bool p.u, .int .u64 (n64 p.k), .int .u64 (n64 p.l), .slice (some ⟨g, 0, none⟩) p.rs.length d] 27))
          replace hbl' := Lib.hid (hbl'.out.alloc hbl'.out.size (.cells #[.bool p.u, .int .u64 (n64 p.k), .int .u64 (n64 p.l), .slice (some ⟨g, 0, none⟩) p.rs.length d] 27))
          have KKn := Lib.hid (KK51.out.alloc (.cells #[.bool p.u, .int .u64 (n64 p.k), .int .u64 (n64 p.l), .slice (some ⟨g, 0, none⟩) p.rs.length d] 27))
          have KTn := Lib.hid (KT51.out.alloc (.cells #[.bool p.u, .int .u64 (n64 p.k), .int .u64 (n64 p.l), .slice (some ⟨g, 0, none⟩) p.rs.length d] 27))
          have Hmn := Lib.hid (hon.out.alloc (.cells #[.bool p.u, .int .u64 (n64 p.k), .int .u64 (n64 p.l), .slice (some ⟨g, 0, none⟩) p.rs.length d] 27))
          clear B51 KK51 KT51 hon
          obtain ⟨⟨cK0, cK1, cK2, cK3, cK4, cK5, cK6, cK7, cK8, cK9⟩, dK0, dK1, dK2, dK3, dK4, dK5, dK6, dK7, dK8, dK9⟩ := KKn.out.of10
          obtain ⟨⟨cT0, cT1, cT2⟩, dT0, dT1, dT2⟩ := KTn.out.o3
          go_wp2_with fail
          clear cK0 cK1 cK2 cK3 cK4 cK5 cK6 cK7 cK8 cK9 dK0 dK1 dK2 dK3 dK4 dK5 dK6 dK7 dK8 dK9 cT0 cT1 cT2 dT0 dT1 dT2
          change Calls _ _ _ (v51.alloc (.cells #[.bool p.u, .int .u64 (n64 p.k), .int .u64 (n64 p.l), .slice (some ⟨g, 0, none⟩) p.rs.length d] 27)) _
          generalize v51.alloc (.cells #[.bool p.u, .int .u64 (n64 p.k), .int .u64 (n64 p.l), .slice (some ⟨g, 0, none⟩) p.rs.length d] 27) = v52 at hbl' KSn Bn KKn KTn Hmn ⊢
          generalize v51.heap.size = g_S at KSn n_K_S n_T_S ⊢
          clear v51
          have KK52 := KKn
          clear KKn
          have KT52 := KTn
          clear KTn
          have KS52 := KSn
          clear KSn
          have Hm52 := Hmn
          clear Hmn
          have B52 := Bn
          clear Bn
          refine (D1.out (some ⟨g, 0, none⟩) d _ Hm52.out).mono ?_
          rintro e v53 ⟨rfl, hb⟩
          have B53 := Lib.hid (B52.out.trans (hb.mono B52.out.size))
          replace hbl' := Lib.hid (hbl'.out.trans (hb.mono hbl'.out.size))
          have KK53 := Lib.hid (KK52.out.below hb)
          have KT53 := Lib.hid (KT52.out.below hb)
          have KS53 := Lib.hid (KS52.out.below hb)
          have Hm53 := Lib.hid (Hm52.out.below hb)
          clear hb B52 KK52 KT52 KS52 Hm52
          by_cases hy : (y1 == c) = false
          obtain ⟨⟨cK0, cK1, cK2, cK3, cK4, cK5, cK6, cK7, cK8, cK9⟩, dK0, dK1, dK2, dK3, dK4, dK5, dK6, dK7, dK8, dK9⟩ := KK53.out.of10
          obtain ⟨⟨cT0, cT1, cT2⟩, dT0, dT1, dT2⟩ := KT53.out.o3
          obtain ⟨⟨cS0, cS1, cS2, cS3⟩, dS0, dS1, dS2, dS3⟩ := KS53.out.four
          · go_wp2_with fail
            go_roundw
            case rel => exact ⟨1, by simp, hbl', .inr (.inl ⟨rfl, hy⟩)⟩
            case measure => simp [RowKit.intOf] <;> omega
          · obtain rfl : y1 = c := by simpa using hy
            clear hy
            go_wp2_with fail
            exact bodyPost_ret (v := .tuple #[.int .i64 e, .int .i64 i, .bool true]) (by simp [results, Try.results40, go_sem]) rfl ⟨by rw [ckR_one rfl], B53.out⟩
        · have hne : ((e - 1) == e) = false := by simp; omega
          have q1 : e - ((1 : Nat) : Int) = e - 1 := by omega
          rw [q1]
          clear q1
          cases t with
          | true =>
            have he1 : 1 ≤ e := HT1.out rfl
            have B50 := Lib.hid (B2.out.trans (hbl.out.mono B2.out.size))
            have hbl' := hbl
            have KK50 := Lib.hid (KK2.out.below hbl.out)
            have KT50 := Lib.hid (KT2.out.below hbl.out)
            clear hbl
            obtain ⟨⟨cK0, cK1, cK2, cK3, cK4, cK5, cK6, cK7, cK8, cK9⟩, dK0, dK1, dK2, dK3, dK4, dK5, dK6, dK7, dK8, dK9⟩ := KK50.out.of10
            obtain ⟨⟨cT0, cT1, cT2⟩, dT0, dT1, dT2⟩ := KT50.out.o3
            go_wp2_with fail
            clear cK0 cK1 cK2 cK3 cK4 cK5 cK6 cK7 cK8 cK9 dK0 dK1 dK2 dK3 dK4 dK5 dK6 dK7 dK8 dK9 cT0 cT1 cT2 dT0 dT1 dT2
            refine (secBefS e (e - 1) p q _ (HP.out.below B50.out) (HQ.out.below B50.out) fq hne w2.symm).mono ?_
            rintro e v51 ⟨g, d, rfl, ho, hb⟩
            have O := Lib.hid ho
            clear ho
            have B51 := Lib.hid (B50.out.trans (hb.mono B50.out.size))
            replace hbl' := Lib.hid (hbl'.out.trans (hb.mono hbl'.out.size))
            have KK51 := Lib.hid (KK50.out.below hb)
            have KT51 := Lib.hid (KT50.out.below hb)
            clear hb B50 KK50 KT50
            have hon := Lib.hid (M.on_at O.out)
            clear O
            have KSn := Lib.hid (Blk.new v51 [.bool q.u, .int .u64 (n64 q.k), .int .u64 (n64 q.l), .slice (some ⟨g, 0, none⟩) q.rs.length d] 27)
            have n_K_S : g_K ≠ v51.heap.size := by have h1 := KK51.out.lt; omega
            have n_T_S : g_T ≠ v51.heap.size := by have h1 := KT51.out.lt; omega
            have Bn := Lib.hid (B51.out.alloc B51.out.size (.cells #[.bool q.u, .int .u64 (n64 q.k), .int .u64 (n64 q.l), .slice (some ⟨g, 0, none⟩) q.rs.length d] 27))
            replace hbl' := Lib.hid (hbl'.out.alloc hbl'.out.size (.cells #[.bool q.u, .int .u64 (n64 q.k), .int .u64 (n64 q.l), .slice (some ⟨g, 0, none⟩) q.rs.length d] 27))
            have KKn := Lib.hid (KK51.out.alloc (.cells #[.bool q.u, .int .u64 (n64 q.k), .int .u64 (n64 q.l), .slice (some ⟨g, 0, none⟩) q.rs.length d] 27))
            have KTn := Lib.hid (KT51.out.alloc (.cells #[.bool q.u, .int .u64 (n64 q.k), .int .u64 (n64 q.l), .slice (some ⟨g, 0, none⟩) q.rs.length d] 27))
            have Hmn := Lib.hid (hon.out.alloc (.cells #[.bool q.u, .int .u64 (n64 q.k), .int .u64 (n64 q.l), .slice (some ⟨g, 0, none⟩) q.rs.length d] 27))
            clear B51 KK51 KT51 hon
            obtain ⟨⟨cK0, cK1, cK2, cK3, cK4, cK5, cK6, cK7, cK8, cK9⟩, dK0, dK1, dK2, dK3, dK4, dK5, dK6, dK7, dK8, dK9⟩ := KKn.out.of10
            obtain ⟨⟨cT0, cT1, cT2⟩, dT0, dT1, dT2⟩ := KTn.out.o3
            go_wp2_with fail
            clear cK0 cK1 cK2 cK3 cK4 cK5 cK6 cK7 cK8 cK9 dK0 dK1 dK2 dK3 dK4 dK5 dK6 dK7 dK8 dK9 cT0 cT1 cT2 dT0 dT1 dT2
            change Calls _ _ _ (v51.alloc (.cells #[.bool q.u, .int .u64 (n64 q.k), .int .u64 (n64 q.l), .slice (some ⟨g, 0, none⟩) q.rs.length d] 27)) _
            generalize v51.alloc (.cells #[.bool q.u, .int .u64 (n64 q.k), .int .u64 (n64 q.l), .slice (some ⟨g, 0, none⟩) q.rs.length d] 27) = v52 at hbl' KSn Bn KKn KTn Hmn ⊢
            generalize v51.heap.size = g_S at KSn n_K_S n_T_S ⊢
            clear v51
            have KK52 := KKn
            clear KKn
            have KT52 := KTn
            clear KTn
            have KS52 := KSn
            clear KSn
            have Hm52 := Hmn
            clear Hmn
            have B52 := Bn
            clear Bn
            refine (D2.out (some ⟨g, 0, none⟩) d _ Hm52.out).mono ?_
            rintro e v53 ⟨rfl, hb⟩
            have B53 := Lib.hid (B52.out.trans (hb.mono B52.out.size))
            replace hbl' := Lib.hid (hbl'.out.trans (hb.mono hbl'.out.size))
            have KK53 := Lib.hid (KK52.out.below hb)
            have KT53 := Lib.hid (KT52.out.below hb)
            have KS53 := Lib.hid (KS52.out.below hb)
            have Hm53 := Lib.hid (Hm52.out.below hb)
            clear hb B52 KK52 KT52 KS52 Hm52
            by_cases hy : (y2 == c) = false
            obtain ⟨⟨cK0, cK1, cK2, cK3, cK4, cK5, cK6, cK7, cK8, cK9⟩, dK0, dK1, dK2, dK3, dK4, dK5, dK6, dK7, dK8, dK9⟩ := KK53.out.of10
            obtain ⟨⟨cT0, cT1, cT2⟩, dT0, dT1, dT2⟩ := KT53.out.o3
            obtain ⟨⟨cS0, cS1, cS2, cS3⟩, dS0, dS1, dS2, dS3⟩ := KS53.out.four
            · go_wp2_with fail
              go_roundw
              case rel => exact ⟨2, by (congr 1; omega), hbl', .inr (.inr ⟨rfl, hy1, .inr hy⟩)⟩
              case measure => simp [RowKit.intOf] <;> omega
            · obtain rfl : y2 = c := by simpa using hy
              clear hy
              go_wp2_with fail
              exact bodyPost_ret (v := .tuple #[.int .i64 (e - 1), .int .i64 i, .bool true]) (by simp [results, Try.results40, go_sem]) rfl ⟨by rw [ckR_two hy1.out rfl], B53.out⟩
          | false =>
            by_cases he1 : 1 ≤ e
            case neg =>
              have B50 := Lib.hid (B2.out.trans (hbl.out.mono B2.out.size))
              have KK50 := Lib.hid (KK2.out.below hbl.out)
              have KT50 := Lib.hid (KT2.out.below hbl.out)
              clear hbl
              obtain ⟨⟨cK0, cK1, cK2, cK3, cK4, cK5, cK6, cK7, cK8, cK9⟩, dK0, dK1, dK2, dK3, dK4, dK5, dK6, dK7, dK8, dK9⟩ := KK50.out.of10
              obtain ⟨⟨cT0, cT1, cT2⟩, dT0, dT1, dT2⟩ := KT50.out.o3
              go_wp2_with fail
              exact bodyPost_ret (v := .tuple #[.int .i64 0, .int .i64 0, .bool false]) (by simp [results, Try.results40, go_sem]) rfl ⟨by rw [ckR_no hy1.out (.inl rfl)], B50.out⟩
            have B50 := Lib.hid (B2.out.trans (hbl.out.mono B2.out.size))
            have hbl' := hbl
            have KK50 := Lib.hid (KK2.out.below hbl.out)
            have KT50 := Lib.hid (KT2.out.below hbl.out)
            clear hbl
            obtain ⟨⟨cK0, cK1, cK2, cK3, cK4, cK5, cK6, cK7, cK8, cK9⟩, dK0, dK1, dK2, dK3, dK4, dK5, dK6, dK7, dK8, dK9⟩ := KK50.out.of10
            obtain ⟨⟨cT0, cT1, cT2⟩, dT0, dT1, dT2⟩ := KT50.out.o3
            go_wp2_with fail
            clear cK0 cK1 cK2 cK3 cK4 cK5 cK6 cK7 cK8 cK9 dK0 dK1 dK2 dK3 dK4 dK5 dK6 dK7 dK8 dK9 cT0 cT1 cT2 dT0 dT1 dT2
            refine (secNoOneS e (e - 1) p q _ hne).mono ?_
            rintro e v51 ⟨rfl, hb⟩
            have B51 := Lib.hid (B50.out.trans (hb.mono B50.out.size))
            replace hbl' := Lib.hid (hbl'.out.trans (hb.mono hbl'.out.size))
            have KK51 := Lib.hid (KK50.out.below hb)
            have KT51 := Lib.hid (KT50.out.below hb)
            clear hb B50 KK50 KT50
            obtain ⟨⟨cK0, cK1, cK2, cK3, cK4, cK5, cK6, cK7, cK8, cK9⟩, dK0, dK1, dK2, dK3, dK4, dK5, dK6, dK7, dK8, dK9⟩ := KK51.out.of10
            obtain ⟨⟨cT0, cT1, cT2⟩, dT0, dT1, dT2⟩ := KT51.out.o3
            go_wp2_with fail
            go_roundw
            case rel => exact ⟨2, by (congr 1; omega), hbl'.out.alloc hbl'.out.size _, .inr (.inr ⟨rfl, hy1, .inl (by simp)⟩)⟩
            case measure => simp [RowKit.intOf] <;> omega
        · have q2 : e - ((2 : Nat) : Int) = e - 2 := by omega
          rw [q2]
          clear q2
          have B50 := Lib.hid (B2.out.trans (hbl.out.mono B2.out.size))
          have KK50 := Lib.hid (KK2.out.below hbl.out)
          have KT50 := Lib.hid (KT2.out.below hbl.out)
          clear hbl
          obtain ⟨⟨cK0, cK1, cK2, cK3, cK4, cK5, cK6, cK7, cK8, cK9⟩, dK0, dK1, dK2, dK3, dK4, dK5, dK6, dK7, dK8, dK9⟩ := KK50.out.of10
          obtain ⟨⟨cT0, cT1, cT2⟩, dT0, dT1, dT2⟩ := KT50.out.o3
          go_wp2_with fail
          all_goals exact bodyPost_ret (v := .tuple #[.int .i64 0, .int .i64 0, .bool false]) (by simp [results, Try.results40, go_sem]) rfl ⟨by rw [ckR_no hy1.out hy2.out], B50.out⟩

end Go.Proofs.Ytobfgkiccmhgdaa
