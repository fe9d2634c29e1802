/- SecretOf, of the model and of the program. Nothing here is a claim. -/
import Derived.Test.YtobfgkiccmhgdaaGreatKeysB
namespace Go.Proofs.YtobfgkiccmhgdaaGreat
open Go.RowKit Go.Lib

/-- A Mac and true are handed back: the program's copy; the model's; the zero Mac and false. -/
def SecI (m : M) (w : World) (x : Ending) (w' : World) : Prop :=
  ∃ a c, x = .returned (.tuple #[.agg #[.bool m.u, .int .u64 (n64 m.k), .int .u64 (n64 m.l), .slice a m.rs.length c], .bool true]) ∧ w'.ownsRow w.heap.size 72 2 (.slice a m.rs.length c) m.rs.length (mrs m.rs) ∧ ((m.a = none ∧ a = none ∧ c = 0 ∧ m.rs = []) ∨ ∃ g, a = some ⟨g, 0, none⟩) ∧ Below w.heap.size w w'
def SecS (m : M) (w : World) (x : Ending) (w' : World) : Prop :=
  ∃ g c, x = .returned (.tuple #[.agg #[.bool m.u, .int .u64 (n64 m.k), .int .u64 (n64 m.l), .slice (some ⟨g, 0, none⟩) m.rs.length c], .bool true]) ∧ w'.ownsRow w.heap.size 72 2 (.slice (some ⟨g, 0, none⟩) m.rs.length c) m.rs.length (mrs m.rs) ∧ Below w.heap.size w w'
def SecNo (w : World) (x : Ending) (w' : World) : Prop := x = .returned (.tuple #[.agg #[.bool false, .int .u64 0, .int .u64 0, .slice none 0 0], .bool false]) ∧ Below w.heap.size w w'

set_option maxRecDepth 100000 in
set_option maxHeartbeats 4000000 in
theorem secNowOneI (e : Int) (p q : M) (w : World) (hp : p.On w) (hq : q.On w) (fp : p.Fit) :
    Calls Tryz.prog 9 #[.agg #[.int .i64 e, .bool p.u, .int .u64 (n64 p.k), .int .u64 (n64 p.l), .slice p.a p.rs.length p.c, .bool q.u, .int .u64 (n64 q.k), .int .u64 (n64 q.l), .slice q.a q.rs.length q.c, .bool false], .int .i64 e] w (SecI p w) := by
  have HP := Lib.hid hp
  have HQ := Lib.hid hq
  clear hp hq
  have ha1 : ∀ w : World, (Instr.typeAssert (.iface 55 (.agg #[.int .i64 e, .bool p.u, .int .u64 (n64 p.k), .int .u64 (n64 p.l), .slice p.a p.rs.length p.c, .bool q.u, .int .u64 (n64 q.k), .int .u64 (n64 q.l), .slice q.a q.rs.length q.c])) 52 55 true).run Tryz.prog w = .ok (.tuple #[.agg #[.int .i64 e, .bool p.u, .int .u64 (n64 p.k), .int .u64 (n64 p.l), .slice p.a p.rs.length p.c, .bool q.u, .int .u64 (n64 q.k), .int .u64 (n64 q.l), .slice q.a q.rs.length q.c], .bool true]) w := fun _ => by kernel_rfl
  go_enter Tryz.func9, Tryz.ntmps9
  have B0 := Lib.hid (show Below w.heap.size w ((w.alloc (.cells #[.int .i64 e, .bool p.u, .int .u64 (n64 p.k), .int .u64 (n64 p.l), .slice p.a p.rs.length p.c, .bool q.u, .int .u64 (n64 q.k), .int .u64 (n64 q.l), .slice q.a q.rs.length q.c, .bool false] 29)).alloc (.cells #[.bool false, .int .u64 0, .int .u64 0, .slice none 0 0] 27)) from (((Below.refl _ w).alloc (by simp) _).alloc (by simp) _))
  have KK0 := Lib.hid (show Blk ((w.alloc (.cells #[.int .i64 e, .bool p.u, .int .u64 (n64 p.k), .int .u64 (n64 p.l), .slice p.a p.rs.length p.c, .bool q.u, .int .u64 (n64 q.k), .int .u64 (n64 q.l), .slice q.a q.rs.length q.c, .bool false] 29)).alloc (.cells #[.bool false, .int .u64 0, .int .u64 0, .slice none 0 0] 27)) (w.heap.size) [.int .i64 e, .bool p.u, .int .u64 (n64 p.k), .int .u64 (n64 p.l), .slice p.a p.rs.length p.c, .bool q.u, .int .u64 (n64 q.k), .int .u64 (n64 q.l), .slice q.a q.rs.length q.c, .bool false] from (Blk.new w [.int .i64 e, .bool p.u, .int .u64 (n64 p.k), .int .u64 (n64 p.l), .slice p.a p.rs.length p.c, .bool q.u, .int .u64 (n64 q.k), .int .u64 (n64 q.l), .slice q.a q.rs.length q.c, .bool false] 29).alloc _)
  have s1 : (w.alloc (.cells #[.int .i64 e, .bool p.u, .int .u64 (n64 p.k), .int .u64 (n64 p.l), .slice p.a p.rs.length p.c, .bool q.u, .int .u64 (n64 q.k), .int .u64 (n64 q.l), .slice q.a q.rs.length q.c, .bool false] 29)).heap.size = w.heap.size + 1 := by simp
  have KR0 := Lib.hid (show Blk ((w.alloc (.cells #[.int .i64 e, .bool p.u, .int .u64 (n64 p.k), .int .u64 (n64 p.l), .slice p.a p.rs.length p.c, .bool q.u, .int .u64 (n64 q.k), .int .u64 (n64 q.l), .slice q.a q.rs.length q.c, .bool false] 29)).alloc (.cells #[.bool false, .int .u64 0, .int .u64 0, .slice none 0 0] 27)) (w.heap.size + 1) [.bool false, .int .u64 0, .int .u64 0, .slice none 0 0] by have h0 := Blk.new (w.alloc (.cells #[.int .i64 e, .bool p.u, .int .u64 (n64 p.k), .int .u64 (n64 p.l), .slice p.a p.rs.length p.c, .bool q.u, .int .u64 (n64 q.k), .int .u64 (n64 q.l), .slice q.a q.rs.length q.c, .bool false] 29)) [.bool false, .int .u64 0, .int .u64 0, .slice none 0 0] 27; rwa [s1] at h0)
  have n_K_R : w.heap.size ≠ w.heap.size + 1 := by omega
  clear s1
  have Hp0 := Lib.hid (show p.On ((w.alloc (.cells #[.int .i64 e, .bool p.u, .int .u64 (n64 p.k), .int .u64 (n64 p.l), .slice p.a p.rs.length p.c, .bool q.u, .int .u64 (n64 q.k), .int .u64 (n64 q.l), .slice q.a q.rs.length q.c, .bool false] 29)).alloc (.cells #[.bool false, .int .u64 0, .int .u64 0, .slice none 0 0] 27)) from HP.out.below B0.out)
  clear HP
  have Hq0 := Lib.hid (show q.On ((w.alloc (.cells #[.int .i64 e, .bool p.u, .int .u64 (n64 p.k), .int .u64 (n64 p.l), .slice p.a p.rs.length p.c, .bool q.u, .int .u64 (n64 q.k), .int .u64 (n64 q.l), .slice q.a q.rs.length q.c, .bool false] 29)).alloc (.cells #[.bool false, .int .u64 0, .int .u64 0, .slice none 0 0] 27)) from HQ.out.below B0.out)
  clear HQ
  go_wp2_with fail
  change Calls _ _ _ ((w.alloc (.cells #[.int .i64 e, .bool p.u, .int .u64 (n64 p.k), .int .u64 (n64 p.l), .slice p.a p.rs.length p.c, .bool q.u, .int .u64 (n64 q.k), .int .u64 (n64 q.l), .slice q.a q.rs.length q.c, .bool false] 29)).alloc (.cells #[.bool false, .int .u64 0, .int .u64 0, .slice none 0 0] 27)) _
  generalize (w.alloc (.cells #[.int .i64 e, .bool p.u, .int .u64 (n64 p.k), .int .u64 (n64 p.l), .slice p.a p.rs.length p.c, .bool q.u, .int .u64 (n64 q.k), .int .u64 (n64 q.l), .slice q.a q.rs.length q.c, .bool false] 29)).alloc (.cells #[.bool false, .int .u64 0, .int .u64 0, .slice none 0 0] 27) = v0 at B0 KK0 KR0 Hp0 Hq0 ⊢
  generalize hh_R : w.heap.size + 1 = g_R at KR0 n_K_R ⊢
  generalize hh_K : w.heap.size = g_K at KK0 n_K_R ⊢
  have l_K : w.heap.size ≤ g_K := by omega
  have l_R : w.heap.size ≤ g_R := by omega
  clear hh_K hh_R
  refine (heldOneI e p q _).mono ?_
  rintro e v1 ⟨rfl, hb⟩
  have B1 := Lib.hid (B0.out.trans (hb.mono B0.out.size))
  have KK1 := Lib.hid (KK0.out.below hb)
  have KR1 := Lib.hid (KR0.out.below hb)
  have Hp1 := Lib.hid (Hp0.out.below hb)
  have Hq1 := Lib.hid (Hq0.out.below hb)
  clear hb B0 KK0 KR0 Hp0 Hq0
  have KHn := Lib.hid (Blk.new v1 [.int .i64 e, .bool p.u, .int .u64 (n64 p.k), .int .u64 (n64 p.l), .slice p.a p.rs.length p.c, .bool q.u, .int .u64 (n64 q.k), .int .u64 (n64 q.l), .slice q.a q.rs.length q.c] 55)
  have n_K_H : g_K ≠ v1.heap.size := by have h1 := KK1.out.lt; omega
  have n_R_H : g_R ≠ v1.heap.size := by have h1 := KR1.out.lt; omega
  have Bn := Lib.hid (B1.out.alloc B1.out.size (.cells #[.int .i64 e, .bool p.u, .int .u64 (n64 p.k), .int .u64 (n64 p.l), .slice p.a p.rs.length p.c, .bool q.u, .int .u64 (n64 q.k), .int .u64 (n64 q.l), .slice q.a q.rs.length q.c] 55))
  have KKn := Lib.hid (KK1.out.alloc (.cells #[.int .i64 e, .bool p.u, .int .u64 (n64 p.k), .int .u64 (n64 p.l), .slice p.a p.rs.length p.c, .bool q.u, .int .u64 (n64 q.k), .int .u64 (n64 q.l), .slice q.a q.rs.length q.c] 55))
  have KRn := Lib.hid (KR1.out.alloc (.cells #[.int .i64 e, .bool p.u, .int .u64 (n64 p.k), .int .u64 (n64 p.l), .slice p.a p.rs.length p.c, .bool q.u, .int .u64 (n64 q.k), .int .u64 (n64 q.l), .slice q.a q.rs.length q.c] 55))
  have Hpn := Lib.hid (Hp1.out.alloc (.cells #[.int .i64 e, .bool p.u, .int .u64 (n64 p.k), .int .u64 (n64 p.l), .slice p.a p.rs.length p.c, .bool q.u, .int .u64 (n64 q.k), .int .u64 (n64 q.l), .slice q.a q.rs.length q.c] 55))
  have Hqn := Lib.hid (Hq1.out.alloc (.cells #[.int .i64 e, .bool p.u, .int .u64 (n64 p.k), .int .u64 (n64 p.l), .slice p.a p.rs.length p.c, .bool q.u, .int .u64 (n64 q.k), .int .u64 (n64 q.l), .slice q.a q.rs.length q.c] 55))
  clear B1 KK1 KR1 Hp1 Hq1
  obtain ⟨⟨cK0, cK1, cK2, cK3, cK4, cK5, cK6, cK7, cK8, cK9⟩, dK0, dK1, dK2, dK3, dK4, dK5, dK6, dK7, dK8, dK9⟩ := KKn.out.of10
  obtain ⟨⟨cR0, cR1, cR2, cR3⟩, dR0, dR1, dR2, dR3⟩ := KRn.out.four
  go_wp2_with fail
  clear cK0 cK1 cK2 cK3 cK4 cK5 cK6 cK7 cK8 cK9 dK0 dK1 dK2 dK3 dK4 dK5 dK6 dK7 dK8 dK9 cR0 cR1 cR2 cR3 dR0 dR1 dR2 dR3
  change Calls _ _ _ (v1.alloc (.cells #[.int .i64 e, .bool p.u, .int .u64 (n64 p.k), .int .u64 (n64 p.l), .slice p.a p.rs.length p.c, .bool q.u, .int .u64 (n64 q.k), .int .u64 (n64 q.l), .slice q.a q.rs.length q.c] 55)) _
  generalize v1.alloc (.cells #[.int .i64 e, .bool p.u, .int .u64 (n64 p.k), .int .u64 (n64 p.l), .slice p.a p.rs.length p.c, .bool q.u, .int .u64 (n64 q.k), .int .u64 (n64 q.l), .slice q.a q.rs.length q.c] 55) = v2 at KHn Bn KKn KRn Hpn Hqn ⊢
  generalize v1.heap.size = g_H at KHn n_K_H n_R_H ⊢
  clear v1
  have KK2 := KKn
  clear KKn
  have KR2 := KRn
  clear KRn
  have KH2 := KHn
  clear KHn
  have Hp2 := Hpn
  clear Hpn
  have Hq2 := Hqn
  clear Hqn
  have B2 := Bn
  clear Bn
  refine (copyMacI p _ Hp2.out fp.1).mono ?_
  rintro e v3 ⟨a, c, rfl, ho, hn, hb⟩
  have O := Lib.hid ho
  clear ho
  have hz := B2.out.size
  have lR := KR2.out.lt
  have B3 := Lib.hid (B2.out.trans (hb.mono B2.out.size))
  have KK3 := Lib.hid (KK2.out.below hb)
  have KR3 := Lib.hid (KR2.out.below hb)
  have KH3 := Lib.hid (KH2.out.below hb)
  have Hp3 := Lib.hid (Hp2.out.below hb)
  have Hq3 := Lib.hid (Hq2.out.below hb)
  clear hb B2 KK2 KR2 KH2 Hp2 Hq2
  obtain ⟨⟨cK0, cK1, cK2, cK3, cK4, cK5, cK6, cK7, cK8, cK9⟩, dK0, dK1, dK2, dK3, dK4, dK5, dK6, dK7, dK8, dK9⟩ := KK3.out.of10
  obtain ⟨⟨cR0, cR1, cR2, cR3⟩, dR0, dR1, dR2, dR3⟩ := KR3.out.four
  obtain ⟨⟨cH0, cH1, cH2, cH3, cH4, cH5, cH6, cH7, cH8⟩, dH0, dH1, dH2, dH3, dH4, dH5, dH6, dH7, dH8⟩ := KH3.out.of9
  go_wp2_with fail
  refine bodyPost_ret (v := .tuple #[.agg #[.bool p.u, .int .u64 (n64 p.k), .int .u64 (n64 p.l), .slice a p.rs.length c], .bool true]) (by simp [results, Tryz.results9, go_sem, cR0, cR1, cR2, cR3]) rfl ⟨a, c, rfl, own_down (own_set (own_set (own_set (own_set O.out _ _ lR _) _ _ lR _) _ _ lR _) _ _ lR _) hz, hn, (((B3.out.setCell l_R _).setCell l_R _).setCell l_R _).setCell l_R _⟩

set_option maxRecDepth 100000 in
set_option maxHeartbeats 4000000 in
theorem secNowTwoI (e : Int) (p q : M) (w : World) (hp : p.On w) (hq : q.On w) (fp : p.Fit) :
    Calls Tryz.prog 9 #[.agg #[.int .i64 e, .bool p.u, .int .u64 (n64 p.k), .int .u64 (n64 p.l), .slice p.a p.rs.length p.c, .bool q.u, .int .u64 (n64 q.k), .int .u64 (n64 q.l), .slice q.a q.rs.length q.c, .bool true], .int .i64 e] w (SecI p w) := by
  have HP := Lib.hid hp
  have HQ := Lib.hid hq
  clear hp hq
  have ha1 : ∀ w : World, (Instr.typeAssert (.iface 58 (.agg #[.int .i64 e, .bool p.u, .int .u64 (n64 p.k), .int .u64 (n64 p.l), .slice p.a p.rs.length p.c, .bool q.u, .int .u64 (n64 q.k), .int .u64 (n64 q.l), .slice q.a q.rs.length q.c])) 52 55 true).run Tryz.prog w = .ok (.tuple #[.agg #[.int .i64 0, .bool false, .int .u64 0, .int .u64 0, .slice none 0 0, .bool false, .int .u64 0, .int .u64 0, .slice none 0 0], .bool false]) w := fun _ => by kernel_rfl
  have ha2 : ∀ w : World, (Instr.typeAssert (.iface 58 (.agg #[.int .i64 e, .bool p.u, .int .u64 (n64 p.k), .int .u64 (n64 p.l), .slice p.a p.rs.length p.c, .bool q.u, .int .u64 (n64 q.k), .int .u64 (n64 q.l), .slice q.a q.rs.length q.c])) 52 58 true).run Tryz.prog w = .ok (.tuple #[.agg #[.int .i64 e, .bool p.u, .int .u64 (n64 p.k), .int .u64 (n64 p.l), .slice p.a p.rs.length p.c, .bool q.u, .int .u64 (n64 q.k), .int .u64 (n64 q.l), .slice q.a q.rs.length q.c], .bool true]) w := fun _ => by kernel_rfl
  go_enter Tryz.func9, Tryz.ntmps9
  have B0 := Lib.hid (show Below w.heap.size w ((w.alloc (.cells #[.int .i64 e, .bool p.u, .int .u64 (n64 p.k), .int .u64 (n64 p.l), .slice p.a p.rs.length p.c, .bool q.u, .int .u64 (n64 q.k), .int .u64 (n64 q.l), .slice q.a q.rs.length q.c, .bool true] 29)).alloc (.cells #[.bool false, .int .u64 0, .int .u64 0, .slice none 0 0] 27)) from (((Below.refl _ w).alloc (by simp) _).alloc (by simp) _))
  have KK0 := Lib.hid (show Blk ((w.alloc (.cells #[.int .i64 e, .bool p.u, .int .u64 (n64 p.k), .int .u64 (n64 p.l), .slice p.a p.rs.length p.c, .bool q.u, .int .u64 (n64 q.k), .int .u64 (n64 q.l), .slice q.a q.rs.length q.c, .bool true] 29)).alloc (.cells #[.bool false, .int .u64 0, .int .u64 0, .slice none 0 0] 27)) (w.heap.size) [.int .i64 e, .bool p.u, .int .u64 (n64 p.k), .int .u64 (n64 p.l), .slice p.a p.rs.length p.c, .bool q.u, .int .u64 (n64 q.k), .int .u64 (n64 q.l), .slice q.a q.rs.length q.c, .bool true] from (Blk.new w [.int .i64 e, .bool p.u, .int .u64 (n64 p.k), .int .u64 (n64 p.l), .slice p.a p.rs.length p.c, .bool q.u, .int .u64 (n64 q.k), .int .u64 (n64 q.l), .slice q.a q.rs.length q.c, .bool true] 29).alloc _)
  have s1 : (w.alloc (.cells #[.int .i64 e, .bool p.u, .int .u64 (n64 p.k), .int .u64 (n64 p.l), .slice p.a p.rs.length p.c, .bool q.u, .int .u64 (n64 q.k), .int .u64 (n64 q.l), .slice q.a q.rs.length q.c, .bool true] 29)).heap.size = w.heap.size + 1 := by simp
  have KR0 := Lib.hid (show Blk ((w.alloc (.cells #[.int .i64 e, .bool p.u, .int .u64 (n64 p.k), .int .u64 (n64 p.l), .slice p.a p.rs.length p.c, .bool q.u, .int .u64 (n64 q.k), .int .u64 (n64 q.l), .slice q.a q.rs.length q.c, .bool true] 29)).alloc (.cells #[.bool false, .int .u64 0, .int .u64 0, .slice none 0 0] 27)) (w.heap.size + 1) [.bool false, .int .u64 0, .int .u64 0, .slice none 0 0] by have h0 := Blk.new (w.alloc (.cells #[.int .i64 e, .bool p.u, .int .u64 (n64 p.k), .int .u64 (n64 p.l), .slice p.a p.rs.length p.c, .bool q.u, .int .u64 (n64 q.k), .int .u64 (n64 q.l), .slice q.a q.rs.length q.c, .bool true] 29)) [.bool false, .int .u64 0, .int .u64 0, .slice none 0 0] 27; rwa [s1] at h0)
  have n_K_R : w.heap.size ≠ w.heap.size + 1 := by omega
  clear s1
  have Hp0 := Lib.hid (show p.On ((w.alloc (.cells #[.int .i64 e, .bool p.u, .int .u64 (n64 p.k), .int .u64 (n64 p.l), .slice p.a p.rs.length p.c, .bool q.u, .int .u64 (n64 q.k), .int .u64 (n64 q.l), .slice q.a q.rs.length q.c, .bool true] 29)).alloc (.cells #[.bool false, .int .u64 0, .int .u64 0, .slice none 0 0] 27)) from HP.out.below B0.out)
  clear HP
  have Hq0 := Lib.hid (show q.On ((w.alloc (.cells #[.int .i64 e, .bool p.u, .int .u64 (n64 p.k), .int .u64 (n64 p.l), .slice p.a p.rs.length p.c, .bool q.u, .int .u64 (n64 q.k), .int .u64 (n64 q.l), .slice q.a q.rs.length q.c, .bool true] 29)).alloc (.cells #[.bool false, .int .u64 0, .int .u64 0, .slice none 0 0] 27)) from HQ.out.below B0.out)
  clear HQ
  go_wp2_with fail
  change Calls _ _ _ ((w.alloc (.cells #[.int .i64 e, .bool p.u, .int .u64 (n64 p.k), .int .u64 (n64 p.l), .slice p.a p.rs.length p.c, .bool q.u, .int .u64 (n64 q.k), .int .u64 (n64 q.l), .slice q.a q.rs.length q.c, .bool true] 29)).alloc (.cells #[.bool false, .int .u64 0, .int .u64 0, .slice none 0 0] 27)) _
  generalize (w.alloc (.cells #[.int .i64 e, .bool p.u, .int .u64 (n64 p.k), .int .u64 (n64 p.l), .slice p.a p.rs.length p.c, .bool q.u, .int .u64 (n64 q.k), .int .u64 (n64 q.l), .slice q.a q.rs.length q.c, .bool true] 29)).alloc (.cells #[.bool false, .int .u64 0, .int .u64 0, .slice none 0 0] 27) = v0 at B0 KK0 KR0 Hp0 Hq0 ⊢
  generalize hh_R : w.heap.size + 1 = g_R at KR0 n_K_R ⊢
  generalize hh_K : w.heap.size = g_K at KK0 n_K_R ⊢
  have l_K : w.heap.size ≤ g_K := by omega
  have l_R : w.heap.size ≤ g_R := by omega
  clear hh_K hh_R
  refine (heldTwoI e p q _).mono ?_
  rintro e v1 ⟨rfl, hb⟩
  have B1 := Lib.hid (B0.out.trans (hb.mono B0.out.size))
  have KK1 := Lib.hid (KK0.out.below hb)
  have KR1 := Lib.hid (KR0.out.below hb)
  have Hp1 := Lib.hid (Hp0.out.below hb)
  have Hq1 := Lib.hid (Hq0.out.below hb)
  clear hb B0 KK0 KR0 Hp0 Hq0
  have KHn := Lib.hid (Blk.new v1 [.int .i64 e, .bool p.u, .int .u64 (n64 p.k), .int .u64 (n64 p.l), .slice p.a p.rs.length p.c, .bool q.u, .int .u64 (n64 q.k), .int .u64 (n64 q.l), .slice q.a q.rs.length q.c] 58)
  have n_K_H : g_K ≠ v1.heap.size := by have h1 := KK1.out.lt; omega
  have n_R_H : g_R ≠ v1.heap.size := by have h1 := KR1.out.lt; omega
  have Bn := Lib.hid (B1.out.alloc B1.out.size (.cells #[.int .i64 e, .bool p.u, .int .u64 (n64 p.k), .int .u64 (n64 p.l), .slice p.a p.rs.length p.c, .bool q.u, .int .u64 (n64 q.k), .int .u64 (n64 q.l), .slice q.a q.rs.length q.c] 58))
  have KKn := Lib.hid (KK1.out.alloc (.cells #[.int .i64 e, .bool p.u, .int .u64 (n64 p.k), .int .u64 (n64 p.l), .slice p.a p.rs.length p.c, .bool q.u, .int .u64 (n64 q.k), .int .u64 (n64 q.l), .slice q.a q.rs.length q.c] 58))
  have KRn := Lib.hid (KR1.out.alloc (.cells #[.int .i64 e, .bool p.u, .int .u64 (n64 p.k), .int .u64 (n64 p.l), .slice p.a p.rs.length p.c, .bool q.u, .int .u64 (n64 q.k), .int .u64 (n64 q.l), .slice q.a q.rs.length q.c] 58))
  have Hpn := Lib.hid (Hp1.out.alloc (.cells #[.int .i64 e, .bool p.u, .int .u64 (n64 p.k), .int .u64 (n64 p.l), .slice p.a p.rs.length p.c, .bool q.u, .int .u64 (n64 q.k), .int .u64 (n64 q.l), .slice q.a q.rs.length q.c] 58))
  have Hqn := Lib.hid (Hq1.out.alloc (.cells #[.int .i64 e, .bool p.u, .int .u64 (n64 p.k), .int .u64 (n64 p.l), .slice p.a p.rs.length p.c, .bool q.u, .int .u64 (n64 q.k), .int .u64 (n64 q.l), .slice q.a q.rs.length q.c] 58))
  clear B1 KK1 KR1 Hp1 Hq1
  obtain ⟨⟨cK0, cK1, cK2, cK3, cK4, cK5, cK6, cK7, cK8, cK9⟩, dK0, dK1, dK2, dK3, dK4, dK5, dK6, dK7, dK8, dK9⟩ := KKn.out.of10
  obtain ⟨⟨cR0, cR1, cR2, cR3⟩, dR0, dR1, dR2, dR3⟩ := KRn.out.four
  go_wp2_with fail
  clear cK0 cK1 cK2 cK3 cK4 cK5 cK6 cK7 cK8 cK9 dK0 dK1 dK2 dK3 dK4 dK5 dK6 dK7 dK8 dK9 cR0 cR1 cR2 cR3 dR0 dR1 dR2 dR3
  change Calls _ _ _ (v1.alloc (.cells #[.int .i64 e, .bool p.u, .int .u64 (n64 p.k), .int .u64 (n64 p.l), .slice p.a p.rs.length p.c, .bool q.u, .int .u64 (n64 q.k), .int .u64 (n64 q.l), .slice q.a q.rs.length q.c] 58)) _
  generalize v1.alloc (.cells #[.int .i64 e, .bool p.u, .int .u64 (n64 p.k), .int .u64 (n64 p.l), .slice p.a p.rs.length p.c, .bool q.u, .int .u64 (n64 q.k), .int .u64 (n64 q.l), .slice q.a q.rs.length q.c] 58) = v2 at KHn Bn KKn KRn Hpn Hqn ⊢
  generalize v1.heap.size = g_H at KHn n_K_H n_R_H ⊢
  clear v1
  have KK2 := KKn
  clear KKn
  have KR2 := KRn
  clear KRn
  have KH2 := KHn
  clear KHn
  have Hp2 := Hpn
  clear Hpn
  have Hq2 := Hqn
  clear Hqn
  have B2 := Bn
  clear Bn
  refine (copyMacI p _ Hp2.out fp.1).mono ?_
  rintro e v3 ⟨a, c, rfl, ho, hn, hb⟩
  have O := Lib.hid ho
  clear ho
  have hz := B2.out.size
  have lR := KR2.out.lt
  have B3 := Lib.hid (B2.out.trans (hb.mono B2.out.size))
  have KK3 := Lib.hid (KK2.out.below hb)
  have KR3 := Lib.hid (KR2.out.below hb)
  have KH3 := Lib.hid (KH2.out.below hb)
  have Hp3 := Lib.hid (Hp2.out.below hb)
  have Hq3 := Lib.hid (Hq2.out.below hb)
  clear hb B2 KK2 KR2 KH2 Hp2 Hq2
  obtain ⟨⟨cK0, cK1, cK2, cK3, cK4, cK5, cK6, cK7, cK8, cK9⟩, dK0, dK1, dK2, dK3, dK4, dK5, dK6, dK7, dK8, dK9⟩ := KK3.out.of10
  obtain ⟨⟨cR0, cR1, cR2, cR3⟩, dR0, dR1, dR2, dR3⟩ := KR3.out.four
  obtain ⟨⟨cH0, cH1, cH2, cH3, cH4, cH5, cH6, cH7, cH8⟩, dH0, dH1, dH2, dH3, dH4, dH5, dH6, dH7, dH8⟩ := KH3.out.of9
  go_wp2_with fail
  refine bodyPost_ret (v := .tuple #[.agg #[.bool p.u, .int .u64 (n64 p.k), .int .u64 (n64 p.l), .slice a p.rs.length c], .bool true]) (by simp [results, Tryz.results9, go_sem, cR0, cR1, cR2, cR3]) rfl ⟨a, c, rfl, own_down (own_set (own_set (own_set (own_set O.out _ _ lR _) _ _ lR _) _ _ lR _) _ _ lR _) hz, hn, (((B3.out.setCell l_R _).setCell l_R _).setCell l_R _).setCell l_R _⟩

set_option maxRecDepth 100000 in
set_option maxHeartbeats 4000000 in
theorem secBefI (e n : Int) (p q : M) (w : World) (hp : p.On w) (hq : q.On w) (fq : q.Fit) (hn : (n == e) = false) (hw : n = wrap64 (e - 1)) :
    Calls Tryz.prog 9 #[.agg #[.int .i64 e, .bool p.u, .int .u64 (n64 p.k), .int .u64 (n64 p.l), .slice p.a p.rs.length p.c, .bool q.u, .int .u64 (n64 q.k), .int .u64 (n64 q.l), .slice q.a q.rs.length q.c, .bool true], .int .i64 n] w (SecI q w) := by
  have HP := Lib.hid hp
  have HQ := Lib.hid hq
  clear hp hq
  have ha1 : ∀ w : World, (Instr.typeAssert (.iface 58 (.agg #[.int .i64 e, .bool p.u, .int .u64 (n64 p.k), .int .u64 (n64 p.l), .slice p.a p.rs.length p.c, .bool q.u, .int .u64 (n64 q.k), .int .u64 (n64 q.l), .slice q.a q.rs.length q.c])) 52 55 true).run Tryz.prog w = .ok (.tuple #[.agg #[.int .i64 0, .bool false, .int .u64 0, .int .u64 0, .slice none 0 0, .bool false, .int .u64 0, .int .u64 0, .slice none 0 0], .bool false]) w := fun _ => by kernel_rfl
  have ha2 : ∀ w : World, (Instr.typeAssert (.iface 58 (.agg #[.int .i64 e, .bool p.u, .int .u64 (n64 p.k), .int .u64 (n64 p.l), .slice p.a p.rs.length p.c, .bool q.u, .int .u64 (n64 q.k), .int .u64 (n64 q.l), .slice q.a q.rs.length q.c])) 52 58 true).run Tryz.prog w = .ok (.tuple #[.agg #[.int .i64 e, .bool p.u, .int .u64 (n64 p.k), .int .u64 (n64 p.l), .slice p.a p.rs.length p.c, .bool q.u, .int .u64 (n64 q.k), .int .u64 (n64 q.l), .slice q.a q.rs.length q.c], .bool true]) w := fun _ => by kernel_rfl
  go_enter Tryz.func9, Tryz.ntmps9
  have B0 := Lib.hid (show Below w.heap.size w ((w.alloc (.cells #[.int .i64 e, .bool p.u, .int .u64 (n64 p.k), .int .u64 (n64 p.l), .slice p.a p.rs.length p.c, .bool q.u, .int .u64 (n64 q.k), .int .u64 (n64 q.l), .slice q.a q.rs.length q.c, .bool true] 29)).alloc (.cells #[.bool false, .int .u64 0, .int .u64 0, .slice none 0 0] 27)) from (((Below.refl _ w).alloc (by simp) _).alloc (by simp) _))
  have KK0 := Lib.hid (show Blk ((w.alloc (.cells #[.int .i64 e, .bool p.u, .int .u64 (n64 p.k), .int .u64 (n64 p.l), .slice p.a p.rs.length p.c, .bool q.u, .int .u64 (n64 q.k), .int .u64 (n64 q.l), .slice q.a q.rs.length q.c, .bool true] 29)).alloc (.cells #[.bool false, .int .u64 0, .int .u64 0, .slice none 0 0] 27)) (w.heap.size) [.int .i64 e, .bool p.u, .int .u64 (n64 p.k), .int .u64 (n64 p.l), .slice p.a p.rs.length p.c, .bool q.u, .int .u64 (n64 q.k), .int .u64 (n64 q.l), .slice q.a q.rs.length q.c, .bool true] from (Blk.new w [.int .i64 e, .bool p.u, .int .u64 (n64 p.k), .int .u64 (n64 p.l), .slice p.a p.rs.length p.c, .bool q.u, .int .u64 (n64 q.k), .int .u64 (n64 q.l), .slice q.a q.rs.length q.c, .bool true] 29).alloc _)
  have s1 : (w.alloc (.cells #[.int .i64 e, .bool p.u, .int .u64 (n64 p.k), .int .u64 (n64 p.l), .slice p.a p.rs.length p.c, .bool q.u, .int .u64 (n64 q.k), .int .u64 (n64 q.l), .slice q.a q.rs.length q.c, .bool true] 29)).heap.size = w.heap.size + 1 := by simp
  have KR0 := Lib.hid (show Blk ((w.alloc (.cells #[.int .i64 e, .bool p.u, .int .u64 (n64 p.k), .int .u64 (n64 p.l), .slice p.a p.rs.length p.c, .bool q.u, .int .u64 (n64 q.k), .int .u64 (n64 q.l), .slice q.a q.rs.length q.c, .bool true] 29)).alloc (.cells #[.bool false, .int .u64 0, .int .u64 0, .slice none 0 0] 27)) (w.heap.size + 1) [.bool false, .int .u64 0, .int .u64 0, .slice none 0 0] by have h0 := Blk.new (w.alloc (.cells #[.int .i64 e, .bool p.u, .int .u64 (n64 p.k), .int .u64 (n64 p.l), .slice p.a p.rs.length p.c, .bool q.u, .int .u64 (n64 q.k), .int .u64 (n64 q.l), .slice q.a q.rs.length q.c, .bool true] 29)) [.bool false, .int .u64 0, .int .u64 0, .slice none 0 0] 27; rwa [s1] at h0)
  have n_K_R : w.heap.size ≠ w.heap.size + 1 := by omega
  clear s1
  have Hp0 := Lib.hid (show p.On ((w.alloc (.cells #[.int .i64 e, .bool p.u, .int .u64 (n64 p.k), .int .u64 (n64 p.l), .slice p.a p.rs.length p.c, .bool q.u, .int .u64 (n64 q.k), .int .u64 (n64 q.l), .slice q.a q.rs.length q.c, .bool true] 29)).alloc (.cells #[.bool false, .int .u64 0, .int .u64 0, .slice none 0 0] 27)) from HP.out.below B0.out)
  clear HP
  have Hq0 := Lib.hid (show q.On ((w.alloc (.cells #[.int .i64 e, .bool p.u, .int .u64 (n64 p.k), .int .u64 (n64 p.l), .slice p.a p.rs.length p.c, .bool q.u, .int .u64 (n64 q.k), .int .u64 (n64 q.l), .slice q.a q.rs.length q.c, .bool true] 29)).alloc (.cells #[.bool false, .int .u64 0, .int .u64 0, .slice none 0 0] 27)) from HQ.out.below B0.out)
  clear HQ
  go_wp2_with fail
  change Calls _ _ _ ((w.alloc (.cells #[.int .i64 e, .bool p.u, .int .u64 (n64 p.k), .int .u64 (n64 p.l), .slice p.a p.rs.length p.c, .bool q.u, .int .u64 (n64 q.k), .int .u64 (n64 q.l), .slice q.a q.rs.length q.c, .bool true] 29)).alloc (.cells #[.bool false, .int .u64 0, .int .u64 0, .slice none 0 0] 27)) _
  generalize (w.alloc (.cells #[.int .i64 e, .bool p.u, .int .u64 (n64 p.k), .int .u64 (n64 p.l), .slice p.a p.rs.length p.c, .bool q.u, .int .u64 (n64 q.k), .int .u64 (n64 q.l), .slice q.a q.rs.length q.c, .bool true] 29)).alloc (.cells #[.bool false, .int .u64 0, .int .u64 0, .slice none 0 0] 27) = v0 at B0 KK0 KR0 Hp0 Hq0 ⊢
  generalize hh_R : w.heap.size + 1 = g_R at KR0 n_K_R ⊢
  generalize hh_K : w.heap.size = g_K at KK0 n_K_R ⊢
  have l_K : w.heap.size ≤ g_K := by omega
  have l_R : w.heap.size ≤ g_R := by omega
  clear hh_K hh_R
  refine (heldTwoI e p q _).mono ?_
  rintro e v1 ⟨rfl, hb⟩
  have B1 := Lib.hid (B0.out.trans (hb.mono B0.out.size))
  have KK1 := Lib.hid (KK0.out.below hb)
  have KR1 := Lib.hid (KR0.out.below hb)
  have Hp1 := Lib.hid (Hp0.out.below hb)
  have Hq1 := Lib.hid (Hq0.out.below hb)
  clear hb B0 KK0 KR0 Hp0 Hq0
  have KHn := Lib.hid (Blk.new v1 [.int .i64 e, .bool p.u, .int .u64 (n64 p.k), .int .u64 (n64 p.l), .slice p.a p.rs.length p.c, .bool q.u, .int .u64 (n64 q.k), .int .u64 (n64 q.l), .slice q.a q.rs.length q.c] 58)
  have n_K_H : g_K ≠ v1.heap.size := by have h1 := KK1.out.lt; omega
  have n_R_H : g_R ≠ v1.heap.size := by have h1 := KR1.out.lt; omega
  have Bn := Lib.hid (B1.out.alloc B1.out.size (.cells #[.int .i64 e, .bool p.u, .int .u64 (n64 p.k), .int .u64 (n64 p.l), .slice p.a p.rs.length p.c, .bool q.u, .int .u64 (n64 q.k), .int .u64 (n64 q.l), .slice q.a q.rs.length q.c] 58))
  have KKn := Lib.hid (KK1.out.alloc (.cells #[.int .i64 e, .bool p.u, .int .u64 (n64 p.k), .int .u64 (n64 p.l), .slice p.a p.rs.length p.c, .bool q.u, .int .u64 (n64 q.k), .int .u64 (n64 q.l), .slice q.a q.rs.length q.c] 58))
  have KRn := Lib.hid (KR1.out.alloc (.cells #[.int .i64 e, .bool p.u, .int .u64 (n64 p.k), .int .u64 (n64 p.l), .slice p.a p.rs.length p.c, .bool q.u, .int .u64 (n64 q.k), .int .u64 (n64 q.l), .slice q.a q.rs.length q.c] 58))
  have Hpn := Lib.hid (Hp1.out.alloc (.cells #[.int .i64 e, .bool p.u, .int .u64 (n64 p.k), .int .u64 (n64 p.l), .slice p.a p.rs.length p.c, .bool q.u, .int .u64 (n64 q.k), .int .u64 (n64 q.l), .slice q.a q.rs.length q.c] 58))
  have Hqn := Lib.hid (Hq1.out.alloc (.cells #[.int .i64 e, .bool p.u, .int .u64 (n64 p.k), .int .u64 (n64 p.l), .slice p.a p.rs.length p.c, .bool q.u, .int .u64 (n64 q.k), .int .u64 (n64 q.l), .slice q.a q.rs.length q.c] 58))
  clear B1 KK1 KR1 Hp1 Hq1
  obtain ⟨⟨cK0, cK1, cK2, cK3, cK4, cK5, cK6, cK7, cK8, cK9⟩, dK0, dK1, dK2, dK3, dK4, dK5, dK6, dK7, dK8, dK9⟩ := KKn.out.of10
  obtain ⟨⟨cR0, cR1, cR2, cR3⟩, dR0, dR1, dR2, dR3⟩ := KRn.out.four
  go_wp2_with fail
  clear cK0 cK1 cK2 cK3 cK4 cK5 cK6 cK7 cK8 cK9 dK0 dK1 dK2 dK3 dK4 dK5 dK6 dK7 dK8 dK9 cR0 cR1 cR2 cR3 dR0 dR1 dR2 dR3
  change Calls _ _ _ (v1.alloc (.cells #[.int .i64 e, .bool p.u, .int .u64 (n64 p.k), .int .u64 (n64 p.l), .slice p.a p.rs.length p.c, .bool q.u, .int .u64 (n64 q.k), .int .u64 (n64 q.l), .slice q.a q.rs.length q.c] 58)) _
  generalize v1.alloc (.cells #[.int .i64 e, .bool p.u, .int .u64 (n64 p.k), .int .u64 (n64 p.l), .slice p.a p.rs.length p.c, .bool q.u, .int .u64 (n64 q.k), .int .u64 (n64 q.l), .slice q.a q.rs.length q.c] 58) = v2 at KHn Bn KKn KRn Hpn Hqn ⊢
  generalize v1.heap.size = g_H at KHn n_K_H n_R_H ⊢
  clear v1
  have KK2 := KKn
  clear KKn
  have KR2 := KRn
  clear KRn
  have KH2 := KHn
  clear KHn
  have Hp2 := Hpn
  clear Hpn
  have Hq2 := Hqn
  clear Hqn
  have B2 := Bn
  clear Bn
  refine (copyMacI q _ Hq2.out fq.1).mono ?_
  rintro e v3 ⟨a, c, rfl, ho, hn, hb⟩
  have O := Lib.hid ho
  clear ho
  have hz := B2.out.size
  have lR := KR2.out.lt
  have B3 := Lib.hid (B2.out.trans (hb.mono B2.out.size))
  have KK3 := Lib.hid (KK2.out.below hb)
  have KR3 := Lib.hid (KR2.out.below hb)
  have KH3 := Lib.hid (KH2.out.below hb)
  have Hp3 := Lib.hid (Hp2.out.below hb)
  have Hq3 := Lib.hid (Hq2.out.below hb)
  clear hb B2 KK2 KR2 KH2 Hp2 Hq2
  obtain ⟨⟨cK0, cK1, cK2, cK3, cK4, cK5, cK6, cK7, cK8, cK9⟩, dK0, dK1, dK2, dK3, dK4, dK5, dK6, dK7, dK8, dK9⟩ := KK3.out.of10
  obtain ⟨⟨cR0, cR1, cR2, cR3⟩, dR0, dR1, dR2, dR3⟩ := KR3.out.four
  obtain ⟨⟨cH0, cH1, cH2, cH3, cH4, cH5, cH6, cH7, cH8⟩, dH0, dH1, dH2, dH3, dH4, dH5, dH6, dH7, dH8⟩ := KH3.out.of9
  go_wp2_with fail
  refine bodyPost_ret (v := .tuple #[.agg #[.bool q.u, .int .u64 (n64 q.k), .int .u64 (n64 q.l), .slice a q.rs.length c], .bool true]) (by simp [results, Tryz.results9, go_sem, cR0, cR1, cR2, cR3]) rfl ⟨a, c, rfl, own_down (own_set (own_set (own_set (own_set O.out _ _ lR _) _ _ lR _) _ _ lR _) _ _ lR _) hz, hn, (((B3.out.setCell l_R _).setCell l_R _).setCell l_R _).setCell l_R _⟩

set_option maxRecDepth 100000 in
set_option maxHeartbeats 4000000 in
theorem secNoOneI (e n : Int) (p q : M) (w : World)  (hn : (n == e) = false) :
    Calls Tryz.prog 9 #[.agg #[.int .i64 e, .bool p.u, .int .u64 (n64 p.k), .int .u64 (n64 p.l), .slice p.a p.rs.length p.c, .bool q.u, .int .u64 (n64 q.k), .int .u64 (n64 q.l), .slice q.a q.rs.length q.c, .bool false], .int .i64 n] w (SecNo w) := by
  have ha1 : ∀ w : World, (Instr.typeAssert (.iface 55 (.agg #[.int .i64 e, .bool p.u, .int .u64 (n64 p.k), .int .u64 (n64 p.l), .slice p.a p.rs.length p.c, .bool q.u, .int .u64 (n64 q.k), .int .u64 (n64 q.l), .slice q.a q.rs.length q.c])) 52 55 true).run Tryz.prog w = .ok (.tuple #[.agg #[.int .i64 e, .bool p.u, .int .u64 (n64 p.k), .int .u64 (n64 p.l), .slice p.a p.rs.length p.c, .bool q.u, .int .u64 (n64 q.k), .int .u64 (n64 q.l), .slice q.a q.rs.length q.c], .bool true]) w := fun _ => by kernel_rfl
  go_enter Tryz.func9, Tryz.ntmps9
  have B0 := Lib.hid (show Below w.heap.size w ((w.alloc (.cells #[.int .i64 e, .bool p.u, .int .u64 (n64 p.k), .int .u64 (n64 p.l), .slice p.a p.rs.length p.c, .bool q.u, .int .u64 (n64 q.k), .int .u64 (n64 q.l), .slice q.a q.rs.length q.c, .bool false] 29)).alloc (.cells #[.bool false, .int .u64 0, .int .u64 0, .slice none 0 0] 27)) from (((Below.refl _ w).alloc (by simp) _).alloc (by simp) _))
  have KK0 := Lib.hid (show Blk ((w.alloc (.cells #[.int .i64 e, .bool p.u, .int .u64 (n64 p.k), .int .u64 (n64 p.l), .slice p.a p.rs.length p.c, .bool q.u, .int .u64 (n64 q.k), .int .u64 (n64 q.l), .slice q.a q.rs.length q.c, .bool false] 29)).alloc (.cells #[.bool false, .int .u64 0, .int .u64 0, .slice none 0 0] 27)) (w.heap.size) [.int .i64 e, .bool p.u, .int .u64 (n64 p.k), .int .u64 (n64 p.l), .slice p.a p.rs.length p.c, .bool q.u, .int .u64 (n64 q.k), .int .u64 (n64 q.l), .slice q.a q.rs.length q.c, .bool false] from (Blk.new w [.int .i64 e, .bool p.u, .int .u64 (n64 p.k), .int .u64 (n64 p.l), .slice p.a p.rs.length p.c, .bool q.u, .int .u64 (n64 q.k), .int .u64 (n64 q.l), .slice q.a q.rs.length q.c, .bool false] 29).alloc _)
  have s1 : (w.alloc (.cells #[.int .i64 e, .bool p.u, .int .u64 (n64 p.k), .int .u64 (n64 p.l), .slice p.a p.rs.length p.c, .bool q.u, .int .u64 (n64 q.k), .int .u64 (n64 q.l), .slice q.a q.rs.length q.c, .bool false] 29)).heap.size = w.heap.size + 1 := by simp
  have KR0 := Lib.hid (show Blk ((w.alloc (.cells #[.int .i64 e, .bool p.u, .int .u64 (n64 p.k), .int .u64 (n64 p.l), .slice p.a p.rs.length p.c, .bool q.u, .int .u64 (n64 q.k), .int .u64 (n64 q.l), .slice q.a q.rs.length q.c, .bool false] 29)).alloc (.cells #[.bool false, .int .u64 0, .int .u64 0, .slice none 0 0] 27)) (w.heap.size + 1) [.bool false, .int .u64 0, .int .u64 0, .slice none 0 0] by have h0 := Blk.new (w.alloc (.cells #[.int .i64 e, .bool p.u, .int .u64 (n64 p.k), .int .u64 (n64 p.l), .slice p.a p.rs.length p.c, .bool q.u, .int .u64 (n64 q.k), .int .u64 (n64 q.l), .slice q.a q.rs.length q.c, .bool false] 29)) [.bool false, .int .u64 0, .int .u64 0, .slice none 0 0] 27; rwa [s1] at h0)
  have n_K_R : w.heap.size ≠ w.heap.size + 1 := by omega
  clear s1
  go_wp2_with fail
  change Calls _ _ _ ((w.alloc (.cells #[.int .i64 e, .bool p.u, .int .u64 (n64 p.k), .int .u64 (n64 p.l), .slice p.a p.rs.length p.c, .bool q.u, .int .u64 (n64 q.k), .int .u64 (n64 q.l), .slice q.a q.rs.length q.c, .bool false] 29)).alloc (.cells #[.bool false, .int .u64 0, .int .u64 0, .slice none 0 0] 27)) _
  generalize (w.alloc (.cells #[.int .i64 e, .bool p.u, .int .u64 (n64 p.k), .int .u64 (n64 p.l), .slice p.a p.rs.length p.c, .bool q.u, .int .u64 (n64 q.k), .int .u64 (n64 q.l), .slice q.a q.rs.length q.c, .bool false] 29)).alloc (.cells #[.bool false, .int .u64 0, .int .u64 0, .slice none 0 0] 27) = v0 at B0 KK0 KR0 ⊢
  generalize hh_R : w.heap.size + 1 = g_R at KR0 n_K_R ⊢
  generalize hh_K : w.heap.size = g_K at KK0 n_K_R ⊢
  have l_K : w.heap.size ≤ g_K := by omega
  have l_R : w.heap.size ≤ g_R := by omega
  clear hh_K hh_R
  refine (heldOneI e p q _).mono ?_
  rintro e v1 ⟨rfl, hb⟩
  have B1 := Lib.hid (B0.out.trans (hb.mono B0.out.size))
  have KK1 := Lib.hid (KK0.out.below hb)
  have KR1 := Lib.hid (KR0.out.below hb)
  clear hb B0 KK0 KR0
  have KHn := Lib.hid (Blk.new v1 [.int .i64 e, .bool p.u, .int .u64 (n64 p.k), .int .u64 (n64 p.l), .slice p.a p.rs.length p.c, .bool q.u, .int .u64 (n64 q.k), .int .u64 (n64 q.l), .slice q.a q.rs.length q.c] 55)
  have n_K_H : g_K ≠ v1.heap.size := by have h1 := KK1.out.lt; omega
  have n_R_H : g_R ≠ v1.heap.size := by have h1 := KR1.out.lt; omega
  have Bn := Lib.hid (B1.out.alloc B1.out.size (.cells #[.int .i64 e, .bool p.u, .int .u64 (n64 p.k), .int .u64 (n64 p.l), .slice p.a p.rs.length p.c, .bool q.u, .int .u64 (n64 q.k), .int .u64 (n64 q.l), .slice q.a q.rs.length q.c] 55))
  have KKn := Lib.hid (KK1.out.alloc (.cells #[.int .i64 e, .bool p.u, .int .u64 (n64 p.k), .int .u64 (n64 p.l), .slice p.a p.rs.length p.c, .bool q.u, .int .u64 (n64 q.k), .int .u64 (n64 q.l), .slice q.a q.rs.length q.c] 55))
  have KRn := Lib.hid (KR1.out.alloc (.cells #[.int .i64 e, .bool p.u, .int .u64 (n64 p.k), .int .u64 (n64 p.l), .slice p.a p.rs.length p.c, .bool q.u, .int .u64 (n64 q.k), .int .u64 (n64 q.l), .slice q.a q.rs.length q.c] 55))
  clear B1 KK1 KR1
  obtain ⟨⟨cK0, cK1, cK2, cK3, cK4, cK5, cK6, cK7, cK8, cK9⟩, dK0, dK1, dK2, dK3, dK4, dK5, dK6, dK7, dK8, dK9⟩ := KKn.out.of10
  obtain ⟨⟨cR0, cR1, cR2, cR3⟩, dR0, dR1, dR2, dR3⟩ := KRn.out.four
  go_upto_region 13 with fail
  clear cK0 cK1 cK2 cK3 cK4 cK5 cK6 cK7 cK8 cK9 dK0 dK1 dK2 dK3 dK4 dK5 dK6 dK7 dK8 dK9 cR0 cR1 cR2 cR3 dR0 dR1 dR2 dR3
  generalize v1.alloc (.cells #[.int .i64 e, .bool p.u, .int .u64 (n64 p.k), .int .u64 (n64 p.l), .slice p.a p.rs.length p.c, .bool q.u, .int .u64 (n64 q.k), .int .u64 (n64 q.l), .slice q.a q.rs.length q.c] 55) = v2 at KHn Bn KKn KRn ⊢
  generalize v1.heap.size = g_H at KHn n_K_H n_R_H ⊢
  clear v1
  have KK2 := KKn
  clear KKn
  have KR2 := KRn
  clear KRn
  have KH2 := KHn
  clear KHn
  have B2 := Bn
  clear Bn
  obtain ⟨⟨cK0, cK1, cK2, cK3, cK4, cK5, cK6, cK7, cK8, cK9⟩, dK0, dK1, dK2, dK3, dK4, dK5, dK6, dK7, dK8, dK9⟩ := KK2.out.of10
  obtain ⟨⟨cR0, cR1, cR2, cR3⟩, dR0, dR1, dR2, dR3⟩ := KR2.out.four
  obtain ⟨⟨cH0, cH1, cH2, cH3, cH4, cH5, cH6, cH7, cH8⟩, dH0, dH1, dH2, dH3, dH4, dH5, dH6, dH7, dH8⟩ := KH2.out.of9
  go_wp2_with fail
  refine bodyPost_ret (v := .tuple #[.agg #[.bool false, .int .u64 0, .int .u64 0, .slice none 0 0], .bool false]) (by simp [results, Tryz.results9, go_sem, cR0, cR1, cR2, cR3]) rfl ⟨rfl, (((B2.out.setCell l_R _).setCell l_R _).setCell l_R _).setCell l_R _⟩

set_option maxRecDepth 100000 in
set_option maxHeartbeats 4000000 in
theorem secNoTwoI (e n : Int) (p q : M) (w : World)  (hn : (n == e) = false) (hw : (n == wrap64 (e - 1)) = false) :
    Calls Tryz.prog 9 #[.agg #[.int .i64 e, .bool p.u, .int .u64 (n64 p.k), .int .u64 (n64 p.l), .slice p.a p.rs.length p.c, .bool q.u, .int .u64 (n64 q.k), .int .u64 (n64 q.l), .slice q.a q.rs.length q.c, .bool true], .int .i64 n] w (SecNo w) := by
  have ha1 : ∀ w : World, (Instr.typeAssert (.iface 58 (.agg #[.int .i64 e, .bool p.u, .int .u64 (n64 p.k), .int .u64 (n64 p.l), .slice p.a p.rs.length p.c, .bool q.u, .int .u64 (n64 q.k), .int .u64 (n64 q.l), .slice q.a q.rs.length q.c])) 52 55 true).run Tryz.prog w = .ok (.tuple #[.agg #[.int .i64 0, .bool false, .int .u64 0, .int .u64 0, .slice none 0 0, .bool false, .int .u64 0, .int .u64 0, .slice none 0 0], .bool false]) w := fun _ => by kernel_rfl
  have ha2 : ∀ w : World, (Instr.typeAssert (.iface 58 (.agg #[.int .i64 e, .bool p.u, .int .u64 (n64 p.k), .int .u64 (n64 p.l), .slice p.a p.rs.length p.c, .bool q.u, .int .u64 (n64 q.k), .int .u64 (n64 q.l), .slice q.a q.rs.length q.c])) 52 58 true).run Tryz.prog w = .ok (.tuple #[.agg #[.int .i64 e, .bool p.u, .int .u64 (n64 p.k), .int .u64 (n64 p.l), .slice p.a p.rs.length p.c, .bool q.u, .int .u64 (n64 q.k), .int .u64 (n64 q.l), .slice q.a q.rs.length q.c], .bool true]) w := fun _ => by kernel_rfl
  go_enter Tryz.func9, Tryz.ntmps9
  have B0 := Lib.hid (show Below w.heap.size w ((w.alloc (.cells #[.int .i64 e, .bool p.u, .int .u64 (n64 p.k), .int .u64 (n64 p.l), .slice p.a p.rs.length p.c, .bool q.u, .int .u64 (n64 q.k), .int .u64 (n64 q.l), .slice q.a q.rs.length q.c, .bool true] 29)).alloc (.cells #[.bool false, .int .u64 0, .int .u64 0, .slice none 0 0] 27)) from (((Below.refl _ w).alloc (by simp) _).alloc (by simp) _))
  have KK0 := Lib.hid (show Blk ((w.alloc (.cells #[.int .i64 e, .bool p.u, .int .u64 (n64 p.k), .int .u64 (n64 p.l), .slice p.a p.rs.length p.c, .bool q.u, .int .u64 (n64 q.k), .int .u64 (n64 q.l), .slice q.a q.rs.length q.c, .bool true] 29)).alloc (.cells #[.bool false, .int .u64 0, .int .u64 0, .slice none 0 0] 27)) (w.heap.size) [.int .i64 e, .bool p.u, .int .u64 (n64 p.k), .int .u64 (n64 p.l), .slice p.a p.rs.length p.c, .bool q.u, .int .u64 (n64 q.k), .int .u64 (n64 q.l), .slice q.a q.rs.length q.c, .bool true] from (Blk.new w [.int .i64 e, .bool p.u, .int .u64 (n64 p.k), .int .u64 (n64 p.l), .slice p.a p.rs.length p.c, .bool q.u, .int .u64 (n64 q.k), .int .u64 (n64 q.l), .slice q.a q.rs.length q.c, .bool true] 29).alloc _)
  have s1 : (w.alloc (.cells #[.int .i64 e, .bool p.u, .int .u64 (n64 p.k), .int .u64 (n64 p.l), .slice p.a p.rs.length p.c, .bool q.u, .int .u64 (n64 q.k), .int .u64 (n64 q.l), .slice q.a q.rs.length q.c, .bool true] 29)).heap.size = w.heap.size + 1 := by simp
  have KR0 := Lib.hid (show Blk ((w.alloc (.cells #[.int .i64 e, .bool p.u, .int .u64 (n64 p.k), .int .u64 (n64 p.l), .slice p.a p.rs.length p.c, .bool q.u, .int .u64 (n64 q.k), .int .u64 (n64 q.l), .slice q.a q.rs.length q.c, .bool true] 29)).alloc (.cells #[.bool false, .int .u64 0, .int .u64 0, .slice none 0 0] 27)) (w.heap.size + 1) [.bool false, .int .u64 0, .int .u64 0, .slice none 0 0] by have h0 := Blk.new (w.alloc (.cells #[.int .i64 e, .bool p.u, .int .u64 (n64 p.k), .int .u64 (n64 p.l), .slice p.a p.rs.length p.c, .bool q.u, .int .u64 (n64 q.k), .int .u64 (n64 q.l), .slice q.a q.rs.length q.c, .bool true] 29)) [.bool false, .int .u64 0, .int .u64 0, .slice none 0 0] 27; rwa [s1] at h0)
  have n_K_R : w.heap.size ≠ w.heap.size + 1 := by omega
  clear s1
  go_wp2_with fail
  change Calls _ _ _ ((w.alloc (.cells #[.int .i64 e, .bool p.u, .int .u64 (n64 p.k), .int .u64 (n64 p.l), .slice p.a p.rs.length p.c, .bool q.u, .int .u64 (n64 q.k), .int .u64 (n64 q.l), .slice q.a q.rs.length q.c, .bool true] 29)).alloc (.cells #[.bool false, .int .u64 0, .int .u64 0, .slice none 0 0] 27)) _
  generalize (w.alloc (.cells #[.int .i64 e, .bool p.u, .int .u64 (n64 p.k), .int .u64 (n64 p.l), .slice p.a p.rs.length p.c, .bool q.u, .int .u64 (n64 q.k), .int .u64 (n64 q.l), .slice q.a q.rs.length q.c, .bool true] 29)).alloc (.cells #[.bool false, .int .u64 0, .int .u64 0, .slice none 0 0] 27) = v0 at B0 KK0 KR0 ⊢
  generalize hh_R : w.heap.size + 1 = g_R at KR0 n_K_R ⊢
  generalize hh_K : w.heap.size = g_K at KK0 n_K_R ⊢
  have l_K : w.heap.size ≤ g_K := by omega
  have l_R : w.heap.size ≤ g_R := by omega
  clear hh_K hh_R
  refine (heldTwoI e p q _).mono ?_
  rintro e v1 ⟨rfl, hb⟩
  have B1 := Lib.hid (B0.out.trans (hb.mono B0.out.size))
  have KK1 := Lib.hid (KK0.out.below hb)
  have KR1 := Lib.hid (KR0.out.below hb)
  clear hb B0 KK0 KR0
  have KHn := Lib.hid (Blk.new v1 [.int .i64 e, .bool p.u, .int .u64 (n64 p.k), .int .u64 (n64 p.l), .slice p.a p.rs.length p.c, .bool q.u, .int .u64 (n64 q.k), .int .u64 (n64 q.l), .slice q.a q.rs.length q.c] 58)
  have n_K_H : g_K ≠ v1.heap.size := by have h1 := KK1.out.lt; omega
  have n_R_H : g_R ≠ v1.heap.size := by have h1 := KR1.out.lt; omega
  have Bn := Lib.hid (B1.out.alloc B1.out.size (.cells #[.int .i64 e, .bool p.u, .int .u64 (n64 p.k), .int .u64 (n64 p.l), .slice p.a p.rs.length p.c, .bool q.u, .int .u64 (n64 q.k), .int .u64 (n64 q.l), .slice q.a q.rs.length q.c] 58))
  have KKn := Lib.hid (KK1.out.alloc (.cells #[.int .i64 e, .bool p.u, .int .u64 (n64 p.k), .int .u64 (n64 p.l), .slice p.a p.rs.length p.c, .bool q.u, .int .u64 (n64 q.k), .int .u64 (n64 q.l), .slice q.a q.rs.length q.c] 58))
  have KRn := Lib.hid (KR1.out.alloc (.cells #[.int .i64 e, .bool p.u, .int .u64 (n64 p.k), .int .u64 (n64 p.l), .slice p.a p.rs.length p.c, .bool q.u, .int .u64 (n64 q.k), .int .u64 (n64 q.l), .slice q.a q.rs.length q.c] 58))
  clear B1 KK1 KR1
  obtain ⟨⟨cK0, cK1, cK2, cK3, cK4, cK5, cK6, cK7, cK8, cK9⟩, dK0, dK1, dK2, dK3, dK4, dK5, dK6, dK7, dK8, dK9⟩ := KKn.out.of10
  obtain ⟨⟨cR0, cR1, cR2, cR3⟩, dR0, dR1, dR2, dR3⟩ := KRn.out.four
  go_upto_region 13 with fail
  clear cK0 cK1 cK2 cK3 cK4 cK5 cK6 cK7 cK8 cK9 dK0 dK1 dK2 dK3 dK4 dK5 dK6 dK7 dK8 dK9 cR0 cR1 cR2 cR3 dR0 dR1 dR2 dR3
  generalize v1.alloc (.cells #[.int .i64 e, .bool p.u, .int .u64 (n64 p.k), .int .u64 (n64 p.l), .slice p.a p.rs.length p.c, .bool q.u, .int .u64 (n64 q.k), .int .u64 (n64 q.l), .slice q.a q.rs.length q.c] 58) = v2 at KHn Bn KKn KRn ⊢
  generalize v1.heap.size = g_H at KHn n_K_H n_R_H ⊢
  clear v1
  have KK2 := KKn
  clear KKn
  have KR2 := KRn
  clear KRn
  have KH2 := KHn
  clear KHn
  have B2 := Bn
  clear Bn
  obtain ⟨⟨cK0, cK1, cK2, cK3, cK4, cK5, cK6, cK7, cK8, cK9⟩, dK0, dK1, dK2, dK3, dK4, dK5, dK6, dK7, dK8, dK9⟩ := KK2.out.of10
  obtain ⟨⟨cR0, cR1, cR2, cR3⟩, dR0, dR1, dR2, dR3⟩ := KR2.out.four
  obtain ⟨⟨cH0, cH1, cH2, cH3, cH4, cH5, cH6, cH7, cH8⟩, dH0, dH1, dH2, dH3, dH4, dH5, dH6, dH7, dH8⟩ := KH2.out.of9
  go_wp2_with fail
  refine bodyPost_ret (v := .tuple #[.agg #[.bool false, .int .u64 0, .int .u64 0, .slice none 0 0], .bool false]) (by simp [results, Tryz.results9, go_sem, cR0, cR1, cR2, cR3]) rfl ⟨rfl, (((B2.out.setCell l_R _).setCell l_R _).setCell l_R _).setCell l_R _⟩

set_option maxRecDepth 100000 in
set_option maxHeartbeats 4000000 in
theorem secNowOneS (e : Int) (p q : M) (w : World) (hp : p.On w) (hq : q.On w) (fp : p.Fit) :
    Calls Tryz.prog 14 #[.agg #[.int .i64 e, .bool p.u, .int .u64 (n64 p.k), .int .u64 (n64 p.l), .slice p.a p.rs.length p.c, .bool q.u, .int .u64 (n64 q.k), .int .u64 (n64 q.l), .slice q.a q.rs.length q.c, .bool false], .int .i64 e] w (SecS p w) := by
  have HP := Lib.hid hp
  have HQ := Lib.hid hq
  clear hp hq
  go_enter Tryz.func14, Tryz.ntmps14
  have B0 := Lib.hid (show Below w.heap.size w ((w.alloc (.cells #[.int .i64 e, .bool p.u, .int .u64 (n64 p.k), .int .u64 (n64 p.l), .slice p.a p.rs.length p.c, .bool q.u, .int .u64 (n64 q.k), .int .u64 (n64 q.l), .slice q.a q.rs.length q.c, .bool false] 29)).alloc (.cells #[.bool false, .int .u64 0, .int .u64 0, .slice none 0 0] 27)) from (((Below.refl _ w).alloc (by simp) _).alloc (by simp) _))
  have KK0 := Lib.hid (show Blk ((w.alloc (.cells #[.int .i64 e, .bool p.u, .int .u64 (n64 p.k), .int .u64 (n64 p.l), .slice p.a p.rs.length p.c, .bool q.u, .int .u64 (n64 q.k), .int .u64 (n64 q.l), .slice q.a q.rs.length q.c, .bool false] 29)).alloc (.cells #[.bool false, .int .u64 0, .int .u64 0, .slice none 0 0] 27)) (w.heap.size) [.int .i64 e, .bool p.u, .int .u64 (n64 p.k), .int .u64 (n64 p.l), .slice p.a p.rs.length p.c, .bool q.u, .int .u64 (n64 q.k), .int .u64 (n64 q.l), .slice q.a q.rs.length q.c, .bool false] from (Blk.new w [.int .i64 e, .bool p.u, .int .u64 (n64 p.k), .int .u64 (n64 p.l), .slice p.a p.rs.length p.c, .bool q.u, .int .u64 (n64 q.k), .int .u64 (n64 q.l), .slice q.a q.rs.length q.c, .bool false] 29).alloc _)
  have s1 : (w.alloc (.cells #[.int .i64 e, .bool p.u, .int .u64 (n64 p.k), .int .u64 (n64 p.l), .slice p.a p.rs.length p.c, .bool q.u, .int .u64 (n64 q.k), .int .u64 (n64 q.l), .slice q.a q.rs.length q.c, .bool false] 29)).heap.size = w.heap.size + 1 := by simp
  have KR0 := Lib.hid (show Blk ((w.alloc (.cells #[.int .i64 e, .bool p.u, .int .u64 (n64 p.k), .int .u64 (n64 p.l), .slice p.a p.rs.length p.c, .bool q.u, .int .u64 (n64 q.k), .int .u64 (n64 q.l), .slice q.a q.rs.length q.c, .bool false] 29)).alloc (.cells #[.bool false, .int .u64 0, .int .u64 0, .slice none 0 0] 27)) (w.heap.size + 1) [.bool false, .int .u64 0, .int .u64 0, .slice none 0 0] by have h0 := Blk.new (w.alloc (.cells #[.int .i64 e, .bool p.u, .int .u64 (n64 p.k), .int .u64 (n64 p.l), .slice p.a p.rs.length p.c, .bool q.u, .int .u64 (n64 q.k), .int .u64 (n64 q.l), .slice q.a q.rs.length q.c, .bool false] 29)) [.bool false, .int .u64 0, .int .u64 0, .slice none 0 0] 27; rwa [s1] at h0)
  have n_K_R : w.heap.size ≠ w.heap.size + 1 := by omega
  clear s1
  have Hp0 := Lib.hid (show p.On ((w.alloc (.cells #[.int .i64 e, .bool p.u, .int .u64 (n64 p.k), .int .u64 (n64 p.l), .slice p.a p.rs.length p.c, .bool q.u, .int .u64 (n64 q.k), .int .u64 (n64 q.l), .slice q.a q.rs.length q.c, .bool false] 29)).alloc (.cells #[.bool false, .int .u64 0, .int .u64 0, .slice none 0 0] 27)) from HP.out.below B0.out)
  clear HP
  have Hq0 := Lib.hid (show q.On ((w.alloc (.cells #[.int .i64 e, .bool p.u, .int .u64 (n64 p.k), .int .u64 (n64 p.l), .slice p.a p.rs.length p.c, .bool q.u, .int .u64 (n64 q.k), .int .u64 (n64 q.l), .slice q.a q.rs.length q.c, .bool false] 29)).alloc (.cells #[.bool false, .int .u64 0, .int .u64 0, .slice none 0 0] 27)) from HQ.out.below B0.out)
  clear HQ
  go_wp2_with fail
  change Calls _ _ _ ((w.alloc (.cells #[.int .i64 e, .bool p.u, .int .u64 (n64 p.k), .int .u64 (n64 p.l), .slice p.a p.rs.length p.c, .bool q.u, .int .u64 (n64 q.k), .int .u64 (n64 q.l), .slice q.a q.rs.length q.c, .bool false] 29)).alloc (.cells #[.bool false, .int .u64 0, .int .u64 0, .slice none 0 0] 27)) _
  generalize (w.alloc (.cells #[.int .i64 e, .bool p.u, .int .u64 (n64 p.k), .int .u64 (n64 p.l), .slice p.a p.rs.length p.c, .bool q.u, .int .u64 (n64 q.k), .int .u64 (n64 q.l), .slice q.a q.rs.length q.c, .bool false] 29)).alloc (.cells #[.bool false, .int .u64 0, .int .u64 0, .slice none 0 0] 27) = v0 at B0 KK0 KR0 Hp0 Hq0 ⊢
  generalize hh_R : w.heap.size + 1 = g_R at KR0 n_K_R ⊢
  generalize hh_K : w.heap.size = g_K at KK0 n_K_R ⊢
  have l_K : w.heap.size ≤ g_K := by omega
  have l_R : w.heap.size ≤ g_R := by omega
  clear hh_K hh_R
  refine (copyMacS p _ Hp0.out fp.1).mono ?_
  rintro e v1 ⟨g, c, rfl, ho, hb⟩
  have O := Lib.hid ho
  clear ho
  have hz := B0.out.size
  have lR := KR0.out.lt
  have B1 := Lib.hid (B0.out.trans (hb.mono B0.out.size))
  have KK1 := Lib.hid (KK0.out.below hb)
  have KR1 := Lib.hid (KR0.out.below hb)
  have Hp1 := Lib.hid (Hp0.out.below hb)
  have Hq1 := Lib.hid (Hq0.out.below hb)
  clear hb B0 KK0 KR0 Hp0 Hq0
  obtain ⟨⟨cK0, cK1, cK2, cK3, cK4, cK5, cK6, cK7, cK8, cK9⟩, dK0, dK1, dK2, dK3, dK4, dK5, dK6, dK7, dK8, dK9⟩ := KK1.out.of10
  obtain ⟨⟨cR0, cR1, cR2, cR3⟩, dR0, dR1, dR2, dR3⟩ := KR1.out.four
  go_wp2_with fail
  refine bodyPost_ret (v := .tuple #[.agg #[.bool p.u, .int .u64 (n64 p.k), .int .u64 (n64 p.l), .slice (some ⟨g, 0, none⟩) p.rs.length c], .bool true]) (by simp [results, Tryz.results14, go_sem, cR0, cR1, cR2, cR3]) rfl ⟨g, c, rfl, own_down (own_set (own_set (own_set (own_set O.out _ _ lR _) _ _ lR _) _ _ lR _) _ _ lR _) hz, (((B1.out.setCell l_R _).setCell l_R _).setCell l_R _).setCell l_R _⟩

set_option maxRecDepth 100000 in
set_option maxHeartbeats 4000000 in
theorem secNowTwoS (e : Int) (p q : M) (w : World) (hp : p.On w) (hq : q.On w) (fp : p.Fit) :
    Calls Tryz.prog 14 #[.agg #[.int .i64 e, .bool p.u, .int .u64 (n64 p.k), .int .u64 (n64 p.l), .slice p.a p.rs.length p.c, .bool q.u, .int .u64 (n64 q.k), .int .u64 (n64 q.l), .slice q.a q.rs.length q.c, .bool true], .int .i64 e] w (SecS p w) := by
  have HP := Lib.hid hp
  have HQ := Lib.hid hq
  clear hp hq
  go_enter Tryz.func14, Tryz.ntmps14
  have B0 := Lib.hid (show Below w.heap.size w ((w.alloc (.cells #[.int .i64 e, .bool p.u, .int .u64 (n64 p.k), .int .u64 (n64 p.l), .slice p.a p.rs.length p.c, .bool q.u, .int .u64 (n64 q.k), .int .u64 (n64 q.l), .slice q.a q.rs.length q.c, .bool true] 29)).alloc (.cells #[.bool false, .int .u64 0, .int .u64 0, .slice none 0 0] 27)) from (((Below.refl _ w).alloc (by simp) _).alloc (by simp) _))
  have KK0 := Lib.hid (show Blk ((w.alloc (.cells #[.int .i64 e, .bool p.u, .int .u64 (n64 p.k), .int .u64 (n64 p.l), .slice p.a p.rs.length p.c, .bool q.u, .int .u64 (n64 q.k), .int .u64 (n64 q.l), .slice q.a q.rs.length q.c, .bool true] 29)).alloc (.cells #[.bool false, .int .u64 0, .int .u64 0, .slice none 0 0] 27)) (w.heap.size) [.int .i64 e, .bool p.u, .int .u64 (n64 p.k), .int .u64 (n64 p.l), .slice p.a p.rs.length p.c, .bool q.u, .int .u64 (n64 q.k), .int .u64 (n64 q.l), .slice q.a q.rs.length q.c, .bool true] from (Blk.new w [.int .i64 e, .bool p.u, .int .u64 (n64 p.k), .int .u64 (n64 p.l), .slice p.a p.rs.length p.c, .bool q.u, .int .u64 (n64 q.k), .int .u64 (n64 q.l), .slice q.a q.rs.length q.c, .bool true] 29).alloc _)
  have s1 : (w.alloc (.cells #[.int .i64 e, .bool p.u, .int .u64 (n64 p.k), .int .u64 (n64 p.l), .slice p.a p.rs.length p.c, .bool q.u, .int .u64 (n64 q.k), .int .u64 (n64 q.l), .slice q.a q.rs.length q.c, .bool true] 29)).heap.size = w.heap.size + 1 := by simp
  have KR0 := Lib.hid (show Blk ((w.alloc (.cells #[.int .i64 e, .bool p.u, .int .u64 (n64 p.k), .int .u64 (n64 p.l), .slice p.a p.rs.length p.c, .bool q.u, .int .u64 (n64 q.k), .int .u64 (n64 q.l), .slice q.a q.rs.length q.c, .bool true] 29)).alloc (.cells #[.bool false, .int .u64 0, .int .u64 0, .slice none 0 0] 27)) (w.heap.size + 1) [.bool false, .int .u64 0, .int .u64 0, .slice none 0 0] by have h0 := Blk.new (w.alloc (.cells #[.int .i64 e, .bool p.u, .int .u64 (n64 p.k), .int .u64 (n64 p.l), .slice p.a p.rs.length p.c, .bool q.u, .int .u64 (n64 q.k), .int .u64 (n64 q.l), .slice q.a q.rs.length q.c, .bool true] 29)) [.bool false, .int .u64 0, .int .u64 0, .slice none 0 0] 27; rwa [s1] at h0)
  have n_K_R : w.heap.size ≠ w.heap.size + 1 := by omega
  clear s1
  have Hp0 := Lib.hid (show p.On ((w.alloc (.cells #[.int .i64 e, .bool p.u, .int .u64 (n64 p.k), .int .u64 (n64 p.l), .slice p.a p.rs.length p.c, .bool q.u, .int .u64 (n64 q.k), .int .u64 (n64 q.l), .slice q.a q.rs.length q.c, .bool true] 29)).alloc (.cells #[.bool false, .int .u64 0, .int .u64 0, .slice none 0 0] 27)) from HP.out.below B0.out)
  clear HP
  have Hq0 := Lib.hid (show q.On ((w.alloc (.cells #[.int .i64 e, .bool p.u, .int .u64 (n64 p.k), .int .u64 (n64 p.l), .slice p.a p.rs.length p.c, .bool q.u, .int .u64 (n64 q.k), .int .u64 (n64 q.l), .slice q.a q.rs.length q.c, .bool true] 29)).alloc (.cells #[.bool false, .int .u64 0, .int .u64 0, .slice none 0 0] 27)) from HQ.out.below B0.out)
  clear HQ
  go_wp2_with fail
  change Calls _ _ _ ((w.alloc (.cells #[.int .i64 e, .bool p.u, .int .u64 (n64 p.k), .int .u64 (n64 p.l), .slice p.a p.rs.length p.c, .bool q.u, .int .u64 (n64 q.k), .int .u64 (n64 q.l), .slice q.a q.rs.length q.c, .bool true] 29)).alloc (.cells #[.bool false, .int .u64 0, .int .u64 0, .slice none 0 0] 27)) _
  generalize (w.alloc (.cells #[.int .i64 e, .bool p.u, .int .u64 (n64 p.k), .int .u64 (n64 p.l), .slice p.a p.rs.length p.c, .bool q.u, .int .u64 (n64 q.k), .int .u64 (n64 q.l), .slice q.a q.rs.length q.c, .bool true] 29)).alloc (.cells #[.bool false, .int .u64 0, .int .u64 0, .slice none 0 0] 27) = v0 at B0 KK0 KR0 Hp0 Hq0 ⊢
  generalize hh_R : w.heap.size + 1 = g_R at KR0 n_K_R ⊢
  generalize hh_K : w.heap.size = g_K at KK0 n_K_R ⊢
  have l_K : w.heap.size ≤ g_K := by omega
  have l_R : w.heap.size ≤ g_R := by omega
  clear hh_K hh_R
  refine (copyMacS p _ Hp0.out fp.1).mono ?_
  rintro e v1 ⟨g, c, rfl, ho, hb⟩
  have O := Lib.hid ho
  clear ho
  have hz := B0.out.size
  have lR := KR0.out.lt
  have B1 := Lib.hid (B0.out.trans (hb.mono B0.out.size))
  have KK1 := Lib.hid (KK0.out.below hb)
  have KR1 := Lib.hid (KR0.out.below hb)
  have Hp1 := Lib.hid (Hp0.out.below hb)
  have Hq1 := Lib.hid (Hq0.out.below hb)
  clear hb B0 KK0 KR0 Hp0 Hq0
  obtain ⟨⟨cK0, cK1, cK2, cK3, cK4, cK5, cK6, cK7, cK8, cK9⟩, dK0, dK1, dK2, dK3, dK4, dK5, dK6, dK7, dK8, dK9⟩ := KK1.out.of10
  obtain ⟨⟨cR0, cR1, cR2, cR3⟩, dR0, dR1, dR2, dR3⟩ := KR1.out.four
  go_wp2_with fail
  refine bodyPost_ret (v := .tuple #[.agg #[.bool p.u, .int .u64 (n64 p.k), .int .u64 (n64 p.l), .slice (some ⟨g, 0, none⟩) p.rs.length c], .bool true]) (by simp [results, Tryz.results14, go_sem, cR0, cR1, cR2, cR3]) rfl ⟨g, c, rfl, own_down (own_set (own_set (own_set (own_set O.out _ _ lR _) _ _ lR _) _ _ lR _) _ _ lR _) hz, (((B1.out.setCell l_R _).setCell l_R _).setCell l_R _).setCell l_R _⟩

set_option maxRecDepth 100000 in
set_option maxHeartbeats 4000000 in
theorem secBefS (e n : Int) (p q : M) (w : World) (hp : p.On w) (hq : q.On w) (fq : q.Fit) (hn : (n == e) = false) (hw : n = wrap64 (e - 1)) :
    Calls Tryz.prog 14 #[.agg #[.int .i64 e, .bool p.u, .int .u64 (n64 p.k), .int .u64 (n64 p.l), .slice p.a p.rs.length p.c, .bool q.u, .int .u64 (n64 q.k), .int .u64 (n64 q.l), .slice q.a q.rs.length q.c, .bool true], .int .i64 n] w (SecS q w) := by
  have HP := Lib.hid hp
  have HQ := Lib.hid hq
  clear hp hq
  go_enter Tryz.func14, Tryz.ntmps14
  have B0 := Lib.hid (show Below w.heap.size w ((w.alloc (.cells #[.int .i64 e, .bool p.u, .int .u64 (n64 p.k), .int .u64 (n64 p.l), .slice p.a p.rs.length p.c, .bool q.u, .int .u64 (n64 q.k), .int .u64 (n64 q.l), .slice q.a q.rs.length q.c, .bool true] 29)).alloc (.cells #[.bool false, .int .u64 0, .int .u64 0, .slice none 0 0] 27)) from (((Below.refl _ w).alloc (by simp) _).alloc (by simp) _))
  have KK0 := Lib.hid (show Blk ((w.alloc (.cells #[.int .i64 e, .bool p.u, .int .u64 (n64 p.k), .int .u64 (n64 p.l), .slice p.a p.rs.length p.c, .bool q.u, .int .u64 (n64 q.k), .int .u64 (n64 q.l), .slice q.a q.rs.length q.c, .bool true] 29)).alloc (.cells #[.bool false, .int .u64 0, .int .u64 0, .slice none 0 0] 27)) (w.heap.size) [.int .i64 e, .bool p.u, .int .u64 (n64 p.k), .int .u64 (n64 p.l), .slice p.a p.rs.length p.c, .bool q.u, .int .u64 (n64 q.k), .int .u64 (n64 q.l), .slice q.a q.rs.length q.c, .bool true] from (Blk.new w [.int .i64 e, .bool p.u, .int .u64 (n64 p.k), .int .u64 (n64 p.l), .slice p.a p.rs.length p.c, .bool q.u, .int .u64 (n64 q.k), .int .u64 (n64 q.l), .slice q.a q.rs.length q.c, .bool true] 29).alloc _)
  have s1 : (w.alloc (.cells #[.int .i64 e, .bool p.u, .int .u64 (n64 p.k), .int .u64 (n64 p.l), .slice p.a p.rs.length p.c, .bool q.u, .int .u64 (n64 q.k), .int .u64 (n64 q.l), .slice q.a q.rs.length q.c, .bool true] 29)).heap.size = w.heap.size + 1 := by simp
  have KR0 := Lib.hid (show Blk ((w.alloc (.cells #[.int .i64 e, .bool p.u, .int .u64 (n64 p.k), .int .u64 (n64 p.l), .slice p.a p.rs.length p.c, .bool q.u, .int .u64 (n64 q.k), .int .u64 (n64 q.l), .slice q.a q.rs.length q.c, .bool true] 29)).alloc (.cells #[.bool false, .int .u64 0, .int .u64 0, .slice none 0 0] 27)) (w.heap.size + 1) [.bool false, .int .u64 0, .int .u64 0, .slice none 0 0] by have h0 := Blk.new (w.alloc (.cells #[.int .i64 e, .bool p.u, .int .u64 (n64 p.k), .int .u64 (n64 p.l), .slice p.a p.rs.length p.c, .bool q.u, .int .u64 (n64 q.k), .int .u64 (n64 q.l), .slice q.a q.rs.length q.c, .bool true] 29)) [.bool false, .int .u64 0, .int .u64 0, .slice none 0 0] 27; rwa [s1] at h0)
  have n_K_R : w.heap.size ≠ w.heap.size + 1 := by omega
  clear s1
  have Hp0 := Lib.hid (show p.On ((w.alloc (.cells #[.int .i64 e, .bool p.u, .int .u64 (n64 p.k), .int .u64 (n64 p.l), .slice p.a p.rs.length p.c, .bool q.u, .int .u64 (n64 q.k), .int .u64 (n64 q.l), .slice q.a q.rs.length q.c, .bool true] 29)).alloc (.cells #[.bool false, .int .u64 0, .int .u64 0, .slice none 0 0] 27)) from HP.out.below B0.out)
  clear HP
  have Hq0 := Lib.hid (show q.On ((w.alloc (.cells #[.int .i64 e, .bool p.u, .int .u64 (n64 p.k), .int .u64 (n64 p.l), .slice p.a p.rs.length p.c, .bool q.u, .int .u64 (n64 q.k), .int .u64 (n64 q.l), .slice q.a q.rs.length q.c, .bool true] 29)).alloc (.cells #[.bool false, .int .u64 0, .int .u64 0, .slice none 0 0] 27)) from HQ.out.below B0.out)
  clear HQ
  go_wp2_with fail
  change Calls _ _ _ ((w.alloc (.cells #[.int .i64 e, .bool p.u, .int .u64 (n64 p.k), .int .u64 (n64 p.l), .slice p.a p.rs.length p.c, .bool q.u, .int .u64 (n64 q.k), .int .u64 (n64 q.l), .slice q.a q.rs.length q.c, .bool true] 29)).alloc (.cells #[.bool false, .int .u64 0, .int .u64 0, .slice none 0 0] 27)) _
  generalize (w.alloc (.cells #[.int .i64 e, .bool p.u, .int .u64 (n64 p.k), .int .u64 (n64 p.l), .slice p.a p.rs.length p.c, .bool q.u, .int .u64 (n64 q.k), .int .u64 (n64 q.l), .slice q.a q.rs.length q.c, .bool true] 29)).alloc (.cells #[.bool false, .int .u64 0, .int .u64 0, .slice none 0 0] 27) = v0 at B0 KK0 KR0 Hp0 Hq0 ⊢
  generalize hh_R : w.heap.size + 1 = g_R at KR0 n_K_R ⊢
  generalize hh_K : w.heap.size = g_K at KK0 n_K_R ⊢
  have l_K : w.heap.size ≤ g_K := by omega
  have l_R : w.heap.size ≤ g_R := by omega
  clear hh_K hh_R
  refine (copyMacS q _ Hq0.out fq.1).mono ?_
  rintro e v1 ⟨g, c, rfl, ho, hb⟩
  have O := Lib.hid ho
  clear ho
  have hz := B0.out.size
  have lR := KR0.out.lt
  have B1 := Lib.hid (B0.out.trans (hb.mono B0.out.size))
  have KK1 := Lib.hid (KK0.out.below hb)
  have KR1 := Lib.hid (KR0.out.below hb)
  have Hp1 := Lib.hid (Hp0.out.below hb)
  have Hq1 := Lib.hid (Hq0.out.below hb)
  clear hb B0 KK0 KR0 Hp0 Hq0
  obtain ⟨⟨cK0, cK1, cK2, cK3, cK4, cK5, cK6, cK7, cK8, cK9⟩, dK0, dK1, dK2, dK3, dK4, dK5, dK6, dK7, dK8, dK9⟩ := KK1.out.of10
  obtain ⟨⟨cR0, cR1, cR2, cR3⟩, dR0, dR1, dR2, dR3⟩ := KR1.out.four
  go_wp2_with fail
  refine bodyPost_ret (v := .tuple #[.agg #[.bool q.u, .int .u64 (n64 q.k), .int .u64 (n64 q.l), .slice (some ⟨g, 0, none⟩) q.rs.length c], .bool true]) (by simp [results, Tryz.results14, go_sem, cR0, cR1, cR2, cR3]) rfl ⟨g, c, rfl, own_down (own_set (own_set (own_set (own_set O.out _ _ lR _) _ _ lR _) _ _ lR _) _ _ lR _) hz, (((B1.out.setCell l_R _).setCell l_R _).setCell l_R _).setCell l_R _⟩

set_option maxRecDepth 100000 in
set_option maxHeartbeats 4000000 in
theorem secNoOneS (e n : Int) (p q : M) (w : World)  (hn : (n == e) = false) :
    Calls Tryz.prog 14 #[.agg #[.int .i64 e, .bool p.u, .int .u64 (n64 p.k), .int .u64 (n64 p.l), .slice p.a p.rs.length p.c, .bool q.u, .int .u64 (n64 q.k), .int .u64 (n64 q.l), .slice q.a q.rs.length q.c, .bool false], .int .i64 n] w (SecNo w) := by
  go_enter Tryz.func14, Tryz.ntmps14
  go_wp2_with fail
  trace_state
  refine bodyPost_ret (v := .tuple #[.agg #[.bool false, .int .u64 0, .int .u64 0, .slice none 0 0], .bool false]) (by simp [results, Tryz.results14, go_sem]) rfl ⟨rfl, ((Below.refl _ _).alloc (Nat.le_refl _) _).alloc (by simp) _⟩

set_option maxRecDepth 100000 in
set_option maxHeartbeats 4000000 in
theorem secNoTwoS (e n : Int) (p q : M) (w : World)  (hn : (n == e) = false) (hw : (n == wrap64 (e - 1)) = false) :
    Calls Tryz.prog 14 #[.agg #[.int .i64 e, .bool p.u, .int .u64 (n64 p.k), .int .u64 (n64 p.l), .slice p.a p.rs.length p.c, .bool q.u, .int .u64 (n64 q.k), .int .u64 (n64 q.l), .slice q.a q.rs.length q.c, .bool true], .int .i64 n] w (SecNo w) := by
  go_enter Tryz.func14, Tryz.ntmps14
  go_wp2_with fail
  trace_state
  refine bodyPost_ret (v := .tuple #[.agg #[.bool false, .int .u64 0, .int .u64 0, .slice none 0 0], .bool false]) (by simp [results, Tryz.results14, go_sem]) rfl ⟨rfl, ((Below.refl _ _).alloc (Nat.le_refl _) _).alloc (by simp) _⟩

end Go.Proofs.YtobfgkiccmhgdaaGreat
