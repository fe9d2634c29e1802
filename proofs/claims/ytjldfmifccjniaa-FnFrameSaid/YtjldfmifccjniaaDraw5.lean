/- The draws' own l5Frame. -/
import Derived.Test.YtjldfmifccjniaaMac5
import Derived.Test.YtjldfmifccjniaaLong
import Derived.Test.YtjldfmifccjniaaBlk
import Derived.Test.YtjldfmifccjniaaDrawWord
namespace Go.Proofs.Ytjldfmifccjniaa
open Go.RowKit Go.Lib

/-- What l5Frame hands back: a frame of some fields; only the cursor has turned. -/
def FrmEnd (w : World) (B g : Nat) (e : Ending) (w' : World) : Prop := ∃ (d s t : Int) (b : ByteArray), e = .returned (.agg #[.int .i64 d, .int .i64 s, .int .i64 t, .string b]) ∧ (I64 d ∧ I64 s ∧ I64 t ∧ b.size ≤ 1600) ∧ CurB w' B g ∧ w.grownBy w' (some g)

def kindCs : Array Value := #[.int .i64 2048, .int .i64 2054, .int .i64 1536, .int .i64 65535]
theorem kindCs_bd : ∀ v ∈ kindCs.toList, ∃ x, v = .int .i64 x ∧ I64 x := by
  intro v hv
  simp only [kindCs, List.mem_cons, List.mem_nil_iff, or_false] at hv
  unfold I64
  rcases hv with rfl | rfl | rfl | rfl <;> exact ⟨_, rfl, by decide⟩
theorem pickKind (B g : Nat) (w : World) (hc : CurB w B g) : Calls Try.prog 34 #[.pointer (some ⟨g, 0, none⟩), .slice (some ⟨w.heap.size, 0, none⟩) 4 4] (w.alloc (.cells kindCs 3)) (WholeEnd w B g) :=
  pickNew B g w hc kindCs (by decide) (by decide) kindCs_bd
def badCs : Array Value := #[.int .i64 0, .int .i64 1535, .int .i64 65536, .int .i64 (-1)]
theorem badCs_bd : ∀ v ∈ badCs.toList, ∃ x, v = .int .i64 x ∧ I64 x := by
  intro v hv
  simp only [badCs, List.mem_cons, List.mem_nil_iff, or_false] at hv
  unfold I64
  rcases hv with rfl | rfl | rfl | rfl <;> exact ⟨_, rfl, by decide⟩
theorem pickBad (B g : Nat) (w : World) (hc : CurB w B g) : Calls Try.prog 34 #[.pointer (some ⟨g, 0, none⟩), .slice (some ⟨w.heap.size, 0, none⟩) 4 4] (w.alloc (.cells badCs 3)) (WholeEnd w B g) :=
  pickNew B g w hc badCs (by decide) (by decide) badCs_bd

set_option maxRecDepth 100000 in
set_option maxHeartbeats 4000000 in
theorem l5Frame_any (B g : Nat) (w : World) (hc : CurB w B g) : Calls Try.prog 22 #[.pointer (some ⟨g, 0, none⟩)] w (FrmEnd w B g) := by
  have hlt := hc.lt
  have hBg := hc.1
  have C := Lib.hid hc
  clear hc
  go_enter Try.func22, Try.ntmps22
  go_wp2_with fail
  refine (l5Mac_any B g _ (C.out.new _)).mono ?_
  rintro e w1 ⟨d, rfl, hd, hc1, hg1⟩
  have K1 := Lib.hid ((Blk.new w [.int .i64 0, .int .i64 0, .int .i64 0, .string ⟨#[]⟩] 25).grown hg1 (by omega))
  have G1 := Lib.hid (grown_tr (World.grownBy_alloc w _ _) hg1)
  have C1 := Lib.hid hc1
  have D1 := Lib.hid hd
  clear hc1 hg1 hd C
  go_wp2_with fail
  refine (l5Mac_any B g w1 C1.out).mono ?_
  rintro e w2 ⟨s, rfl, hs, hc2, hg2⟩
  have K2 := Lib.hid (K1.out.grown hg2 (by omega))
  have G2 := Lib.hid (grown_tr G1.out hg2)
  have C2 := Lib.hid hc2
  have S1 := Lib.hid hs
  clear hc2 hg2 hs C1 K1 G1
  go_wp2_with fail
  refine (pickKind B g w2 C2.out).mono ?_
  rintro e w3 ⟨t, rfl, ht, hc3, hg3⟩
  have K3 := Lib.hid (K2.out.grown hg3 (by omega))
  have G3 := Lib.hid (grown_tr G2.out hg3)
  have C3 := Lib.hid hc3
  have T1 := Lib.hid ht
  clear hc3 hg3 ht C2 K2 G2
  go_wp2_with fail
  refine (l1Below_pos B g w3 C3.out 6 (by omega) (by omega)).mono ?_
  rintro e w4 ⟨r, rfl, ⟨r0, r1⟩, hc4, hg4⟩
  obtain ⟨n, rfl⟩ : ∃ n : Nat, r = (n : Int) := ⟨r.toNat, by omega⟩
  have K4 := Lib.hid (K3.out.grown hg4 (by omega))
  have G4 := Lib.hid (grown_tr G3.out hg4)
  have C4 := Lib.hid hc4
  clear hc4 hg4 C3 K3 G3
  go_wp2_with fail
  refine (l1Bytes_any B g n w4 C4.out (by omega)).mono ?_
  rintro e w5 ⟨v, l, rfl, hl, hown, hc5, hg5⟩
  have hcv := run_string_own (P := Try.prog) Try.underlying22 Try.underlying5 Try.underlying9 hown
  obtain ⟨b, hb⟩ : ∃ b : ByteArray, (⟨l.toArray⟩ : ByteArray) = b := ⟨_, rfl⟩
  have hsz : b.size ≤ 1600 := by rw [← hb]; simp [ByteArray.size]; omega
  rw [hb] at hcv
  have K5 := Lib.hid (K4.out.grown hg5 (by omega))
  have G5 := Lib.hid (grown_tr G4.out hg5)
  have C5 := Lib.hid hc5
  have Z1 := Lib.hid hsz
  clear hc5 hg5 hown hl hb hsz C4 K4 G4 r0 r1
  go_wp2_with fail
  clear hcv
  have hr0 : w.heap.size < w5.heap.size := K5.out.lt
  have K6 := Lib.hid (K5.out.alloc (.cells #[.int .i64 d, .int .i64 s, .int .i64 t, .string b] 25))
  have F6 := Lib.hid (Blk.new w5 [.int .i64 d, .int .i64 s, .int .i64 t, .string b] 25)
  have C6 := Lib.hid (C5.out.new (.cells #[.int .i64 d, .int .i64 s, .int .i64 t, .string b] 25))
  have G6 := Lib.hid (grown_new G5.out (.cells #[.int .i64 d, .int .i64 s, .int .i64 t, .string b] 25))
  have hfg : w5.heap.size ≠ g := Nat.ne_of_gt C5.out.lt
  have hrg : w.heap.size ≠ g := Nat.ne_of_gt hlt
  have hB : B ≤ w.heap.size := by omega
  have hrl : w.heap.size ≤ w.heap.size := Nat.le_refl _
  clear C5 K5 G5
  generalize w5.alloc (.cells #[.int .i64 d, .int .i64 s, .int .i64 t, .string b] 25) = w6 at K6 F6 C6 G6 ⊢
  generalize hf : w5.heap.size = f at hr0 F6 hfg ⊢
  have hfl : w.heap.size ≤ f := by omega
  have hBf : B ≤ f := by omega
  clear hf
  refine (l1Below_pos B g w6 C6.out 12 (by omega) (by omega)).mono ?_
  rintro e w7 ⟨q, rfl, ⟨q0, q1⟩, hc7, hg7⟩
  have K7 := Lib.hid (K6.out.grown hg7 hrg)
  have F7 := Lib.hid (F6.out.grown hg7 hfg)
  have G7 := Lib.hid (grown_tr G6.out hg7)
  have C7 := Lib.hid hc7
  clear hc7 hg7 C6 K6 F6 G6
  have hq : q = 0 ∨ q = 1 ∨ q = 2 ∨ q = 3 ∨ 4 ≤ q := by omega
  clear q0
  rcases hq with rfl | rfl | rfl | rfl | hq
  · go_wp2_with fail
    refine (l2Word_any B g w7 C7.out).mono ?_
    rintro e w8 ⟨x, rfl, hx, hc8, hg8⟩
    have K8 := Lib.hid (K7.out.grown hg8 hrg)
    have F8 := Lib.hid (F7.out.grown hg8 hfg)
    have G8 := Lib.hid (grown_tr G7.out hg8)
    have C8 := Lib.hid hc8
    have X1 := Lib.hid hx
    clear hc8 hg8 hx C7 K7 F7 G7
    obtain ⟨⟨d0, d1, d2, d3⟩, e0, e1, e2, e3⟩ := K8.out.four
    obtain ⟨⟨c0, c1, c2, c3⟩, f0, f1, f2, f3⟩ := F8.out.four
    have hne : ¬ w.heap.size = f := by omega
    have hne2 : ¬ f = w.heap.size := by omega
    go_wp2_with fail
    refine bodyPost_ret (v := .agg #[.int .i64 x, .int .i64 s, .int .i64 t, .string b]) (by simp [results, Try.results22, go_sem, d0, d1, d2, d3]) rfl ⟨_, _, _, _, rfl, ⟨X1.out, S1.out, T1.out, Z1.out⟩, ?_, ?_⟩
    · exact ((((C8.out.setOther _ _ hBf hfg).setOther _ _ hB hrg).setOther _ _ hB hrg).setOther _ _ hB hrg).setOther _ _ hB hrg
    · exact grown_setNew (grown_setNew (grown_setNew (grown_setNew (grown_setNew G8.out _ _ hfl) _ _ hrl) _ _ hrl) _ _ hrl) _ _ hrl
  · go_wp2_with fail
    refine (l2Word_any B g w7 C7.out).mono ?_
    rintro e w8 ⟨x, rfl, hx, hc8, hg8⟩
    have K8 := Lib.hid (K7.out.grown hg8 hrg)
    have F8 := Lib.hid (F7.out.grown hg8 hfg)
    have G8 := Lib.hid (grown_tr G7.out hg8)
    have C8 := Lib.hid hc8
    have X1 := Lib.hid hx
    clear hc8 hg8 hx C7 K7 F7 G7
    obtain ⟨⟨d0, d1, d2, d3⟩, e0, e1, e2, e3⟩ := K8.out.four
    obtain ⟨⟨c0, c1, c2, c3⟩, f0, f1, f2, f3⟩ := F8.out.four
    have hne : ¬ w.heap.size = f := by omega
    have hne2 : ¬ f = w.heap.size := by omega
    go_wp2_with fail
    refine bodyPost_ret (v := .agg #[.int .i64 d, .int .i64 x, .int .i64 t, .string b]) (by simp [results, Try.results22, go_sem, d0, d1, d2, d3]) rfl ⟨_, _, _, _, rfl, ⟨D1.out, X1.out, T1.out, Z1.out⟩, ?_, ?_⟩
    · exact ((((C8.out.setOther _ _ hBf hfg).setOther _ _ hB hrg).setOther _ _ hB hrg).setOther _ _ hB hrg).setOther _ _ hB hrg
    · exact grown_setNew (grown_setNew (grown_setNew (grown_setNew (grown_setNew G8.out _ _ hfl) _ _ hrl) _ _ hrl) _ _ hrl) _ _ hrl
  · go_wp2_with fail
    refine (pickBad B g w7 C7.out).mono ?_
    rintro e w8 ⟨x, rfl, hx, hc8, hg8⟩
    have K8 := Lib.hid (K7.out.grown hg8 hrg)
    have F8 := Lib.hid (F7.out.grown hg8 hfg)
    have G8 := Lib.hid (grown_tr G7.out hg8)
    have C8 := Lib.hid hc8
    have X1 := Lib.hid hx
    clear hc8 hg8 hx C7 K7 F7 G7
    obtain ⟨⟨d0, d1, d2, d3⟩, e0, e1, e2, e3⟩ := K8.out.four
    obtain ⟨⟨c0, c1, c2, c3⟩, f0, f1, f2, f3⟩ := F8.out.four
    have hne : ¬ w.heap.size = f := by omega
    have hne2 : ¬ f = w.heap.size := by omega
    go_wp2_with fail
    refine bodyPost_ret (v := .agg #[.int .i64 d, .int .i64 s, .int .i64 x, .string b]) (by simp [results, Try.results22, go_sem, d0, d1, d2, d3]) rfl ⟨_, _, _, _, rfl, ⟨D1.out, S1.out, X1.out, Z1.out⟩, ?_, ?_⟩
    · exact ((((C8.out.setOther _ _ hBf hfg).setOther _ _ hB hrg).setOther _ _ hB hrg).setOther _ _ hB hrg).setOther _ _ hB hrg
    · exact grown_setNew (grown_setNew (grown_setNew (grown_setNew (grown_setNew G8.out _ _ hfl) _ _ hrl) _ _ hrl) _ _ hrl) _ _ hrl
  · go_wp2_with fail
    refine (l1Below_pos B g w7 C7.out 4 (by omega) (by omega)).mono ?_
    rintro e w9 ⟨r, rfl, ⟨r0, r1⟩, hc9, hg9⟩
    obtain ⟨n, rfl⟩ : ∃ n : Nat, r = (n : Int) := ⟨r.toNat, by omega⟩
    have C9 := Lib.hid hc9
    have G9 := Lib.hid hg9
    clear hc9 hg9
    go_wp2_with fail
    have hL := l5Long_any (1584 + n) (by omega) w9
    rw [show ((1584 + n : Nat) : Int) = 1584 + (n : Int) by omega] at hL
    refine hL.mono ?_
    rintro e w8 ⟨x, rfl, hx0, hb8⟩
    have hx : x.size ≤ 1600 := by omega
    have hc8 := C9.out.below hb8
    have hg8 := grown_tr G9.out (below_any (row := some g) hb8)
    clear hb8 hx0 r0 r1 C9 G9 hL
    have K8 := Lib.hid (K7.out.grown hg8 hrg)
    have F8 := Lib.hid (F7.out.grown hg8 hfg)
    have G8 := Lib.hid (grown_tr G7.out hg8)
    have C8 := Lib.hid hc8
    have X1 := Lib.hid hx
    clear hc8 hg8 hx C7 K7 F7 G7
    obtain ⟨⟨d0, d1, d2, d3⟩, e0, e1, e2, e3⟩ := K8.out.four
    obtain ⟨⟨c0, c1, c2, c3⟩, f0, f1, f2, f3⟩ := F8.out.four
    have hne : ¬ w.heap.size = f := by omega
    have hne2 : ¬ f = w.heap.size := by omega
    go_wp2_with fail
    refine bodyPost_ret (v := .agg #[.int .i64 d, .int .i64 s, .int .i64 t, .string x]) (by simp [results, Try.results22, go_sem, d0, d1, d2, d3]) rfl ⟨_, _, _, _, rfl, ⟨D1.out, S1.out, T1.out, X1.out⟩, ?_, ?_⟩
    · exact ((((C8.out.setOther _ _ hBf hfg).setOther _ _ hB hrg).setOther _ _ hB hrg).setOther _ _ hB hrg).setOther _ _ hB hrg
    · exact grown_setNew (grown_setNew (grown_setNew (grown_setNew (grown_setNew G8.out _ _ hfl) _ _ hrl) _ _ hrl) _ _ hrl) _ _ hrl
  · have q0 : (q == 0) = false := by simp; omega
    have q1' : (q == 1) = false := by simp; omega
    have q2 : (q == 2) = false := by simp; omega
    have q3 : (q == 3) = false := by simp; omega
    have K8 := K7
    have F8 := F7
    have C8 := C7
    have G8 := G7
    clear K7 F7 C7 G7 hq q1
    obtain ⟨⟨d0, d1, d2, d3⟩, e0, e1, e2, e3⟩ := K8.out.four
    obtain ⟨⟨c0, c1, c2, c3⟩, f0, f1, f2, f3⟩ := F8.out.four
    have hne : ¬ w.heap.size = f := by omega
    have hne2 : ¬ f = w.heap.size := by omega
    go_wp2_with fail
    refine bodyPost_ret (v := .agg #[.int .i64 d, .int .i64 s, .int .i64 t, .string b]) (by simp [results, Try.results22, go_sem, d0, d1, d2, d3]) rfl ⟨_, _, _, _, rfl, ⟨D1.out, S1.out, T1.out, Z1.out⟩, ?_, ?_⟩
    · exact (((C8.out.setOther _ _ hB hrg).setOther _ _ hB hrg).setOther _ _ hB hrg).setOther _ _ hB hrg
    · exact grown_setNew (grown_setNew (grown_setNew (grown_setNew G8.out _ _ hrl) _ _ hrl) _ _ hrl) _ _ hrl
end Go.Proofs.Ytjldfmifccjniaa
