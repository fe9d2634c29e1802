/- Texts of a proof that belong together, joined. Nothing here is a claim. -/
import Derived.Test.YtkkimgjcefojdaaGreatDoorPkLk18
import Derived.Test.YtkkimgjcefojdaaGreatDoorPkLk28
namespace Go.Proofs.YtkkimgjcefojdaaGreatDoor
open Go.RowKit Go.Lib

end Go.Proofs.YtkkimgjcefojdaaGreatDoor
namespace Go.Proofs.YtkkimgjcefojdaaGreatDoor
open Go.RowKit Go.Lib

end Go.Proofs.YtkkimgjcefojdaaGreatDoor
namespace Go.Proofs.YtkkimgjcefojdaaGreatDoor
open Go.RowKit Go.Lib

end Go.Proofs.YtkkimgjcefojdaaGreatDoor
namespace Go.Proofs.YtkkimgjcefojdaaGreatDoor
open Go.RowKit Go.Lib

end Go.Proofs.YtkkimgjcefojdaaGreatDoor
namespace Go.Proofs.YtkkimgjcefojdaaGreatDoor
open Go.RowKit Go.Lib

end Go.Proofs.YtkkimgjcefojdaaGreatDoor
namespace Go.Proofs.YtkkimgjcefojdaaGreatDoor
open Go.RowKit Go.Lib

end Go.Proofs.YtkkimgjcefojdaaGreatDoor
namespace Go.Proofs.YtkkimgjcefojdaaGreatDoor
open Go.RowKit Go.Lib

theorem gw_word (s : ByteArray) (a k : Nat) (hk : 1 ≤ k ∧ k ≤ 6) : wordOk (gw s a k : Nat) (8 * k) = true := by
 have h := gw_lt s a k
 unfold wordOk
 apply decide_eq_true
 refine ⟨by omega, by omega, ?_⟩
 rw [show (8 * (k : Int)).toNat = 8 * k by omega]
 have h2 : (2 : Nat) ^ (8 * k) = 256 ^ k := pow8 k
 have h3 : gw s a k < 2 ^ (8 * k) := by rw [h2]; exact h
 exact_mod_cast h3
end Go.Proofs.YtkkimgjcefojdaaGreatDoor
namespace Go.Proofs.YtkkimgjcefojdaaGreatDoor
open Go.RowKit Go.Lib

end Go.Proofs.YtkkimgjcefojdaaGreatDoor
namespace Go.Proofs.YtkkimgjcefojdaaGreatDoor
open Go.RowKit Go.Lib

end Go.Proofs.YtkkimgjcefojdaaGreatDoor
namespace Go.Proofs.YtkkimgjcefojdaaGreatDoor
open Go.RowKit Go.Lib

end Go.Proofs.YtkkimgjcefojdaaGreatDoor
namespace Go.Proofs.YtkkimgjcefojdaaGreatDoor
open Go.RowKit Go.Lib

end Go.Proofs.YtkkimgjcefojdaaGreatDoor
namespace Go.Proofs.YtkkimgjcefojdaaGreatDoor
open Go.RowKit Go.Lib

end Go.Proofs.YtkkimgjcefojdaaGreatDoor
namespace Go.Proofs.YtkkimgjcefojdaaGreatDoor
open Go.RowKit Go.Lib

end Go.Proofs.YtkkimgjcefojdaaGreatDoor
namespace Go.Proofs.YtkkimgjcefojdaaGreatDoor
open Go.RowKit Go.Lib

end Go.Proofs.YtkkimgjcefojdaaGreatDoor
namespace Go.Proofs.YtkkimgjcefojdaaGreatDoor
open Go.RowKit Go.Lib

end Go.Proofs.YtkkimgjcefojdaaGreatDoor
namespace Go.Proofs.YtkkimgjcefojdaaGreatDoor
open Go.RowKit Go.Lib

end Go.Proofs.YtkkimgjcefojdaaGreatDoor
namespace Go.Proofs.YtkkimgjcefojdaaGreatDoor
open Go.RowKit Go.Lib

end Go.Proofs.YtkkimgjcefojdaaGreatDoor
namespace Go.Proofs.YtkkimgjcefojdaaGreatDoor
open Go.RowKit Go.Lib

end Go.Proofs.YtkkimgjcefojdaaGreatDoor
namespace Go.Proofs.YtkkimgjcefojdaaGreatDoor
open Go.RowKit Go.Lib

end Go.Proofs.YtkkimgjcefojdaaGreatDoor
namespace Go.Proofs.YtkkimgjcefojdaaGreatDoor
open Go

end Go.Proofs.YtkkimgjcefojdaaGreatDoor
namespace Go.Proofs.YtkkimgjcefojdaaGreatDoor
open Go.RowKit Go.Lib

section
variable {α : Type} {f : α → List Value} {k : Nat}
end
/-- The row of a slice that the call owns, whatever slice. -/
theorem Row.ownV {w : World} {base : Nat} {e : TypeId} {n m cap k : Nat} {a : Option Addr} {xs : List Value} (h : w.ownsRow base e k (.slice a m cap) n xs) : Row w w.heap.size a xs := by
 rcases h.2 with ⟨hv, hn⟩ | ⟨g, cap', cur, hv, _⟩
 ·subst hn
  have := h.1
  rw [Nat.zero_mul] at this
  rw [List.eq_nil_of_length_eq_zero this]
  exact Row.nil
 ·injection hv with h1 h2 h3
  subst h1 h2
  exact Row.ownK h

end Go.Proofs.YtkkimgjcefojdaaGreatDoor
namespace Go.Proofs.YtkkimgjcefojdaaGreatDoor
open Go.RowKit Go.Lib

theorem cacheOk_iff (rs : List ER) : cacheOk rs = true ↔ rs.length ≤ 4 ∧ ∀ i (h : i < rs.length), wordOk rs[i].ip 32 = true ∧ wordOk rs[i].hw 48 = true ∧ 0 ≤ rs[i].age ∧ rs[i].age ≤ 9 ∧ atE rs rs[i].ip = i := by
 unfold cacheOk
 rw [Bool.and_eq_true, allOkE_iff, decide_eq_true_eq]
 constructor
 ·rintro ⟨h1, h2⟩
  refine ⟨h1, fun i h => ?_⟩
  have := h2 i h
  rw [rowOkE_at h] at this
  simpa only [Bool.and_eq_true, decide_eq_true_eq] using this
 ·rintro ⟨h1, h2⟩
  refine ⟨h1, fun i h => ?_⟩
  rw [rowOkE_at h]
  simpa only [Bool.and_eq_true, decide_eq_true_eq] using h2 i h

end Go.Proofs.YtkkimgjcefojdaaGreatDoor
namespace Go.Proofs.YtkkimgjcefojdaaGreatDoor
open Go.RowKit Go.Lib

theorem CurB.draws {w : World} {B g : Nat} (h : CurB w B g) (n : Nat) : CurB (w.drewN n) B g := h
end Go.Proofs.YtkkimgjcefojdaaGreatDoor
namespace Go.Proofs.YtkkimgjcefojdaaGreatDoor
open Go.RowKit Go.Lib

theorem bytes_new {P : Program} (w : World) (src dst e : TypeId) (s : ByteArray) (hs : P.underlying src = some .string) (hd : P.underlying dst = some (.slice e)) (he : P.underlying e = some (.int .u8)) :
  ∃ (cap : Nat) (W : World), (convert src dst (.string s)).run P w = .ok (.slice (some ⟨w.heap.size, 0, none⟩) s.size cap) W ∧ Laid8 W w.heap.size s.data.toList ∧ Below w.heap.size w W := by
 refine ⟨_, _, run_bytes_of_string w src dst e s hs hd he, ?_, ?_⟩
 ·have hsz : ∀ cap, s.size ≤ (bytesRow s cap).size := fun cap => by simp [bytesRow]
  have hg : ∀ (C : Array Value) (fr : Nat × Nat), (w.drew.alloc (.cells C e fr)).heap[w.heap.size]? = some (.cells C e fr) := fun C fr => heap_alloc_new w.drew _
  refine ⟨fun j hj => ?_, fun j hj => ?_⟩
  ·have hj' : j < s.size := by simpa using hj
   rw [cell_of_row _ _ _ _ _ _ (hg _ _)]
   unfold bytesRow
   rw [Array.getElem?_append_left (by simpa using hj')]
   simp [hj']
  ·have hj' : j < s.size := by simpa using hj
   have := hsz (grownCap w s.size 0 e)
   unfold World.frozen?
   rw [hg]
   simp
   omega
 ·exact (show Below w.heap.size w w.drew from ⟨rfl, rfl, rfl, Nat.le_refl _, fun _ _ => rfl⟩).alloc (Nat.le_refl _) _

end Go.Proofs.YtkkimgjcefojdaaGreatDoor
namespace Go.Proofs.YtkkimgjcefojdaaGreatDoor
open Go.RowKit Go.Lib

/-- The first k bytes, made a string. -/
theorem Laid8.conv {P : Program} {W : World} {g : Nat} {l : List UInt8} (h : Laid8 W g l) (src dst e : TypeId) (cap k : Nat) (hk : k ≤ l.length) (hs : P.underlying src = some (.slice e)) (he : P.underlying e = some (.int .u8)) (hd : P.underlying dst = some .string) :
  (convert src dst (.slice (some ⟨g, 0, none⟩) k cap)).run P W = .ok (.string ⟨(l.take k).toArray⟩) W := by
 have el : (l.take k).length = k := by rw [List.length_take]; omega
 have := run_convert_bytes_back (P := P) W src dst e ⟨g, 0, none⟩ cap (l.take k) hs he hd (fun j hj => by
  rw [show (⟨g, 0, none⟩ : Addr).add j = ⟨g, j, none⟩ by simp [Addr.add]; exact fun e => e.symm]
  have hj' : j < l.length := by omega
  rw [List.getElem_take]
  exact h.1 j hj')
 rw [el] at this
 exact this
theorem bytes_new2 {P : Program} (w : World) (src dst e : TypeId) (s : ByteArray) (hs : P.underlying src = some .string) (hd : P.underlying dst = some (.slice e)) (he : P.underlying e = some (.int .u8)) :
  ∃ (cap : Nat) (W : World), (convert src dst (.string s)).run P w = .ok (.slice (some ⟨w.heap.size, 0, none⟩) s.size cap) W ∧ s.size ≤ cap ∧ Laid8 W w.heap.size s.data.toList ∧ Below w.heap.size w W := by
 obtain ⟨cap, W, h, hl, hb⟩ := bytes_new w src dst e s hs hd he
 refine ⟨cap, W, h, ?_, hl, hb⟩
 have h2 := h.symm.trans (run_bytes_of_string w src dst e s hs hd he)
 injection h2 with e1 e2
 injection e1 with _ _ e3
 rw [e3]
 exact grownCap_ge _ _ _ _
end Go.Proofs.YtkkimgjcefojdaaGreatDoor
namespace Go.Proofs.YtkkimgjcefojdaaGreatDoor
open Go.RowKit Go.Lib

end Go.Proofs.YtkkimgjcefojdaaGreatDoor
namespace Go.Proofs.YtkkimgjcefojdaaGreatDoor
open Go.RowKit Go.Lib

theorem packText_le (s d t p i : Int) (b : ByteArray) : (packText s d t p i b).size ≤ 1500 := by
 cases h : packOk s d t p i b with
 | false => rw [packText_no h]; decide
 | true =>
  obtain ⟨hs, hd, ht, hp, hi, hb⟩ := packOk_all h
  obtain ⟨_, _, _, _, z1⟩ := putW_word (sumOf (packHead (20 + b.size) i t p ++ packTail s d)) 2 (by omega) (sum_word _)
  have e1 : ((2 : Nat) : Int) = 2 := rfl
  rw [e1] at z1
  rw [packText_yes h, ByteArray.size_append, ByteArray.size_append, ByteArray.size_append, packHead_size h, packTail_size h, z1]
  omega
end Go.Proofs.YtkkimgjcefojdaaGreatDoor
namespace Go.Proofs.YtkkimgjcefojdaaGreatDoor
open Go.RowKit Go.Lib

end Go.Proofs.YtkkimgjcefojdaaGreatDoor
namespace Go.Proofs.YtkkimgjcefojdaaGreatDoor
open Go.RowKit Go.Lib

theorem arpText_le (k a b c d : Int) : (arpText k a b c d).size ≤ 36 := by
 unfold arpText
 split
 ·have h1 := putW_le k 2
  have h2 := putW_le a 6
  have h3 := putW_le b 4
  have h4 := putW_le c 6
  have h5 := putW_le d 4
  have h6 : arpHead.size = 6 := rfl
  rw [ByteArray.size_append, ByteArray.size_append, ByteArray.size_append, ByteArray.size_append, ByteArray.size_append]; omega
 ·decide
end Go.Proofs.YtkkimgjcefojdaaGreatDoor
namespace Go.Proofs.YtkkimgjcefojdaaGreatDoor
open Go.RowKit Go.Lib

def macCs : Array Value := #[.int .i64 11, .int .i64 12, .int .i64 13, .int .i64 281474976710655, .int .i64 0, .int .i64 2199023255552]
theorem macCs_bd : ∀ v ∈ macCs.toList, ∃ x, v = .int .i64 x ∧ I64 x := by
 intro v hv
 simp only [macCs, List.mem_cons, List.mem_nil_iff, or_false] at hv
 unfold I64
 rcases hv with rfl | rfl | rfl | rfl | rfl | rfl <;> exact ⟨_, rfl, by decide⟩
theorem pickMac (B g : Nat) (w : World) (hc : CurB w B g) : Calls Tryz.prog 63 #[.pointer (some ⟨g, 0, none⟩), .slice (some ⟨w.heap.size, 0, none⟩) 6 6] (w.alloc (.cells macCs 3)) (WholeEnd w B g) :=
 pickNew B g w hc macCs (by decide) (by decide) macCs_bd

set_option maxRecDepth 100000 in
set_option maxHeartbeats 1000000 in
theorem l5Mac_any (B g : Nat) (w : World) (hc : CurB w B g) : Calls Tryz.prog 99 #[.pointer (some ⟨g, 0, none⟩)] w (WholeEnd w B g) := by
 have C := Lib.hid (pickMac B g w hc)
 clear hc
 go_enter Tryz.func99, Tryz.ntmps99
 go_wp2_with fail
 refine C.out.mono ?_
 rintro e w1 ⟨n, rfl, hn, hc1, hg1⟩
 have N := Lib.hid hn
 have C1 := Lib.hid hc1
 have G1 := Lib.hid hg1
 clear hn hc1 hg1
 go_wp2_with fail
 go_ret
 exact ⟨n, rfl, N.out, C1.out, G1.out⟩
end Go.Proofs.YtkkimgjcefojdaaGreatDoor
namespace Go.Proofs.YtkkimgjcefojdaaGreatDoor
open Go.RowKit Go.Lib

/-- What l5Frame hands back: a frame of some fields; only the cursor has turned. -/
def FrmEnd (w : World) (B g : Nat) (e : Ending) (w' : World) : Prop := ∃ (d s t : Int) (b : ByteArray), e = .returned (.agg #[.int .i64 d, .int .i64 s, .int .i64 t, .string b]) ∧ (I64 d ∧ I64 s ∧ I64 t ∧ b.size ≤ 1600) ∧ CurB w' B g ∧ w.grownBy w' (some g)

def kindCs : Array Value := #[.int .i64 2048, .int .i64 2054, .int .i64 1536, .int .i64 65535]
theorem kindCs_bd : ∀ v ∈ kindCs.toList, ∃ x, v = .int .i64 x ∧ I64 x := by
 intro v hv
 simp only [kindCs, List.mem_cons, List.mem_nil_iff, or_false] at hv
 unfold I64
 rcases hv with rfl | rfl | rfl | rfl <;> exact ⟨_, rfl, by decide⟩
theorem pickKind (B g : Nat) (w : World) (hc : CurB w B g) : Calls Tryz.prog 63 #[.pointer (some ⟨g, 0, none⟩), .slice (some ⟨w.heap.size, 0, none⟩) 4 4] (w.alloc (.cells kindCs 3)) (WholeEnd w B g) :=
 pickNew B g w hc kindCs (by decide) (by decide) kindCs_bd
def badCs : Array Value := #[.int .i64 0, .int .i64 1535, .int .i64 65536, .int .i64 (-1)]
theorem badCs_bd : ∀ v ∈ badCs.toList, ∃ x, v = .int .i64 x ∧ I64 x := by
 intro v hv
 simp only [badCs, List.mem_cons, List.mem_nil_iff, or_false] at hv
 unfold I64
 rcases hv with rfl | rfl | rfl | rfl <;> exact ⟨_, rfl, by decide⟩
theorem pickBad (B g : Nat) (w : World) (hc : CurB w B g) : Calls Tryz.prog 63 #[.pointer (some ⟨g, 0, none⟩), .slice (some ⟨w.heap.size, 0, none⟩) 4 4] (w.alloc (.cells badCs 3)) (WholeEnd w B g) :=
 pickNew B g w hc badCs (by decide) (by decide) badCs_bd

set_option maxRecDepth 100000 in
set_option maxHeartbeats 4000000 in
theorem l5Frame_any (B g : Nat) (w : World) (hc : CurB w B g) : Calls Tryz.prog 66 #[.pointer (some ⟨g, 0, none⟩)] w (FrmEnd w B g) := by
 have hlt := hc.lt
 have hBg := hc.1
 have C := Lib.hid hc
 clear hc
 go_enter Tryz.func66, Tryz.ntmps66
 go_wp2_with fail
 refine (l5Mac_any B g _ (C.out.new _)).mono ?_
 rintro e w1 ⟨d, rfl, hd, hc1, hg1⟩
 have K1 := Lib.hid ((Blk.new w [.int .i64 0, .int .i64 0, .int .i64 0, .string ⟨#[]⟩] 38).grown hg1 (by omega))
 have G1 := Lib.hid (grown_tr (World.grownBy_alloc w _ _) hg1)
 have C1 := Lib.hid hc1
 have D1 := Lib.hid hd
 clear hc1 hg1 hd C
 go_wp2_with fail
 refine (l5Mac_any B g w1 C1.out).mono ?_
 rintro e w2 ⟨s, rfl, hs, hc2, hg2⟩
 have K2 := Lib.hid (K1.out.grown hg2 (by omega))
 have G2 := Lib.hid (grown_tr G1.out hg2)
 have C2 := Lib.hid hc2
 have S1 := Lib.hid hs
 clear hc2 hg2 hs C1 K1 G1
 go_wp2_with fail
 refine (pickKind B g w2 C2.out).mono ?_
 rintro e w3 ⟨t, rfl, ht, hc3, hg3⟩
 have K3 := Lib.hid (K2.out.grown hg3 (by omega))
 have G3 := Lib.hid (grown_tr G2.out hg3)
 have C3 := Lib.hid hc3
 have T1 := Lib.hid ht
 clear hc3 hg3 ht C2 K2 G2
 go_wp2_with fail
 refine (l1Below_pos B g w3 C3.out 6 (by omega) (by omega)).mono ?_
 rintro e w4 ⟨r, rfl, ⟨r0, r1⟩, hc4, hg4⟩
 obtain ⟨n, rfl⟩ : ∃ n : Nat, r = (n : Int) := ⟨r.toNat, by omega⟩
 have K4 := Lib.hid (K3.out.grown hg4 (by omega))
 have G4 := Lib.hid (grown_tr G3.out hg4)
 have C4 := Lib.hid hc4
 clear hc4 hg4 C3 K3 G3
 go_wp2_with fail
 refine (l1Bytes_any B g n w4 C4.out (by omega)).mono ?_
 rintro e w5 ⟨v, l, rfl, hl, hown, hc5, hg5⟩
 have hcv := run_string_own (P := Tryz.prog) Tryz.underlying22 Tryz.underlying5 Tryz.underlying9 hown
 obtain ⟨b, hb⟩ : ∃ b : ByteArray, (⟨l.toArray⟩ : ByteArray) = b := ⟨_, rfl⟩
 have hsz : b.size ≤ 1600 := by rw [← hb]; simp [ByteArray.size]; omega
 rw [hb] at hcv
 have K5 := Lib.hid (K4.out.grown hg5 (by omega))
 have G5 := Lib.hid (grown_tr G4.out hg5)
 have C5 := Lib.hid hc5
 have Z1 := Lib.hid hsz
 clear hc5 hg5 hown hl hb hsz C4 K4 G4 r0 r1
 go_wp2_with fail
 clear hcv
 have hr0 : w.heap.size < w5.heap.size := K5.out.lt
 have K6 := Lib.hid (K5.out.alloc (.cells #[.int .i64 d, .int .i64 s, .int .i64 t, .string b] 38))
 have F6 := Lib.hid (Blk.new w5 [.int .i64 d, .int .i64 s, .int .i64 t, .string b] 38)
 have C6 := Lib.hid (C5.out.new (.cells #[.int .i64 d, .int .i64 s, .int .i64 t, .string b] 38))
 have G6 := Lib.hid (grown_new G5.out (.cells #[.int .i64 d, .int .i64 s, .int .i64 t, .string b] 38))
 have hfg : w5.heap.size ≠ g := Nat.ne_of_gt C5.out.lt
 have hrg : w.heap.size ≠ g := Nat.ne_of_gt hlt
 have hB : B ≤ w.heap.size := by omega
 have hrl : w.heap.size ≤ w.heap.size := Nat.le_refl _
 clear C5 K5 G5
 generalize w5.alloc (.cells #[.int .i64 d, .int .i64 s, .int .i64 t, .string b] 38) = w6 at K6 F6 C6 G6 ⊢
 generalize hf : w5.heap.size = f at hr0 F6 hfg ⊢
 have hfl : w.heap.size ≤ f := by omega
 have hBf : B ≤ f := by omega
 clear hf
 refine (l1Below_pos B g w6 C6.out 12 (by omega) (by omega)).mono ?_
 rintro e w7 ⟨q, rfl, ⟨q0, q1⟩, hc7, hg7⟩
 have K7 := Lib.hid (K6.out.grown hg7 hrg)
 have F7 := Lib.hid (F6.out.grown hg7 hfg)
 have G7 := Lib.hid (grown_tr G6.out hg7)
 have C7 := Lib.hid hc7
 clear hc7 hg7 C6 K6 F6 G6
 have hq : q = 0 ∨ q = 1 ∨ q = 2 ∨ q = 3 ∨ 4 ≤ q := by omega
 clear q0
 rcases hq with rfl | rfl | rfl | rfl | hq
 ·go_wp2_with fail
  refine (l2Word_any B g w7 C7.out).mono ?_
  rintro e w8 ⟨x, rfl, hx, hc8, hg8⟩
  have K8 := Lib.hid (K7.out.grown hg8 hrg)
  have F8 := Lib.hid (F7.out.grown hg8 hfg)
  have G8 := Lib.hid (grown_tr G7.out hg8)
  have C8 := Lib.hid hc8
  have X1 := Lib.hid hx
  clear hc8 hg8 hx C7 K7 F7 G7
  obtain ⟨⟨d0, d1, d2, d3⟩, e0, e1, e2, e3⟩ := K8.out.four
  obtain ⟨⟨c0, c1, c2, c3⟩, f0, f1, f2, f3⟩ := F8.out.four
  have hne : ¬ w.heap.size = f := by omega
  have hne2 : ¬ f = w.heap.size := by omega
  go_wp2_with fail
  refine bodyPost_ret (v := .agg #[.int .i64 x, .int .i64 s, .int .i64 t, .string b]) (by simp [results, Tryz.results66, go_sem, d0, d1, d2, d3]) rfl ⟨_, _, _, _, rfl, ⟨X1.out, S1.out, T1.out, Z1.out⟩, ?_, ?_⟩
  ·exact ((((C8.out.setOther _ _ hBf hfg).setOther _ _ hB hrg).setOther _ _ hB hrg).setOther _ _ hB hrg).setOther _ _ hB hrg
  ·exact grown_setNew (grown_setNew (grown_setNew (grown_setNew (grown_setNew G8.out _ _ hfl) _ _ hrl) _ _ hrl) _ _ hrl) _ _ hrl
 ·go_wp2_with fail
  refine (l2Word_any B g w7 C7.out).mono ?_
  rintro e w8 ⟨x, rfl, hx, hc8, hg8⟩
  have K8 := Lib.hid (K7.out.grown hg8 hrg)
  have F8 := Lib.hid (F7.out.grown hg8 hfg)
  have G8 := Lib.hid (grown_tr G7.out hg8)
  have C8 := Lib.hid hc8
  have X1 := Lib.hid hx
  clear hc8 hg8 hx C7 K7 F7 G7
  obtain ⟨⟨d0, d1, d2, d3⟩, e0, e1, e2, e3⟩ := K8.out.four
  obtain ⟨⟨c0, c1, c2, c3⟩, f0, f1, f2, f3⟩ := F8.out.four
  have hne : ¬ w.heap.size = f := by omega
  have hne2 : ¬ f = w.heap.size := by omega
  go_wp2_with fail
  refine bodyPost_ret (v := .agg #[.int .i64 d, .int .i64 x, .int .i64 t, .string b]) (by simp [results, Tryz.results66, go_sem, d0, d1, d2, d3]) rfl ⟨_, _, _, _, rfl, ⟨D1.out, X1.out, T1.out, Z1.out⟩, ?_, ?_⟩
  ·exact ((((C8.out.setOther _ _ hBf hfg).setOther _ _ hB hrg).setOther _ _ hB hrg).setOther _ _ hB hrg).setOther _ _ hB hrg
  ·exact grown_setNew (grown_setNew (grown_setNew (grown_setNew (grown_setNew G8.out _ _ hfl) _ _ hrl) _ _ hrl) _ _ hrl) _ _ hrl
 ·go_wp2_with fail
  refine (pickBad B g w7 C7.out).mono ?_
  rintro e w8 ⟨x, rfl, hx, hc8, hg8⟩
  have K8 := Lib.hid (K7.out.grown hg8 hrg)
  have F8 := Lib.hid (F7.out.grown hg8 hfg)
  have G8 := Lib.hid (grown_tr G7.out hg8)
  have C8 := Lib.hid hc8
  have X1 := Lib.hid hx
  clear hc8 hg8 hx C7 K7 F7 G7
  obtain ⟨⟨d0, d1, d2, d3⟩, e0, e1, e2, e3⟩ := K8.out.four
  obtain ⟨⟨c0, c1, c2, c3⟩, f0, f1, f2, f3⟩ := F8.out.four
  have hne : ¬ w.heap.size = f := by omega
  have hne2 : ¬ f = w.heap.size := by omega
  go_wp2_with fail
  refine bodyPost_ret (v := .agg #[.int .i64 d, .int .i64 s, .int .i64 x, .string b]) (by simp [results, Tryz.results66, go_sem, d0, d1, d2, d3]) rfl ⟨_, _, _, _, rfl, ⟨D1.out, S1.out, X1.out, Z1.out⟩, ?_, ?_⟩
  ·exact ((((C8.out.setOther _ _ hBf hfg).setOther _ _ hB hrg).setOther _ _ hB hrg).setOther _ _ hB hrg).setOther _ _ hB hrg
  ·exact grown_setNew (grown_setNew (grown_setNew (grown_setNew (grown_setNew G8.out _ _ hfl) _ _ hrl) _ _ hrl) _ _ hrl) _ _ hrl
 ·go_wp2_with fail
  refine (l1Below_pos B g w7 C7.out 4 (by omega) (by omega)).mono ?_
  rintro e w9 ⟨r, rfl, ⟨r0, r1⟩, hc9, hg9⟩
  obtain ⟨n, rfl⟩ : ∃ n : Nat, r = (n : Int) := ⟨r.toNat, by omega⟩
  have C9 := Lib.hid hc9
  have G9 := Lib.hid hg9
  clear hc9 hg9
  go_wp2_with fail
  have hL := l5Long_any (1584 + n) (by omega) w9
  rw [show ((1584 + n : Nat) : Int) = 1584 + (n : Int) by omega] at hL
  refine hL.mono ?_
  rintro e w8 ⟨x, rfl, hx0, hb8⟩
  have hx : x.size ≤ 1600 := by omega
  have hc8 := C9.out.below hb8
  have hg8 := grown_tr G9.out (below_any (row := some g) hb8)
  clear hb8 hx0 r0 r1 C9 G9 hL
  have K8 := Lib.hid (K7.out.grown hg8 hrg)
  have F8 := Lib.hid (F7.out.grown hg8 hfg)
  have G8 := Lib.hid (grown_tr G7.out hg8)
  have C8 := Lib.hid hc8
  have X1 := Lib.hid hx
  clear hc8 hg8 hx C7 K7 F7 G7
  obtain ⟨⟨d0, d1, d2, d3⟩, e0, e1, e2, e3⟩ := K8.out.four
  obtain ⟨⟨c0, c1, c2, c3⟩, f0, f1, f2, f3⟩ := F8.out.four
  have hne : ¬ w.heap.size = f := by omega
  have hne2 : ¬ f = w.heap.size := by omega
  go_wp2_with fail
  refine bodyPost_ret (v := .agg #[.int .i64 d, .int .i64 s, .int .i64 t, .string x]) (by simp [results, Tryz.results66, go_sem, d0, d1, d2, d3]) rfl ⟨_, _, _, _, rfl, ⟨D1.out, S1.out, T1.out, X1.out⟩, ?_, ?_⟩
  ·exact ((((C8.out.setOther _ _ hBf hfg).setOther _ _ hB hrg).setOther _ _ hB hrg).setOther _ _ hB hrg).setOther _ _ hB hrg
  ·exact grown_setNew (grown_setNew (grown_setNew (grown_setNew (grown_setNew G8.out _ _ hfl) _ _ hrl) _ _ hrl) _ _ hrl) _ _ hrl
 ·have q0 : (q == 0) = false := by simp; omega
  have q1' : (q == 1) = false := by simp; omega
  have q2 : (q == 2) = false := by simp; omega
  have q3 : (q == 3) = false := by simp; omega
  have K8 := K7
  have F8 := F7
  have C8 := C7
  have G8 := G7
  clear K7 F7 C7 G7 hq q1
  obtain ⟨⟨d0, d1, d2, d3⟩, e0, e1, e2, e3⟩ := K8.out.four
  obtain ⟨⟨c0, c1, c2, c3⟩, f0, f1, f2, f3⟩ := F8.out.four
  have hne : ¬ w.heap.size = f := by omega
  have hne2 : ¬ f = w.heap.size := by omega
  go_wp2_with fail
  refine bodyPost_ret (v := .agg #[.int .i64 d, .int .i64 s, .int .i64 t, .string b]) (by simp [results, Tryz.results66, go_sem, d0, d1, d2, d3]) rfl ⟨_, _, _, _, rfl, ⟨D1.out, S1.out, T1.out, Z1.out⟩, ?_, ?_⟩
  ·exact (((C8.out.setOther _ _ hB hrg).setOther _ _ hB hrg).setOther _ _ hB hrg).setOther _ _ hB hrg
  ·exact grown_setNew (grown_setNew (grown_setNew (grown_setNew G8.out _ _ hrl) _ _ hrl) _ _ hrl) _ _ hrl
end Go.Proofs.YtkkimgjcefojdaaGreatDoor
namespace Go.Proofs.YtkkimgjcefojdaaGreatDoor
open Go.RowKit Go.Lib

def ipCs : Array Value := #[.int .i64 167772161, .int .i64 167772162, .int .i64 167772163, .int .i64 0, .int .i64 4294967295]
theorem ipCs_bd : ∀ v ∈ ipCs.toList, ∃ x, v = .int .i64 x ∧ I64 x := by
 intro v hv
 simp only [ipCs, List.mem_cons, List.mem_nil_iff, or_false] at hv
 unfold I64
 rcases hv with rfl | rfl | rfl | rfl | rfl <;> exact ⟨_, rfl, by decide⟩
theorem pickIp (B g : Nat) (w : World) (hc : CurB w B g) : Calls Tryz.prog 63 #[.pointer (some ⟨g, 0, none⟩), .slice (some ⟨w.heap.size, 0, none⟩) 5 5] (w.alloc (.cells ipCs 3)) (WholeEnd w B g) :=
 pickNew B g w hc ipCs (by decide) (by decide) ipCs_bd

set_option maxRecDepth 100000 in
set_option maxHeartbeats 1000000 in
theorem l6Ip_any (B g : Nat) (w : World) (hc : CurB w B g) : Calls Tryz.prog 100 #[.pointer (some ⟨g, 0, none⟩)] w (WholeEnd w B g) := by
 have C := Lib.hid (pickIp B g w hc)
 clear hc
 go_enter Tryz.func100, Tryz.ntmps100
 go_wp2_with fail
 refine C.out.mono ?_
 rintro e w1 ⟨n, rfl, hn, hc1, hg1⟩
 have N := Lib.hid hn
 have C1 := Lib.hid hc1
 have G1 := Lib.hid hg1
 clear hn hc1 hg1
 go_wp2_with fail
 go_ret
 exact ⟨n, rfl, N.out, C1.out, G1.out⟩

end Go.Proofs.YtkkimgjcefojdaaGreatDoor
namespace Go.Proofs.YtkkimgjcefojdaaGreatDoor
open Go.RowKit Go.Lib

/-- What l6Arp hands back: a message of some fields; only the cursor has turned. -/
def ArpEnd (w : World) (B g : Nat) (e : Ending) (w' : World) : Prop := ∃ (k a b c d : Int), e = .returned (.agg #[.int .i64 k, .int .i64 a, .int .i64 b, .int .i64 c, .int .i64 d]) ∧ (I64 k ∧ I64 a ∧ I64 b ∧ I64 c ∧ I64 d) ∧ CurB w' B g ∧ w.grownBy w' (some g)

set_option maxRecDepth 100000 in
set_option maxHeartbeats 8000000 in
theorem l6Arp_any (B g : Nat) (w : World) (hc : CurB w B g) : Calls Tryz.prog 64 #[.pointer (some ⟨g, 0, none⟩)] w (ArpEnd w B g) := by
 have hlt := hc.lt
 have hBg := hc.1
 have C0 := Lib.hid hc
 clear hc
 go_enter Tryz.func64, Tryz.ntmps64
 go_wp2_with fail
 refine (l1Below_pos B g _ (C0.out.new _) 2 (by omega) (by omega)).mono ?_
 rintro e w1 ⟨r, rfl, hvr, hcu, hgr⟩
 have Dr := Lib.hid hvr
 have K1 := Lib.hid ((Blk.new w [.int .i64 0, .int .i64 0, .int .i64 0, .int .i64 0, .int .i64 0] 96).grown hgr (by omega))
 have G1 := Lib.hid (grown_tr (World.grownBy_alloc w _ _) hgr)
 have C1 := Lib.hid hcu
 clear hcu hgr C0
 have ir := hvr.1
 have jr := hvr.2
 clear hvr
 go_wp2_with fail
 refine (l5Mac_any B g w1 C1.out).mono ?_
 rintro e w2 ⟨a, rfl, hva, hcu, hgr⟩
 have Da := Lib.hid hva
 have K2 := Lib.hid (K1.out.grown hgr (by omega))
 have G2 := Lib.hid (grown_tr G1.out hgr)
 have C2 := Lib.hid hcu
 clear hcu hgr C1 K1 G1 hva
 go_wp2_with fail
 refine (l6Ip_any B g w2 C2.out).mono ?_
 rintro e w3 ⟨b, rfl, hvb, hcu, hgr⟩
 have Db := Lib.hid hvb
 have K3 := Lib.hid (K2.out.grown hgr (by omega))
 have G3 := Lib.hid (grown_tr G2.out hgr)
 have C3 := Lib.hid hcu
 clear hcu hgr C2 K2 G2 hvb
 go_wp2_with fail
 refine (l5Mac_any B g w3 C3.out).mono ?_
 rintro e w4 ⟨c, rfl, hvc, hcu, hgr⟩
 have Dc := Lib.hid hvc
 have K4 := Lib.hid (K3.out.grown hgr (by omega))
 have G4 := Lib.hid (grown_tr G3.out hgr)
 have C4 := Lib.hid hcu
 clear hcu hgr C3 K3 G3 hvc
 go_wp2_with fail
 refine (l6Ip_any B g w4 C4.out).mono ?_
 rintro e w5 ⟨d, rfl, hvd, hcu, hgr⟩
 have Dd := Lib.hid hvd
 have K5 := Lib.hid (K4.out.grown hgr (by omega))
 have G5 := Lib.hid (grown_tr G4.out hgr)
 have C5 := Lib.hid hcu
 clear hcu hgr C4 K4 G4 hvd
 go_wp2_with fail
 have hr0 : w.heap.size < w5.heap.size := K5.out.lt
 have K6 := Lib.hid (K5.out.alloc (.cells #[.int .i64 (1 + r), .int .i64 a, .int .i64 b, .int .i64 c, .int .i64 d] 96))
 have F6 := Lib.hid (Blk.new w5 [.int .i64 (1 + r), .int .i64 a, .int .i64 b, .int .i64 c, .int .i64 d] 96)
 have C6 := Lib.hid (C5.out.new (.cells #[.int .i64 (1 + r), .int .i64 a, .int .i64 b, .int .i64 c, .int .i64 d] 96))
 have G6 := Lib.hid (grown_new G5.out (.cells #[.int .i64 (1 + r), .int .i64 a, .int .i64 b, .int .i64 c, .int .i64 d] 96))
 have hfg : w5.heap.size ≠ g := Nat.ne_of_gt C5.out.lt
 have hrg : w.heap.size ≠ g := Nat.ne_of_gt hlt
 have hB : B ≤ w.heap.size := by omega
 have hrl : w.heap.size ≤ w.heap.size := Nat.le_refl _
 clear C5 K5 G5
 generalize w5.alloc (.cells #[.int .i64 (1 + r), .int .i64 a, .int .i64 b, .int .i64 c, .int .i64 d] 96) = w6 at K6 F6 C6 G6 ⊢
 generalize hf : w5.heap.size = f at hr0 F6 hfg ⊢
 have hfl : w.heap.size ≤ f := by omega
 have hBf : B ≤ f := by omega
 clear hf
 refine (l1Below_pos B g w6 C6.out 14 (by omega) (by omega)).mono ?_
 rintro e w7 ⟨q, rfl, ⟨q0, q1⟩, hcu, hgr⟩
 have K7 := Lib.hid (K6.out.grown hgr hrg)
 have F7 := Lib.hid (F6.out.grown hgr hfg)
 have G7 := Lib.hid (grown_tr G6.out hgr)
 have C7 := Lib.hid (hcu)
 clear hcu hgr C6 K6 F6 G6
 have hq : q = 0 ∨ q = 1 ∨ q = 2 ∨ q = 3 ∨ 4 ≤ q := by omega
 clear q0
 rcases hq with rfl | rfl | rfl | rfl | hq
 ·go_wp2_with fail
  refine (l1Below_pos B g w7 C7.out 5 (by omega) (by omega)).mono ?_
  rintro e w8 ⟨x, rfl, hvx, hcu, hgr⟩
  have Dx := Lib.hid hvx
  have K8 := Lib.hid (K7.out.grown hgr hrg)
  have F8 := Lib.hid (F7.out.grown hgr hfg)
  have G8 := Lib.hid (grown_tr G7.out hgr)
  have C8 := Lib.hid (hcu)
  clear hcu hgr C7 K7 F7 G7
  have ix := hvx.1
  have jx := hvx.2
  clear hvx
  obtain ⟨⟨d0, d1, d2, d3, d4⟩, e0, e1, e2, e3, e4⟩ := K8.out.of5
  obtain ⟨⟨c0, c1, c2, c3, c4⟩, f0, f1, f2, f3, f4⟩ := F8.out.of5
  have hne : ¬ w.heap.size = f := by omega
  have hne2 : ¬ f = w.heap.size := by omega
  go_wp2_with fail
  refine bodyPost_ret (v := .agg #[.int .i64 (x - 1), .int .i64 a, .int .i64 b, .int .i64 c, .int .i64 d]) (by simp [results, Tryz.results64, go_sem, d0, d1, d2, d3, d4]) rfl ⟨_, _, _, _, _, rfl, ⟨by have := Dx.out; unfold I64; omega, Da.out, Db.out, Dc.out, Dd.out⟩, ?_, ?_⟩
  ·exact (((((C8.out.setOther _ _ hBf hfg).setOther _ _ hB hrg).setOther _ _ hB hrg).setOther _ _ hB hrg).setOther _ _ hB hrg).setOther _ _ hB hrg
  ·exact grown_setNew (grown_setNew (grown_setNew (grown_setNew (grown_setNew (grown_setNew G8.out _ _ hfl) _ _ hrl) _ _ hrl) _ _ hrl) _ _ hrl) _ _ hrl
 ·go_wp2_with fail
  refine (l2Word_any B g w7 C7.out).mono ?_
  rintro e w8 ⟨x, rfl, hvx, hcu, hgr⟩
  have Dx := Lib.hid hvx
  have K8 := Lib.hid (K7.out.grown hgr hrg)
  have F8 := Lib.hid (F7.out.grown hgr hfg)
  have G8 := Lib.hid (grown_tr G7.out hgr)
  have C8 := Lib.hid (hcu)
  clear hcu hgr C7 K7 F7 G7 hvx
  obtain ⟨⟨d0, d1, d2, d3, d4⟩, e0, e1, e2, e3, e4⟩ := K8.out.of5
  obtain ⟨⟨c0, c1, c2, c3, c4⟩, f0, f1, f2, f3, f4⟩ := F8.out.of5
  have hne : ¬ w.heap.size = f := by omega
  have hne2 : ¬ f = w.heap.size := by omega
  go_wp2_with fail
  refine bodyPost_ret (v := .agg #[.int .i64 (1 + r), .int .i64 x, .int .i64 b, .int .i64 c, .int .i64 d]) (by simp [results, Tryz.results64, go_sem, d0, d1, d2, d3, d4]) rfl ⟨_, _, _, _, _, rfl, ⟨by have := Dr.out; unfold I64; omega, Dx.out, Db.out, Dc.out, Dd.out⟩, ?_, ?_⟩
  ·exact (((((C8.out.setOther _ _ hBf hfg).setOther _ _ hB hrg).setOther _ _ hB hrg).setOther _ _ hB hrg).setOther _ _ hB hrg).setOther _ _ hB hrg
  ·exact grown_setNew (grown_setNew (grown_setNew (grown_setNew (grown_setNew (grown_setNew G8.out _ _ hfl) _ _ hrl) _ _ hrl) _ _ hrl) _ _ hrl) _ _ hrl
 ·go_wp2_with fail
  refine (l2Word_any B g w7 C7.out).mono ?_
  rintro e w8 ⟨x, rfl, hvx, hcu, hgr⟩
  have Dx := Lib.hid hvx
  have K8 := Lib.hid (K7.out.grown hgr hrg)
  have F8 := Lib.hid (F7.out.grown hgr hfg)
  have G8 := Lib.hid (grown_tr G7.out hgr)
  have C8 := Lib.hid (hcu)
  clear hcu hgr C7 K7 F7 G7 hvx
  obtain ⟨⟨d0, d1, d2, d3, d4⟩, e0, e1, e2, e3, e4⟩ := K8.out.of5
  obtain ⟨⟨c0, c1, c2, c3, c4⟩, f0, f1, f2, f3, f4⟩ := F8.out.of5
  have hne : ¬ w.heap.size = f := by omega
  have hne2 : ¬ f = w.heap.size := by omega
  go_wp2_with fail
  refine bodyPost_ret (v := .agg #[.int .i64 (1 + r), .int .i64 a, .int .i64 x, .int .i64 c, .int .i64 d]) (by simp [results, Tryz.results64, go_sem, d0, d1, d2, d3, d4]) rfl ⟨_, _, _, _, _, rfl, ⟨by have := Dr.out; unfold I64; omega, Da.out, Dx.out, Dc.out, Dd.out⟩, ?_, ?_⟩
  ·exact (((((C8.out.setOther _ _ hBf hfg).setOther _ _ hB hrg).setOther _ _ hB hrg).setOther _ _ hB hrg).setOther _ _ hB hrg).setOther _ _ hB hrg
  ·exact grown_setNew (grown_setNew (grown_setNew (grown_setNew (grown_setNew (grown_setNew G8.out _ _ hfl) _ _ hrl) _ _ hrl) _ _ hrl) _ _ hrl) _ _ hrl
 ·go_wp2_with fail
  refine (l2Word_any B g w7 C7.out).mono ?_
  rintro e w8 ⟨x, rfl, hvx, hcu, hgr⟩
  have Dx := Lib.hid hvx
  have K8 := Lib.hid (K7.out.grown hgr hrg)
  have F8 := Lib.hid (F7.out.grown hgr hfg)
  have G8 := Lib.hid (grown_tr G7.out hgr)
  have C8 := Lib.hid (hcu)
  clear hcu hgr C7 K7 F7 G7 hvx
  obtain ⟨⟨d0, d1, d2, d3, d4⟩, e0, e1, e2, e3, e4⟩ := K8.out.of5
  obtain ⟨⟨c0, c1, c2, c3, c4⟩, f0, f1, f2, f3, f4⟩ := F8.out.of5
  have hne : ¬ w.heap.size = f := by omega
  have hne2 : ¬ f = w.heap.size := by omega
  go_wp2_with fail
  refine bodyPost_ret (v := .agg #[.int .i64 (1 + r), .int .i64 a, .int .i64 b, .int .i64 c, .int .i64 x]) (by simp [results, Tryz.results64, go_sem, d0, d1, d2, d3, d4]) rfl ⟨_, _, _, _, _, rfl, ⟨by have := Dr.out; unfold I64; omega, Da.out, Db.out, Dc.out, Dx.out⟩, ?_, ?_⟩
  ·exact (((((C8.out.setOther _ _ hBf hfg).setOther _ _ hB hrg).setOther _ _ hB hrg).setOther _ _ hB hrg).setOther _ _ hB hrg).setOther _ _ hB hrg
  ·exact grown_setNew (grown_setNew (grown_setNew (grown_setNew (grown_setNew (grown_setNew G8.out _ _ hfl) _ _ hrl) _ _ hrl) _ _ hrl) _ _ hrl) _ _ hrl
 ·have nq0 : (q == 0) = false := by simp; omega
  have nq1 : (q == 1) = false := by simp; omega
  have nq2 : (q == 2) = false := by simp; omega
  have nq3 : (q == 3) = false := by simp; omega
  clear hq q1
  obtain ⟨⟨d0, d1, d2, d3, d4⟩, e0, e1, e2, e3, e4⟩ := K7.out.of5
  obtain ⟨⟨c0, c1, c2, c3, c4⟩, f0, f1, f2, f3, f4⟩ := F7.out.of5
  have hne : ¬ w.heap.size = f := by omega
  have hne2 : ¬ f = w.heap.size := by omega
  go_wp2_with fail
  refine bodyPost_ret (v := .agg #[.int .i64 (1 + r), .int .i64 a, .int .i64 b, .int .i64 c, .int .i64 d]) (by simp [results, Tryz.results64, go_sem, d0, d1, d2, d3, d4]) rfl ⟨_, _, _, _, _, rfl, ⟨by have := Dr.out; unfold I64; omega, Da.out, Db.out, Dc.out, Dd.out⟩, ?_, ?_⟩
  ·exact ((((C7.out.setOther _ _ hB hrg).setOther _ _ hB hrg).setOther _ _ hB hrg).setOther _ _ hB hrg).setOther _ _ hB hrg
  ·exact grown_setNew (grown_setNew (grown_setNew (grown_setNew (grown_setNew G7.out _ _ hrl) _ _ hrl) _ _ hrl) _ _ hrl) _ _ hrl
end Go.Proofs.YtkkimgjcefojdaaGreatDoor
namespace Go.Proofs.YtkkimgjcefojdaaGreatDoor
open Go.RowKit Go.Lib

def protoCs : Array Value := #[.int .i64 6, .int .i64 6, .int .i64 17, .int .i64 0]
theorem protoCs_bd : ∀ v ∈ protoCs.toList, ∃ x, v = .int .i64 x ∧ I64 x := by
 intro v hv
 simp only [protoCs, List.mem_cons, List.mem_nil_iff, or_false] at hv
 unfold I64
 rcases hv with rfl | rfl | rfl | rfl <;> exact ⟨_, rfl, by decide⟩
theorem pickProto (B g : Nat) (w : World) (hc : CurB w B g) : Calls Tryz.prog 63 #[.pointer (some ⟨g, 0, none⟩), .slice (some ⟨w.heap.size, 0, none⟩) 4 4] (w.alloc (.cells protoCs 3)) (WholeEnd w B g) :=
 pickNew B g w hc protoCs (by decide) (by decide) protoCs_bd
def ttlCs : Array Value := #[.int .i64 0, .int .i64 255, .int .i64 256]
theorem ttlCs_bd : ∀ v ∈ ttlCs.toList, ∃ x, v = .int .i64 x ∧ I64 x := by
 intro v hv
 simp only [ttlCs, List.mem_cons, List.mem_nil_iff, or_false] at hv
 unfold I64
 rcases hv with rfl | rfl | rfl <;> exact ⟨_, rfl, by decide⟩
theorem pickTtl (B g : Nat) (w : World) (hc : CurB w B g) : Calls Tryz.prog 63 #[.pointer (some ⟨g, 0, none⟩), .slice (some ⟨w.heap.size, 0, none⟩) 3 3] (w.alloc (.cells ttlCs 3)) (WholeEnd w B g) :=
 pickNew B g w hc ttlCs (by decide) (by decide) ttlCs_bd
/-- What l7Packet hands back: a packet of some fields; only the cursor has turned. -/
def PkEnd (w : World) (B g : Nat) (e : Ending) (w' : World) : Prop := ∃ (s d t p i : Int) (b : ByteArray), e = .returned (.agg #[.int .i64 s, .int .i64 d, .int .i64 t, .int .i64 p, .int .i64 i, .string b]) ∧ (I64 s ∧ I64 d ∧ I64 t ∧ I64 p ∧ I64 i ∧ b.size ≤ 1600) ∧ CurB w' B g ∧ w.grownBy w' (some g)

set_option maxRecDepth 100000 in
set_option maxHeartbeats 8000000 in
theorem l7Packet_any (B g : Nat) (w : World) (hc : CurB w B g) : Calls Tryz.prog 67 #[.pointer (some ⟨g, 0, none⟩)] w (PkEnd w B g) := by
 have hlt := hc.lt
 have hBg := hc.1
 have C0 := Lib.hid hc
 clear hc
 go_enter Tryz.func67, Tryz.ntmps67
 go_wp2_with fail
 refine (l6Ip_any B g _ (C0.out.new _)).mono ?_
 rintro e w1 ⟨s, rfl, hvs, hcu, hgr⟩
 have Ds := Lib.hid hvs
 have K1 := Lib.hid ((Blk.new w [.int .i64 0, .int .i64 0, .int .i64 0, .int .i64 0, .int .i64 0, .string ⟨#[]⟩] 30).grown hgr (by omega))
 have G1 := Lib.hid (grown_tr (World.grownBy_alloc w _ _) hgr)
 have C1 := Lib.hid hcu
 clear hcu hgr C0 hvs
 go_wp2_with fail
 refine (l6Ip_any B g w1 C1.out).mono ?_
 rintro e w2 ⟨d, rfl, hvd, hcu, hgr⟩
 have Dd := Lib.hid hvd
 have K2 := Lib.hid (K1.out.grown hgr (by omega))
 have G2 := Lib.hid (grown_tr G1.out hgr)
 have C2 := Lib.hid hcu
 clear hcu hgr C1 K1 G1 hvd
 go_wp2_with fail
 refine (l1Below_pos B g w2 C2.out 64 (by omega) (by omega)).mono ?_
 rintro e w3 ⟨r, rfl, hvr, hcu, hgr⟩
 have Dr := Lib.hid hvr
 have K3 := Lib.hid (K2.out.grown hgr (by omega))
 have G3 := Lib.hid (grown_tr G2.out hgr)
 have C3 := Lib.hid hcu
 clear hcu hgr C2 K2 G2
 have ir := hvr.1
 have jr := hvr.2
 clear hvr
 go_wp2_with fail
 refine (pickProto B g w3 C3.out).mono ?_
 rintro e w4 ⟨p, rfl, hvp, hcu, hgr⟩
 have Dp := Lib.hid hvp
 have K4 := Lib.hid (K3.out.grown hgr (by omega))
 have G4 := Lib.hid (grown_tr G3.out hgr)
 have C4 := Lib.hid hcu
 clear hcu hgr C3 K3 G3 hvp
 go_wp2_with fail
 refine (l1Below_pos B g w4 C4.out 65536 (by omega) (by omega)).mono ?_
 rintro e w5 ⟨i, rfl, hvi, hcu, hgr⟩
 have Di := Lib.hid hvi
 have K5 := Lib.hid (K4.out.grown hgr (by omega))
 have G5 := Lib.hid (grown_tr G4.out hgr)
 have C5 := Lib.hid hcu
 clear hcu hgr C4 K4 G4
 have ii := hvi.1
 have ji := hvi.2
 clear hvi
 go_wp2_with fail
 refine (l1Below_pos B g w5 C5.out 8 (by omega) (by omega)).mono ?_
 rintro e w6 ⟨zm, rfl, ⟨im, jm⟩, hcu, hgr⟩
 obtain ⟨m, rfl⟩ : ∃ n : Nat, zm = (n : Int) := ⟨zm.toNat, by omega⟩
 have K6 := Lib.hid (K5.out.grown hgr (by omega))
 have G6 := Lib.hid (grown_tr G5.out hgr)
 have C6 := Lib.hid hcu
 clear hcu hgr C5 K5 G5
 go_wp2_with fail
 refine (l1Bytes_any B g m w6 C6.out (by omega)).mono ?_
 rintro e w7 ⟨ub, lb, rfl, hlb, hob, hcu, hgr⟩
 have hcv := run_string_own (P := Tryz.prog) Tryz.underlying22 Tryz.underlying5 Tryz.underlying9 hob
 obtain ⟨b, hbb⟩ : ∃ b : ByteArray, (⟨lb.toArray⟩ : ByteArray) = b := ⟨_, rfl⟩
 have hvb : b.size ≤ 1600 := by rw [← hbb]; simp [ByteArray.size]; omega
 rw [hbb] at hcv
 have Db := Lib.hid hvb
 have K7 := Lib.hid (K6.out.grown hgr (by omega))
 have G7 := Lib.hid (grown_tr G6.out hgr)
 have C7 := Lib.hid hcu
 clear hcu hgr C6 K6 G6 hvb hlb hob hbb
 go_wp2_with fail
 clear hcv
 have hr0 : w.heap.size < w7.heap.size := K7.out.lt
 have K8 := Lib.hid (K7.out.alloc (.cells #[.int .i64 s, .int .i64 d, .int .i64 (1 + r), .int .i64 p, .int .i64 i, .string b] 30))
 have F8 := Lib.hid (Blk.new w7 [.int .i64 s, .int .i64 d, .int .i64 (1 + r), .int .i64 p, .int .i64 i, .string b] 30)
 have C8 := Lib.hid (C7.out.new (.cells #[.int .i64 s, .int .i64 d, .int .i64 (1 + r), .int .i64 p, .int .i64 i, .string b] 30))
 have G8 := Lib.hid (grown_new G7.out (.cells #[.int .i64 s, .int .i64 d, .int .i64 (1 + r), .int .i64 p, .int .i64 i, .string b] 30))
 have hfg : w7.heap.size ≠ g := Nat.ne_of_gt C7.out.lt
 have hrg : w.heap.size ≠ g := Nat.ne_of_gt hlt
 have hB : B ≤ w.heap.size := by omega
 have hrl : w.heap.size ≤ w.heap.size := Nat.le_refl _
 clear C7 K7 G7
 generalize w7.alloc (.cells #[.int .i64 s, .int .i64 d, .int .i64 (1 + r), .int .i64 p, .int .i64 i, .string b] 30) = w8 at K8 F8 C8 G8 ⊢
 generalize hf : w7.heap.size = f at hr0 F8 hfg ⊢
 have hfl : w.heap.size ≤ f := by omega
 have hBf : B ≤ f := by omega
 clear hf
 refine (l1Below_pos B g w8 C8.out 14 (by omega) (by omega)).mono ?_
 rintro e w9 ⟨q, rfl, ⟨q0, q1⟩, hcu, hgr⟩
 have K9 := Lib.hid (K8.out.grown hgr hrg)
 have F9 := Lib.hid (F8.out.grown hgr hfg)
 have G9 := Lib.hid (grown_tr G8.out hgr)
 have C9 := Lib.hid (hcu)
 clear hcu hgr C8 K8 F8 G8
 have hq : q = 0 ∨ q = 1 ∨ q = 2 ∨ q = 3 ∨ 4 ≤ q := by omega
 clear q0
 rcases hq with rfl | rfl | rfl | rfl | hq
 ·go_wp2_with fail
  refine (l2Word_any B g w9 C9.out).mono ?_
  rintro e w10 ⟨x, rfl, hvx, hcu, hgr⟩
  have Dx := Lib.hid hvx
  have K10 := Lib.hid (K9.out.grown hgr hrg)
  have F10 := Lib.hid (F9.out.grown hgr hfg)
  have G10 := Lib.hid (grown_tr G9.out hgr)
  have C10 := Lib.hid (hcu)
  clear hcu hgr C9 K9 F9 G9 hvx
  obtain ⟨⟨d0, d1, d2, d3, d4, d5⟩, e0, e1, e2, e3, e4, e5⟩ := K10.out.of6
  obtain ⟨⟨c0, c1, c2, c3, c4, c5⟩, f0, f1, f2, f3, f4, f5⟩ := F10.out.of6
  have hne : ¬ w.heap.size = f := by omega
  have hne2 : ¬ f = w.heap.size := by omega
  go_wp2_with fail
  refine bodyPost_ret (v := .agg #[.int .i64 x, .int .i64 d, .int .i64 (1 + r), .int .i64 p, .int .i64 i, .string b]) (by simp [results, Tryz.results67, go_sem, d0, d1, d2, d3, d4, d5]) rfl ⟨_, _, _, _, _, _, rfl, ⟨Dx.out, Dd.out, by have := Dr.out; unfold I64; omega, Dp.out, by have := Di.out; unfold I64; omega, Db.out⟩, ?_, ?_⟩
  ·exact ((((((C10.out.setOther _ _ hBf hfg).setOther _ _ hB hrg).setOther _ _ hB hrg).setOther _ _ hB hrg).setOther _ _ hB hrg).setOther _ _ hB hrg).setOther _ _ hB hrg
  ·exact grown_setNew (grown_setNew (grown_setNew (grown_setNew (grown_setNew (grown_setNew (grown_setNew G10.out _ _ hfl) _ _ hrl) _ _ hrl) _ _ hrl) _ _ hrl) _ _ hrl) _ _ hrl
 ·go_wp2_with fail
  refine (pickTtl B g w9 C9.out).mono ?_
  rintro e w10 ⟨x, rfl, hvx, hcu, hgr⟩
  have Dx := Lib.hid hvx
  have K10 := Lib.hid (K9.out.grown hgr hrg)
  have F10 := Lib.hid (F9.out.grown hgr hfg)
  have G10 := Lib.hid (grown_tr G9.out hgr)
  have C10 := Lib.hid (hcu)
  clear hcu hgr C9 K9 F9 G9 hvx
  obtain ⟨⟨d0, d1, d2, d3, d4, d5⟩, e0, e1, e2, e3, e4, e5⟩ := K10.out.of6
  obtain ⟨⟨c0, c1, c2, c3, c4, c5⟩, f0, f1, f2, f3, f4, f5⟩ := F10.out.of6
  have hne : ¬ w.heap.size = f := by omega
  have hne2 : ¬ f = w.heap.size := by omega
  go_wp2_with fail
  refine bodyPost_ret (v := .agg #[.int .i64 s, .int .i64 d, .int .i64 x, .int .i64 p, .int .i64 i, .string b]) (by simp [results, Tryz.results67, go_sem, d0, d1, d2, d3, d4, d5]) rfl ⟨_, _, _, _, _, _, rfl, ⟨Ds.out, Dd.out, Dx.out, Dp.out, by have := Di.out; unfold I64; omega, Db.out⟩, ?_, ?_⟩
  ·exact ((((((C10.out.setOther _ _ hBf hfg).setOther _ _ hB hrg).setOther _ _ hB hrg).setOther _ _ hB hrg).setOther _ _ hB hrg).setOther _ _ hB hrg).setOther _ _ hB hrg
  ·exact grown_setNew (grown_setNew (grown_setNew (grown_setNew (grown_setNew (grown_setNew (grown_setNew G10.out _ _ hfl) _ _ hrl) _ _ hrl) _ _ hrl) _ _ hrl) _ _ hrl) _ _ hrl
 ·go_wp2_with fail
  refine (l1Below_pos B g w9 C9.out 3 (by omega) (by omega)).mono ?_
  rintro e u ⟨r9, rfl, ⟨r90, r91⟩, hcu9, hgr9⟩
  obtain ⟨n9, rfl⟩ : ∃ n : Nat, r9 = (n : Int) := ⟨r9.toNat, by omega⟩
  have CU := Lib.hid hcu9
  have GU := Lib.hid hgr9
  clear hcu9 hgr9
  go_wp2_with fail
  have hL := l5Long_any (1479 + n9) (by omega) u
  rw [show ((1479 + n9 : Nat) : Int) = 1479 + (n9 : Int) by omega] at hL
  refine hL.mono ?_
  rintro e w10 ⟨x, rfl, hx0, hb8⟩
  have hvx : x.size ≤ 1600 := by omega
  have Dx := Lib.hid hvx
  have hcu := CU.out.below hb8
  have hgr := grown_tr GU.out (below_any (row := some g) hb8)
  clear hb8 hx0 r90 r91 CU GU hL
  have K10 := Lib.hid (K9.out.grown hgr hrg)
  have F10 := Lib.hid (F9.out.grown hgr hfg)
  have G10 := Lib.hid (grown_tr G9.out hgr)
  have C10 := Lib.hid (hcu)
  clear hcu hgr C9 K9 F9 G9 hvx
  obtain ⟨⟨d0, d1, d2, d3, d4, d5⟩, e0, e1, e2, e3, e4, e5⟩ := K10.out.of6
  obtain ⟨⟨c0, c1, c2, c3, c4, c5⟩, f0, f1, f2, f3, f4, f5⟩ := F10.out.of6
  have hne : ¬ w.heap.size = f := by omega
  have hne2 : ¬ f = w.heap.size := by omega
  go_wp2_with fail
  refine bodyPost_ret (v := .agg #[.int .i64 s, .int .i64 d, .int .i64 (1 + r), .int .i64 p, .int .i64 i, .string x]) (by simp [results, Tryz.results67, go_sem, d0, d1, d2, d3, d4, d5]) rfl ⟨_, _, _, _, _, _, rfl, ⟨Ds.out, Dd.out, by have := Dr.out; unfold I64; omega, Dp.out, by have := Di.out; unfold I64; omega, Dx.out⟩, ?_, ?_⟩
  ·exact ((((((C10.out.setOther _ _ hBf hfg).setOther _ _ hB hrg).setOther _ _ hB hrg).setOther _ _ hB hrg).setOther _ _ hB hrg).setOther _ _ hB hrg).setOther _ _ hB hrg
  ·exact grown_setNew (grown_setNew (grown_setNew (grown_setNew (grown_setNew (grown_setNew (grown_setNew G10.out _ _ hfl) _ _ hrl) _ _ hrl) _ _ hrl) _ _ hrl) _ _ hrl) _ _ hrl
 ·go_wp2_with fail
  refine (l2Word_any B g w9 C9.out).mono ?_
  rintro e w10 ⟨x, rfl, hvx, hcu, hgr⟩
  have Dx := Lib.hid hvx
  have K10 := Lib.hid (K9.out.grown hgr hrg)
  have F10 := Lib.hid (F9.out.grown hgr hfg)
  have G10 := Lib.hid (grown_tr G9.out hgr)
  have C10 := Lib.hid (hcu)
  clear hcu hgr C9 K9 F9 G9 hvx
  obtain ⟨⟨d0, d1, d2, d3, d4, d5⟩, e0, e1, e2, e3, e4, e5⟩ := K10.out.of6
  obtain ⟨⟨c0, c1, c2, c3, c4, c5⟩, f0, f1, f2, f3, f4, f5⟩ := F10.out.of6
  have hne : ¬ w.heap.size = f := by omega
  have hne2 : ¬ f = w.heap.size := by omega
  go_wp2_with fail
  refine bodyPost_ret (v := .agg #[.int .i64 s, .int .i64 d, .int .i64 (1 + r), .int .i64 p, .int .i64 x, .string b]) (by simp [results, Tryz.results67, go_sem, d0, d1, d2, d3, d4, d5]) rfl ⟨_, _, _, _, _, _, rfl, ⟨Ds.out, Dd.out, by have := Dr.out; unfold I64; omega, Dp.out, Dx.out, Db.out⟩, ?_, ?_⟩
  ·exact ((((((C10.out.setOther _ _ hBf hfg).setOther _ _ hB hrg).setOther _ _ hB hrg).setOther _ _ hB hrg).setOther _ _ hB hrg).setOther _ _ hB hrg).setOther _ _ hB hrg
  ·exact grown_setNew (grown_setNew (grown_setNew (grown_setNew (grown_setNew (grown_setNew (grown_setNew G10.out _ _ hfl) _ _ hrl) _ _ hrl) _ _ hrl) _ _ hrl) _ _ hrl) _ _ hrl
 ·have nq0 : (q == 0) = false := by simp; omega
  have nq1 : (q == 1) = false := by simp; omega
  have nq2 : (q == 2) = false := by simp; omega
  have nq3 : (q == 3) = false := by simp; omega
  clear hq q1
  obtain ⟨⟨d0, d1, d2, d3, d4, d5⟩, e0, e1, e2, e3, e4, e5⟩ := K9.out.of6
  obtain ⟨⟨c0, c1, c2, c3, c4, c5⟩, f0, f1, f2, f3, f4, f5⟩ := F9.out.of6
  have hne : ¬ w.heap.size = f := by omega
  have hne2 : ¬ f = w.heap.size := by omega
  go_wp2_with fail
  refine bodyPost_ret (v := .agg #[.int .i64 s, .int .i64 d, .int .i64 (1 + r), .int .i64 p, .int .i64 i, .string b]) (by simp [results, Tryz.results67, go_sem, d0, d1, d2, d3, d4, d5]) rfl ⟨_, _, _, _, _, _, rfl, ⟨Ds.out, Dd.out, by have := Dr.out; unfold I64; omega, Dp.out, by have := Di.out; unfold I64; omega, Db.out⟩, ?_, ?_⟩
  ·exact (((((C9.out.setOther _ _ hB hrg).setOther _ _ hB hrg).setOther _ _ hB hrg).setOther _ _ hB hrg).setOther _ _ hB hrg).setOther _ _ hB hrg
  ·exact grown_setNew (grown_setNew (grown_setNew (grown_setNew (grown_setNew (grown_setNew G9.out _ _ hrl) _ _ hrl) _ _ hrl) _ _ hrl) _ _ hrl) _ _ hrl
end Go.Proofs.YtkkimgjcefojdaaGreatDoor
