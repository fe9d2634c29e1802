/- The draws' own l11Rows: a drawn table. Nothing here is a claim. -/
import Derived.Test.YtobfgkiccmhgdaaGreatInfoM
import Derived.Test.YtobfgkiccmhgdaaGreatFlatRow
import Derived.Test.YtobfgkiccmhgdaaGreatCurKit
import Derived.Deep.RegionHeld3
import Derived.Test.YtobfgkiccmhgdaaGreatOpenM
import Derived.Test.YtobfgkiccmhgdaaGreatCurA
import Derived.Test.YtobfgkiccmhgdaaGreatCurO
import Derived.Test.YtobfgkiccmhgdaaGreatCurP
import Derived.Test.YtobfgkiccmhgdaaGreatWhole
import Derived.Deep.AppendLies
namespace Go.Proofs.YtobfgkiccmhgdaaGreat
open Go.RowKit Go.Lib

/-- A string of at most two bytes is handed back; only the cursor has turned. -/
def StrEnd (w : World) (B g : Nat) (e : Ending) (w' : World) : Prop := ∃ x : ByteArray, e = .returned (.string x) ∧ x.size ≤ 2 ∧ CurB w' B g ∧ w.grownBy w' (some g)
theorem pickStr (B g : Nat) (w : World) (hc : CurB w B g) (cs : Array Value) (hs : 0 < cs.size) (hs1 : cs.size ≤ 1000000) (hbd : ∀ v ∈ cs.toList, ∃ x : ByteArray, v = .string x ∧ x.size ≤ 2) :
    Calls Tryz.prog 70 #[.pointer (some ⟨g, 0, none⟩), .slice (some ⟨w.heap.size, 0, none⟩) cs.size cs.size] (w.alloc (.cells cs 9)) (StrEnd w B g) := by
  have hlt := hc.lt
  refine (l1Pick_any B g w.heap.size _ (hc.new _) cs (heap_alloc_new w _) (by omega) hs hs1 (fun v hv => (hbd v hv).imp fun _ h => h.1)).mono ?_
  rintro e w' ⟨v, hv, rfl, h1, h2⟩
  obtain ⟨x, rfl, hx⟩ := hbd v hv
  exact ⟨x, rfl, hx, h1, grown_tr (World.grownBy_alloc w _ _) h2⟩
def inCs : Array Value := #[.string ⟨#[]⟩, .string ⟨#[97]⟩, .string ⟨#[98]⟩, .string ⟨#[99, 100]⟩, .string ⟨#[97]⟩]
theorem inCs_bd : ∀ v ∈ inCs.toList, ∃ x : ByteArray, v = .string x ∧ x.size ≤ 2 := by
  intro v hv
  simp only [inCs, List.mem_cons, List.mem_nil_iff, or_false] at hv
  rcases hv with rfl | rfl | rfl | rfl | rfl <;> exact ⟨_, rfl, by decide⟩
theorem pickIn (B g : Nat) (w : World) (hc : CurB w B g) : Calls Tryz.prog 70 #[.pointer (some ⟨g, 0, none⟩), .slice (some ⟨w.heap.size, 0, none⟩) 5 5] (w.alloc (.cells inCs 9)) (StrEnd w B g) :=
  pickStr B g w hc inCs (by decide) (by decide) inCs_bd
def ofCs : Array Value := #[.string ⟨#[]⟩, .string ⟨#[97]⟩, .string ⟨#[98]⟩, .string ⟨#[99, 100]⟩, .string ⟨#[122, 122]⟩]
theorem ofCs_bd : ∀ v ∈ ofCs.toList, ∃ x : ByteArray, v = .string x ∧ x.size ≤ 2 := by
  intro v hv
  simp only [ofCs, List.mem_cons, List.mem_nil_iff, or_false] at hv
  rcases hv with rfl | rfl | rfl | rfl | rfl <;> exact ⟨_, rfl, by decide⟩
theorem pickOf (B g : Nat) (w : World) (hc : CurB w B g) : Calls Tryz.prog 70 #[.pointer (some ⟨g, 0, none⟩), .slice (some ⟨w.heap.size, 0, none⟩) 5 5] (w.alloc (.cells ofCs 9)) (StrEnd w B g) :=
  pickStr B g w hc ofCs (by decide) (by decide) ofCs_bd
theorem pickTag (q : Int) (hq : I64 q) (B g : Nat) (w : World) (hc : CurB w B g) : Calls Tryz.prog 36 #[.pointer (some ⟨g, 0, none⟩), .slice (some ⟨w.heap.size, 0, none⟩) 5 5] (w.alloc (.cells #[.int .i64 0, .int .i64 1, .int .i64 5, .int .i64 16777215, .int .i64 q] 3)) (WholeEnd w B g) :=
  pickNew B g w hc #[.int .i64 0, .int .i64 1, .int .i64 5, .int .i64 16777215, .int .i64 q] (by simp) (by simp) (by
    intro v hv
    simp only [List.mem_cons, List.mem_nil_iff, or_false] at hv
    rcases hv with rfl | rfl | rfl | rfl | rfl
    · exact ⟨_, rfl, by unfold I64; decide⟩
    · exact ⟨_, rfl, by unfold I64; decide⟩
    · exact ⟨_, rfl, by unfold I64; decide⟩
    · exact ⟨_, rfl, by unfold I64; decide⟩
    · exact ⟨_, rfl, hq⟩)

/-- An append of structs to a row of the call's own leaves the cursor, and all that was there but the cursor. -/
theorem app_keepsM {w w1 w2 : World} {B g base size : Nat} {e : TypeId} {v : Value} {n : Nat} {xs : List Value} {o : Obj} (hc : CurB w1 B g) (hgb : g < base) (hB : B ≤ base) (hw : base = w.heap.size) (hg1 : w.grownBy w1 (some g)) (hown : w1.ownsRow base e size v n xs) (hg : (w1.alloc o).grownBy w2 v.ownBlock) :
    CurB w2 B g ∧ w.grownBy w2 (some g) := by
  have hlt := hc.lt
  have hv : ∀ k, k < base → some k ≠ v.ownBlock := fun k hk e => by have := (hown.lt k e.symm).1; omega
  have hk : ∀ k, k < w1.heap.size → k < base → w2.heap[k]? = w1.heap[k]? := fun k h1 h2 =>
    (hg.block k (by simp; omega) (hv k h2)).trans (Below.heap_alloc w1 o k h1)
  refine ⟨hc.keep (hk g hlt hgb) ⟨hg.os, hg.tape, hg.output, Nat.le_trans (by simp) hg.size, fun k h => hk k (by have := hc.1; omega) (by omega)⟩, ?_⟩
  exact ⟨hg.os.trans hg1.os, hg.tape.trans hg1.tape, hg.output.trans hg1.output, Nat.le_trans hg1.size (Nat.le_trans (by simp) hg.size), fun k h1 h2 =>
    (hk k (Nat.lt_of_lt_of_le h1 hg1.size) (by omega)).trans (hg1.block k h1 h2)⟩
theorem wf_i64 {n : Int} (h : I64 n) : (Lit.int .i64 n).wf = true := by
  obtain ⟨h1, h2⟩ := h
  have e1 : IntKind.i64.min = -9223372036854775808 := rfl
  have e2 : IntKind.i64.max = 9223372036854775807 := rfl
  simp only [Lit.wf, Bool.and_eq_true, decide_eq_true_eq]
  omega
theorem goodM_of {x : ByteArray} {v : Int} (h : x.size ≤ 2) (hv : I64 v) : goodM ⟨x, v⟩ := ⟨by show x.size ≤ maxLen; unfold maxLen; omega, wf_i64 hv⟩

/-- A drawn table: new memory; at most four rows. -/
def RowsEnd (w : World) (B g : Nat) (e : Ending) (w' : World) : Prop :=
  ∃ (rs : List MR) (gg cap : Nat), e = .returned (.slice (some ⟨gg, 0, none⟩) rs.length cap) ∧ (rs.length ≤ 4 ∧ ∀ r ∈ rs, goodM r) ∧ w'.ownsRow w.heap.size 72 2 (.slice (some ⟨gg, 0, none⟩) rs.length cap) rs.length (mrs rs) ∧ CurB w' B g ∧ w.grownBy w' (some g)

set_option maxRecDepth 100000 in
set_option maxHeartbeats 4000000 in
theorem l11Rows_any (B g : Nat) (w : World) (hc : CurB w B g) : Calls Tryz.prog 57 #[.pointer (some ⟨g, 0, none⟩)] w (RowsEnd w B g) := by
  obtain ⟨i0, hi, hz0, hz1, hz2⟩ := info_parts Tryz.info72
  have hglt := hc.lt
  have hBg := hc.1
  have C := Lib.hid hc
  clear hc
  go_enter Tryz.func57, Tryz.ntmps57
  go_wp2_with fail
  refine (l1Below_pos B g _ (C.out.new _) 5 (by omega) (by omega)).mono ?_
  rintro e w0 ⟨r, rfl, ⟨r0, r1⟩, hc0, hg0⟩
  obtain ⟨n, rfl⟩ : ∃ n : Nat, r = (n : Int) := ⟨r.toNat, by omega⟩
  have hn : n ≤ 4 := by omega
  have O0 := Lib.hid ((World.ownsRow_lit (base := w.heap.size) (e := 72) (size := 2) w #[] 0 (Nat.le_refl _) (Nat.zero_le _) rfl).kept hg0 (.inr (own_ne (by omega))))
  have C0 := Lib.hid hc0
  have G0 := Lib.hid (grown_tr (World.grownBy_alloc w _ _) hg0)
  clear hc0 hg0 r0 r1 C
  go_wp2_with fail
  go_loopw [3, 5] (fun v i wr => ∃ k : Nat, k ≤ n ∧ i = .int .i64 k ∧ ∃ (rs : List MR) (gg cap : Nat), v = .slice (some ⟨gg, 0, none⟩) k cap ∧ (rs.length = k ∧ ∀ r ∈ rs, goodM r) ∧ Hid (wr.ownsRow w.heap.size 72 2 (.slice (some ⟨gg, 0, none⟩) k cap) k (mrs rs)) ∧ Hid (CurB wr B g) ∧ Hid (w.grownBy wr (some g)))
    (fun _ i _ => n - (RowKit.intOf i).toNat)
  case atStart => exact ⟨0, Nat.zero_le _, rfl, [], w.heap.size, 0, rfl, ⟨rfl, fun _ h => by cases h⟩, O0, C0, G0⟩
  case round =>
    obtain ⟨k, hk, rfl, rs, gg, cap, rfl, ⟨hrl, hgood⟩, hO, hC, hG⟩ := hrel
    have HGd := Lib.hid hgood
    clear hgood
    by_cases hlt : k < n
    · go_wp2_with fail
      refine (pickIn B g wr hC.out).mono ?_
      rintro e w1 ⟨x, rfl, hx, hc1, hg1⟩
      have O1 := Lib.hid (hO.out.kept hg1 (.inr (fun e => by have := (hO.out.lt g e).1; omega)))
      have C1 := Lib.hid hc1
      have G1 := Lib.hid (grown_tr hG.out hg1)
      clear hc1 hg1 hO hC hG
      go_wp2_with fail
      refine (l1Below_pos B g w1 C1.out 16777216 (by omega) (by omega)).mono ?_
      rintro e w2 ⟨q, rfl, ⟨q0, q1⟩, hc2, hg2⟩
      have hq : I64 q := ⟨by omega, by omega⟩
      have O2 := Lib.hid (O1.out.kept hg2 (.inr (fun e => by have := (O1.out.lt g e).1; omega)))
      have C2 := Lib.hid hc2
      have G2 := Lib.hid (grown_tr G1.out hg2)
      clear hc2 hg2 O1 C1 G1
      go_wp2_with fail
      refine (pickTag q hq B g w2 C2.out).mono ?_
      rintro e w3 ⟨v, rfl, hv, hc3, hg3⟩
      have O3 := O2.out.kept hg3 (.inr (fun e => by have := (O2.out.lt g e).1; omega))
      have HO3 := Lib.hid O3
      have C3 := Lib.hid hc3
      have G3 := Lib.hid (grown_tr G2.out hg3)
      have hsz : w.heap.size ≤ w3.heap.size := G3.out.size
      clear hc3 hg3 O2 C2 G2 O3
      go_wp2_with (at_builtin; refine wpList_append_lies _ rfl _ _ _ rfl w.heap.size 72 i0 _ 2 24 Tryz.underlying25 hi hz0 hz1 hz2 rfl (by omega) _ k _ rfl (HO3.out.alloc _) ⟨w3.heap.size, 0, none⟩ 1 1 [.string x, .int .i64 v] rfl rfl (World.news_of_block (cs := #[.string x, .int .i64 v]) (t := 72) (fr := (0, 0)) (heap_alloc_new w3 _)) (by simp [Value.oneCell']) (by omega) (by unfold maxLen; omega) (by omega) (by simp; omega) (w3.heap.size + 1) (by simp) ?_; intro gg' cap' w4 hown4 hgrow hat hlt')
      have hk2 := app_keepsM C3.out hglt (Nat.le_of_lt (Nat.lt_of_le_of_lt hBg hglt)) rfl G3.out HO3.out hgrow
      have O4 := Lib.hid (show w4.ownsRow w.heap.size 72 2 (.slice (some ⟨gg', 0, none⟩) (k + 1) cap') (k + 1) (mrs (rs ++ [⟨x, v⟩])) by unfold mrs; rw [flat_append]; exact hown4)
      clear hown4 hgrow hat hlt' HO3
      go_roundw
      case rel =>
        refine ⟨k + 1, by omega, by go_num, rs ++ [⟨x, v⟩], gg', cap', rfl, ⟨by rw [List.length_append, hrl]; rfl, fun r hr => ?_⟩, O4, hk2.1, hk2.2⟩
        rcases List.mem_append.1 hr with h | h
        · exact HGd.out r h
        · rw [List.mem_singleton.1 h]
          exact goodM_of hx hv
      case measure => simp [RowKit.intOf]; omega
    · obtain rfl : k = n := by omega
      subst hrl
      by_cases hp : 0 < rs.length
      · have hp' : (0 : Int) < (rs.length : Int) := by omega
        go_wp2_with fail
        refine (l1Once_any B g wr hC.out 6 (by omega) (by omega)).mono ?_
        rintro e w1 ⟨b, rfl, hc1, hg1⟩
        have O1 := Lib.hid (hO.out.kept hg1 (.inr (fun e => by have := (hO.out.lt g e).1; omega)))
        have C1 := Lib.hid hc1
        have G1 := Lib.hid (grown_tr hG.out hg1)
        clear hc1 hg1 hO hC hG
        cases b
        · go_wp2_with fail
          go_ret
          exact ⟨rs, gg, cap, rfl, ⟨hn, HGd.out⟩, O1.out, C1.out, G1.out⟩
        · go_wp2_with fail
          refine (l1Whole_any B g w1 C1.out).mono ?_
          rintro e w2 ⟨v, rfl, hv, hc2, hg2⟩
          have hgg := (O1.out.lt gg rfl).1
          have O2 := O1.out.kept hg2 (.inr (fun e => by have := (O1.out.lt g e).1; omega))
          have hd1 := (O2.cellAt 1 (by omega)).trans (by simpa using mrs_v rs 0 hp)
          have hf1 := O2.frozenAt 1
          have S2 := (O2.stored 1 (.int .i64 v)).1
          have e2 := mrs_set_v rs 0 hp v
          rw [Nat.zero_mul, Nat.zero_add] at e2
          rw [e2] at S2
          have O3 := Lib.hid S2
          have C2 := Lib.hid hc2
          have G2 := Lib.hid (grown_tr G1.out hg2)
          have HV := Lib.hid hv
          clear hc2 hg2 O2 O1 C1 G1 S2 e2 hv
          go_wp2_with fail
          go_ret
          refine ⟨rs.set 0 ⟨rs[0].s, v⟩, gg, cap, by rw [List.length_set]; rfl, ⟨by rw [List.length_set]; exact hn, fun r hr => ?_⟩, by rw [List.length_set]; exact O3.out, C2.out.setOther _ _ (by show B ≤ gg; omega) (by show gg ≠ g; omega), grown_setNew G2.out _ _ hgg⟩
          rcases List.mem_or_eq_of_mem_set hr with h | h
          · exact HGd.out r h
          · rw [h]
            exact ⟨(HGd.out rs[0] (List.getElem_mem hp)).1, wf_i64 HV.out⟩
      · have hp' : ¬ (0 : Int) < (rs.length : Int) := by omega
        go_wp2_with fail
        go_ret
        exact ⟨rs, gg, cap, rfl, ⟨hn, HGd.out⟩, hO.out, hC.out, hG.out⟩
end Go.Proofs.YtobfgkiccmhgdaaGreat
