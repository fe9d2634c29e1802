/- WindowOf, limitOf, piecesOk, ReceiverOk, of both sides. Nothing here is a claim. -/
import Derived.Test.YtajekjjaaohbnaaRcvKit
import Derived.Test.YtajekjjaaohbnaaCurA
import Derived.Test.YtajekjjaaohbnaaSndKit
import Derived.Test.YtajekjjaaohbnaaBase
import Derived.Test.YtajekjjaaohbnaaSndPos
import Derived.Deep.RegionHeld3
namespace Go.Proofs.Ytajekjjaaohbnaa
open Go.RowKit Go.Lib

/-- Bounds within which all is counted. -/
def RB (d : ByteArray) (rs : List HP) : Prop := d.size ≤ 1048576 ∧ rs.length ≤ 1048576 ∧ ∀ r ∈ rs, r.t.size ≤ 1048576
open Classical in
noncomputable def piecesB (rs : List HP) (l : Int) : Bool := decide (PiecesOk rs l rs.length)
theorem piecesB_yes {rs : List HP} {l : Int} (h : PiecesOk rs l rs.length) : piecesB rs l = true := by unfold piecesB; simp [h]
theorem piecesB_no {rs : List HP} {l : Int} {k : Nat} (hk : k < rs.length) (h : ¬ PieceOk rs l k hk) : piecesB rs l = false := by
  unfold piecesB
  simp only [decide_eq_false_iff_not]
  exact fun q => h (q k hk hk)
theorem lim_yes (d : ByteArray) (z : Bool) : lim d (-1) z = win d z := by simp [lim]
theorem lim_no {d : ByteArray} {f : Int} {z : Bool} (h : f ≠ -1) : lim d f z = f := by simp [lim, h]
theorem rcvOk_last {n f : Int} {d : ByteArray} {rs : List HP} {z : Bool} (h1 : wordOk n 32 = true) (h2 : d.size ≤ 32) (h3 : rs.length ≤ 3) (h4 : f = -1 ∨ (1 ≤ f ∧ f ≤ win d z)) : rcvOk ⟨n, d, rs, f, z⟩ = piecesB rs (lim d f z) := by
  unfold rcvOk piecesB
  congr 1
  exact propext ⟨fun h => h.2.2.2.2, fun h => ⟨h1, h2, h3, h4, h⟩⟩
theorem rcvOk_not {n f : Int} {d : ByteArray} {rs : List HP} {z : Bool} (h : wordOk n 32 = true → d.size ≤ 32 → rs.length ≤ 3 → (f = -1 ∨ (1 ≤ f ∧ f ≤ win d z)) → False) : rcvOk ⟨n, d, rs, f, z⟩ = false :=
  rcvOk_no fun q => h q.1 q.2.1 q.2.2.1 q.2.2.2.1
theorem strEmpty {x : ByteArray} (h : x.size = 0) : x.toList.isEmpty = true := by rw [snd_isEmpty]; simp [h]
theorem strFull {x : ByteArray} (h : x.size ≠ 0) : x.toList.isEmpty = false := by rw [snd_isEmpty]; simp [h]

set_option maxHeartbeats 1000000 in
theorem windowI (n f : Int) (z : Bool) (d : ByteArray) (a : Option Addr) (cap : Nat) (rs : List HP) (hd : d.size ≤ 1048576) (w : World) : Calls Try.prog 53 #[.agg #[.int .i64 n, .string d, .slice a rs.length cap, .int .i64 f, .bool z]] w (SndI (win d z) w) := by
  cases z with
  | true =>
    go_enter Try.func53, Try.ntmps53
    go_wp2_with fail
    go_ret
    exact ⟨rfl, (Below.refl _ _).alloc (Nat.le_refl _) _⟩
  | false =>
    have hw : IntKind.i64.wrap (32 - (d.size : Int)) = 32 - (d.size : Int) := IntWalk.i64_in _ (by omega)
    go_enter Try.func53, Try.ntmps53
    go_wp2_with fail
    go_ret
    exact ⟨rfl, (Below.refl _ _).alloc (Nat.le_refl _) _⟩
set_option maxHeartbeats 1000000 in
theorem windowS (n f : Int) (z : Bool) (d : ByteArray) (a : Option Addr) (cap : Nat) (rs : List HP) (hd : d.size ≤ 1048576) (w : World) : Calls Try.prog 76 #[.agg #[.int .i64 n, .string d, .slice a rs.length cap, .int .i64 f, .bool z]] w (SndI (win d z) w) := by
  cases z with
  | true =>
    go_enter Try.func76, Try.ntmps76
    go_wp2_with fail
    go_ret
    exact ⟨rfl, (Below.refl _ _).alloc (Nat.le_refl _) _⟩
  | false =>
    have hw : IntKind.i64.wrap (32 - (d.size : Int)) = 32 - (d.size : Int) := IntWalk.i64_in _ (by omega)
    go_enter Try.func76, Try.ntmps76
    go_wp2_with fail
    refine (l1Max_s 0 (32 - (d.size : Int)) _).mono ?_
    rintro e w1 ⟨rfl, hb⟩
    have B1 := Lib.hid ((((Below.refl _ w).alloc (Nat.le_refl _) (.cells #[.int .i64 n, .string d, .slice a rs.length cap, .int .i64 f, .bool false] 34))).trans (hb.mono (by simp)))
    clear hb
    go_wp2_with fail
    go_ret
    exact ⟨rfl, B1.out⟩

set_option maxHeartbeats 1000000 in
theorem limitI (n f : Int) (z : Bool) (d : ByteArray) (a : Option Addr) (cap : Nat) (rs : List HP) (hd : d.size ≤ 1048576) (w : World) : Calls Try.prog 88 #[.agg #[.int .i64 n, .string d, .slice a rs.length cap, .int .i64 f, .bool z]] w (SndI (lim d f z) w) := by
  by_cases h : f = -1
  · subst h
    rw [lim_yes]
    have B0 := Lib.hid (((Below.refl _ w).alloc (Nat.le_refl _) (.cells #[.int .i64 n, .string d, .slice a rs.length cap, .int .i64 (-1), .bool z] 34)))
    go_enter Try.func88, Try.ntmps88
    go_wp2_with fail
    refine (windowI n (-1) z d a cap rs hd _).mono ?_
    rintro e w1 ⟨rfl, hb⟩
    have B1 := Lib.hid (B0.out.trans (hb.mono B0.out.size))
    clear hb B0
    go_wp2_with fail
    go_ret
    exact ⟨rfl, B1.out⟩
  · rw [lim_no h]
    have h2 : (f == -1) = false := by simpa using h
    go_enter Try.func88, Try.ntmps88
    go_wp2_with fail
    go_ret
    exact ⟨rfl, (Below.refl _ _).alloc (Nat.le_refl _) _⟩

set_option maxRecDepth 100000 in
set_option maxHeartbeats 4000000 in
theorem piecesOkI (a : Option Addr) (cap : Nat) (rs : List HP) (l : Int) (h0 : 0 ≤ l) (h1 : l ≤ 32) (hl : rs.length ≤ 1048576) (hsz : ∀ r ∈ rs, r.t.size ≤ 1048576) (w : World) (hrow : Row w w.heap.size a (hps rs)) :
    Calls Try.prog 87 #[.slice a rs.length cap, .int .i64 l] w (SndB (piecesB rs l) w) := by
  have HR := Lib.hid hrow
  have HS := Lib.hid hsz
  clear hrow hsz
  go_enter Try.func87, Try.ntmps87
  go_wp2_with fail
  go_loopw [5, 10] (fun e i wr => ∃ k : Nat, k ≤ rs.length ∧ i = .int .i64 k ∧ (∃ q : Int, e = .int .i64 q ∧ Hid (q = endTo rs k)) ∧ Hid (PiecesOk rs l k) ∧ Hid (Below w.heap.size w wr)) (fun _ i _ => rs.length - (RowKit.intOf i).toNat)
  case atStart => exact ⟨0, Nat.zero_le _, rfl, ⟨0, rfl, rfl⟩, PiecesOk.zero _ _, Below.refl _ _⟩
  case round =>
    obtain ⟨k, hk, rfl, ⟨q, rfl, hq⟩, hok, hb⟩ := hrel
    by_cases hlt : k < rs.length
    · obtain ⟨p, o, rfl, _, hcs⟩ := (HR.out.below hb.out).hp hlt
      obtain ⟨hc0, hc1⟩ := hcs k hlt
      have hz := HS.out rs[k] (List.getElem_mem hlt)
      have hk0 : (0 : Int) ≤ (k : Int) := Int.natCast_nonneg _
      have hk1 : (k : Int) < (rs.length : Int) := by omega
      clear hcs
      have B1 := Lib.hid (hb.out.alloc hb.out.size (.cells #[.int .i64 rs[k].o, .string rs[k].t] 100))
      have hw : IntKind.i64.wrap (l - (rs[k].t.size : Int)) = l - (rs[k].t.size : Int) := IntWalk.i64_in _ (by omega)
      by_cases e1 : rs[k].t.size = 0
      · have e2 := strEmpty e1
        have N := Lib.hid (piecesB_no (l := l) hlt (fun x => x.1 e1))
        go_wp2_with fail
        go_ret
        exact ⟨ret_bool N.out.symm, B1.out⟩
      have e2 := strFull e1
      have E1 := Lib.hid e1
      clear e1
      by_cases e3 : rs[k].o ≤ q
      · have N := Lib.hid (piecesB_no (l := l) hlt (fun x => by have h1 := x.2.1; have h2 := hq.out; omega))
        go_wp2_with fail
        go_ret
        exact ⟨ret_bool N.out.symm, B1.out⟩
      by_cases e4 : l - (rs[k].t.size : Int) < rs[k].o
      · have N := Lib.hid (piecesB_no (l := l) hlt (fun x => by have h1 := x.2.2; omega))
        go_wp2_with fail
        go_ret
        exact ⟨ret_bool N.out.symm, B1.out⟩
      have HK := Lib.hid (hok.out.next hlt ⟨E1.out, by have h2 := hq.out; omega, by omega⟩)
      have hq0 := (hok.out.end_bd h0 hk).1
      have hq1 := hq.out
      have hw2 : IntKind.i64.wrap (rs[k].o + (rs[k].t.size : Int)) = rs[k].o + (rs[k].t.size : Int) := IntWalk.i64_in _ (by omega)
      have HE := Lib.hid (endTo_succ hlt).symm
      clear hq1 hq0 hok
      go_wp2_with fail
      go_roundw
      case rel => exact ⟨k + 1, by omega, by go_num, ⟨_, rfl, HE.out⟩, HK, B1⟩
      case measure => simp [RowKit.intOf]; omega
    · obtain rfl : k = rs.length := by omega
      have N := Lib.hid (piecesB_yes hok.out)
      go_wp2_with fail
      go_ret
      exact ⟨ret_bool N.out.symm, hb.out⟩
end Go.Proofs.Ytajekjjaaohbnaa
