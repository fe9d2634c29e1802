/- Receivers (pure): pieces that are held, tables from offset to byte, what arrives. Nothing here is a claim. -/
import Derived.Test.YtajekjjaaohbnaaSndKit
import Derived.Test.YtajekjjaaohbnaaFlatRow
namespace Go.Proofs.Ytajekjjaaohbnaa
open Go.RowKit Go.Lib

/-- A piece that is held: its offset, its bytes. -/
structure HP where
  o : Int
  t : ByteArray
noncomputable instance : DecidableEq HP := fun _ _ => Classical.propDecidable _
theorem HP.ext {r q : HP} (h1 : r.o = q.o) (h2 : r.t = q.t) : r = q := by cases r; cases q; simp_all
def HP.cs (r : HP) : List Value := [.int .i64 r.o, .string r.t]
theorem HP.two (r : HP) : r.cs.length = 2 := rfl
def hps (rs : List HP) : List Value := flat HP.cs rs
theorem hps_length (rs : List HP) : (hps rs).length = rs.length * 2 := flat_length HP.two rs
theorem hps_o (rs : List HP) (i : Nat) (hi : i < rs.length) : (hps rs)[i * 2]? = some (.int .i64 rs[i].o) := flat_at HP.two rs i 0 hi (by decide)
theorem hps_t (rs : List HP) (i : Nat) (hi : i < rs.length) : (hps rs)[i * 2 + 1]? = some (.string rs[i].t) := flat_at HP.two rs i 1 hi (by decide)
theorem hps_one (rs : List HP) : ∀ u ∈ hps rs, u.oneCell' = true := by
  intro u hu
  obtain ⟨r, _, hr⟩ := List.mem_flatMap.1 hu
  simp only [HP.cs, List.mem_cons, List.not_mem_nil, or_false] at hr
  rcases hr with rfl | rfl <;> rfl
theorem hps_append (rs ss : List HP) : hps (rs ++ ss) = hps rs ++ hps ss := flat_append rs ss
theorem Row.hp {w : World} {B : Nat} {a : Option Addr} {rs : List HP} (h : Row w B a (hps rs)) {i : Nat} (hi : i < rs.length) :
    ∃ b off, a = some ⟨b, off, none⟩ ∧ b < B ∧ ∀ j (hj : j < rs.length), w.cell? ⟨b, off + j * 2, none⟩ = some (.int .i64 rs[j].o) ∧ w.cell? ⟨b, off + j * 2 + 1, none⟩ = some (.string rs[j].t) := by
  obtain ⟨b, off, ha, hb, hc⟩ := Row.flat HP.two (by decide) h hi
  refine ⟨b, off, ha, hb, fun j hj => ⟨hc j hj 0 (by decide) _ rfl, ?_⟩⟩
  have := hc j hj 1 (by decide) _ rfl
  rwa [← Nat.add_assoc] at this
theorem hps_set (rs : List HP) (i : Nat) (hi : i < rs.length) (r : HP) : ((hps rs).set (i * 2) (.int .i64 r.o)).set (i * 2 + 1) (.string r.t) = hps (rs.set i r) := by
  unfold hps
  have e0 := flat_set HP.two ⟨r.o, rs[i].t⟩ rs i 0 (.int .i64 r.o) hi (by decide) rfl
  have e1 := flat_set HP.two r (rs.set i ⟨r.o, rs[i].t⟩) i 1 (.string r.t) (by simpa using hi) (by decide) (by simp [HP.cs])
  rw [Nat.add_zero] at e0
  rw [e0, e1, List.set_set]
theorem hps_set_t (rs : List HP) (i : Nat) (hi : i < rs.length) (x : ByteArray) : (hps rs).set (i * 2 + 1) (.string x) = hps (rs.set i ⟨rs[i].o, x⟩) := flat_set HP.two ⟨rs[i].o, x⟩ rs i 1 _ hi (by decide) rfl
theorem hps_take (rs : List HP) (k : Nat) : hps (rs.take k) = (hps rs).take (k * 2) := by
  induction rs generalizing k with
  | nil => simp [hps, flat]
  | cons x xs ih =>
    cases k with
    | zero => simp [hps, flat]
    | succ k =>
      have e : (k + 1) * 2 = x.cs.length + k * 2 := by rw [HP.two]; omega
      show flat HP.cs (x :: xs.take k) = (flat HP.cs (x :: xs)).take ((k + 1) * 2)
      rw [flat_cons, flat_cons, e, List.take_length_add_append]
      congr 1
      exact ih k

/-- A receiver: the next number, the bytes in order, the pieces behind a hole, where the stream ends, whether all came. -/
structure Rcv where
  n : Int
  d : ByteArray
  rs : List HP
  f : Int
  z : Bool
/-- How many bytes are still taken. -/
def win (d : ByteArray) (z : Bool) : Int := bif z then 0 else max 0 (32 - (d.size : Int))
/-- The offset at which what may be stored ends. -/
def lim (d : ByteArray) (f : Int) (z : Bool) : Int := if f = -1 then win d z else f
theorem win_bd (d : ByteArray) (z : Bool) : 0 ≤ win d z ∧ win d z ≤ 32 := by unfold win; cases z <;> simp <;> omega
/-- Where the first k pieces end. -/
def endTo (rs : List HP) : Nat → Int
  | 0 => 0
  | k + 1 => match rs[k]? with
    | some p => p.o + p.t.size
    | none => 0
theorem endTo_succ {rs : List HP} {k : Nat} (h : k < rs.length) : endTo rs (k + 1) = rs[k].o + rs[k].t.size := by
  simp [endTo, List.getElem?_eq_getElem h]
/-- The k-th piece may stand there. -/
def PieceOk (rs : List HP) (l : Int) (k : Nat) (h : k < rs.length) : Prop := rs[k].t.size ≠ 0 ∧ endTo rs k < rs[k].o ∧ rs[k].o + rs[k].t.size ≤ l
def PiecesOk (rs : List HP) (l : Int) (m : Nat) : Prop := ∀ k (h : k < rs.length), k < m → PieceOk rs l k h
theorem PiecesOk.zero (rs : List HP) (l : Int) : PiecesOk rs l 0 := fun _ _ h => by omega
theorem PiecesOk.next {rs : List HP} {l : Int} {k : Nat} (h : PiecesOk rs l k) (hk : k < rs.length) (h1 : PieceOk rs l k hk) : PiecesOk rs l (k + 1) := fun j a hj => by
  rcases Nat.lt_or_ge j k with h3 | h3
  · exact h j a h3
  · obtain rfl : j = k := by omega
    exact h1
theorem PiecesOk.end_bd {rs : List HP} {l : Int} {k : Nat} (h0 : 0 ≤ l) (h : PiecesOk rs l k) (hk : k ≤ rs.length) : 0 ≤ endTo rs k ∧ endTo rs k ≤ l := by
  induction k with
  | zero => exact ⟨Int.le_refl _, h0⟩
  | succ k ih =>
    have h1 := ih (fun j a hj => h j a (by omega)) (by omega)
    have h2 := h k (by omega) (by omega)
    rw [endTo_succ (by omega)]
    unfold PieceOk at h2
    omega
def RcvOk (r : Rcv) : Prop := wordOk r.n 32 = true ∧ r.d.size ≤ 32 ∧ r.rs.length ≤ 3 ∧ (r.f = -1 ∨ (1 ≤ r.f ∧ r.f ≤ win r.d r.z)) ∧ PiecesOk r.rs (lim r.d r.f r.z) r.rs.length
open Classical in
/-- What ReceiverOk answers. -/
noncomputable def rcvOk (r : Rcv) : Bool := decide (RcvOk r)
theorem rcvOk_iff {r : Rcv} : rcvOk r = true ↔ RcvOk r := by unfold rcvOk; simp
theorem rcvOk_no {r : Rcv} (h : ¬ RcvOk r) : rcvOk r = false := by unfold rcvOk; simp [h]
theorem rcvOk_yes {r : Rcv} (h : RcvOk r) : rcvOk r = true := rcvOk_iff.2 h
theorem rcvOk_false {r : Rcv} (h : rcvOk r = false) : ¬ RcvOk r := fun k => by rw [rcvOk_iff.2 k] at h; cases h

/-- From offset to byte. -/
abbrev Tab := Nat → Option UInt8
def inP (p : HP) : Tab := fun o => if p.o ≤ (o : Int) then p.t.data[((o : Int) - p.o).toNat]? else none
def heldT : List HP → Tab
  | [] => fun _ => none
  | p :: rs => fun o => (inP p o).or (heldT rs o)
theorem heldT_append (rs ss : List HP) (o : Nat) : heldT (rs ++ ss) o = (heldT rs o).or (heldT ss o) := by
  induction rs with
  | nil => rfl
  | cons p rs ih => show (inP p o).or (heldT (rs ++ ss) o) = _; rw [ih, ← Option.or_assoc]; rfl
theorem heldT_snoc (rs : List HP) (p : HP) (o : Nat) : heldT (rs ++ [p]) o = (heldT rs o).or (inP p o) := by
  rw [heldT_append]; congr 1; show (inP p o).or none = _; simp
/-- A byte put where there is none. -/
def putF (T : Tab) (o : Nat) (b : UInt8) : Tab := fun i => if i = o then (T i).or (some b) else T i
/-- A byte put, whatever was there. -/
def putL (T : Tab) (o : Nat) (b : UInt8) : Tab := fun i => if i = o then some b else T i
/-- The table of the first k pieces and the first i bytes of the next. -/
def heldTo (rs : List HP) (k i : Nat) : Tab := match rs[k]? with
  | some p => heldT (rs.take k ++ [⟨p.o, p.t.extract 0 i⟩])
  | none => heldT (rs.take k)
theorem heldTo_at {rs : List HP} {k : Nat} (h : k < rs.length) (i : Nat) : heldTo rs k i = heldT (rs.take k ++ [⟨rs[k].o, rs[k].t.extract 0 i⟩]) := by
  unfold heldTo; rw [List.getElem?_eq_getElem h]
theorem extract_nil (x : ByteArray) : x.extract 0 0 = ⟨#[]⟩ := snd_empty (by simp)
theorem extract_get (x : ByteArray) (i j : Nat) : (x.extract 0 i).data[j]? = if j < i then x.data[j]? else none := by
  rw [ByteArray.data_extract, Array.getElem?_extract]
  simp only [Nat.sub_zero, Nat.zero_add]
  by_cases h : j < i
  · rw [if_pos h]
    by_cases h2 : j < x.data.size
    · rw [if_pos (by omega)]
    · rw [if_neg (by omega), Array.getElem?_eq_none (by omega)]
  · rw [if_neg h, if_neg (by omega)]
theorem heldTo_zero (rs : List HP) (k : Nat) : heldTo rs k 0 = heldT (rs.take k) := by
  unfold heldTo
  split
  · next p h =>
    funext o
    rw [heldT_snoc, extract_nil]
    unfold inP
    simp
  · rfl
theorem heldTo_all {rs : List HP} {k : Nat} (h : k < rs.length) : heldTo rs k rs[k].t.size = heldTo rs (k + 1) 0 := by
  rw [heldTo_zero, heldTo_at h, List.take_succ_eq_append_getElem h, ByteArray.extract_zero_size]
theorem heldTo_next {rs : List HP} {k i : Nat} (h : k < rs.length) (hi : i < rs[k].t.size) (h0 : 0 ≤ rs[k].o) : heldTo rs k (i + 1) = putF (heldTo rs k i) (rs[k].o + i).toNat rs[k].t[i] := by
  rw [heldTo_at h, heldTo_at h]
  funext o
  unfold putF
  rw [heldT_snoc, heldT_snoc]
  generalize heldT (rs.take k) o = A
  unfold inP
  simp only [extract_get]
  have hd : rs[k].t.data[i]? = some rs[k].t[i] := by rw [Array.getElem?_eq_getElem hi]; rfl
  by_cases e : o = (rs[k].o + (i : Int)).toNat
  · have e1 : rs[k].o ≤ (o : Int) := by omega
    have e2 : ((o : Int) - rs[k].o).toNat = i := by omega
    rw [if_pos e, if_pos e1, if_pos e1, e2, if_pos (by omega), if_neg (by omega), hd]
    simp
  · rw [if_neg e]
    by_cases e1 : rs[k].o ≤ (o : Int)
    · rw [if_pos e1, if_pos e1]
      by_cases e2 : ((o : Int) - rs[k].o).toNat < i
      · rw [if_pos (by omega), if_pos e2]
      · rw [if_neg (by omega), if_neg e2]
    · rw [if_neg e1, if_neg e1]
theorem inP_some {p : HP} {o : Nat} {b : UInt8} (h : inP p o = some b) : p.o ≤ (o : Int) ∧ (o : Int) < p.o + p.t.size := by
  unfold inP at h
  split at h
  · next h1 =>
    obtain ⟨h2, _⟩ := Array.getElem?_eq_some_iff.1 h
    have h3 : ((o : Int) - p.o).toNat < p.t.size := h2
    omega
  · cases h
theorem inP_none {p : HP} {o : Nat} (h : (o : Int) < p.o ∨ p.o + p.t.size ≤ (o : Int)) : inP p o = none := by
  cases e : inP p o with
  | none => rfl
  | some b => have := inP_some e; omega
/-- Behind where the pieces end there is nothing. -/
theorem heldT_behind {rs : List HP} {l : Int} : ∀ {k : Nat}, 0 ≤ l → PiecesOk rs l k → k ≤ rs.length → ∀ o : Nat, endTo rs k ≤ (o : Int) → heldT (rs.take k) o = none
  | 0, _, _, _, o, _ => by simp [heldT]
  | k + 1, h0, h, hk, o, ho => by
    have hk' : k < rs.length := by omega
    have h1 : PiecesOk rs l k := fun j a hj => h j a (by omega)
    have h2 := h k hk' (by omega)
    unfold PieceOk at h2
    rw [endTo_succ hk'] at ho
    rw [List.take_succ_eq_append_getElem hk', heldT_snoc, heldT_behind h0 h1 (by omega) o (by omega), inP_none (by omega)]
    rfl
theorem heldTo_free {rs : List HP} {l : Int} {k i : Nat} (h0 : 0 ≤ l) (h : PiecesOk rs l rs.length) (hk : k < rs.length) (_ : i < rs[k].t.size) : heldTo rs k i (rs[k].o + i).toNat = none := by
  have h1 : PiecesOk rs l k := fun j a hj => h j a (by omega)
  have h2 := h k hk (by omega)
  have h3 := h1.end_bd h0 (by omega)
  unfold PieceOk at h2
  rw [heldTo_at hk, heldT_snoc, heldT_behind h0 h1 (by omega) _ (by omega)]
  show inP _ _ = none
  unfold inP
  simp only [extract_get]
  have e : ¬ ((((rs[k].o + (i : Int)).toNat : Nat) : Int) - rs[k].o).toNat < i := by omega
  rw [if_neg e]
  simp
theorem putF_free {T : Tab} {o : Nat} {b : UInt8} (h : T o = none) : putF T o b = putL T o b := by
  funext i
  unfold putF putL
  split
  · next e => subst e; rw [h]; rfl
  · rfl
theorem putF_held {T : Tab} {o : Nat} {b c : UInt8} (h : T o = some c) : putF T o b = T := by
  funext i
  unfold putF
  split
  · next e => subst e; rw [h]; rfl
  · rfl

/-- What arrives beside what is held. -/
def arrT (n s : Int) (x : ByteArray) (l : Int) (T : Tab) : Tab := fun o => (T o).or (if (o : Int) < l then x.data[(pl (n + o - s)).toNat]? else none)
theorem arrT_out {n s : Int} {x : ByteArray} {l : Int} {T : Tab} {o : Nat} (h : l ≤ (o : Int)) (hT : T o = none) : arrT n s x l T o = none := by unfold arrT; rw [hT, if_neg (by omega)]; rfl

/-- How many bytes have no hole before them. -/
def cnt (T : Tab) : Nat := (List.range 33).findIdx (fun o => (T o).isNone)
theorem cnt_le (T : Tab) : cnt T ≤ 33 := by have := List.findIdx_le_length (p := fun o => (T o).isNone) (xs := List.range 33); simpa [cnt] using this
theorem cnt_eq {T : Tab} {n : Nat} (h : n ≤ 32) (h1 : T n = none) (h2 : ∀ i, i < n → T i ≠ none) : cnt T = n := by
  unfold cnt
  refine (List.findIdx_eq (by simp; omega)).2 ⟨by simp [h1], fun j hj => ?_⟩
  simp only [List.getElem_range, Option.isNone_eq_false_iff]
  cases e : T j with
  | none => exact absurd e (h2 j hj)
  | some b => rfl
theorem cnt_lt {T : Tab} (h : T 32 = none) : cnt T ≤ 32 ∧ T (cnt T) = none ∧ ∀ i, i < cnt T → T i ≠ none := by
  have hl : cnt T < (List.range 33).length := by
    unfold cnt
    exact List.findIdx_lt_length_of_exists ⟨32, by simp, by simp [h]⟩
  have h1 : (T (cnt T)).isNone = true := by
    have h0 := List.findIdx_getElem (p := fun o => (T o).isNone) (xs := List.range 33) (w := hl)
    have h3 : (T ((List.range 33)[cnt T]'hl)).isNone = true := h0
    rwa [List.getElem_range] at h3
  have h2 : cnt T < 33 := by simpa using hl
  refine ⟨by omega, ?_, fun i hi => ?_⟩
  · simpa using h1
  · have := List.not_of_lt_findIdx (p := fun o => (T o).isNone) (xs := List.range 33) hi
    simp only [List.getElem_range, Option.isNone_eq_false_iff] at this
    intro e
    rw [e] at this
    cases this
/-- The first n bytes. -/
def got (T : Tab) (n : Nat) : ByteArray := ⟨((List.range n).map fun o => (T o).getD 0).toArray⟩
theorem got_size (T : Tab) (n : Nat) : (got T n).size = n := by simp [got, ByteArray.size]
theorem got_zero (T : Tab) : got T 0 = ⟨#[]⟩ := rfl
theorem got_succ (T : Tab) (n : Nat) : got T (n + 1) = ⟨((got T n).data.toList ++ [(T n).getD 0]).toArray⟩ := by
  simp [got, List.range_succ]

/-- One byte more at the end of the pieces. -/
def stepP (L : List HP) (o : Int) (b : UInt8) : List HP := match L.getLast? with
  | some p => if p.o + p.t.size = o then L.dropLast ++ [⟨p.o, p.t.push b⟩] else L ++ [⟨o, ⟨#[b]⟩⟩]
  | none => L ++ [⟨o, ⟨#[b]⟩⟩]
/-- The pieces of the first k offsets behind n. -/
def pcs (T : Tab) (n : Nat) : Nat → List HP
  | 0 => []
  | k + 1 => match T (n + k) with
    | none => pcs T n k
    | some b => stepP (pcs T n k) k b
/-- Where the last piece ends. -/
def lastEnd (L : List HP) : Option Int := L.getLast?.map fun p => p.o + p.t.size
theorem stepP_new {L : List HP} {o : Int} {b : UInt8} (h : lastEnd L ≠ some o) : stepP L o b = L ++ [⟨o, ⟨#[b]⟩⟩] := by
  unfold stepP
  unfold lastEnd at h
  split
  · next p e => rw [e] at h; rw [if_neg (fun e => h (by simp [e]))]
  · rfl
theorem stepP_old {L : List HP} {o : Int} {b : UInt8} (h : lastEnd L = some o) : ∃ h0 : 0 < L.length, stepP L o b = L.set (L.length - 1) ⟨(L[L.length - 1]).o, (L[L.length - 1]).t.push b⟩ ∧ L[L.length - 1].o + L[L.length - 1].t.size = o := by
  unfold lastEnd at h
  cases e : L.getLast? with
  | none => rw [e] at h; cases h
  | some p =>
    rw [e] at h
    have hne : L ≠ [] := fun e2 => by rw [e2] at e; cases e
    have h0 : 0 < L.length := List.length_pos_iff.2 hne
    have hp : L[L.length - 1] = p := by
      rw [List.getLast?_eq_getElem?] at e
      rw [List.getElem?_eq_getElem (by omega)] at e
      exact Option.some.inj e
    refine ⟨h0, ?_, by rw [hp]; simpa using h⟩
    unfold stepP
    rw [e]
    simp only [Option.map_some, Option.some.injEq] at h
    simp only [h, if_true]
    rw [hp]
    have := List.dropLast_concat_getLast hne
    conv => rhs; rw [← this]
    rw [List.set_append_right _ _ (by simp)]
    simp
theorem lastEnd_snoc (L : List HP) (p : HP) : lastEnd (L ++ [p]) = some (p.o + p.t.size) := by simp [lastEnd]
theorem lastEnd_step (L : List HP) (o : Int) (b : UInt8) : lastEnd (stepP L o b) = some (o + 1) := by
  by_cases h : lastEnd L = some o
  · unfold stepP
    unfold lastEnd at h
    cases e : L.getLast? with
    | none => rw [e] at h; cases h
    | some p =>
      rw [e] at h
      simp only [Option.map_some, Option.some.injEq] at h
      simp only [h, if_true, lastEnd_snoc]
      rw [ByteArray.size_push]
      congr 1
      omega
  · rw [stepP_new h, lastEnd_snoc]
    rfl
theorem stepP_le (L : List HP) (o : Int) (b : UInt8) : (stepP L o b).length ≤ L.length + 1 := by
  by_cases h : lastEnd L = some o
  · obtain ⟨_, h1, _⟩ := stepP_old (b := b) h
    rw [h1]; simp
  · rw [stepP_new h]; simp
theorem pcs_le (T : Tab) (n k : Nat) : (pcs T n k).length ≤ k := by
  induction k with
  | zero => simp [pcs]
  | succ k ih =>
    unfold pcs
    split
    · omega
    · have := stepP_le (pcs T n k) k (by assumption)
      omega

/-- Nothing from place e on. -/
def freeFrom (T : Tab) (e : Int) : Prop := ∀ o : Nat, e ≤ (o : Int) → o < 33 → T o = none
open Classical in
noncomputable def freeB (T : Tab) (e : Int) : Bool := decide (freeFrom T e)
/-- Where the stream ends, as far as it is known now. -/
noncomputable def finAt (f : Int) (fin : Bool) (e l : Int) (T : Tab) : Int := bif fin && (f == -1) && (decide (e ≤ l) && freeB T e) then e else f
/-- The receiver once the bytes in order have joined. -/
def arrEnd (r : Rcv) (T : Tab) (c : Nat) (F : Int) : Rcv :=
  if 3 < (pcs T c (33 - c)).length then r
  else if F = -1 then ⟨pl (r.n + c), r.d ++ got T c, pcs T c (33 - c), -1, false⟩
  else if F = c then ⟨pl (pl (r.n + c) + 1), r.d ++ got T c, pcs T c (33 - c), -1, true⟩
  else ⟨pl (r.n + c), r.d ++ got T c, pcs T c (33 - c), F - c, false⟩
/-- What is stored once the text has come. -/
def arrTab (r : Rcv) (s : Int) (x : ByteArray) : Tab := arrT r.n s x (lim r.d r.f r.z) (heldT r.rs)
/-- What Arrived makes of it. -/
noncomputable def arrived (r : Rcv) (s : Int) (x : ByteArray) (fin : Bool) : Rcv :=
  bif rcvOk r && !r.z then arrEnd r (arrTab r s x) (cnt (arrTab r s x)) (finAt r.f fin (pl (s + x.size - r.n)) (lim r.d r.f r.z) (arrTab r s x)) else r
end Go.Proofs.Ytajekjjaaohbnaa
namespace Go.Proofs.Ytajekjjaaohbnaa
open Go.RowKit Go.Lib

/-- What a slot holds. -/
def sv (b : Option UInt8) : Int := match b with
  | some x => (x.toNat : Int)
  | none => -1
theorem sv_bd (b : Option UInt8) : -1 ≤ sv b ∧ sv b ≤ 255 := by
  unfold sv
  split
  · next x => have := x.toNat_lt; omega
  · omega
theorem sv_neg {b : Option UInt8} (h : b = none) : sv b = -1 := by rw [h]; rfl
theorem sv_some {b : Option UInt8} (h : b ≠ none) : 0 ≤ sv b ∧ sv b = ((b.getD 0).toNat : Int) := by
  cases b with
  | none => exact absurd rfl h
  | some x => exact ⟨Int.natCast_nonneg _, rfl⟩
def slotsV (T : Tab) : List Value := (List.range 33).map fun i => .int .i64 (sv (T i))
theorem slotsV_length (T : Tab) : (slotsV T).length = 33 := by simp [slotsV]
theorem slotsV_at (T : Tab) (i : Nat) (h : i < 33) : (slotsV T)[i]? = some (.int .i64 (sv (T i))) := by simp [slotsV, h]
theorem slotsV_put (T : Tab) (o : Nat) (b : UInt8) : (slotsV T).set o (.int .i64 (b.toNat : Int)) = slotsV (putL T o b) := by
  apply List.ext_getElem?
  intro i
  rcases Nat.lt_or_ge i 33 with h | h
  · rw [slotsV_at _ i h]
    by_cases e : o = i
    · subst e
      rw [List.getElem?_set_self (by rw [slotsV_length]; exact h)]
      simp [putL, sv]
    · rw [List.getElem?_set_ne e, slotsV_at _ i h]
      unfold putL
      rw [if_neg (fun e2 => e e2.symm)]
  · rw [List.getElem?_eq_none (by rw [List.length_set, slotsV_length]; exact h), List.getElem?_eq_none (by rw [slotsV_length]; exact h)]
/-- The first k slots empty, the rest not yet laid. -/
def fill33 (k : Nat) : List Value := List.replicate k (.int .i64 (-1)) ++ List.replicate (33 - k) (.int .i64 0)
theorem fill33_at (k : Nat) (h : k < 33) : (fill33 k)[k]? = some (.int .i64 0) := by
  unfold fill33
  rw [List.getElem?_append_right (by simp), List.length_replicate, Nat.sub_self, List.getElem?_replicate, if_pos (by omega)]
theorem fill33_set (k : Nat) (h : k < 33) : (fill33 k).set k (.int .i64 (-1)) = fill33 (k + 1) := by
  unfold fill33
  rw [List.set_append_right _ _ (by simp), List.length_replicate, Nat.sub_self, show 33 - k = (33 - (k + 1)) + 1 by omega, List.replicate_succ, List.set_cons_zero, List.replicate_succ', List.append_assoc]
  rfl
theorem fill33_all : fill33 33 = slotsV (heldT []) := rfl
theorem fill33_zero : fill33 0 = List.replicate 33 (.int .i64 0) := rfl
end Go.Proofs.Ytajekjjaaohbnaa
