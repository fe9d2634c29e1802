/- Texts of one proof that belong together, joined. Nothing here is a claim. -/
import Derived.Lib.SmallJoins
import Derived.ProofKit
import Derived.OpenShut
import Derived.Test.YtobfgkiccmhgdaaBase
import Derived.Test.YtobfgkiccmhgdaaOpenM
import Derived.Test.YtobfgkiccmhgdaaKeysLaw
import Derived.Test.YtobfgkiccmhgdaaKeysC
import Derived.Test.YtobfgkiccmhgdaaKeysBS
import Derived.Test.YtobfgkiccmhgdaaKeysE
import Derived.Test.YtobfgkiccmhgdaaKeysF
import Derived.Test.YtobfgkiccmhgdaaMarkM
import Derived.Deep.RegionHeld3
import Derived.Deep.DeepCutAuto
namespace Go.Proofs.Ytobfgkiccmhgdaa
open Go.Joins Go.ChangeShapes Go.WideShapes Go.RowKit Go.Deep Go.Lib

theorem open_flat {H : Type} {enc : TypeId × Value → H} {P : Program} {w : World} {base : Nat} {spare : Nat → Bool} {held : Bool} {r : Reach} {b0 : Nat} {t : TypeId} {fs : Array Field} {v : Value} {d : DataW H} {p : List MemPlace}
    (hs : P.underlying t = some (.struct fs)) (hone : oneCellFields P fs = true) (hC : P.cellsOf t = fs.size) (hv : Value.okWide P w r b0 t v) (h : DataW.Trod enc P w base spare held t v d p) :
    ∃ (cs : List Value) (n : Nat), v = .agg cs.toArray ∧ cs.length = fs.size ∧ ∀ (j : Nat) (f : Field), fs[j]? = some f → ∃ y, DataW.trod enc P w base spare held n f.type [cs.getD j undef] = some y := by
  obtain ⟨cs, rfl, hsz⟩ := okWide_struct hs hv
  obtain ⟨fuel, hf⟩ := h
  obtain ⟨xs, n, _, _, _, hlen, hg⟩ := DataW.trod_struct hs hf
  refine ⟨cs.toList, n, by simp, by rw [Array.length_toList, hsz, hC], fun j f hj => ?_⟩
  obtain ⟨o, k⟩ := hone_of hone j f hj
  have hjl : j < fs.size := (Array.getElem?_eq_some_iff.1 hj).1
  have h1 := hg j f hj
  rw [o, k] at h1
  have hjc : j < cs.toList.length := by rw [Array.length_toList, hsz, hC]; exact hjl
  have e : ((Value.agg cs).cells.toList.drop j).take 1 = [cs.toList.getD j undef] := by
    show (cs.toList.drop j).take 1 = _
    rw [List.drop_eq_getElem_cons hjc, List.getD_eq_getElem?_getD, List.getElem?_eq_getElem hjc]
    rfl
  rw [e] at h1
  have hjx : j < xs.length := by omega
  exact ⟨_, h1.trans (List.getElem?_eq_getElem hjx)⟩
end Go.Proofs.Ytobfgkiccmhgdaa
namespace Go.Proofs.Ytobfgkiccmhgdaa
open Go.Joins Go.ChangeShapes Go.WideShapes Go.RowKit Go.Deep Go.Lib

set_option maxRecDepth 100000 in
theorem openMs {H : Type} {enc : TypeId × Value → H} {w : World} {fuel : Nat} {a : Option Addr} {len cap : Nat} {x : DataW H × List MemPlace}
    (h : DataW.trod enc Try.prog w 0 (fun _ => true) true fuel 48 (Value.slice a len cap).cells.toList = some x) : ∃ rs, IsM w a len cap rs :=
  openM Try.underlying48 Try.underlying117 (by kernel_rfl) ⟨rfl, rfl, by kernel_rfl⟩ ⟨rfl, rfl, by kernel_rfl⟩ Try.underlying9 Try.underlying3 h
set_option maxRecDepth 100000 in
theorem argMacRowS {H : Type} {enc : TypeId × Value → H} {W : World} {r : Reach} {b0 : Nat} {v : Value} {d : DataW H} {p : List MemPlace}
    (hv : Value.okWide Try.prog W r b0 48 v) (h : DataW.Trod enc Try.prog W 0 (fun _ => true) true 48 v d p) : ∃ a len cap rs, v = .slice a len cap ∧ IsM W a len cap rs := by
  obtain ⟨a, len, cap, rfl⟩ := okWide_slice Try.underlying48 hv
  obtain ⟨fuel, hf⟩ := h
  obtain ⟨rs, hrs⟩ := openMs hf
  exact ⟨a, len, cap, rs, rfl, hrs⟩
set_option maxRecDepth 100000 in
theorem argMac {H : Type} {enc : TypeId × Value → H} {W : World} {r : Reach} {b0 : Nat} {v : Value} {d : DataW H} {p : List MemPlace}
    (hv : Value.okWide Try.prog W r b0 50 v) (h : DataW.Trod enc Try.prog W 0 (fun _ => true) true 50 v d p) :
    ∃ u k l a len cap rs, v = .agg #[.bool u, .int .u64 k, .int .u64 l, .slice a len cap] ∧ ((Lit.int .u64 k).wf = true ∧ (Lit.int .u64 l).wf = true ∧ IsM W a len cap rs) := by
  obtain ⟨cs, n, rfl, hl, hf⟩ := open_flat Try.underlying50 (by kernel_rfl) (by kernel_rfl) hv h
  match cs, hl with
  | [c0, c1, c2, c3], _ =>
    obtain ⟨_, t0⟩ := hf 0 _ rfl
    obtain ⟨_, t1⟩ := hf 1 _ rfl
    obtain ⟨_, t2⟩ := hf 2 _ rfl
    obtain ⟨_, t3⟩ := hf 3 _ rfl
    obtain ⟨u, e0, _⟩ := DataW.trod_bool Try.underlying4 t0
    obtain rfl : c0 = .bool u := (List.cons.inj e0).1
    obtain ⟨k, e1, _, w1⟩ := DataW.trod_int Try.underlying24 t1
    obtain rfl : c1 = .int .u64 k := (List.cons.inj e1).1
    obtain ⟨l, e2, _, w2⟩ := DataW.trod_int Try.underlying24 t2
    obtain rfl : c2 = .int .u64 l := (List.cons.inj e2).1
    obtain ⟨a, len, cap, rfl⟩ : ∃ a len cap, c3 = .slice a len cap := by
      rcases open_slice Try.underlying48 t3 with ⟨hcs, _⟩ | ⟨ad, l', c, _, _, _, _, hcs, _⟩
      · exact ⟨_, _, _, (List.cons.inj hcs).1⟩
      · exact ⟨_, _, _, (List.cons.inj hcs).1⟩
    obtain ⟨rs, hrs⟩ := openMs t3
    exact ⟨u, k, l, a, len, cap, rs, rfl, w1, w2, hrs⟩
end Go.Proofs.Ytobfgkiccmhgdaa
namespace Go.Proofs.Ytobfgkiccmhgdaa
open Go.Joins Go.ChangeShapes Go.WideShapes Go.RowKit Go.Deep Go.Lib

theorem Try.cellsM : Try.prog.cellsOf 50 = 4 := by kernel_rfl
theorem Try.cellsK : Try.prog.cellsOf 52 = 10 := by kernel_rfl
theorem Try.cellsI : Try.prog.cellsOf 3 = 1 := by kernel_rfl
theorem Try.cellsB : Try.prog.cellsOf 4 = 1 := by kernel_rfl
theorem Try.cellsU : Try.prog.cellsOf 24 = 1 := by kernel_rfl
theorem Try.cellsR : Try.prog.cellsOf 48 = 1 := by kernel_rfl
theorem wf_n64 {k : Int} (h : (Lit.int .u64 k).wf = true) : ∃ b, k = n64 b := by
  refine n64_of k ?_
  have h2 : IntKind.u64.min ≤ k ∧ k ≤ IntKind.u64.max := by simpa [Lit.wf] using h
  have e1 : IntKind.u64.min = 0 := by decide
  have e2 : IntKind.u64.max = 18446744073709551615 := by decide
  omega
set_option maxRecDepth 100000 in
theorem openMac {H : Type} {enc : TypeId × Value → H} {W : World} {n : Nat} {c0 c1 c2 c3 : Value} {x : DataW H × List MemPlace}
    (h : DataW.trod enc Try.prog W 0 (fun _ => true) true n 50 [c0, c1, c2, c3] = some x) :
    ∃ m : M, c0 = .bool m.u ∧ c1 = .int .u64 (n64 m.k) ∧ c2 = .int .u64 (n64 m.l) ∧ c3 = .slice m.a m.rs.length m.c ∧ LawM W m := by
  obtain ⟨_, _, hf⟩ := trod_nest Try.underlying50 h
  obtain ⟨_, t0⟩ := hf 0 _ rfl
  obtain ⟨_, t1⟩ := hf 1 _ rfl
  obtain ⟨_, t2⟩ := hf 2 _ rfl
  obtain ⟨_, t3⟩ := hf 3 _ rfl
  replace t0 : DataW.trod enc Try.prog W 0 (fun _ => true) true _ 4 (([c0, c1, c2, c3].drop 0).take (Try.prog.cellsOf 4)) = some _ := t0
  replace t1 : DataW.trod enc Try.prog W 0 (fun _ => true) true _ 24 (([c0, c1, c2, c3].drop 1).take (Try.prog.cellsOf 24)) = some _ := t1
  replace t2 : DataW.trod enc Try.prog W 0 (fun _ => true) true _ 24 (([c0, c1, c2, c3].drop 2).take (Try.prog.cellsOf 24)) = some _ := t2
  replace t3 : DataW.trod enc Try.prog W 0 (fun _ => true) true _ 48 (([c0, c1, c2, c3].drop 3).take (Try.prog.cellsOf 48)) = some _ := t3
  rw [Try.cellsB] at t0
  rw [Try.cellsU] at t1 t2
  rw [Try.cellsR] at t3
  replace t0 : DataW.trod enc Try.prog W 0 (fun _ => true) true _ 4 [c0] = some _ := t0
  replace t1 : DataW.trod enc Try.prog W 0 (fun _ => true) true _ 24 [c1] = some _ := t1
  replace t2 : DataW.trod enc Try.prog W 0 (fun _ => true) true _ 24 [c2] = some _ := t2
  replace t3 : DataW.trod enc Try.prog W 0 (fun _ => true) true _ 48 [c3] = some _ := t3
  obtain ⟨u, e0, _⟩ := DataW.trod_bool Try.underlying4 t0
  obtain rfl : c0 = .bool u := (List.cons.inj e0).1
  obtain ⟨k, e1, _, w1⟩ := DataW.trod_int Try.underlying24 t1
  obtain rfl : c1 = .int .u64 k := (List.cons.inj e1).1
  obtain ⟨l, e2, _, w2⟩ := DataW.trod_int Try.underlying24 t2
  obtain rfl : c2 = .int .u64 l := (List.cons.inj e2).1
  obtain ⟨a, len, cap, rfl⟩ : ∃ a len cap, c3 = .slice a len cap := by
    rcases open_slice Try.underlying48 t3 with ⟨hcs, _⟩ | ⟨ad, l', c, _, _, _, _, hcs, _⟩
    · exact ⟨_, _, _, (List.cons.inj hcs).1⟩
    · exact ⟨_, _, _, (List.cons.inj hcs).1⟩
  obtain ⟨rs, ⟨rfl, hl, hc, hg⟩, hrow⟩ := openMs t3
  obtain ⟨k, rfl⟩ := wf_n64 w1
  obtain ⟨l, rfl⟩ := wf_n64 w2
  exact ⟨⟨u, k, l, a, cap, rs⟩, rfl, rfl, rfl, rfl, ⟨Nat.le_trans hl hc, hg⟩, hrow⟩
set_option maxRecDepth 100000 in
theorem argMacM {H : Type} {enc : TypeId × Value → H} {W : World} {r : Reach} {b0 : Nat} {v : Value} {d : DataW H} {p : List MemPlace}
    (hv : Value.okWide Try.prog W r b0 50 v) (h : DataW.Trod enc Try.prog W 0 (fun _ => true) true 50 v d p) :
    ∃ m : M, v = .agg #[.bool m.u, .int .u64 (n64 m.k), .int .u64 (n64 m.l), .slice m.a m.rs.length m.c] ∧ LawM W m := by
  obtain ⟨cs, rfl, hsz⟩ := okWide_struct Try.underlying50 hv
  obtain ⟨fuel, hf⟩ := h
  replace hf : DataW.trod enc Try.prog W 0 (fun _ => true) true fuel 50 cs.toList = some _ := hf
  obtain ⟨_, hl, _⟩ := trod_nest Try.underlying50 hf
  rw [Try.cellsM] at hl
  obtain ⟨xs, rfl⟩ : ∃ xs : List Value, cs = xs.toArray := ⟨cs.toList, by simp⟩
  match xs, hl with
  | [c0, c1, c2, c3], _ =>
    obtain ⟨m, rfl, rfl, rfl, rfl, hm⟩ := openMac hf
    exact ⟨m, rfl, hm⟩
set_option maxRecDepth 100000 in
theorem argKeys {H : Type} {enc : TypeId × Value → H} {W : World} {r : Reach} {b0 : Nat} {v : Value} {d : DataW H} {p : List MemPlace}
    (hv : Value.okWide Try.prog W r b0 52 v) (h : DataW.Trod enc Try.prog W 0 (fun _ => true) true 52 v d p) :
    ∃ e p q t, v = .agg #[.int .i64 e, .bool p.u, .int .u64 (n64 p.k), .int .u64 (n64 p.l), .slice p.a p.rs.length p.c, .bool q.u, .int .u64 (n64 q.k), .int .u64 (n64 q.l), .slice q.a q.rs.length q.c, .bool t] ∧ ((Lit.int .i64 e).wf = true ∧ LawM W p ∧ LawM W q) := by
  obtain ⟨cs, n, rfl, hl, hf⟩ := open_nest Try.underlying52 hv h
  rw [Try.cellsK] at hl
  match cs, hl with
  | [c0, c1, c2, c3, c4, c5, c6, c7, c8, c9], _ =>
    obtain ⟨_, t0⟩ := hf 0 _ rfl
    obtain ⟨_, t1⟩ := hf 1 _ rfl
    obtain ⟨_, t2⟩ := hf 2 _ rfl
    obtain ⟨_, t3⟩ := hf 3 _ rfl
    replace t0 : DataW.trod enc Try.prog W 0 (fun _ => true) true _ 3 (([c0, c1, c2, c3, c4, c5, c6, c7, c8, c9].drop 0).take (Try.prog.cellsOf 3)) = some _ := t0
    replace t1 : DataW.trod enc Try.prog W 0 (fun _ => true) true _ 50 (([c0, c1, c2, c3, c4, c5, c6, c7, c8, c9].drop 1).take (Try.prog.cellsOf 50)) = some _ := t1
    replace t2 : DataW.trod enc Try.prog W 0 (fun _ => true) true _ 50 (([c0, c1, c2, c3, c4, c5, c6, c7, c8, c9].drop 5).take (Try.prog.cellsOf 50)) = some _ := t2
    replace t3 : DataW.trod enc Try.prog W 0 (fun _ => true) true _ 4 (([c0, c1, c2, c3, c4, c5, c6, c7, c8, c9].drop 9).take (Try.prog.cellsOf 4)) = some _ := t3
    rw [Try.cellsI] at t0
    rw [Try.cellsM] at t1 t2
    rw [Try.cellsB] at t3
    replace t0 : DataW.trod enc Try.prog W 0 (fun _ => true) true _ 3 [c0] = some _ := t0
    replace t1 : DataW.trod enc Try.prog W 0 (fun _ => true) true _ 50 [c1, c2, c3, c4] = some _ := t1
    replace t2 : DataW.trod enc Try.prog W 0 (fun _ => true) true _ 50 [c5, c6, c7, c8] = some _ := t2
    replace t3 : DataW.trod enc Try.prog W 0 (fun _ => true) true _ 4 [c9] = some _ := t3
    obtain ⟨e, e0, _, w0⟩ := DataW.trod_int Try.underlying3 t0
    obtain rfl : c0 = .int .i64 e := (List.cons.inj e0).1
    obtain ⟨p, rfl, rfl, rfl, rfl, hp⟩ := openMac t1
    obtain ⟨q, rfl, rfl, rfl, rfl, hq⟩ := openMac t2
    obtain ⟨t, e3, _⟩ := DataW.trod_bool Try.underlying4 t3
    obtain rfl : c9 = .bool t := (List.cons.inj e3).1
    exact ⟨e, p, q, t, rfl, w0, hp, hq⟩
end Go.Proofs.Ytobfgkiccmhgdaa
namespace Go.Proofs.Ytobfgkiccmhgdaa
open Go.RowKit Go.Lib

/-- A Mac and true are handed back, the rows in new memory, not nil. -/
def SecG (m : M) (w : World) (x : Ending) (w' : World) : Prop :=
  ∃ g c, x = .returned (.tuple #[.agg #[.bool m.u, .int .u64 (n64 m.k), .int .u64 (n64 m.l), .slice (some ⟨g, 0, none⟩) m.rs.length c], .bool true]) ∧ w'.ownsRow w.heap.size 92 2 (.slice (some ⟨g, 0, none⟩) m.rs.length c) m.rs.length (mrs m.rs) ∧ Below w.heap.size w w'

theorem sameKeysI_at (e1 : Int) (p1 q1 : M) (t1 : Bool) (e2 : Int) (p2 q2 : M) (t2 : Bool) (a1 b1 a2 b2 : Option Addr) (c1 d1 c2 d2 : Nat) (w : World) (o1 : (p1.at a1 c1).On w) (o2 : (q1.at b1 d1).On w) (o3 : (p2.at a2 c2).On w) (o4 : (q2.at b2 d2).On w) (f1 : p1.Fit) (f2 : q1.Fit) :
    Calls Try.prog 43 #[.agg #[.int .i64 e1, .bool p1.u, .int .u64 (n64 p1.k), .int .u64 (n64 p1.l), .slice a1 p1.rs.length c1, .bool q1.u, .int .u64 (n64 q1.k), .int .u64 (n64 q1.l), .slice b1 q1.rs.length d1, .bool t1], .agg #[.int .i64 e2, .bool p2.u, .int .u64 (n64 p2.k), .int .u64 (n64 p2.l), .slice a2 p2.rs.length c2, .bool q2.u, .int .u64 (n64 q2.k), .int .u64 (n64 q2.l), .slice b2 q2.rs.length d2, .bool t2]] w (EndB (sameK e1 e2 p1 q1 p2 q2 t1 t2) w) :=
  sameKeysI e1 e2 (p1.at a1 c1) (q1.at b1 d1) (p2.at a2 c2) (q2.at b2 d2) t1 t2 w o1 o2 o3 o4 f1 f2

theorem cookieOfI_at (m : M) (a : Option Addr) (c : Nat) (p q r s t i : Int) (w : World) (om : (m.at a c).On w) (f : m.Fit) :
    Calls Try.prog 19 #[.agg #[.bool m.u, .int .u64 (n64 m.k), .int .u64 (n64 m.l), .slice a m.rs.length c], .agg #[.int .i64 p, .int .i64 q, .int .i64 r], .int .i64 s, .int .i64 t, .int .i64 i] w (EndN (cookieOf m p q r s t i) w) :=
  cookieOfI (m.at a c) p q r s t i w om f

theorem secNowOneI_at (e : Int) (p q : M) (g h c d : Nat) (w : World) (o1 : (p.at (some ⟨g, 0, none⟩) c).On w) (o2 : (q.at (some ⟨h, 0, none⟩) d).On w) (f : p.Fit) :
    Calls Try.prog 30 #[.agg #[.int .i64 e, .bool p.u, .int .u64 (n64 p.k), .int .u64 (n64 p.l), .slice (some ⟨g, 0, none⟩) p.rs.length c, .bool q.u, .int .u64 (n64 q.k), .int .u64 (n64 q.l), .slice (some ⟨h, 0, none⟩) q.rs.length d, .bool false], .int .i64 e] w (SecG p w) :=
  (secNowOneI e (p.at (some ⟨g, 0, none⟩) c) (q.at (some ⟨h, 0, none⟩) d) w o1 o2 f).mono fun _ _ ⟨a, c', hx, ho, hn', hb⟩ => by
    rcases hn' with ⟨h1, _⟩ | ⟨g', rfl⟩
    · cases h1
    · exact ⟨g', c', hx, ho, hb⟩

theorem secNowTwoI_at (e : Int) (p q : M) (g h c d : Nat) (w : World) (o1 : (p.at (some ⟨g, 0, none⟩) c).On w) (o2 : (q.at (some ⟨h, 0, none⟩) d).On w) (f : p.Fit) :
    Calls Try.prog 30 #[.agg #[.int .i64 e, .bool p.u, .int .u64 (n64 p.k), .int .u64 (n64 p.l), .slice (some ⟨g, 0, none⟩) p.rs.length c, .bool q.u, .int .u64 (n64 q.k), .int .u64 (n64 q.l), .slice (some ⟨h, 0, none⟩) q.rs.length d, .bool true], .int .i64 e] w (SecG p w) :=
  (secNowTwoI e (p.at (some ⟨g, 0, none⟩) c) (q.at (some ⟨h, 0, none⟩) d) w o1 o2 f).mono fun _ _ ⟨a, c', hx, ho, hn', hb⟩ => by
    rcases hn' with ⟨h1, _⟩ | ⟨g', rfl⟩
    · cases h1
    · exact ⟨g', c', hx, ho, hb⟩

theorem secBefI_at (e n : Int) (p q : M) (g h c d : Nat) (w : World) (o1 : (p.at (some ⟨g, 0, none⟩) c).On w) (o2 : (q.at (some ⟨h, 0, none⟩) d).On w) (f : q.Fit) (hn : (n == e) = false) (hw : n = wrap64 (e - 1)) :
    Calls Try.prog 30 #[.agg #[.int .i64 e, .bool p.u, .int .u64 (n64 p.k), .int .u64 (n64 p.l), .slice (some ⟨g, 0, none⟩) p.rs.length c, .bool q.u, .int .u64 (n64 q.k), .int .u64 (n64 q.l), .slice (some ⟨h, 0, none⟩) q.rs.length d, .bool true], .int .i64 n] w (SecG q w) :=
  (secBefI e n (p.at (some ⟨g, 0, none⟩) c) (q.at (some ⟨h, 0, none⟩) d) w o1 o2 f hn hw).mono fun _ _ ⟨a, c', hx, ho, hn', hb⟩ => by
    rcases hn' with ⟨h1, _⟩ | ⟨g', rfl⟩
    · cases h1
    · exact ⟨g', c', hx, ho, hb⟩

theorem secNoOneI_at (e n : Int) (p q : M) (g h c d : Nat) (w : World) (hn : (n == e) = false) :
    Calls Try.prog 30 #[.agg #[.int .i64 e, .bool p.u, .int .u64 (n64 p.k), .int .u64 (n64 p.l), .slice (some ⟨g, 0, none⟩) p.rs.length c, .bool q.u, .int .u64 (n64 q.k), .int .u64 (n64 q.l), .slice (some ⟨h, 0, none⟩) q.rs.length d, .bool false], .int .i64 n] w (SecNo w) :=
  secNoOneI e n (p.at (some ⟨g, 0, none⟩) c) (q.at (some ⟨h, 0, none⟩) d) w hn

theorem secNoTwoI_at (e n : Int) (p q : M) (g h c d : Nat) (w : World) (hn : (n == e) = false) (hw : (n == wrap64 (e - 1)) = false) :
    Calls Try.prog 30 #[.agg #[.int .i64 e, .bool p.u, .int .u64 (n64 p.k), .int .u64 (n64 p.l), .slice (some ⟨g, 0, none⟩) p.rs.length c, .bool q.u, .int .u64 (n64 q.k), .int .u64 (n64 q.l), .slice (some ⟨h, 0, none⟩) q.rs.length d, .bool true], .int .i64 n] w (SecNo w) :=
  secNoTwoI e n (p.at (some ⟨g, 0, none⟩) c) (q.at (some ⟨h, 0, none⟩) d) w hn hw

theorem sameKeysS_at (e1 : Int) (p1 q1 : M) (t1 : Bool) (e2 : Int) (p2 q2 : M) (t2 : Bool) (a1 b1 a2 b2 : Option Addr) (c1 d1 c2 d2 : Nat) (w : World) (o1 : (p1.at a1 c1).On w) (o2 : (q1.at b1 d1).On w) (o3 : (p2.at a2 c2).On w) (o4 : (q2.at b2 d2).On w) (f1 : p1.Fit) (f2 : q1.Fit) :
    Calls Try.prog 23 #[.agg #[.int .i64 e1, .bool p1.u, .int .u64 (n64 p1.k), .int .u64 (n64 p1.l), .slice a1 p1.rs.length c1, .bool q1.u, .int .u64 (n64 q1.k), .int .u64 (n64 q1.l), .slice b1 q1.rs.length d1, .bool t1], .agg #[.int .i64 e2, .bool p2.u, .int .u64 (n64 p2.k), .int .u64 (n64 p2.l), .slice a2 p2.rs.length c2, .bool q2.u, .int .u64 (n64 q2.k), .int .u64 (n64 q2.l), .slice b2 q2.rs.length d2, .bool t2]] w (EndB (sameK e1 e2 p1 q1 p2 q2 t1 t2) w) :=
  sameKeysS e1 e2 (p1.at a1 c1) (q1.at b1 d1) (p2.at a2 c2) (q2.at b2 d2) t1 t2 w o1 o2 o3 o4 f1 f2

theorem cookieOfS_at (m : M) (a : Option Addr) (c : Nat) (p q r s t i : Int) (w : World) (om : (m.at a c).On w) (f : m.Fit) :
    Calls Try.prog 36 #[.agg #[.bool m.u, .int .u64 (n64 m.k), .int .u64 (n64 m.l), .slice a m.rs.length c], .agg #[.int .i64 p, .int .i64 q, .int .i64 r], .int .i64 s, .int .i64 t, .int .i64 i] w (EndN (cookieOf m p q r s t i) w) :=
  cookieOfS (m.at a c) p q r s t i w om f

theorem secNowOneS_at (e : Int) (p q : M) (g h c d : Nat) (w : World) (o1 : (p.at (some ⟨g, 0, none⟩) c).On w) (o2 : (q.at (some ⟨h, 0, none⟩) d).On w) (f : p.Fit) :
    Calls Try.prog 29 #[.agg #[.int .i64 e, .bool p.u, .int .u64 (n64 p.k), .int .u64 (n64 p.l), .slice (some ⟨g, 0, none⟩) p.rs.length c, .bool q.u, .int .u64 (n64 q.k), .int .u64 (n64 q.l), .slice (some ⟨h, 0, none⟩) q.rs.length d, .bool false], .int .i64 e] w (SecG p w) :=
  (secNowOneS e (p.at (some ⟨g, 0, none⟩) c) (q.at (some ⟨h, 0, none⟩) d) w o1 o2 f).mono fun _ _ ⟨g', c', hx, ho, hb⟩ => ⟨g', c', hx, ho, hb⟩

theorem secNowTwoS_at (e : Int) (p q : M) (g h c d : Nat) (w : World) (o1 : (p.at (some ⟨g, 0, none⟩) c).On w) (o2 : (q.at (some ⟨h, 0, none⟩) d).On w) (f : p.Fit) :
    Calls Try.prog 29 #[.agg #[.int .i64 e, .bool p.u, .int .u64 (n64 p.k), .int .u64 (n64 p.l), .slice (some ⟨g, 0, none⟩) p.rs.length c, .bool q.u, .int .u64 (n64 q.k), .int .u64 (n64 q.l), .slice (some ⟨h, 0, none⟩) q.rs.length d, .bool true], .int .i64 e] w (SecG p w) :=
  (secNowTwoS e (p.at (some ⟨g, 0, none⟩) c) (q.at (some ⟨h, 0, none⟩) d) w o1 o2 f).mono fun _ _ ⟨g', c', hx, ho, hb⟩ => ⟨g', c', hx, ho, hb⟩

theorem secBefS_at (e n : Int) (p q : M) (g h c d : Nat) (w : World) (o1 : (p.at (some ⟨g, 0, none⟩) c).On w) (o2 : (q.at (some ⟨h, 0, none⟩) d).On w) (f : q.Fit) (hn : (n == e) = false) (hw : n = wrap64 (e - 1)) :
    Calls Try.prog 29 #[.agg #[.int .i64 e, .bool p.u, .int .u64 (n64 p.k), .int .u64 (n64 p.l), .slice (some ⟨g, 0, none⟩) p.rs.length c, .bool q.u, .int .u64 (n64 q.k), .int .u64 (n64 q.l), .slice (some ⟨h, 0, none⟩) q.rs.length d, .bool true], .int .i64 n] w (SecG q w) :=
  (secBefS e n (p.at (some ⟨g, 0, none⟩) c) (q.at (some ⟨h, 0, none⟩) d) w o1 o2 f hn hw).mono fun _ _ ⟨g', c', hx, ho, hb⟩ => ⟨g', c', hx, ho, hb⟩

theorem secNoOneS_at (e n : Int) (p q : M) (g h c d : Nat) (w : World) (hn : (n == e) = false) :
    Calls Try.prog 29 #[.agg #[.int .i64 e, .bool p.u, .int .u64 (n64 p.k), .int .u64 (n64 p.l), .slice (some ⟨g, 0, none⟩) p.rs.length c, .bool q.u, .int .u64 (n64 q.k), .int .u64 (n64 q.l), .slice (some ⟨h, 0, none⟩) q.rs.length d, .bool false], .int .i64 n] w (SecNo w) :=
  secNoOneS e n (p.at (some ⟨g, 0, none⟩) c) (q.at (some ⟨h, 0, none⟩) d) w hn

theorem secNoTwoS_at (e n : Int) (p q : M) (g h c d : Nat) (w : World) (hn : (n == e) = false) (hw : (n == wrap64 (e - 1)) = false) :
    Calls Try.prog 29 #[.agg #[.int .i64 e, .bool p.u, .int .u64 (n64 p.k), .int .u64 (n64 p.l), .slice (some ⟨g, 0, none⟩) p.rs.length c, .bool q.u, .int .u64 (n64 q.k), .int .u64 (n64 q.l), .slice (some ⟨h, 0, none⟩) q.rs.length d, .bool true], .int .i64 n] w (SecNo w) :=
  secNoTwoS e n (p.at (some ⟨g, 0, none⟩) c) (q.at (some ⟨h, 0, none⟩) d) w hn hw

end Go.Proofs.Ytobfgkiccmhgdaa
namespace Go.Proofs.Ytobfgkiccmhgdaa
open Go.RowKit Go.Lib

theorem checkI_at (e : Int) (p q : M) (t : Bool) (x y z s c : Int) (a b : Option Addr) (k l : Nat) (w : World) (o1 : (p.at a k).On w) (o2 : (q.at b l).On w) (f1 : p.Fit) (f2 : q.Fit) :
    Calls Try.prog 20 #[.agg #[.int .i64 e, .bool p.u, .int .u64 (n64 p.k), .int .u64 (n64 p.l), .slice a p.rs.length k, .bool q.u, .int .u64 (n64 q.k), .int .u64 (n64 q.l), .slice b q.rs.length l, .bool t], .agg #[.int .i64 x, .int .i64 y, .int .i64 z], .int .i64 s, .int .i64 c] w (EndC (ck e p q t x y z s c) w) :=
  checkI e (p.at a k) (q.at b l) t x y z s c w o1 o2 f1 f2

theorem checkS_at (e : Int) (p q : M) (t : Bool) (x y z s c : Int) (a b : Option Addr) (k l : Nat) (w : World) (o1 : (p.at a k).On w) (o2 : (q.at b l).On w) (f1 : p.Fit) (f2 : q.Fit) :
    Calls Try.prog 40 #[.agg #[.int .i64 e, .bool p.u, .int .u64 (n64 p.k), .int .u64 (n64 p.l), .slice a p.rs.length k, .bool q.u, .int .u64 (n64 q.k), .int .u64 (n64 q.l), .slice b q.rs.length l, .bool t], .agg #[.int .i64 x, .int .i64 y, .int .i64 z], .int .i64 s, .int .i64 c] w (EndC (ck e p q t x y z s c) w) :=
  checkS e (p.at a k) (q.at b l) t x y z s c w o1 o2 f1 f2

/-- Keys that are handed back, the rows in new memory, none nil. -/
def KeysG (e : Int) (p q : M) (t : Bool) (w : World) (x : Ending) (w' : World) : Prop :=
  ∃ g h c d, g ≠ h ∧ x = .returned (.agg #[.int .i64 e, .bool p.u, .int .u64 (n64 p.k), .int .u64 (n64 p.l), .slice (some ⟨g, 0, none⟩) p.rs.length c, .bool q.u, .int .u64 (n64 q.k), .int .u64 (n64 q.l), .slice (some ⟨h, 0, none⟩) q.rs.length d, .bool t]) ∧ w'.ownsRow w.heap.size 92 2 (.slice (some ⟨g, 0, none⟩) p.rs.length c) p.rs.length (mrs p.rs) ∧ w'.ownsRow w.heap.size 92 2 (.slice (some ⟨h, 0, none⟩) q.rs.length d) q.rs.length (mrs q.rs) ∧ Below w.heap.size w w'
theorem rotYesI_at (e : Int) (p q m : M) (t : Bool) (g1 g2 g3 c1 c2 c3 : Nat) (w : World) (o1 : (p.at (some ⟨g1, 0, none⟩) c1).On w) (o2 : (q.at (some ⟨g2, 0, none⟩) c2).On w) (o3 : (m.at (some ⟨g3, 0, none⟩) c3).On w) (f1 : p.Fit) (f2 : q.Fit) (f3 : m.Fit) (hr : rotOk e p q m t = true) :
    Calls Try.prog 21 #[.agg #[.int .i64 e, .bool p.u, .int .u64 (n64 p.k), .int .u64 (n64 p.l), .slice (some ⟨g1, 0, none⟩) p.rs.length c1, .bool q.u, .int .u64 (n64 q.k), .int .u64 (n64 q.l), .slice (some ⟨g2, 0, none⟩) q.rs.length c2, .bool t], .agg #[.bool m.u, .int .u64 (n64 m.k), .int .u64 (n64 m.l), .slice (some ⟨g3, 0, none⟩) m.rs.length c3]] w (KeysG (e + 1) m p true w) := by
  refine (rotatedI e (p.at (some ⟨g1, 0, none⟩) c1) (q.at (some ⟨g2, 0, none⟩) c2) (m.at (some ⟨g3, 0, none⟩) c3) t w o1 o2 o3 f1 f2 f3).mono ?_
  rw [RotI.yes (show rotOk e (p.at (some ⟨g1, 0, none⟩) c1) (q.at (some ⟨g2, 0, none⟩) c2) (m.at (some ⟨g3, 0, none⟩) c3) t = true from hr)]
  rintro x w' ⟨a, c, b, d, hx, ho1, ho2, hn1, hn2, hd, hb⟩
  rcases hn1 with ⟨h1, _⟩ | ⟨g, rfl⟩
  · cases h1
  rcases hn2 with ⟨h1, _⟩ | ⟨h, rfl⟩
  · cases h1
  exact ⟨g, h, c, d, hd g h rfl rfl, hx, ho1, ho2, hb⟩

theorem rotNoI_at (e : Int) (p q m : M) (t : Bool) (g1 g2 g3 c1 c2 c3 : Nat) (w : World) (o1 : (p.at (some ⟨g1, 0, none⟩) c1).On w) (o2 : (q.at (some ⟨g2, 0, none⟩) c2).On w) (o3 : (m.at (some ⟨g3, 0, none⟩) c3).On w) (f1 : p.Fit) (f2 : q.Fit) (f3 : m.Fit) (hr : rotOk e p q m t = false) :
    Calls Try.prog 21 #[.agg #[.int .i64 e, .bool p.u, .int .u64 (n64 p.k), .int .u64 (n64 p.l), .slice (some ⟨g1, 0, none⟩) p.rs.length c1, .bool q.u, .int .u64 (n64 q.k), .int .u64 (n64 q.l), .slice (some ⟨g2, 0, none⟩) q.rs.length c2, .bool t], .agg #[.bool m.u, .int .u64 (n64 m.k), .int .u64 (n64 m.l), .slice (some ⟨g3, 0, none⟩) m.rs.length c3]] w (KeysG e p q t w) := by
  refine (rotatedI e (p.at (some ⟨g1, 0, none⟩) c1) (q.at (some ⟨g2, 0, none⟩) c2) (m.at (some ⟨g3, 0, none⟩) c3) t w o1 o2 o3 f1 f2 f3).mono ?_
  rw [RotI.no (show rotOk e (p.at (some ⟨g1, 0, none⟩) c1) (q.at (some ⟨g2, 0, none⟩) c2) (m.at (some ⟨g3, 0, none⟩) c3) t = false from hr)]
  rintro x w' ⟨a, c, b, d, hx, ho1, ho2, hn1, hn2, hd, hb⟩
  rcases hn1 with ⟨h1, _⟩ | ⟨g, rfl⟩
  · cases h1
  rcases hn2 with ⟨h1, _⟩ | ⟨h, rfl⟩
  · cases h1
  exact ⟨g, h, c, d, hd g h rfl rfl, hx, ho1, ho2, hb⟩

theorem rotYesS_at (e : Int) (p q m : M) (t : Bool) (g1 g2 g3 c1 c2 c3 : Nat) (w : World) (o1 : (p.at (some ⟨g1, 0, none⟩) c1).On w) (o2 : (q.at (some ⟨g2, 0, none⟩) c2).On w) (o3 : (m.at (some ⟨g3, 0, none⟩) c3).On w) (f1 : p.Fit) (f2 : q.Fit) (f3 : m.Fit) (hr : rotOk e p q m t = true) :
    Calls Try.prog 41 #[.agg #[.int .i64 e, .bool p.u, .int .u64 (n64 p.k), .int .u64 (n64 p.l), .slice (some ⟨g1, 0, none⟩) p.rs.length c1, .bool q.u, .int .u64 (n64 q.k), .int .u64 (n64 q.l), .slice (some ⟨g2, 0, none⟩) q.rs.length c2, .bool t], .agg #[.bool m.u, .int .u64 (n64 m.k), .int .u64 (n64 m.l), .slice (some ⟨g3, 0, none⟩) m.rs.length c3]] w (KeysG (e + 1) m p true w) := by
  refine (rotatedS e (p.at (some ⟨g1, 0, none⟩) c1) (q.at (some ⟨g2, 0, none⟩) c2) (m.at (some ⟨g3, 0, none⟩) c3) t w o1 o2 o3 f1 f2 f3).mono ?_
  rw [RotS.yes (show rotOk e (p.at (some ⟨g1, 0, none⟩) c1) (q.at (some ⟨g2, 0, none⟩) c2) (m.at (some ⟨g3, 0, none⟩) c3) t = true from hr)]
  rintro x w' ⟨g, c, h, d, hx, ho1, ho2, hne, hb⟩
  exact ⟨g, h, c, d, hne, hx, ho1, ho2, hb⟩

theorem rotNoS_at (e : Int) (p q m : M) (t : Bool) (g1 g2 g3 c1 c2 c3 : Nat) (w : World) (o1 : (p.at (some ⟨g1, 0, none⟩) c1).On w) (o2 : (q.at (some ⟨g2, 0, none⟩) c2).On w) (o3 : (m.at (some ⟨g3, 0, none⟩) c3).On w) (f1 : p.Fit) (f2 : q.Fit) (f3 : m.Fit) (hr : rotOk e p q m t = false) :
    Calls Try.prog 41 #[.agg #[.int .i64 e, .bool p.u, .int .u64 (n64 p.k), .int .u64 (n64 p.l), .slice (some ⟨g1, 0, none⟩) p.rs.length c1, .bool q.u, .int .u64 (n64 q.k), .int .u64 (n64 q.l), .slice (some ⟨g2, 0, none⟩) q.rs.length c2, .bool t], .agg #[.bool m.u, .int .u64 (n64 m.k), .int .u64 (n64 m.l), .slice (some ⟨g3, 0, none⟩) m.rs.length c3]] w (KeysG e p q t w) := by
  refine (rotatedS e (p.at (some ⟨g1, 0, none⟩) c1) (q.at (some ⟨g2, 0, none⟩) c2) (m.at (some ⟨g3, 0, none⟩) c3) t w o1 o2 o3 f1 f2 f3).mono ?_
  rw [RotS.no (show rotOk e (p.at (some ⟨g1, 0, none⟩) c1) (q.at (some ⟨g2, 0, none⟩) c2) (m.at (some ⟨g3, 0, none⟩) c3) t = false from hr)]
  rintro x w' ⟨g, c, h, d, hx, ho1, ho2, hne, hb⟩
  exact ⟨g, h, c, d, hne, hx, ho1, ho2, hb⟩

end Go.Proofs.Ytobfgkiccmhgdaa
namespace Go.Proofs.Ytobfgkiccmhgdaa
open Go.RowKit Go.Lib

/-- Both tables are marked; nothing else has turned. -/
def MarkK (p q : M) (B g h c d u : Nat) (w : World) (x : Ending) (w' : World) : Prop :=
  x = .returned (.int .i64 (u + 2 * p.rs.length + 2 * q.rs.length : Nat)) ∧ w'.ownsRow B 92 2 (.slice (some ⟨g, 0, none⟩) p.rs.length c) p.rs.length (mrs (marksM u p.rs.length)) ∧ w'.ownsRow B 92 2 (.slice (some ⟨h, 0, none⟩) q.rs.length d) q.rs.length (mrs (marksM (u + 2 * p.rs.length) q.rs.length)) ∧ ∃ w1, w.grownBy w1 (some g) ∧ w1.grownBy w' (some h)

set_option maxRecDepth 100000 in
set_option maxHeartbeats 4000000 in
theorem markKeys_any (e : Int) (p q : M) (t : Bool) (B g h c d u : Nat) (w : World) (op : w.ownsRow B 92 2 (.slice (some ⟨g, 0, none⟩) p.rs.length c) p.rs.length (mrs p.rs)) (oq : w.ownsRow B 92 2 (.slice (some ⟨h, 0, none⟩) q.rs.length d) q.rs.length (mrs q.rs)) (hne : g ≠ h) (h0 : 0 < u) (h1 : u + 2 * p.rs.length ≤ 1000000000) (h2 : p.rs.length ≤ 1048577) (h3 : q.rs.length ≤ 1048577) :
    Calls Try.prog 32 #[.agg #[.int .i64 e, .bool p.u, .int .u64 (n64 p.k), .int .u64 (n64 p.l), .slice (some ⟨g, 0, none⟩) p.rs.length c, .bool q.u, .int .u64 (n64 q.k), .int .u64 (n64 q.l), .slice (some ⟨h, 0, none⟩) q.rs.length d, .bool t], .int .i64 u] w (MarkK p q B g h c d u w) := by
  have LP := Lib.hid (op.lt g rfl).2
  have OP := Lib.hid (op.alloc (.cells #[.int .i64 e, .bool p.u, .int .u64 (n64 p.k), .int .u64 (n64 p.l), .slice (some ⟨g, 0, none⟩) p.rs.length c, .bool q.u, .int .u64 (n64 q.k), .int .u64 (n64 q.l), .slice (some ⟨h, 0, none⟩) q.rs.length d, .bool t] 29))
  have OQ := Lib.hid (oq.alloc (.cells #[.int .i64 e, .bool p.u, .int .u64 (n64 p.k), .int .u64 (n64 p.l), .slice (some ⟨g, 0, none⟩) p.rs.length c, .bool q.u, .int .u64 (n64 q.k), .int .u64 (n64 q.l), .slice (some ⟨h, 0, none⟩) q.rs.length d, .bool t] 29))
  clear op oq
  go_enter Try.func32, Try.ntmps32
  go_wp2_with fail
  refine (markMac_any p.u (n64 p.k) (n64 p.l) B g p.rs.length c u p.rs _ rfl OP.out h0 (by omega) h2).mono ?_
  rintro x v1 ⟨rfl, ho, hg⟩
  have E1 := Lib.hid ((Blk.new w [.int .i64 e, .bool p.u, .int .u64 (n64 p.k), .int .u64 (n64 p.l), .slice (some ⟨g, 0, none⟩) p.rs.length c, .bool q.u, .int .u64 (n64 q.k), .int .u64 (n64 q.l), .slice (some ⟨h, 0, none⟩) q.rs.length d, .bool t] 29).grown hg (fun e => by have := LP.out; omega))
  have OQ1 := Lib.hid (OQ.out.kept hg (.inr (own_ne (fun e => hne e.symm))))
  have OP1 := Lib.hid ho
  have G1 := Lib.hid (grown_tr (grown_new (World.grownBy.refl w (some g)) (.cells #[.int .i64 e, .bool p.u, .int .u64 (n64 p.k), .int .u64 (n64 p.l), .slice (some ⟨g, 0, none⟩) p.rs.length c, .bool q.u, .int .u64 (n64 q.k), .int .u64 (n64 q.l), .slice (some ⟨h, 0, none⟩) q.rs.length d, .bool t] 29)) hg)
  clear ho hg OP OQ
  obtain ⟨⟨c0, c1, c2, c3, c4, c5, c6, c7, c8, c9⟩, d0, d1, d2, d3, d4, d5, d6, d7, d8, d9⟩ := E1.out.of10
  go_wp2_with fail
  clear c0 c1 c2 c3 c4 c5 c6 c7 c8 c9 d0 d1 d2 d3 d4 d5 d6 d7 d8 d9
  refine (markMac_any q.u (n64 q.k) (n64 q.l) B h q.rs.length d (u + 2 * p.rs.length) q.rs _ rfl OQ1.out (by omega) h1 h3).mono ?_
  rintro x v2 ⟨rfl, ho, hg⟩
  have OP2 := Lib.hid (OP1.out.kept hg (.inr (own_ne hne)))
  have OQ2 := Lib.hid ho
  have G2 := Lib.hid hg
  clear ho hg E1 OP1 OQ1
  go_wp2_with fail
  go_ret
  exact ⟨rfl, OP2.out, OQ2.out, v1, G1.out, G2.out⟩

end Go.Proofs.Ytobfgkiccmhgdaa
namespace Go.Proofs.Ytobfgkiccmhgdaa
open Go.RowKit Go.Lib

/-- A call that answers a number and leaves what lay before it. -/
def HeldK (n : Nat) (w : World) (x : Ending) (w' : World) : Prop := x = .returned (.int .i64 (n : Nat)) ∧ Below w.heap.size w w'
set_option maxRecDepth 100000 in
set_option maxHeartbeats 4000000 in
theorem heldKeys_any (e : Int) (p q : M) (t : Bool) (a b : Option Addr) (c d u : Nat) (w : World) (hp : Row w w.heap.size a (mrs (marksM u p.rs.length))) (hq : Row w w.heap.size b (mrs (marksM (u + 2 * p.rs.length) q.rs.length))) (h0 : 0 < u) (h1 : u + 2 * p.rs.length ≤ 1000000000) (h2 : p.rs.length ≤ 1048577) (h3 : q.rs.length ≤ 1048577) :
    Calls Try.prog 42 #[.agg #[.int .i64 e, .bool p.u, .int .u64 (n64 p.k), .int .u64 (n64 p.l), .slice a p.rs.length c, .bool q.u, .int .u64 (n64 q.k), .int .u64 (n64 q.l), .slice b q.rs.length d, .bool t], .int .i64 u] w (HeldK (u + 2 * p.rs.length + 2 * q.rs.length) w) := by
  have HP := Lib.hid hp
  have HQ := Lib.hid hq
  clear hp hq
  go_enter Try.func42, Try.ntmps42
  have B0 := Lib.hid (show Below w.heap.size w (w.alloc (.cells #[.int .i64 e, .bool p.u, .int .u64 (n64 p.k), .int .u64 (n64 p.l), .slice a p.rs.length c, .bool q.u, .int .u64 (n64 q.k), .int .u64 (n64 q.l), .slice b q.rs.length d, .bool t] 29)) from ((Below.refl _ w).alloc (by simp) _))
  have KA0 := Lib.hid (show Blk (w.alloc (.cells #[.int .i64 e, .bool p.u, .int .u64 (n64 p.k), .int .u64 (n64 p.l), .slice a p.rs.length c, .bool q.u, .int .u64 (n64 q.k), .int .u64 (n64 q.l), .slice b q.rs.length d, .bool t] 29)) (w.heap.size) [.int .i64 e, .bool p.u, .int .u64 (n64 p.k), .int .u64 (n64 p.l), .slice a p.rs.length c, .bool q.u, .int .u64 (n64 q.k), .int .u64 (n64 q.l), .slice b q.rs.length d, .bool t] from Blk.new w [.int .i64 e, .bool p.u, .int .u64 (n64 p.k), .int .u64 (n64 p.l), .slice a p.rs.length c, .bool q.u, .int .u64 (n64 q.k), .int .u64 (n64 q.l), .slice b q.rs.length d, .bool t] 29)
  go_wp2_with fail
  change Calls _ _ _ (w.alloc (.cells #[.int .i64 e, .bool p.u, .int .u64 (n64 p.k), .int .u64 (n64 p.l), .slice a p.rs.length c, .bool q.u, .int .u64 (n64 q.k), .int .u64 (n64 q.l), .slice b q.rs.length d, .bool t] 29)) _
  generalize w.alloc (.cells #[.int .i64 e, .bool p.u, .int .u64 (n64 p.k), .int .u64 (n64 p.l), .slice a p.rs.length c, .bool q.u, .int .u64 (n64 q.k), .int .u64 (n64 q.l), .slice b q.rs.length d, .bool t] 29) = v0 at B0 KA0 ⊢
  generalize w.heap.size = g_A at KA0 ⊢
  refine (heldMac_any p.u (n64 p.k) (n64 p.l) a p.rs.length c u _ ((HP.out.below B0.out).mono B0.out.size) h0 (by omega) h2).mono ?_
  rintro e v1 ⟨rfl, hb⟩
  have B1 := Lib.hid (B0.out.trans (hb.mono B0.out.size))
  have KA1 := Lib.hid (KA0.out.below hb)
  clear hb B0 KA0
  have k1 : (0 : Int) ≤ ((u + 2 * p.rs.length : Nat) : Int) := Int.natCast_nonneg _
  obtain ⟨⟨cA0, cA1, cA2, cA3, cA4, cA5, cA6, cA7, cA8, cA9⟩, dA0, dA1, dA2, dA3, dA4, dA5, dA6, dA7, dA8, dA9⟩ := KA1.out.of10
  go_wp2_with fail
  clear cA0 cA1 cA2 cA3 cA4 cA5 cA6 cA7 cA8 cA9 dA0 dA1 dA2 dA3 dA4 dA5 dA6 dA7 dA8 dA9
  refine (heldMac_any q.u (n64 q.k) (n64 q.l) b q.rs.length d (u + 2 * p.rs.length) _ ((HQ.out.below B1.out).mono B1.out.size) (by omega) h1 h3).mono ?_
  rintro e v2 ⟨rfl, hb⟩
  have B2 := Lib.hid (B1.out.trans (hb.mono B1.out.size))
  have KA2 := Lib.hid (KA1.out.below hb)
  clear hb B1 KA1
  have k2 : (0 : Int) ≤ ((u + 2 * p.rs.length + 2 * q.rs.length : Nat) : Int) := Int.natCast_nonneg _
  obtain ⟨⟨cA0, cA1, cA2, cA3, cA4, cA5, cA6, cA7, cA8, cA9⟩, dA0, dA1, dA2, dA3, dA4, dA5, dA6, dA7, dA8, dA9⟩ := KA2.out.of10
  go_wp2_with fail
  go_ret
  exact ⟨rfl, B2.out⟩

end Go.Proofs.Ytobfgkiccmhgdaa
namespace Go.Proofs.Ytobfgkiccmhgdaa
open Go.RowKit Go.Lib

/-- The law's word: true, and what lay before the call lies as it lay. -/
def OkR (w : World) (e : Ending) (w' : World) : Prop := e = .returned (.bool true) ∧ Below w.heap.size w w'
theorem grown_setR {w v : World} {b : Nat} (h : w.grownBy v (some b)) (k : Nat) (u : Value) : w.grownBy (v.setCell ⟨b, k, none⟩ u) (some b) :=
  grown_tr h ⟨rfl, rfl, rfl, by simp, fun j _ hj => Below.heap_setCell v ⟨b, k, none⟩ u j (fun e => hj (by rw [e]))⟩
end Go.Proofs.Ytobfgkiccmhgdaa
