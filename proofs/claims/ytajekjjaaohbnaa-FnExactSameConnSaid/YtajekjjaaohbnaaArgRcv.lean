/- An argument of type laws.Receiver, opened. Nothing here is a claim. -/
import Derived.Test.YtajekjjaaohbnaaBase
import Derived.Test.YtajekjjaaohbnaaOpenM
import Derived.Test.YtajekjjaaohbnaaNest
import Derived.Test.YtajekjjaaohbnaaRcvKit
namespace Go.Proofs.Ytajekjjaaohbnaa
open Go.Joins Go.ChangeShapes Go.WideShapes Go.RowKit Go.Deep Go.Lib

def goodP (r : HP) : Prop := (Lit.int .i64 r.o).wf = true ∧ r.t.size ≤ maxLen
abbrev IsP := IsRow HP.cs goodP
set_option maxRecDepth 100000 in
theorem openPs {H : Type} {enc : TypeId × Value → H} {w : World} {fuel : Nat} {a : Option Addr} {len cap : Nat} {x : DataW H × List MemPlace}
    (h : DataW.trod enc Try.prog w 0 (fun _ => true) true fuel 54 (Value.slice a len cap).cells.toList = some x) : ∃ rs, IsP w a len cap rs := by
  refine openRow HP.two (by decide) Try.underlying54 (by kernel_rfl) (fun n cs y hy => ?_) h
  obtain ⟨n', hl, hf⟩ := trod_nest Try.underlying114 hy
  replace hl : cs.length = 2 := hl
  match cs, hl with
  | [c0, c1], _ =>
    obtain ⟨_, t0⟩ := hf 0 _ rfl
    obtain ⟨_, t1⟩ := hf 1 _ rfl
    obtain ⟨x0, e0, _, w0⟩ := DataW.trod_int Try.underlying3 t0
    obtain ⟨x1, e1, _, w1⟩ := DataW.trod_string Try.underlying9 t1
    obtain rfl : c0 = .int .i64 x0 := (List.cons.inj e0).1
    obtain rfl : c1 = .string x1 := (List.cons.inj e1).1
    exact ⟨⟨x0, x1⟩, rfl, w0, w1⟩
/-- What is known of a receiver that came in. -/
def LawR (W : World) (n : Int) (d : ByteArray) (a : Option Addr) (len cap : Nat) (rs : List HP) (f : Int) (z : Bool) : Prop := ((Lit.int .i64 n).wf = true ∧ d.size ≤ maxLen ∧ (Lit.int .i64 f).wf = true ∧ z = z) ∧ IsP W a len cap rs
set_option maxRecDepth 100000 in
theorem argRcv {H : Type} {enc : TypeId × Value → H} {W : World} {r : Reach} {b0 : Nat} {v : Value} {dd : DataW H} {p : List MemPlace}
    (hv : Value.okWide Try.prog W r b0 56 v) (h : DataW.Trod enc Try.prog W 0 (fun _ => true) true 56 v dd p) :
    ∃ n d a len cap rs f z, v = .agg #[.int .i64 n, .string d, .slice a len cap, .int .i64 f, .bool z] ∧ LawR W n d a len cap rs f z := by
  obtain ⟨cs, n, rfl, hl, hf⟩ := open_flat Try.underlying56 (by kernel_rfl) (by kernel_rfl) hv h
  match cs, hl with
  | [c0, c1, c2, c3, c4], _ =>
    obtain ⟨_, t0⟩ := hf 0 _ rfl
    obtain ⟨_, t1⟩ := hf 1 _ rfl
    obtain ⟨_, t2⟩ := hf 2 _ rfl
    obtain ⟨_, t3⟩ := hf 3 _ rfl
    obtain ⟨_, t4⟩ := hf 4 _ rfl
    obtain ⟨n, e0, _, w0⟩ := DataW.trod_int Try.underlying3 t0
    obtain rfl : c0 = .int .i64 n := (List.cons.inj e0).1
    obtain ⟨d, e1, _, w1⟩ := DataW.trod_string Try.underlying9 t1
    obtain rfl : c1 = .string d := (List.cons.inj e1).1
    obtain ⟨f, e3, _, w3⟩ := DataW.trod_int Try.underlying3 t3
    obtain rfl : c3 = .int .i64 f := (List.cons.inj e3).1
    obtain ⟨z, e4, _⟩ := DataW.trod_bool Try.underlying4 t4
    obtain rfl : c4 = .bool z := (List.cons.inj e4).1
    obtain ⟨a, len, cap, rfl⟩ : ∃ a len cap, c2 = .slice a len cap := by
      rcases open_slice Try.underlying54 t2 with ⟨hcs, _⟩ | ⟨ad, l', c, _, _, _, _, hcs, _⟩
      · exact ⟨_, _, _, (List.cons.inj hcs).1⟩
      · exact ⟨_, _, _, (List.cons.inj hcs).1⟩
    obtain ⟨rs, hrs⟩ := openPs t2
    exact ⟨n, d, a, len, cap, rs, f, z, rfl, ⟨w0, w1, w3, rfl⟩, hrs⟩
end Go.Proofs.Ytajekjjaaohbnaa
