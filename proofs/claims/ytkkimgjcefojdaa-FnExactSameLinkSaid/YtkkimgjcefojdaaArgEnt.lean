/- Arguments of the laws: a slice of laws.Entry. Nothing here is a claim. -/
import Derived.Test.YtkkimgjcefojdaaBase
import Derived.Test.YtkkimgjcefojdaaOpenM
import Derived.Test.YtkkimgjcefojdaaFlat
import Derived.Test.YtkkimgjcefojdaaEntKit
namespace Go.Proofs.Ytkkimgjcefojdaa
open Go.Joins Go.ChangeShapes Go.WideShapes Go.RowKit Go.Deep Go.Lib

abbrev IsE := IsRow ER.cs goodE
set_option maxRecDepth 100000 in
theorem openEs {H : Type} {enc : TypeId × Value → H} {w : World} {fuel : Nat} {a : Option Addr} {len cap : Nat} {x : DataW H × List MemPlace}
    (h : DataW.trod enc Try.prog w 0 (fun _ => true) true fuel 22 (Value.slice a len cap).cells.toList = some x) : ∃ rs, IsE w a len cap rs := by
  refine openRow ER.three (by decide) Try.underlying22 (by kernel_rfl) (fun n cs y hy => ?_) h
  obtain ⟨n', hl, hf⟩ := trod_nest Try.underlying56 hy
  replace hl : cs.length = 3 := hl
  match cs, hl with
  | [c0, c1, c2], _ =>
    obtain ⟨_, t0⟩ := hf 0 _ rfl
    obtain ⟨_, t1⟩ := hf 1 _ rfl
    obtain ⟨_, t2⟩ := hf 2 _ rfl
    obtain ⟨x0, e0, _, w0⟩ := DataW.trod_int Try.underlying3 t0
    obtain ⟨x1, e1, _, w1⟩ := DataW.trod_int Try.underlying3 t1
    obtain ⟨x2, e2, _, w2⟩ := DataW.trod_int Try.underlying3 t2
    obtain rfl : c0 = .int .i64 x0 := (List.cons.inj e0).1
    obtain rfl : c1 = .int .i64 x1 := (List.cons.inj e1).1
    obtain rfl : c2 = .int .i64 x2 := (List.cons.inj e2).1
    exact ⟨⟨x0, x1, x2⟩, rfl, w0, w1, w2⟩
set_option maxRecDepth 100000 in
theorem argEntryS {H : Type} {enc : TypeId × Value → H} {W : World} {r : Reach} {b0 : Nat} {v : Value} {d : DataW H} {p : List MemPlace}
    (hv : Value.okWide Try.prog W r b0 22 v) (h : DataW.Trod enc Try.prog W 0 (fun _ => true) true 22 v d p) : ∃ a len cap rs, v = .slice a len cap ∧ IsE W a len cap rs := by
  obtain ⟨a, len, cap, rfl⟩ := okWide_slice Try.underlying22 hv
  obtain ⟨fuel, hf⟩ := h
  obtain ⟨rs, hrs⟩ := openEs hf
  exact ⟨a, len, cap, rs, rfl, hrs⟩
end Go.Proofs.Ytkkimgjcefojdaa
