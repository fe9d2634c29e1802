/- A region that draws its order, within a round of a range over a function, at the widest fence: walked as outside. Nothing here is a claim. -/
import Derived.Test.YtpbnkkgfjmkcdaaHeldTill
import Derived.CallsIn
import Derived.OrdersIn
import Derived.RangeFuncCalls
import Derived.OwnWalkIn
namespace Go.Proofs.Ytpbnkkgfjmkcdaa
open Go

section
variable {P : Program} {ops : Array Oper} {Q : Exit → Act → World → Prop} {md : Region.Mode} {n l : Nat}

/-- Neither a panic nor an outgrown machine. -/
def NoOut (Q : Exit → Act → World → Prop) : Exit → Act → World → Prop
  | .panic _, _, _ => False
  | .outgrown, _, _ => False
  | e, a, w => Q e a w
theorem NoOut.imp : ∀ (e : Exit) (a : Act) (w : World), NoOut Q e a w → Q e a w := fun e a w h => by
  cases e <;> first | exact h | exact (h : False).elim
theorem NoOut.lets : ¬ LetsOut (NoOut Q) := fun ⟨_, _, h⟩ => h
theorem NoOut.normal {a : Act} {w : World} (h : Q .normal a w) : NoOut Q .normal a w := h
/-- The widest fence, or a round within it. -/
def WideF (F : Fence) : Prop := F = Fence.wide ∨ ∃ l, F = Fence.wide.inRound l
theorem wideF_w : WideF Fence.wide := .inl rfl
theorem wideF_r (l : Nat) : WideF (Fence.wide.inRound l) := .inr ⟨l, rfl⟩
theorem upon_wide {o : Oper} {a : Act} {K : Act → World → Prop} : ∀ {r : Result Next}, o.upon P a K Q r → o.uponIn Fence.wide n P a K Q r
  | .ok (.value _) _, h => h
  | .ok .skip _, h => h
  | .ok (.defer _) _, h => h
  | .ok (.enter f args) w', h => ⟨(fun hd => by cases hd), (callsIn_wide.2 h).mono fun e w'' he => by cases e <;> exact he⟩
  | .ok (.row row args) w', h => ⟨(fun hd => by cases hd), fun c cs _ => let ⟨v, w'', r, s⟩ := h c cs; ⟨v, w'', r, stepsIn_wide.2 s⟩⟩
  | .halt (.panic _) _, h => h
theorem upon_round {o : Oper} {a : Act} {K : Act → World → Prop} : ∀ {r : Result Next}, o.upon P a K Q r → o.uponIn (Fence.wide.inRound l) n P a K Q r
  | .ok (.value _) _, h => h
  | .ok .skip _, h => h
  | .ok (.defer _) _, h => h
  | .ok (.enter f args) w', h => ⟨(fun hd => by cases hd), CallsIn.inRound l ((callsIn_wide.2 h).mono fun e w'' he => by cases e <;> exact he)⟩
  | .ok (.row row args) w', h => ⟨(fun hd => by cases hd), fun c cs _ => let ⟨v, w'', r, s⟩ := h c cs; ⟨v, w'', r, stepsIn_wide.2 s⟩⟩
  | .halt (.panic _) _, h => h
/-- No defer statement among the operations. -/
def noDefer (ops : Array Oper) : Bool := ops.all fun o => match o.op with
  | .defer _ => false
  | _ => true
theorem noDefer_spec (h : noDefer ops = true) {i : Nat} {o : Oper} (ho : ops[i]? = some o) : ∀ c, o.op ≠ .defer c := by
  intro c hc
  obtain ⟨hlt, rfl⟩ := Array.getElem?_eq_some_iff.1 ho
  have := (Array.all_eq_true.1 h) i hlt
  rw [hc] at this
  cases this
theorem opIn_wide {F : Fence} (hF : WideF F) (hnd : noDefer ops = true) (hQ : ¬ LetsOut Q) {i : Nat} {K K' : Act → World → Prop} {a : Act} {w : World} (hK : ∀ a w, K a w → K' a w) (h : wpOp P ops Q i K a w) : wpOpIn F n P ops Q i K' a w := by
  refine wpOpIn_mono hK ?_
  unfold wpOp at h
  unfold wpOpIn
  cases ho : ops[i]? with
  | none => rw [ho] at h; exact h
  | some o =>
    rw [ho] at h
    simp only at h ⊢
    split at h
    · next hw =>
      rw [if_pos hw]
      rcases h with h | ⟨_, h⟩
      · refine ⟨fun _ _ => by rcases hF with rfl | ⟨l, rfl⟩ <;> trivial, ?_⟩
        rw [Oper.semAt_plain _ _ _ (noDefer_spec hnd ho)]
        rcases hF with rfl | ⟨l, rfl⟩
        · exact upon_wide h
        · exact upon_round h
      · exact absurd h hQ
    · next hw =>
      rw [if_neg hw]
      exact ⟨fun _ _ => by rcases hF with rfl | ⟨l, rfl⟩ <;> trivial, h⟩
theorem anyIn_wide {F : Fence} (hF : WideF F) (hnd : noDefer ops = true) (hQ : ¬ LetsOut Q) : ∀ (fuel : Nat) (ls : Array Bool) (a : Act) (w : World), wpAny P md ops Q fuel ls a w → wpAnyIn F n P md ops Q fuel ls a w := by
  intro fuel
  induction fuel with
  | zero => exact fun _ _ _ h => h
  | succ fuel ih => exact fun ls a w h => ⟨h.1, fun i hi => opIn_wide hF hnd hQ (fun b u hb => ih _ b u hb) (h.2 i hi)⟩
theorem wpIn_region_till {S : World → Prop} {id : Nat} {a : Act} {w : World} (L : Nat) (hm : P.follows .mixedOrders = true) (hnd : noDefer ops = true) (hS : S w.drew)
    (h : Till S L (Array.replicate ops.size false) w.drew → wpTill P .any ops (NoOut Q) S L ops.size (Array.replicate ops.size false) a w.drew) : (Code.region id ops true).wpIn (Fence.wide.inRound l) n P Q a w :=
  Code.wpIn_mono NoOut.imp (wpIn_region_any hm (anyIn_wide (wideF_r l) hnd NoOut.lets _ _ _ _ (wpAny_of_till _ _ _ _ (h fun _ => hS))))
theorem wpIn_region_tillW {S : World → Prop} {id : Nat} {a : Act} {w : World} (L : Nat) (hm : P.follows .mixedOrders = true) (hnd : noDefer ops = true) (hS : S w.drew)
    (h : Till S L (Array.replicate ops.size false) w.drew → wpTill P .any ops (NoOut Q) S L ops.size (Array.replicate ops.size false) a w.drew) : (Code.region id ops true).wpIn Fence.wide n P Q a w :=
  Code.wpIn_mono NoOut.imp (wpIn_region_any hm (anyIn_wide wideF_w hnd NoOut.lets _ _ _ _ (wpAny_of_till _ _ _ _ (h fun _ => hS))))
end
end Go.Proofs.Ytpbnkkgfjmkcdaa
