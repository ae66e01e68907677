/- A region that draws its order in the round of a range over a function, walked as one outside. Plain facts; no program. -/
import Derived.RangeFuncNested
import Derived.RangeFuncBound
import Derived.RangeFuncCalls
import Derived.RangeFuncLeaves
import Derived.WalkKit
import Derived.OwnWalkIn
import Derived.TacticsInMore
import Derived.OrdersHeld
import Derived.Test.YtgbnoemoangofaaMA
namespace Go.Proofs.Ytgbnoemoangofaa
open Go.ChangeShapes Go.WideShapes Go.ChangeAt Go.RowKit
set_option linter.unusedVariables false
set_option linter.unusedSimpArgs false

section
variable {P : Program} {ops : Array Oper} {Q : Exit → Act → World → Prop} {md : Region.Mode} {l n : Nat}
theorem rows_round {row : String} {args : Array Value} {w : World} {R : Value → World → Prop} (h : Rows P row args w R) : RowsIn (Fence.wide.inRound l) n P row args w R :=
  fun c cs _ => let ⟨v, w', r, s⟩ := h c cs; ⟨v, w', r, stepsIn_wide.2 s⟩
theorem any_round (hd : ∀ (i : Nat) (o : Oper), ops[i]? = some o → ∀ c, o.op ≠ .defer c) (hl : ¬ LetsOut Q) : ∀ (fuel : Nat) (listed : Array Bool) (a : Act) (w : World),
    wpAny P md ops Q fuel listed a w → wpAnyIn (Fence.wide.inRound l) n P md ops Q fuel listed a w
  | 0, _, _, _, h => h
  | fuel + 1, listed, a, w, h => ⟨h.1, fun i hi => by
    have h1 := h.2 i hi
    unfold wpOp at h1
    unfold wpOpIn
    cases hoi : ops[i]? with
    | none =>
      simp only [hoi] at h1 ⊢
      exact any_round hd hl fuel _ _ _ h1
    | some o =>
      simp only [hoi] at h1 ⊢
      split
      · rename_i hw
        simp only [hw, if_true] at h1
        rcases h1 with h1 | ⟨_, h1⟩
        · refine ⟨fun _ _ => trivial, ?_⟩
          rw [show (Fence.wide.inRound l).round = some l from rfl, Oper.semAt_some l _ o (hd i o hoi)]
          unfold Oper.wp at h1
          generalize (execOp a.eval o).run P w = r at h1 ⊢
          cases r with
          | ok x w' =>
            cases x
            case value v => exact any_round hd hl fuel _ _ _ h1
            case skip => exact any_round hd hl fuel _ _ _ h1
            case defer d => exact any_round hd hl fuel _ _ _ h1
            case enter f args =>
              refine ⟨fun h => (by cases h), CallsIn.inRound l (callsIn_wide.2 (Calls.mono h1 fun e w'' he => ?_))⟩
              cases e with
              | returned u => exact any_round hd hl fuel _ _ _ he
              | panicked c => exact he
              | outgrown => exact he
            case row row args => exact ⟨fun h => (by cases h), rows_round (Rows.mono h1 fun u w'' he => any_round hd hl fuel _ _ _ he)⟩
            all_goals exact h1.elim
          | halt x w' => cases x <;> first | exact h1 | exact h1.elim
        · exact absurd h1 hl
      · rename_i hw
        simp only [hw] at h1
        exact ⟨fun _ _ => trivial, any_round hd hl fuel _ _ _ h1⟩⟩

theorem takeR {S : World → Prop} (i : Nat) (d : Tmp) {oi : Oper} {v : Value} {fuel : Nat} {listed : Array Bool} {a : Act} {w : World} (hi : ops[i]? = some oi) (hd : oi.dst = some d)
    (hs : Region.noSelect ops = true) (hf : Region.free md ops listed i = true) (hr : (Region.ready md ops listed).contains i = true)
    (hQ : ∀ c a w, Q (.panic c) (a.put (some d) v) w → Q (.panic c) a w) (hy : YieldsIf P ops S oi v a) (hS : S w)
    (h : wpAnyH P md ops Q S fuel (listed.setIfInBounds i true) (a.put (some d) v) w) : wpAnyH P md ops Q S (fuel + 1) listed a w :=
  wpAnyH_take hi hs hf hr (by rw [hd]; exact hQ) hy hS (by rw [hd]; exact h)
def noDefer (ops : Array Oper) : Bool := ops.toList.all fun o => match o.op with
  | .defer _ => false
  | _ => true
theorem noDefer_at (h : noDefer ops = true) : ∀ (i : Nat) (o : Oper), ops[i]? = some o → ∀ c, o.op ≠ .defer c := by
  intro i o hi c hc
  have h1 : o ∈ ops.toList := by
    rw [← Array.getElem?_toList] at hi
    exact List.mem_of_getElem? hi
  have h2 := List.all_eq_true.1 h o h1
  rw [hc] at h2
  cases h2
def RoundQ (K : World → Prop) : Exit → Act → World → Prop
  | .normal, _, w => K w
  | _, _, _ => False
theorem region_round {id : Nat} {a : Act} {w : World} {K : World → Prop} (hm : P.follows .mixedOrders = true) (hd : ∀ (i : Nat) (o : Oper), ops[i]? = some o → ∀ c, o.op ≠ .defer c)
    (S : World → Prop) (hS : S w.drew) (h : S w.drew → wpAnyH P .any ops (RoundQ K) S ops.size (Array.replicate ops.size false) a w.drew) (hq : ∀ a w, K w → Q .normal a w) :
    (Code.region id ops true).wpIn (Fence.wide.inRound l) n P Q a w := by
  refine wpIn_mono (Q := RoundQ K) ?_ (fun e a w h => ?_)
  · refine wpIn_region_any hm (any_round hd (fun ⟨_, _, h⟩ => h) _ _ _ _ ?_)
    exact wpAny_of_held _ _ _ _ (h hS)
  · cases e <;> first | exact hq _ _ h | exact h.elim
end
end Go.Proofs.Ytgbnoemoangofaa
