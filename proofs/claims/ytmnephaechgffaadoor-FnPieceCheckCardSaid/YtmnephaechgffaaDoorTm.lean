/- Whether a game is ok: the program's GameOk. -/
import Derived.Test.YtmnephaechgffaaDoorTl
import Derived.IntWalk
import Derived.Deep.RegionHeld3
import Derived.Test.YtmnephaechgffaaDoorMem3
namespace Go.Proofs.YtmnephaechgffaaDoor
open Go.ChangeShapes Go.WideShapes Go.ChangeAt Go.RowKit
set_option linter.unusedVariables false

def gokB (E : List Fig) (F L : List Int) : Bool :=
  decide (F.length = 16) && (decide (L.length = 4) && (entsB 0 E && (allB F 20 && (allB L 30 && decide (F.sum + goldE E = 20)))))

theorem takeD {P : Program} {ops : Array Oper} {Q : Exit → Act → World → Prop} {md : Region.Mode} {S : World → Prop} (i : Nat) (d : Tmp) {oi : Oper} {v : Value} {fuel : Nat} {listed : Array Bool} {a : Act} {w : World} (hi : ops[i]? = some oi) (hd : oi.dst = some d)
    (hs : Region.noSelect ops = true) (hf : Region.free md ops listed i = true) (hr : (Region.ready md ops listed).contains i = true)
    (hQ : ∀ c a w, Q (.panic c) (a.put (some d) v) w → Q (.panic c) a w) (hy : YieldsIf P ops S oi v a) (hS : S w)
    (h : wpAnyH P md ops Q S fuel (listed.setIfInBounds i true) (a.put (some d) v) w) : wpAnyH P md ops Q S (fuel + 1) listed a w :=
  wpAnyH_take hi hs hf hr (by rw [hd]; exact hQ) hy hS (by rw [hd]; exact h)

theorem entsB_gold : ∀ (E : List Fig) (p : Int), entsB p E = true → ∀ (i : Nat) (h : i < E.length), 0 ≤ (E[i]'h).g ∧ (E[i]'h).g ≤ 20 := by
  intro E
  induction E with
  | nil => intro p _ i h; simp at h
  | cons e t ih =>
    intro p hp i h
    simp only [entsB, entB, inB, Bool.and_eq_true, decide_eq_true_eq] at hp
    rcases i with _ | i
    · simp only [List.getElem_cons_zero]; omega
    · simp only [List.getElem_cons_succ]; exact ih e.c hp.2.2 i (by simpa using h)

theorem allB_at {l : List Int} {hi : Int} (h : allB l hi = true) (i : Nat) (hl : i < l.length) : 0 ≤ l[i]'hl ∧ l[i]'hl ≤ hi := by
  unfold allB at h
  rw [List.all_eq_true] at h
  have := h _ (List.getElem_mem hl)
  simpa [inB] using this

theorem boxed1b {w w1 : World} {o : Obj} (hb : Below (w.alloc o).heap.size (w.alloc o) w1) : w1.heap[w.heap.size]? = (w.alloc o).heap[w.heap.size]? := hb.block w.heap.size (by simp)

/-- Numbers that read so, wherever their row begins. -/
def RdJ (w : World) (A : Option Addr) (l : List Int) : Prop := ∀ i (h : i < l.length), ∃ g o : Nat, A = some ⟨g, o, none⟩ ∧ w.cell? ⟨g, o + i, none⟩ = some (.int .i64 (l[i]'h))
theorem RdI.j {w : World} {A : Option Addr} {l : List Int} (h : RdI w A l) : RdJ w A l := by
  intro i hi
  obtain ⟨g, hA, hc⟩ := h i hi
  exact ⟨g, 0, hA, by simpa using hc⟩
theorem RdJ.below {w w' : World} {A : Option Addr} {l : List Int} (h : RdJ w A l) (hb : Below w.heap.size w w') : RdJ w' A l := by
  intro i hi
  obtain ⟨g, o, rfl, h0⟩ := h i hi
  exact ⟨g, o, rfl, cell_kept hb h0⟩

end Go.Proofs.YtmnephaechgffaaDoor
