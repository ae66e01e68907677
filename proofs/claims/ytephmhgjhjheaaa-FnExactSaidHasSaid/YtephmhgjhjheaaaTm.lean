/- Whether a game is ok: the program's GameOk. -/
import Derived.Test.YtephmhgjhjheaaaTl
namespace Go.Proofs.Ytephmhgjhjheaaa
open Go.ChangeShapes Go.WideShapes Go.ChangeAt Go.RowKit
set_option linter.unusedVariables false

def gokB (E : List Fig) (F L : List Int) : Bool :=
  decide (F.length = 16) && (decide (L.length = 4) && (entsB 0 E && (allB F 20 && (allB L 30 && decide (F.sum + goldE E = 20)))))

theorem entsB_gold : ∀ (E : List Fig) (p : Int), entsB p E = true → ∀ (i : Nat) (h : i < E.length), 0 ≤ (E[i]'h).g ∧ (E[i]'h).g ≤ 20 := by
  intro E
  induction E with
  | nil => intro p _ i h; simp at h
  | cons e t ih =>
    intro p hp i h
    simp only [entsB, entB, inB, Bool.and_eq_true, decide_eq_true_eq] at hp
    rcases i with _ | i
    · simp only [List.getElem_cons_zero]; omega
    · simp only [List.getElem_cons_succ]; exact ih e.c hp.2.2 i (by simpa using h)

theorem allB_at {l : List Int} {hi : Int} (h : allB l hi = true) (i : Nat) (hl : i < l.length) : 0 ≤ l[i]'hl ∧ l[i]'hl ≤ hi := by
  unfold allB at h
  rw [List.all_eq_true] at h
  have := h _ (List.getElem_mem hl)
  simpa [inB] using this

theorem boxed1b {w w1 : World} {o : Obj} (hb : Below (w.alloc o).heap.size (w.alloc o) w1) : w1.heap[w.heap.size]? = (w.alloc o).heap[w.heap.size]? := hb.block w.heap.size (by simp)

set_option maxRecDepth 100000 in
theorem gameOk (A : Option Addr) (a : Nat) (B : Option Addr) (b : Nat) (C : Option Addr) (c : Nat) (E : List Fig) (F L : List Int) (w : World) (hE : E.length ≤ 1048576) (hF : F.length ≤ 1048576) (hL : L.length ≤ 1048576)
    (rE : RdF w A E) (rF : RdI w B F) (rL : RdI w C L) :
    Calls Try.prog 27 #[gameV A E.length a B F.length b C L.length c] w fun e w' => e = .returned (.bool (gokB E F L)) ∧ Below w.heap.size w w' := by
  have z0 : Below w.heap.size w (w.alloc (.cells #[.slice A E.length a, .slice B F.length b, .slice C L.length c] 32)) := (Below.refl _ _).alloc (Nat.le_refl _) _
  have HE := Lib.hid (RdF.below rE z0)
  have HF := Lib.hid (RdI.below rF z0)
  have HL := Lib.hid (RdI.below rL z0)
  have K0 := Lib.hid (Three.new (u0 := .slice A E.length a) (u1 := .slice B F.length b) (u2 := .slice C L.length c) (t := 32) w)
  have Z0 := Lib.hid z0
  clear rE rF rL z0
  by_cases h1 : ¬ F.length = 16
  · have b1 : ((F.length : Int) != 16) = true := by simp; omega
    have H1 := Lib.hid h1
    clear h1
    go_enter Try.func27, Try.ntmps27
    go_wp2_with (fail)
    go_light
    go_ret
    exact ⟨ret_bool (by rw [gokB, decide_eq_false H1.out]; rfl), Z0.out⟩
  have b1 : ((F.length : Int) != 16) = false := by simp; omega
  have H1 := Lib.hid (show F.length = 16 by omega)
  clear h1
  by_cases h2 : ¬ L.length = 4
  · have b2 : ((L.length : Int) != 4) = true := by simp; omega
    have H2 := Lib.hid h2
    clear h2
    go_enter Try.func27, Try.ntmps27
    go_wp2_with (fail)
    go_light
    go_ret
    exact ⟨ret_bool (by rw [gokB, decide_eq_false H2.out]; simp), Z0.out⟩
  have b2 : ((L.length : Int) != 4) = false := by simp; omega
  have H2 := Lib.hid (show L.length = 4 by omega)
  clear h2
  rcases h3 : entsB 0 E with _ | _
  · go_enter Try.func27, Try.ntmps27
    go_wp2_with (go_at_call 93; refine (entsOk A a E _ (by unfold maxLen; omega) HE.out).mono ?_; rintro e w1 ⟨rfl, hb1⟩; rw [h3])
    go_light
    go_ret
    exact ⟨ret_bool (by rw [gokB, h3]; simp), Below.and Z0.out hb1⟩
  have GE := Lib.hid (entsB_gold E 0 h3)
  go_enter Try.func27, Try.ntmps27
  go_wp2_with (fail)
  refine (entsOk A a E _ (by unfold maxLen; omega) HE.out).mono ?_
  rintro e w1 ⟨rfl, hb1⟩
  rw [h3]
  obtain ⟨q0, q1, q2⟩ := (Three.below K0.out hb1 (by simp)).cells
  have HB1 := Lib.hid hb1
  clear hb1
  rcases h4 : allB F 20 with _ | _
  · go_wp2_with (go_at_call 94; refine (allWithin B b F 20 _ (by unfold maxLen; omega) (RdI.below HF.out HB1.out)).mono ?_; rintro e w2 ⟨rfl, rfl⟩; rw [h4])
    go_light
    go_ret
    exact ⟨ret_bool (by rw [gokB, h4]; simp), Below.and Z0.out HB1.out⟩
  have GF := Lib.hid (fun i hi => allB_at h4 i hi)
  go_wp2_with (fail)
  refine (allWithin B b F 20 _ (by unfold maxLen; omega) (RdI.below HF.out HB1.out)).mono ?_
  rintro e w2 ⟨rfl, rfl⟩
  rw [h4]
  rcases h5 : allB L 30 with _ | _
  · go_wp2_with (go_at_call 94; refine (allWithin C c L 30 _ (by unfold maxLen; omega) (RdI.below HL.out HB1.out)).mono ?_; rintro e w2 ⟨rfl, rfl⟩; rw [h5])
    go_light
    go_ret
    exact ⟨ret_bool (by rw [gokB, h5]; simp), Below.and Z0.out HB1.out⟩
  go_wp2_with (fail)
  refine (allWithin C c L 30 _ (by unfold maxLen; omega) (RdI.below HL.out HB1.out)).mono ?_
  rintro e w2 ⟨rfl, rfl⟩
  rw [h5]
  go_wp2_with (fail)
  refine (goldOf A a B b C L.length c E F _ hE hF GE.out GF.out (RdF.below HE.out HB1.out) (RdI.below HF.out HB1.out)).mono ?_
  rintro e w3 ⟨rfl, hb3⟩
  have HV := Lib.hid (show gokB E F L = decide (F.sum + goldE E = 20) by rw [gokB, h3, h4, h5, decide_eq_true H1.out, decide_eq_true H2.out]; simp)
  clear h3 h4 h5
  generalize F.sum + goldE E = v at HV
  go_wp2
  go_light
  go_ret
  exact ⟨ret_bool (by rw [HV.out]; rfl), Below.and (Below.and Z0.out HB1.out) hb3⟩
end Go.Proofs.Ytephmhgjhjheaaa
