import Derived.Test.YtameldhdegcpoaaGv
namespace Go.Proofs.Ytameldhdegcpoaa
open Go.ChangeShapes Go.WideShapes Go.ChangeAt Go.RowKit
set_option linter.unusedVariables false
set_option linter.unusedSimpArgs false
set_option maxRecDepth 100000 in
set_option maxHeartbeats 2000000 in
theorem specDoP (A : Option Addr) (a : Nat) (B : Option Addr) (b : Nat) (C : Option Addr) (d : Nat) (E : List Fig) (F L : List Int) (r : Rq) (w : World) (he : OkG E F L) (hr : okB r = true) (hg : GmR w A a B b C d E F L) :
 Calls Try.prog 56 #[gameV A E.length a B F.length b C L.length d, r.val] w (DoP A B C (doG E F L r) w) := by
 obtain ⟨rc, rn, ro, rx, ry⟩ := r
 rcases hn : nullB ⟨rc, rn, ro, rx, ry⟩ with _ | _
 rotate_left
 · have hA : doG E F L ⟨rc, rn, ro, rx, ry⟩ = ((E, F, L), 2) := by unfold doG; rw [if_pos hn]
   rw [hA]
   exact doNull A a B b C d E F L rc rn ro rx ry w hn hg
 have hq : rqB ⟨rc, rn, ro, rx, ry⟩ = true := by simpa [okB, hn] using hr
 have hc : 1 ≤ rc ∧ rc ≤ 4 := by
  have := hq
  simp only [rqB, reqB, inB, Bool.and_eq_true, decide_eq_true_eq] at this
  exact this.1
 have hl := he.l
 obtain ⟨j, hj⟩ : ∃ j : Nat, rc - 1 = (j : Int) := ⟨(rc - 1).toNat, by omega⟩
 have hjl : j < L.length := by omega
 have hjt : (rc - 1).toNat = j := by omega
 have hv : L.getD (rc - 1).toNat 0 = L[j]'hjl := by rw [hjt, List.getD, List.getElem?_eq_getElem hjl]; rfl
 have hnn : ¬ nullB ⟨rc, rn, ro, rx, ry⟩ = true := by rw [hn]; decide
 by_cases hle : rn ≤ L[j]'hjl
 · have hA : doG E F L ⟨rc, rn, ro, rx, ry⟩ = ((E, F, L), 3) := by unfold doG; rw [if_neg hnn]; simp only; rw [hv, if_pos hle]
   rw [hA]
   exact doOld A a B b C d E F L rc rn ro rx ry w hn j _ hj hjl rfl hc hle hg
 have hE := he.e.len
 have hD : doG E F L ⟨rc, rn, ro, rx, ry⟩ = (if ro = 1 then match atF rc E with
  | some _ => ((E, F, L.set j rn), 4)
  | none => ((E.take (ltF rc E) ++ ⟨rc, rc - 1, rc - 1, 3, 0⟩ :: E.drop (ltF rc E), F, L.set j rn), 0)
  else match atF rc E with
   | none => ((E, F, L.set j rn), 5)
   | some k => match E[k]? with
    | none => ((E, F, L.set j rn), 5)
    | some e => actG E F (L.set j rn) k e ⟨rc, rn, ro, rx, ry⟩) := by
  unfold doG; rw [if_neg hnn]; simp only; rw [hv, if_neg hle, hjt]; rfl
 rw [hD]
 clear hD
 by_cases ho : ro = 1
 · subst ho
   rw [if_pos rfl]
   rcases hat : atF rc E with _ | k
   · exact doJoin A a B b C d E F L rc rn rx ry w hn j _ hj hjl rfl hc hl hle hE (by rw [posF_none hat]; omega) hg
   · exact doHas A a B b C d E F L rc rn rx ry w hn j _ hj hjl rfl hc hl hle hE (by rw [posF_some hat]; omega) hg
 · rw [if_neg ho]
   rcases hat : atF rc E with _ | k
   · exact doNot A a B b C d E F L rc rn ro rx ry w hn j _ hj hjl rfl hc hl hle hE ho (by rw [posF_none hat]; omega) hg
   · obtain ⟨hk, _, _⟩ := atF_some hat
     simp only [List.getElem?_eq_getElem hk]
     have hX : actG E F (L.set j rn) k E[k] ⟨rc, rn, ro, rx, ry⟩ = (((actG E F (L.set j rn) k E[k] ⟨rc, rn, ro, rx, ry⟩).1.1, (actG E F (L.set j rn) k E[k] ⟨rc, rn, ro, rx, ry⟩).1.2.1, L.set j rn), (actG E F (L.set j rn) k E[k] ⟨rc, rn, ro, rx, ry⟩).2) :=
      Prod.ext (Prod.ext rfl (Prod.ext rfl (actG_L _ _ _ _ _ _))) rfl
     rw [hX]
     exact doAct A a B b C d E F L rc rn ro rx ry w hn j _ hj hjl rfl hc hl hle hE k hk (posF_some hat) he.e ⟨he.f, he.fb⟩ hq ho hg
end Go.Proofs.Ytameldhdegcpoaa
