/- A request performed upon a board: the program's way. -/
import Derived.Test.YthjiooocahdfpaaGzk
import Derived.MapKept
namespace Go.Proofs.Ythjiooocahdfpaa
open Go.ChangeShapes Go.WideShapes Go.ChangeAt Go.RowKit
set_option linter.unusedVariables false
set_option linter.unusedSimpArgs false

/-- What becomes of a game when a request goes on past its number. -/
def perfG (E : List Fig) (F L : List Int) (r : Rq) : Gm × Int :=
  if r.o = 1 then match atF r.c E with
    | some _ => ((E, F, L), 4)
    | none => ((E.take (ltF r.c E) ++ ⟨r.c, r.c - 1, r.c - 1, 3, 0⟩ :: E.drop (ltF r.c E), F, L), 0)
  else match atF r.c E with
    | none => ((E, F, L), 5)
    | some k => match E[k]? with
      | none => ((E, F, L), 5)
      | some e => actG E F L k e r
theorem atF_lt {E : List Fig} (he : OkE E) {c : Int} {k : Nat} (h : atF c E = some k) : ltF c E = k := by
  obtain ⟨hk, h1, _⟩ := atF_some h
  refine ltF_of c E k (by omega) (fun j hj hjk => ?_) (fun _ => by omega)
  have := he.asc j k hj hk hjk
  omega

/-- A map's entries stored. -/
def mapW (w : World) (r : Nat) (es : Array MapEntry) (c : Nat) : World := { w with heap := w.heap.setIfInBounds r (.map es c) }
theorem mapW_at {w : World} {r : Nat} (es : Array MapEntry) (c : Nat) (h : r < w.heap.size) : (mapW w r es c).heap[r]? = some (.map es c) := by
  simp [mapW, h]
theorem mapW_size (w : World) (r : Nat) (es : Array MapEntry) (c : Nat) : (mapW w r es c).heap.size = w.heap.size := by simp [mapW]
theorem mapW_below {K : Nat} {w0 w : World} {r : Nat} (es : Array MapEntry) (c : Nat) (hr : K ≤ r) (h : Below K w0 w) : Below K w0 (mapW w r es c) :=
  ⟨h.os, h.tape, h.output, by rw [mapW_size]; exact h.size, fun k hk => by
    have : (mapW w r es c).heap[k]? = w.heap[k]? := by
      simp only [mapW]
      rw [Array.getElem?_setIfInBounds_ne (by omega)]
    rw [this]
    exact h.block k hk⟩
theorem run_put_int {P : Program} (w : World) (mt k e : TypeId) (hm : P.underlying mt = some (.map k e)) (hk : P.underlying k = some (.int .i64)) (r clock : Nat) (es : Array MapEntry) (x : Int) (val : Value) (hb : w.heap[r]? = some (.map es clock))
    (hf : Instr.findNow (.int .i64) (.int .i64 x) es.toList 0 = some none) : (Instr.mapUpdate mt (.map (some r)) (.int .i64 x) val).run P w = .ok () (mapW w r (es.push { key := .int .i64 x, val := val, born := clock }) (clock + 1)) := by
  have hc : (Instr.checkKey false 10000 k (.int .i64 x)).run P w = .ok () w := MapKept.run_checkKey (k := .int .i64 x) hk (by simp [MapKept.IsKey]) false 9999
  simp [Instr.mapUpdate, run_underlying hm, MapKept.run_getObj_map hb, hc, MapKept.run_findKey hk hf, MapKept.run_setObj_map _ hb, Result.andThen, mapW]
theorem run_get_int {P : Program} (w : World) (mt k e : TypeId) (hm : P.underlying mt = some (.map k e)) (hk : P.underlying k = some (.int .i64)) (r clock : Nat) (es : Array MapEntry) (x : Int) (val : Value) (i : Nat) (hb : w.heap[r]? = some (.map es clock))
    (hf : Instr.findNow (.int .i64) (.int .i64 x) es.toList 0 = some (some (i, val))) : (Instr.lookup mt (.map (some r)) (.int .i64 x) false).run P w = .ok val w := by
  have hc : ∀ b, (Instr.checkKey b 10000 k (.int .i64 x)).run P w = .ok () w := fun b => MapKept.run_checkKey (k := .int .i64 x) hk (by simp [MapKept.IsKey]) b 9999
  simp [Instr.lookup, run_underlying hm, MapKept.run_getObj_map hb, hc, MapKept.run_findKey hk hf, Result.andThen]

set_option maxRecDepth 100000 in
set_option maxHeartbeats 1000000 in
/-- The map of the acts, made and read. -/
theorem acts_made (w : World) : ∃ W3 W4 W5 W6 : World,
    (Instr.mapUpdate 92 (.map (some w.heap.size)) (.int .i64 2) (.func (.func 69) #[] #[])).run Try.prog (w.alloc (.map #[] 0)) = .ok () W3 ∧
    (Instr.mapUpdate 92 (.map (some w.heap.size)) (.int .i64 3) (.func (.func 70) #[] #[])).run Try.prog W3 = .ok () W4 ∧
    (Instr.mapUpdate 92 (.map (some w.heap.size)) (.int .i64 4) (.func (.func 71) #[] #[])).run Try.prog W4 = .ok () W5 ∧
    (Instr.mapUpdate 92 (.map (some w.heap.size)) (.int .i64 5) (.func (.func 72) #[] #[])).run Try.prog W5 = .ok () W6 ∧
    (∀ wz : World, Below (w.heap.size + 1) W6 wz → (Instr.lookup 92 (.map (some w.heap.size)) (.int .i64 2) false).run Try.prog wz = .ok (.func (.func 69) #[] #[]) wz ∧ (Instr.lookup 92 (.map (some w.heap.size)) (.int .i64 3) false).run Try.prog wz = .ok (.func (.func 70) #[] #[]) wz ∧
      (Instr.lookup 92 (.map (some w.heap.size)) (.int .i64 4) false).run Try.prog wz = .ok (.func (.func 71) #[] #[]) wz ∧ (Instr.lookup 92 (.map (some w.heap.size)) (.int .i64 5) false).run Try.prog wz = .ok (.func (.func 72) #[] #[]) wz) ∧
    Below w.heap.size w W6 ∧ W6.heap.size = w.heap.size + 1 := by
  have h2 : (w.alloc (.map #[] 0)).heap[w.heap.size]? = some (.map #[] 0) := heap_alloc_new w _
  have s2 : (w.alloc (.map #[] 0)).heap.size = w.heap.size + 1 := by simp
  have b2 : Below w.heap.size w (w.alloc (.map #[] 0)) := (Below.refl _ _).alloc (Nat.le_refl _) _
  obtain ⟨W2, hW⟩ : ∃ X, X = w.alloc (.map #[] 0) := ⟨_, rfl⟩
  rw [← hW] at h2 s2 b2 ⊢
  clear hW
  have r2 := run_put_int W2 92 3 _ Try.underlying92 Try.underlying3 w.heap.size 0 #[] 2 (.func (.func 69) #[] #[]) h2 (by rfl)
  have h3 : (mapW W2 w.heap.size (#[{ key := .int .i64 2, val := .func (.func 69) #[] #[], born := 0 }] : Array MapEntry) 1).heap[w.heap.size]? = some (.map (#[{ key := .int .i64 2, val := .func (.func 69) #[] #[], born := 0 }] : Array MapEntry) 1) := mapW_at _ _ (by omega)
  have s3 : (mapW W2 w.heap.size (#[{ key := .int .i64 2, val := .func (.func 69) #[] #[], born := 0 }] : Array MapEntry) 1).heap.size = w.heap.size + 1 := by rw [mapW_size, s2]
  have b3 : Below w.heap.size w (mapW W2 w.heap.size (#[{ key := .int .i64 2, val := .func (.func 69) #[] #[], born := 0 }] : Array MapEntry) 1) := mapW_below _ _ (Nat.le_refl _) b2
  have r2 : (Instr.mapUpdate 92 (.map (some w.heap.size)) (.int .i64 2) (.func (.func 69) #[] #[])).run Try.prog W2 = .ok () (mapW W2 w.heap.size (#[{ key := .int .i64 2, val := .func (.func 69) #[] #[], born := 0 }] : Array MapEntry) 1) := r2
  obtain ⟨W3, hW⟩ : ∃ X, X = mapW W2 w.heap.size (#[{ key := .int .i64 2, val := .func (.func 69) #[] #[], born := 0 }] : Array MapEntry) 1 := ⟨_, rfl⟩
  rw [← hW] at h3 s3 b3 r2
  clear hW
  have r3 := run_put_int W3 92 3 _ Try.underlying92 Try.underlying3 w.heap.size 1 #[{ key := .int .i64 2, val := .func (.func 69) #[] #[], born := 0 }] 3 (.func (.func 70) #[] #[]) h3 (by rfl)
  have h4 : (mapW W3 w.heap.size (#[{ key := .int .i64 2, val := .func (.func 69) #[] #[], born := 0 }, { key := .int .i64 3, val := .func (.func 70) #[] #[], born := 1 }] : Array MapEntry) 2).heap[w.heap.size]? = some (.map (#[{ key := .int .i64 2, val := .func (.func 69) #[] #[], born := 0 }, { key := .int .i64 3, val := .func (.func 70) #[] #[], born := 1 }] : Array MapEntry) 2) := mapW_at _ _ (by omega)
  have s4 : (mapW W3 w.heap.size (#[{ key := .int .i64 2, val := .func (.func 69) #[] #[], born := 0 }, { key := .int .i64 3, val := .func (.func 70) #[] #[], born := 1 }] : Array MapEntry) 2).heap.size = w.heap.size + 1 := by rw [mapW_size, s3]
  have b4 : Below w.heap.size w (mapW W3 w.heap.size (#[{ key := .int .i64 2, val := .func (.func 69) #[] #[], born := 0 }, { key := .int .i64 3, val := .func (.func 70) #[] #[], born := 1 }] : Array MapEntry) 2) := mapW_below _ _ (Nat.le_refl _) b3
  have r3 : (Instr.mapUpdate 92 (.map (some w.heap.size)) (.int .i64 3) (.func (.func 70) #[] #[])).run Try.prog W3 = .ok () (mapW W3 w.heap.size (#[{ key := .int .i64 2, val := .func (.func 69) #[] #[], born := 0 }, { key := .int .i64 3, val := .func (.func 70) #[] #[], born := 1 }] : Array MapEntry) 2) := r3
  obtain ⟨W4, hW⟩ : ∃ X, X = mapW W3 w.heap.size (#[{ key := .int .i64 2, val := .func (.func 69) #[] #[], born := 0 }, { key := .int .i64 3, val := .func (.func 70) #[] #[], born := 1 }] : Array MapEntry) 2 := ⟨_, rfl⟩
  rw [← hW] at h4 s4 b4 r3
  clear hW
  have r4 := run_put_int W4 92 3 _ Try.underlying92 Try.underlying3 w.heap.size 2 #[{ key := .int .i64 2, val := .func (.func 69) #[] #[], born := 0 }, { key := .int .i64 3, val := .func (.func 70) #[] #[], born := 1 }] 4 (.func (.func 71) #[] #[]) h4 (by rfl)
  have h5 : (mapW W4 w.heap.size (#[{ key := .int .i64 2, val := .func (.func 69) #[] #[], born := 0 }, { key := .int .i64 3, val := .func (.func 70) #[] #[], born := 1 }, { key := .int .i64 4, val := .func (.func 71) #[] #[], born := 2 }] : Array MapEntry) 3).heap[w.heap.size]? = some (.map (#[{ key := .int .i64 2, val := .func (.func 69) #[] #[], born := 0 }, { key := .int .i64 3, val := .func (.func 70) #[] #[], born := 1 }, { key := .int .i64 4, val := .func (.func 71) #[] #[], born := 2 }] : Array MapEntry) 3) := mapW_at _ _ (by omega)
  have s5 : (mapW W4 w.heap.size (#[{ key := .int .i64 2, val := .func (.func 69) #[] #[], born := 0 }, { key := .int .i64 3, val := .func (.func 70) #[] #[], born := 1 }, { key := .int .i64 4, val := .func (.func 71) #[] #[], born := 2 }] : Array MapEntry) 3).heap.size = w.heap.size + 1 := by rw [mapW_size, s4]
  have b5 : Below w.heap.size w (mapW W4 w.heap.size (#[{ key := .int .i64 2, val := .func (.func 69) #[] #[], born := 0 }, { key := .int .i64 3, val := .func (.func 70) #[] #[], born := 1 }, { key := .int .i64 4, val := .func (.func 71) #[] #[], born := 2 }] : Array MapEntry) 3) := mapW_below _ _ (Nat.le_refl _) b4
  have r4 : (Instr.mapUpdate 92 (.map (some w.heap.size)) (.int .i64 4) (.func (.func 71) #[] #[])).run Try.prog W4 = .ok () (mapW W4 w.heap.size (#[{ key := .int .i64 2, val := .func (.func 69) #[] #[], born := 0 }, { key := .int .i64 3, val := .func (.func 70) #[] #[], born := 1 }, { key := .int .i64 4, val := .func (.func 71) #[] #[], born := 2 }] : Array MapEntry) 3) := r4
  obtain ⟨W5, hW⟩ : ∃ X, X = mapW W4 w.heap.size (#[{ key := .int .i64 2, val := .func (.func 69) #[] #[], born := 0 }, { key := .int .i64 3, val := .func (.func 70) #[] #[], born := 1 }, { key := .int .i64 4, val := .func (.func 71) #[] #[], born := 2 }] : Array MapEntry) 3 := ⟨_, rfl⟩
  rw [← hW] at h5 s5 b5 r4
  clear hW
  have r5 := run_put_int W5 92 3 _ Try.underlying92 Try.underlying3 w.heap.size 3 #[{ key := .int .i64 2, val := .func (.func 69) #[] #[], born := 0 }, { key := .int .i64 3, val := .func (.func 70) #[] #[], born := 1 }, { key := .int .i64 4, val := .func (.func 71) #[] #[], born := 2 }] 5 (.func (.func 72) #[] #[]) h5 (by rfl)
  have h6 : (mapW W5 w.heap.size (#[{ key := .int .i64 2, val := .func (.func 69) #[] #[], born := 0 }, { key := .int .i64 3, val := .func (.func 70) #[] #[], born := 1 }, { key := .int .i64 4, val := .func (.func 71) #[] #[], born := 2 }, { key := .int .i64 5, val := .func (.func 72) #[] #[], born := 3 }] : Array MapEntry) 4).heap[w.heap.size]? = some (.map (#[{ key := .int .i64 2, val := .func (.func 69) #[] #[], born := 0 }, { key := .int .i64 3, val := .func (.func 70) #[] #[], born := 1 }, { key := .int .i64 4, val := .func (.func 71) #[] #[], born := 2 }, { key := .int .i64 5, val := .func (.func 72) #[] #[], born := 3 }] : Array MapEntry) 4) := mapW_at _ _ (by omega)
  have s6 : (mapW W5 w.heap.size (#[{ key := .int .i64 2, val := .func (.func 69) #[] #[], born := 0 }, { key := .int .i64 3, val := .func (.func 70) #[] #[], born := 1 }, { key := .int .i64 4, val := .func (.func 71) #[] #[], born := 2 }, { key := .int .i64 5, val := .func (.func 72) #[] #[], born := 3 }] : Array MapEntry) 4).heap.size = w.heap.size + 1 := by rw [mapW_size, s5]
  have b6 : Below w.heap.size w (mapW W5 w.heap.size (#[{ key := .int .i64 2, val := .func (.func 69) #[] #[], born := 0 }, { key := .int .i64 3, val := .func (.func 70) #[] #[], born := 1 }, { key := .int .i64 4, val := .func (.func 71) #[] #[], born := 2 }, { key := .int .i64 5, val := .func (.func 72) #[] #[], born := 3 }] : Array MapEntry) 4) := mapW_below _ _ (Nat.le_refl _) b5
  have r5 : (Instr.mapUpdate 92 (.map (some w.heap.size)) (.int .i64 5) (.func (.func 72) #[] #[])).run Try.prog W5 = .ok () (mapW W5 w.heap.size (#[{ key := .int .i64 2, val := .func (.func 69) #[] #[], born := 0 }, { key := .int .i64 3, val := .func (.func 70) #[] #[], born := 1 }, { key := .int .i64 4, val := .func (.func 71) #[] #[], born := 2 }, { key := .int .i64 5, val := .func (.func 72) #[] #[], born := 3 }] : Array MapEntry) 4) := r5
  obtain ⟨W6, hW⟩ : ∃ X, X = mapW W5 w.heap.size (#[{ key := .int .i64 2, val := .func (.func 69) #[] #[], born := 0 }, { key := .int .i64 3, val := .func (.func 70) #[] #[], born := 1 }, { key := .int .i64 4, val := .func (.func 71) #[] #[], born := 2 }, { key := .int .i64 5, val := .func (.func 72) #[] #[], born := 3 }] : Array MapEntry) 4 := ⟨_, rfl⟩
  rw [← hW] at h6 s6 b6 r5
  clear hW
  refine ⟨W3, W4, W5, W6, r2, r3, r4, r5, fun wz hz => ?_, b6, s6⟩
  have hh : wz.heap[w.heap.size]? = some (.map #[{ key := .int .i64 2, val := .func (.func 69) #[] #[], born := 0 }, { key := .int .i64 3, val := .func (.func 70) #[] #[], born := 1 }, { key := .int .i64 4, val := .func (.func 71) #[] #[], born := 2 }, { key := .int .i64 5, val := .func (.func 72) #[] #[], born := 3 }] 4) := (hz.block _ (by omega)).trans h6
  exact ⟨run_get_int wz 92 3 _ Try.underlying92 Try.underlying3 w.heap.size 4 _ 2 _ 0 hh (by rfl), run_get_int wz 92 3 _ Try.underlying92 Try.underlying3 w.heap.size 4 _ 3 _ 1 hh (by rfl),
    run_get_int wz 92 3 _ Try.underlying92 Try.underlying3 w.heap.size 4 _ 4 _ 2 hh (by rfl), run_get_int wz 92 3 _ Try.underlying92 Try.underlying3 w.heap.size 4 _ 5 _ 3 hh (by rfl)⟩

end Go.Proofs.Ythjiooocahdfpaa
