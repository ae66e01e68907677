import Derived.Test.YtameldhdegcpoaaNG
import Derived.MapKept
namespace Go.Proofs.Ytameldhdegcpoaa
open Go.ChangeShapes Go.WideShapes Go.ChangeAt Go.RowKit
set_option linter.unusedVariables false
set_option linter.unusedSimpArgs false
def perfG (E : List Fig) (F L : List Int) (r : Rq) : Gm × Int :=
 if r.o = 1 then match atF r.c E with
  | some _ => ((E, F, L), 4)
  | none => ((E.take (ltF r.c E) ++ ⟨r.c, r.c - 1, r.c - 1, 3, 0⟩ :: E.drop (ltF r.c E), F, L), 0)
 else match atF r.c E with
  | none => ((E, F, L), 5)
  | some k => match E[k]? with
   | none => ((E, F, L), 5)
   | some e => actG E F L k e r
theorem atF_lt {E : List Fig} (he : OkE E) {c : Int} {k : Nat} (h : atF c E = some k) : ltF c E = k := by
 obtain ⟨hk, h1, _⟩ := atF_some h
 refine ltF_of c E k (by omega) (fun j hj hjk => ?_) (fun _ => by omega)
 have := he.asc j k hj hk hjk
 omega
def mapW (w : World) (r : Nat) (es : Array MapEntry) (c : Nat) : World := { w with heap := w.heap.setIfInBounds r (.map es c) }
theorem mapW_at {w : World} {r : Nat} (es : Array MapEntry) (c : Nat) (h : r < w.heap.size) : (mapW w r es c).heap[r]? = some (.map es c) := by
 simp [mapW, h]
theorem mapW_size (w : World) (r : Nat) (es : Array MapEntry) (c : Nat) : (mapW w r es c).heap.size = w.heap.size := by simp [mapW]
theorem mapW_below {K : Nat} {w0 w : World} {r : Nat} (es : Array MapEntry) (c : Nat) (hr : K ≤ r) (h : Below K w0 w) : Below K w0 (mapW w r es c) :=
 ⟨h.os, h.tape, h.output, by rw [mapW_size]; exact h.size, fun k hk => by
  have : (mapW w r es c).heap[k]? = w.heap[k]? := by
   simp only [mapW]
   rw [Array.getElem?_setIfInBounds_ne (by omega)]
  rw [this]
  exact h.block k hk⟩
theorem run_put_int {P : Program} (w : World) (mt k e : TypeId) (hm : P.underlying mt = some (.map k e)) (hk : P.underlying k = some (.int .i64)) (r clock : Nat) (es : Array MapEntry) (x : Int) (val : Value) (hb : w.heap[r]? = some (.map es clock))
 (hf : Instr.findNow (.int .i64) (.int .i64 x) es.toList 0 = some none) : (Instr.mapUpdate mt (.map (some r)) (.int .i64 x) val).run P w = .ok () (mapW w r (es.push { key := .int .i64 x, val := val, born := clock }) (clock + 1)) := by
 have hc : (Instr.checkKey false 10000 k (.int .i64 x)).run P w = .ok () w := MapKept.run_checkKey (k := .int .i64 x) hk (by simp [MapKept.IsKey]) false 9999
 simp [Instr.mapUpdate, run_underlying hm, MapKept.run_getObj_map hb, hc, MapKept.run_findKey hk hf, MapKept.run_setObj_map _ hb, Result.andThen, mapW]
theorem run_get_int {P : Program} (w : World) (mt k e : TypeId) (hm : P.underlying mt = some (.map k e)) (hk : P.underlying k = some (.int .i64)) (r clock : Nat) (es : Array MapEntry) (x : Int) (val : Value) (i : Nat) (hb : w.heap[r]? = some (.map es clock))
 (hf : Instr.findNow (.int .i64) (.int .i64 x) es.toList 0 = some (some (i, val))) : (Instr.lookup mt (.map (some r)) (.int .i64 x) false).run P w = .ok val w := by
 have hc : ∀ b, (Instr.checkKey b 10000 k (.int .i64 x)).run P w = .ok () w := fun b => MapKept.run_checkKey (k := .int .i64 x) hk (by simp [MapKept.IsKey]) b 9999
 simp [Instr.lookup, run_underlying hm, MapKept.run_getObj_map hb, hc, MapKept.run_findKey hk hf, Result.andThen]
set_option maxRecDepth 100000 in
set_option maxHeartbeats 1000000 in
theorem acts_made (w : World) : ∃ W3 W4 W5 W6 : World,
 (Instr.mapUpdate 116 (.map (some w.heap.size)) (.int .i64 2) (.func (.func 100) #[] #[])).run Try.prog (w.alloc (.map #[] 0)) = .ok () W3 ∧
 (Instr.mapUpdate 116 (.map (some w.heap.size)) (.int .i64 3) (.func (.func 101) #[] #[])).run Try.prog W3 = .ok () W4 ∧
 (Instr.mapUpdate 116 (.map (some w.heap.size)) (.int .i64 4) (.func (.func 102) #[] #[])).run Try.prog W4 = .ok () W5 ∧
 (Instr.mapUpdate 116 (.map (some w.heap.size)) (.int .i64 5) (.func (.func 103) #[] #[])).run Try.prog W5 = .ok () W6 ∧
 (∀ wz : World, Below (w.heap.size + 1) W6 wz → (Instr.lookup 116 (.map (some w.heap.size)) (.int .i64 2) false).run Try.prog wz = .ok (.func (.func 100) #[] #[]) wz ∧ (Instr.lookup 116 (.map (some w.heap.size)) (.int .i64 3) false).run Try.prog wz = .ok (.func (.func 101) #[] #[]) wz ∧
  (Instr.lookup 116 (.map (some w.heap.size)) (.int .i64 4) false).run Try.prog wz = .ok (.func (.func 102) #[] #[]) wz ∧ (Instr.lookup 116 (.map (some w.heap.size)) (.int .i64 5) false).run Try.prog wz = .ok (.func (.func 103) #[] #[]) wz) ∧
 Below w.heap.size w W6 ∧ W6.heap.size = w.heap.size + 1 := by
 have h2 : (w.alloc (.map #[] 0)).heap[w.heap.size]? = some (.map #[] 0) := heap_alloc_new w _
 have s2 : (w.alloc (.map #[] 0)).heap.size = w.heap.size + 1 := by simp
 have b2 : Below w.heap.size w (w.alloc (.map #[] 0)) := (Below.refl _ _).alloc (Nat.le_refl _) _
 obtain ⟨W2, hW⟩ : ∃ X, X = w.alloc (.map #[] 0) := ⟨_, rfl⟩
 rw [← hW] at h2 s2 b2 ⊢
 clear hW
 have r2 := run_put_int W2 116 3 _ Try.underlying116 Try.underlying3 w.heap.size 0 #[] 2 (.func (.func 100) #[] #[]) h2 (by rfl)
 have h3 : (mapW W2 w.heap.size (#[{ key := .int .i64 2, val := .func (.func 100) #[] #[], born := 0 }] : Array MapEntry) 1).heap[w.heap.size]? = some (.map (#[{ key := .int .i64 2, val := .func (.func 100) #[] #[], born := 0 }] : Array MapEntry) 1) := mapW_at _ _ (by omega)
 have s3 : (mapW W2 w.heap.size (#[{ key := .int .i64 2, val := .func (.func 100) #[] #[], born := 0 }] : Array MapEntry) 1).heap.size = w.heap.size + 1 := by rw [mapW_size, s2]
 have b3 : Below w.heap.size w (mapW W2 w.heap.size (#[{ key := .int .i64 2, val := .func (.func 100) #[] #[], born := 0 }] : Array MapEntry) 1) := mapW_below _ _ (Nat.le_refl _) b2
 have r2 : (Instr.mapUpdate 116 (.map (some w.heap.size)) (.int .i64 2) (.func (.func 100) #[] #[])).run Try.prog W2 = .ok () (mapW W2 w.heap.size (#[{ key := .int .i64 2, val := .func (.func 100) #[] #[], born := 0 }] : Array MapEntry) 1) := r2
 obtain ⟨W3, hW⟩ : ∃ X, X = mapW W2 w.heap.size (#[{ key := .int .i64 2, val := .func (.func 100) #[] #[], born := 0 }] : Array MapEntry) 1 := ⟨_, rfl⟩
 rw [← hW] at h3 s3 b3 r2
 clear hW
 have r3 := run_put_int W3 116 3 _ Try.underlying116 Try.underlying3 w.heap.size 1 #[{ key := .int .i64 2, val := .func (.func 100) #[] #[], born := 0 }] 3 (.func (.func 101) #[] #[]) h3 (by rfl)
 have h4 : (mapW W3 w.heap.size (#[{ key := .int .i64 2, val := .func (.func 100) #[] #[], born := 0 }, { key := .int .i64 3, val := .func (.func 101) #[] #[], born := 1 }] : Array MapEntry) 2).heap[w.heap.size]? = some (.map (#[{ key := .int .i64 2, val := .func (.func 100) #[] #[], born := 0 }, { key := .int .i64 3, val := .func (.func 101) #[] #[], born := 1 }] : Array MapEntry) 2) := mapW_at _ _ (by omega)
 have s4 : (mapW W3 w.heap.size (#[{ key := .int .i64 2, val := .func (.func 100) #[] #[], born := 0 }, { key := .int .i64 3, val := .func (.func 101) #[] #[], born := 1 }] : Array MapEntry) 2).heap.size = w.heap.size + 1 := by rw [mapW_size, s3]
 have b4 : Below w.heap.size w (mapW W3 w.heap.size (#[{ key := .int .i64 2, val := .func (.func 100) #[] #[], born := 0 }, { key := .int .i64 3, val := .func (.func 101) #[] #[], born := 1 }] : Array MapEntry) 2) := mapW_below _ _ (Nat.le_refl _) b3
 have r3 : (Instr.mapUpdate 116 (.map (some w.heap.size)) (.int .i64 3) (.func (.func 101) #[] #[])).run Try.prog W3 = .ok () (mapW W3 w.heap.size (#[{ key := .int .i64 2, val := .func (.func 100) #[] #[], born := 0 }, { key := .int .i64 3, val := .func (.func 101) #[] #[], born := 1 }] : Array MapEntry) 2) := r3
 obtain ⟨W4, hW⟩ : ∃ X, X = mapW W3 w.heap.size (#[{ key := .int .i64 2, val := .func (.func 100) #[] #[], born := 0 }, { key := .int .i64 3, val := .func (.func 101) #[] #[], born := 1 }] : Array MapEntry) 2 := ⟨_, rfl⟩
 rw [← hW] at h4 s4 b4 r3
 clear hW
 have r4 := run_put_int W4 116 3 _ Try.underlying116 Try.underlying3 w.heap.size 2 #[{ key := .int .i64 2, val := .func (.func 100) #[] #[], born := 0 }, { key := .int .i64 3, val := .func (.func 101) #[] #[], born := 1 }] 4 (.func (.func 102) #[] #[]) h4 (by rfl)
 have h5 : (mapW W4 w.heap.size (#[{ key := .int .i64 2, val := .func (.func 100) #[] #[], born := 0 }, { key := .int .i64 3, val := .func (.func 101) #[] #[], born := 1 }, { key := .int .i64 4, val := .func (.func 102) #[] #[], born := 2 }] : Array MapEntry) 3).heap[w.heap.size]? = some (.map (#[{ key := .int .i64 2, val := .func (.func 100) #[] #[], born := 0 }, { key := .int .i64 3, val := .func (.func 101) #[] #[], born := 1 }, { key := .int .i64 4, val := .func (.func 102) #[] #[], born := 2 }] : Array MapEntry) 3) := mapW_at _ _ (by omega)
 have s5 : (mapW W4 w.heap.size (#[{ key := .int .i64 2, val := .func (.func 100) #[] #[], born := 0 }, { key := .int .i64 3, val := .func (.func 101) #[] #[], born := 1 }, { key := .int .i64 4, val := .func (.func 102) #[] #[], born := 2 }] : Array MapEntry) 3).heap.size = w.heap.size + 1 := by rw [mapW_size, s4]
 have b5 : Below w.heap.size w (mapW W4 w.heap.size (#[{ key := .int .i64 2, val := .func (.func 100) #[] #[], born := 0 }, { key := .int .i64 3, val := .func (.func 101) #[] #[], born := 1 }, { key := .int .i64 4, val := .func (.func 102) #[] #[], born := 2 }] : Array MapEntry) 3) := mapW_below _ _ (Nat.le_refl _) b4
 have r4 : (Instr.mapUpdate 116 (.map (some w.heap.size)) (.int .i64 4) (.func (.func 102) #[] #[])).run Try.prog W4 = .ok () (mapW W4 w.heap.size (#[{ key := .int .i64 2, val := .func (.func 100) #[] #[], born := 0 }, { key := .int .i64 3, val := .func (.func 101) #[] #[], born := 1 }, { key := .int .i64 4, val := .func (.func 102) #[] #[], born := 2 }] : Array MapEntry) 3) := r4
 obtain ⟨W5, hW⟩ : ∃ X, X = mapW W4 w.heap.size (#[{ key := .int .i64 2, val := .func (.func 100) #[] #[], born := 0 }, { key := .int .i64 3, val := .func (.func 101) #[] #[], born := 1 }, { key := .int .i64 4, val := .func (.func 102) #[] #[], born := 2 }] : Array MapEntry) 3 := ⟨_, rfl⟩
 rw [← hW] at h5 s5 b5 r4
 clear hW
 have r5 := run_put_int W5 116 3 _ Try.underlying116 Try.underlying3 w.heap.size 3 #[{ key := .int .i64 2, val := .func (.func 100) #[] #[], born := 0 }, { key := .int .i64 3, val := .func (.func 101) #[] #[], born := 1 }, { key := .int .i64 4, val := .func (.func 102) #[] #[], born := 2 }] 5 (.func (.func 103) #[] #[]) h5 (by rfl)
 have h6 : (mapW W5 w.heap.size (#[{ key := .int .i64 2, val := .func (.func 100) #[] #[], born := 0 }, { key := .int .i64 3, val := .func (.func 101) #[] #[], born := 1 }, { key := .int .i64 4, val := .func (.func 102) #[] #[], born := 2 }, { key := .int .i64 5, val := .func (.func 103) #[] #[], born := 3 }] : Array MapEntry) 4).heap[w.heap.size]? = some (.map (#[{ key := .int .i64 2, val := .func (.func 100) #[] #[], born := 0 }, { key := .int .i64 3, val := .func (.func 101) #[] #[], born := 1 }, { key := .int .i64 4, val := .func (.func 102) #[] #[], born := 2 }, { key := .int .i64 5, val := .func (.func 103) #[] #[], born := 3 }] : Array MapEntry) 4) := mapW_at _ _ (by omega)
 have s6 : (mapW W5 w.heap.size (#[{ key := .int .i64 2, val := .func (.func 100) #[] #[], born := 0 }, { key := .int .i64 3, val := .func (.func 101) #[] #[], born := 1 }, { key := .int .i64 4, val := .func (.func 102) #[] #[], born := 2 }, { key := .int .i64 5, val := .func (.func 103) #[] #[], born := 3 }] : Array MapEntry) 4).heap.size = w.heap.size + 1 := by rw [mapW_size, s5]
 have b6 : Below w.heap.size w (mapW W5 w.heap.size (#[{ key := .int .i64 2, val := .func (.func 100) #[] #[], born := 0 }, { key := .int .i64 3, val := .func (.func 101) #[] #[], born := 1 }, { key := .int .i64 4, val := .func (.func 102) #[] #[], born := 2 }, { key := .int .i64 5, val := .func (.func 103) #[] #[], born := 3 }] : Array MapEntry) 4) := mapW_below _ _ (Nat.le_refl _) b5
 have r5 : (Instr.mapUpdate 116 (.map (some w.heap.size)) (.int .i64 5) (.func (.func 103) #[] #[])).run Try.prog W5 = .ok () (mapW W5 w.heap.size (#[{ key := .int .i64 2, val := .func (.func 100) #[] #[], born := 0 }, { key := .int .i64 3, val := .func (.func 101) #[] #[], born := 1 }, { key := .int .i64 4, val := .func (.func 102) #[] #[], born := 2 }, { key := .int .i64 5, val := .func (.func 103) #[] #[], born := 3 }] : Array MapEntry) 4) := r5
 obtain ⟨W6, hW⟩ : ∃ X, X = mapW W5 w.heap.size (#[{ key := .int .i64 2, val := .func (.func 100) #[] #[], born := 0 }, { key := .int .i64 3, val := .func (.func 101) #[] #[], born := 1 }, { key := .int .i64 4, val := .func (.func 102) #[] #[], born := 2 }, { key := .int .i64 5, val := .func (.func 103) #[] #[], born := 3 }] : Array MapEntry) 4 := ⟨_, rfl⟩
 rw [← hW] at h6 s6 b6 r5
 clear hW
 refine ⟨W3, W4, W5, W6, r2, r3, r4, r5, fun wz hz => ?_, b6, s6⟩
 have hh : wz.heap[w.heap.size]? = some (.map #[{ key := .int .i64 2, val := .func (.func 100) #[] #[], born := 0 }, { key := .int .i64 3, val := .func (.func 101) #[] #[], born := 1 }, { key := .int .i64 4, val := .func (.func 102) #[] #[], born := 2 }, { key := .int .i64 5, val := .func (.func 103) #[] #[], born := 3 }] 4) := (hz.block _ (by omega)).trans h6
 exact ⟨run_get_int wz 116 3 _ Try.underlying116 Try.underlying3 w.heap.size 4 _ 2 _ 0 hh (by rfl), run_get_int wz 116 3 _ Try.underlying116 Try.underlying3 w.heap.size 4 _ 3 _ 1 hh (by rfl),
  run_get_int wz 116 3 _ Try.underlying116 Try.underlying3 w.heap.size 4 _ 4 _ 2 hh (by rfl), run_get_int wz 116 3 _ Try.underlying116 Try.underlying3 w.heap.size 4 _ 5 _ 3 hh (by rfl)⟩
end Go.Proofs.Ytameldhdegcpoaa
namespace Go.Proofs.Ytameldhdegcpoaa
open Go.ChangeShapes Go.WideShapes Go.ChangeAt Go.RowKit
set_option linter.unusedVariables false
set_option linter.unusedSimpArgs false
set_option maxRecDepth 100000 in
set_option maxHeartbeats 4000000 in
theorem perfAct2 {w : World} {p lo : Nat} {A : Option Addr} {a : Nat} {B : Option Addr} {b : Nat} {C : Option Addr} {d : Nat} {E : List Fig} {F L : List Int} (h : Bd w p lo A a B b C d E F L) (he : OkE E) (rc rn rx ry : Int) (k : Nat) (hk : k < E.length) (ha : atF rc E = some k)
 (hm : ∀ w0 : World, Bd w0 p lo A a B b C d E F L → Calls Try.prog 100 #[.agg #[.pointer (some ⟨p, 0, none⟩), .int .i64 (k : Int)], .agg #[.int .i64 rc, .int .i64 rn, .int .i64 2, .int .i64 rx, .int .i64 ry]] w0 (ActB p lo A a B b C d L (actG E F L k (E[k]'hk) ⟨rc, rn, 2, rx, ry⟩) w0)) :
 Calls Try.prog 72 #[.pointer (some ⟨p, 0, none⟩), .agg #[.int .i64 rc, .int .i64 rn, .int .i64 2, .int .i64 rx, .int .i64 ry]] w (StepB p lo B b C d L (actG E F L k (E[k]'hk) ⟨rc, rn, 2, rx, ry⟩) w) := by
 have B0 : Below w.heap.size w (w.alloc (.cells #[.int .i64 rc, .int .i64 rn, .int .i64 2, .int .i64 rx, .int .i64 ry] 49)) := (Below.refl _ _).alloc (Nat.le_refl _) _
 have H0 := Lib.hid (h.below B0)
 have LW := Lib.hid h.low
 have R0 : Hid (Bkk (w.alloc (.cells #[.int .i64 rc, .int .i64 rn, .int .i64 2, .int .i64 rx, .int .i64 ry] 49)) w.heap.size 49 #[.int .i64 rc, .int .i64 rn, .int .i64 2, .int .i64 rx, .int .i64 ry]) := Bkk.new w
 have FO := Lib.hid (figureOf p A a E rc (w.alloc (.cells #[.int .i64 rc, .int .i64 rn, .int .i64 2, .int .i64 rx, .int .i64 ry] 49)) he (RdF.of_own H0.out.e) H0.out.at_.cells.1)
 rw [ha, atF_lt he ha] at FO
 have FO : Hid (Calls Try.prog 99 #[.pointer (some ⟨p, 0, none⟩), .int .i64 rc] (w.alloc (.cells #[.int .i64 rc, .int .i64 rn, .int .i64 2, .int .i64 rx, .int .i64 ry] 49)) fun r w' => r = .returned (.tuple #[.agg #[.pointer (some ⟨p, 0, none⟩), .int .i64 (k : Int)], .bool true]) ∧ Below (w.alloc (.cells #[.int .i64 rc, .int .i64 rn, .int .i64 2, .int .i64 rx, .int .i64 ry] 49)).heap.size (w.alloc (.cells #[.int .i64 rc, .int .i64 rn, .int .i64 2, .int .i64 rx, .int .i64 ry] 49)) w') := FO
 have B0 := Lib.hid B0
 have HM := Lib.hid hm
 have hmm := @run_makeMap Try.prog
 obtain ⟨X, hX⟩ : ∃ X, X = actG E F L k (E[k]'hk) ⟨rc, rn, 2, rx, ry⟩ := ⟨_, rfl⟩
 rw [← hX] at HM ⊢
 clear h he ha hm hX
 go_enter Try.func72, Try.ntmps72
 go_wp2_with (fail)
 refine FO.out.mono ?_
 rintro e wa ⟨rfl, hb⟩
 clear FO
 have BA := Lib.hid (Below.and B0.out hb)
 have HA := Lib.hid (H0.out.below hb)
 have RA := Lib.hid (R0.out.below hb)
 have lr0 : w.heap.size < wa.heap.size := by have := hb.size; simp at this; omega
 clear hb H0 R0 B0
 have x2 : wa.cell? ⟨w.heap.size, 2, none⟩ = some (.int .i64 2) := RA.out.cell 2
 obtain ⟨W3, W4, W5, W6, r2, r3, r4, r5, r6, b6, s6⟩ := acts_made (wa.alloc (.cells #[.pointer (some ⟨p, 0, none⟩), .int .i64 (k : Int)] 111))
 have e1 : (wa.alloc (.cells #[.pointer (some ⟨p, 0, none⟩), .int .i64 (k : Int)] 111)).heap.size = wa.heap.size + 1 := by simp
 rw [e1] at r2 r3 r4 r5 r6 s6
 have B1 : Below wa.heap.size wa (wa.alloc (.cells #[.pointer (some ⟨p, 0, none⟩), .int .i64 (k : Int)] 111)) := (Below.refl _ _).alloc (Nat.le_refl _) _
 have B6 := Lib.hid (Below.and B1 b6)
 have K6 : Hid (Bkk W6 wa.heap.size 111 #[.pointer (some ⟨p, 0, none⟩), .int .i64 (k : Int)]) := (Bkk.new wa).below b6
 have R6 := Lib.hid (RA.out.below B6.out)
 have H6 := Lib.hid (HA.out.below B6.out)
 have BW := Lib.hid (Below.and BA.out B6.out)
 have l1 := (r6 W6 (Below.refl _ _)).1
 have l2 := (r6 W6 (Below.refl _ _)).2.1
 have l3 := (r6 W6 (Below.refl _ _)).2.2.1
 have l4 := (r6 W6 (Below.refl _ _)).2.2.2
 have S6 := Lib.hid s6
 clear r6 b6 e1 s6 B1
 have y0 : W6.cell? ⟨w.heap.size, 0, none⟩ = some (.int .i64 rc) := R6.out.cell 0
 have y1 : W6.cell? ⟨w.heap.size, 1, none⟩ = some (.int .i64 rn) := R6.out.cell 1
 have y2 : W6.cell? ⟨w.heap.size, 2, none⟩ = some (.int .i64 2) := R6.out.cell 2
 have y3 : W6.cell? ⟨w.heap.size, 3, none⟩ = some (.int .i64 rx) := R6.out.cell 3
 have y4 : W6.cell? ⟨w.heap.size, 4, none⟩ = some (.int .i64 ry) := R6.out.cell 4
 have z0 : W6.cell? ⟨wa.heap.size, 0, none⟩ = some (.pointer (some ⟨p, 0, none⟩)) := K6.out.cell 0
 have z1 : W6.cell? ⟨wa.heap.size, 1, none⟩ = some (.int .i64 (k : Int)) := K6.out.cell 1
 go_wp2_with (fail)
 refine (HM.out W6 H6.out).mono ?_
 unfold ActB
 rintro e wb ⟨rfl, hB, hb⟩
 have HBd := Lib.hid hB
 have HBb := Lib.hid hb
 clear hB hb
 go_wp2
 go_ret
 exact ⟨rfl, ⟨A, a, HBd.out⟩, (BW.out.mono LW.out).trans HBb.out⟩
set_option maxRecDepth 100000 in
set_option maxHeartbeats 4000000 in
theorem perfAct3 {w : World} {p lo : Nat} {A : Option Addr} {a : Nat} {B : Option Addr} {b : Nat} {C : Option Addr} {d : Nat} {E : List Fig} {F L : List Int} (h : Bd w p lo A a B b C d E F L) (he : OkE E) (rc rn rx ry : Int) (k : Nat) (hk : k < E.length) (ha : atF rc E = some k)
 (hm : ∀ w0 : World, Bd w0 p lo A a B b C d E F L → Calls Try.prog 101 #[.agg #[.pointer (some ⟨p, 0, none⟩), .int .i64 (k : Int)], .agg #[.int .i64 rc, .int .i64 rn, .int .i64 3, .int .i64 rx, .int .i64 ry]] w0 (ActB p lo A a B b C d L (actG E F L k (E[k]'hk) ⟨rc, rn, 3, rx, ry⟩) w0)) :
 Calls Try.prog 72 #[.pointer (some ⟨p, 0, none⟩), .agg #[.int .i64 rc, .int .i64 rn, .int .i64 3, .int .i64 rx, .int .i64 ry]] w (StepB p lo B b C d L (actG E F L k (E[k]'hk) ⟨rc, rn, 3, rx, ry⟩) w) := by
 have B0 : Below w.heap.size w (w.alloc (.cells #[.int .i64 rc, .int .i64 rn, .int .i64 3, .int .i64 rx, .int .i64 ry] 49)) := (Below.refl _ _).alloc (Nat.le_refl _) _
 have H0 := Lib.hid (h.below B0)
 have LW := Lib.hid h.low
 have R0 : Hid (Bkk (w.alloc (.cells #[.int .i64 rc, .int .i64 rn, .int .i64 3, .int .i64 rx, .int .i64 ry] 49)) w.heap.size 49 #[.int .i64 rc, .int .i64 rn, .int .i64 3, .int .i64 rx, .int .i64 ry]) := Bkk.new w
 have FO := Lib.hid (figureOf p A a E rc (w.alloc (.cells #[.int .i64 rc, .int .i64 rn, .int .i64 3, .int .i64 rx, .int .i64 ry] 49)) he (RdF.of_own H0.out.e) H0.out.at_.cells.1)
 rw [ha, atF_lt he ha] at FO
 have FO : Hid (Calls Try.prog 99 #[.pointer (some ⟨p, 0, none⟩), .int .i64 rc] (w.alloc (.cells #[.int .i64 rc, .int .i64 rn, .int .i64 3, .int .i64 rx, .int .i64 ry] 49)) fun r w' => r = .returned (.tuple #[.agg #[.pointer (some ⟨p, 0, none⟩), .int .i64 (k : Int)], .bool true]) ∧ Below (w.alloc (.cells #[.int .i64 rc, .int .i64 rn, .int .i64 3, .int .i64 rx, .int .i64 ry] 49)).heap.size (w.alloc (.cells #[.int .i64 rc, .int .i64 rn, .int .i64 3, .int .i64 rx, .int .i64 ry] 49)) w') := FO
 have B0 := Lib.hid B0
 have HM := Lib.hid hm
 have hmm := @run_makeMap Try.prog
 obtain ⟨X, hX⟩ : ∃ X, X = actG E F L k (E[k]'hk) ⟨rc, rn, 3, rx, ry⟩ := ⟨_, rfl⟩
 rw [← hX] at HM ⊢
 clear h he ha hm hX
 go_enter Try.func72, Try.ntmps72
 go_wp2_with (fail)
 refine FO.out.mono ?_
 rintro e wa ⟨rfl, hb⟩
 clear FO
 have BA := Lib.hid (Below.and B0.out hb)
 have HA := Lib.hid (H0.out.below hb)
 have RA := Lib.hid (R0.out.below hb)
 have lr0 : w.heap.size < wa.heap.size := by have := hb.size; simp at this; omega
 clear hb H0 R0 B0
 have x2 : wa.cell? ⟨w.heap.size, 2, none⟩ = some (.int .i64 3) := RA.out.cell 2
 obtain ⟨W3, W4, W5, W6, r2, r3, r4, r5, r6, b6, s6⟩ := acts_made (wa.alloc (.cells #[.pointer (some ⟨p, 0, none⟩), .int .i64 (k : Int)] 111))
 have e1 : (wa.alloc (.cells #[.pointer (some ⟨p, 0, none⟩), .int .i64 (k : Int)] 111)).heap.size = wa.heap.size + 1 := by simp
 rw [e1] at r2 r3 r4 r5 r6 s6
 have B1 : Below wa.heap.size wa (wa.alloc (.cells #[.pointer (some ⟨p, 0, none⟩), .int .i64 (k : Int)] 111)) := (Below.refl _ _).alloc (Nat.le_refl _) _
 have B6 := Lib.hid (Below.and B1 b6)
 have K6 : Hid (Bkk W6 wa.heap.size 111 #[.pointer (some ⟨p, 0, none⟩), .int .i64 (k : Int)]) := (Bkk.new wa).below b6
 have R6 := Lib.hid (RA.out.below B6.out)
 have H6 := Lib.hid (HA.out.below B6.out)
 have BW := Lib.hid (Below.and BA.out B6.out)
 have l1 := (r6 W6 (Below.refl _ _)).1
 have l2 := (r6 W6 (Below.refl _ _)).2.1
 have l3 := (r6 W6 (Below.refl _ _)).2.2.1
 have l4 := (r6 W6 (Below.refl _ _)).2.2.2
 have S6 := Lib.hid s6
 clear r6 b6 e1 s6 B1
 have y0 : W6.cell? ⟨w.heap.size, 0, none⟩ = some (.int .i64 rc) := R6.out.cell 0
 have y1 : W6.cell? ⟨w.heap.size, 1, none⟩ = some (.int .i64 rn) := R6.out.cell 1
 have y2 : W6.cell? ⟨w.heap.size, 2, none⟩ = some (.int .i64 3) := R6.out.cell 2
 have y3 : W6.cell? ⟨w.heap.size, 3, none⟩ = some (.int .i64 rx) := R6.out.cell 3
 have y4 : W6.cell? ⟨w.heap.size, 4, none⟩ = some (.int .i64 ry) := R6.out.cell 4
 have z0 : W6.cell? ⟨wa.heap.size, 0, none⟩ = some (.pointer (some ⟨p, 0, none⟩)) := K6.out.cell 0
 have z1 : W6.cell? ⟨wa.heap.size, 1, none⟩ = some (.int .i64 (k : Int)) := K6.out.cell 1
 go_wp2_with (fail)
 refine (HM.out W6 H6.out).mono ?_
 unfold ActB
 rintro e wb ⟨rfl, hB, hb⟩
 have HBd := Lib.hid hB
 have HBb := Lib.hid hb
 clear hB hb
 go_wp2
 go_ret
 exact ⟨rfl, ⟨A, a, HBd.out⟩, (BW.out.mono LW.out).trans HBb.out⟩
set_option maxRecDepth 100000 in
set_option maxHeartbeats 4000000 in
theorem perfAct4 {w : World} {p lo : Nat} {A : Option Addr} {a : Nat} {B : Option Addr} {b : Nat} {C : Option Addr} {d : Nat} {E : List Fig} {F L : List Int} (h : Bd w p lo A a B b C d E F L) (he : OkE E) (rc rn rx ry : Int) (k : Nat) (hk : k < E.length) (ha : atF rc E = some k)
 (hm : ∀ w0 : World, Bd w0 p lo A a B b C d E F L → Calls Try.prog 102 #[.agg #[.pointer (some ⟨p, 0, none⟩), .int .i64 (k : Int)], .agg #[.int .i64 rc, .int .i64 rn, .int .i64 4, .int .i64 rx, .int .i64 ry]] w0 (ActB p lo A a B b C d L (actG E F L k (E[k]'hk) ⟨rc, rn, 4, rx, ry⟩) w0)) :
 Calls Try.prog 72 #[.pointer (some ⟨p, 0, none⟩), .agg #[.int .i64 rc, .int .i64 rn, .int .i64 4, .int .i64 rx, .int .i64 ry]] w (StepB p lo B b C d L (actG E F L k (E[k]'hk) ⟨rc, rn, 4, rx, ry⟩) w) := by
 have B0 : Below w.heap.size w (w.alloc (.cells #[.int .i64 rc, .int .i64 rn, .int .i64 4, .int .i64 rx, .int .i64 ry] 49)) := (Below.refl _ _).alloc (Nat.le_refl _) _
 have H0 := Lib.hid (h.below B0)
 have LW := Lib.hid h.low
 have R0 : Hid (Bkk (w.alloc (.cells #[.int .i64 rc, .int .i64 rn, .int .i64 4, .int .i64 rx, .int .i64 ry] 49)) w.heap.size 49 #[.int .i64 rc, .int .i64 rn, .int .i64 4, .int .i64 rx, .int .i64 ry]) := Bkk.new w
 have FO := Lib.hid (figureOf p A a E rc (w.alloc (.cells #[.int .i64 rc, .int .i64 rn, .int .i64 4, .int .i64 rx, .int .i64 ry] 49)) he (RdF.of_own H0.out.e) H0.out.at_.cells.1)
 rw [ha, atF_lt he ha] at FO
 have FO : Hid (Calls Try.prog 99 #[.pointer (some ⟨p, 0, none⟩), .int .i64 rc] (w.alloc (.cells #[.int .i64 rc, .int .i64 rn, .int .i64 4, .int .i64 rx, .int .i64 ry] 49)) fun r w' => r = .returned (.tuple #[.agg #[.pointer (some ⟨p, 0, none⟩), .int .i64 (k : Int)], .bool true]) ∧ Below (w.alloc (.cells #[.int .i64 rc, .int .i64 rn, .int .i64 4, .int .i64 rx, .int .i64 ry] 49)).heap.size (w.alloc (.cells #[.int .i64 rc, .int .i64 rn, .int .i64 4, .int .i64 rx, .int .i64 ry] 49)) w') := FO
 have B0 := Lib.hid B0
 have HM := Lib.hid hm
 have hmm := @run_makeMap Try.prog
 obtain ⟨X, hX⟩ : ∃ X, X = actG E F L k (E[k]'hk) ⟨rc, rn, 4, rx, ry⟩ := ⟨_, rfl⟩
 rw [← hX] at HM ⊢
 clear h he ha hm hX
 go_enter Try.func72, Try.ntmps72
 go_wp2_with (fail)
 refine FO.out.mono ?_
 rintro e wa ⟨rfl, hb⟩
 clear FO
 have BA := Lib.hid (Below.and B0.out hb)
 have HA := Lib.hid (H0.out.below hb)
 have RA := Lib.hid (R0.out.below hb)
 have lr0 : w.heap.size < wa.heap.size := by have := hb.size; simp at this; omega
 clear hb H0 R0 B0
 have x2 : wa.cell? ⟨w.heap.size, 2, none⟩ = some (.int .i64 4) := RA.out.cell 2
 obtain ⟨W3, W4, W5, W6, r2, r3, r4, r5, r6, b6, s6⟩ := acts_made (wa.alloc (.cells #[.pointer (some ⟨p, 0, none⟩), .int .i64 (k : Int)] 111))
 have e1 : (wa.alloc (.cells #[.pointer (some ⟨p, 0, none⟩), .int .i64 (k : Int)] 111)).heap.size = wa.heap.size + 1 := by simp
 rw [e1] at r2 r3 r4 r5 r6 s6
 have B1 : Below wa.heap.size wa (wa.alloc (.cells #[.pointer (some ⟨p, 0, none⟩), .int .i64 (k : Int)] 111)) := (Below.refl _ _).alloc (Nat.le_refl _) _
 have B6 := Lib.hid (Below.and B1 b6)
 have K6 : Hid (Bkk W6 wa.heap.size 111 #[.pointer (some ⟨p, 0, none⟩), .int .i64 (k : Int)]) := (Bkk.new wa).below b6
 have R6 := Lib.hid (RA.out.below B6.out)
 have H6 := Lib.hid (HA.out.below B6.out)
 have BW := Lib.hid (Below.and BA.out B6.out)
 have l1 := (r6 W6 (Below.refl _ _)).1
 have l2 := (r6 W6 (Below.refl _ _)).2.1
 have l3 := (r6 W6 (Below.refl _ _)).2.2.1
 have l4 := (r6 W6 (Below.refl _ _)).2.2.2
 have S6 := Lib.hid s6
 clear r6 b6 e1 s6 B1
 have y0 : W6.cell? ⟨w.heap.size, 0, none⟩ = some (.int .i64 rc) := R6.out.cell 0
 have y1 : W6.cell? ⟨w.heap.size, 1, none⟩ = some (.int .i64 rn) := R6.out.cell 1
 have y2 : W6.cell? ⟨w.heap.size, 2, none⟩ = some (.int .i64 4) := R6.out.cell 2
 have y3 : W6.cell? ⟨w.heap.size, 3, none⟩ = some (.int .i64 rx) := R6.out.cell 3
 have y4 : W6.cell? ⟨w.heap.size, 4, none⟩ = some (.int .i64 ry) := R6.out.cell 4
 have z0 : W6.cell? ⟨wa.heap.size, 0, none⟩ = some (.pointer (some ⟨p, 0, none⟩)) := K6.out.cell 0
 have z1 : W6.cell? ⟨wa.heap.size, 1, none⟩ = some (.int .i64 (k : Int)) := K6.out.cell 1
 go_wp2_with (fail)
 refine (HM.out W6 H6.out).mono ?_
 unfold ActB
 rintro e wb ⟨rfl, hB, hb⟩
 have HBd := Lib.hid hB
 have HBb := Lib.hid hb
 clear hB hb
 go_wp2
 go_ret
 exact ⟨rfl, ⟨A, a, HBd.out⟩, (BW.out.mono LW.out).trans HBb.out⟩
set_option maxRecDepth 100000 in
set_option maxHeartbeats 4000000 in
theorem perfAct5 {w : World} {p lo : Nat} {A : Option Addr} {a : Nat} {B : Option Addr} {b : Nat} {C : Option Addr} {d : Nat} {E : List Fig} {F L : List Int} (h : Bd w p lo A a B b C d E F L) (he : OkE E) (rc rn rx ry : Int) (k : Nat) (hk : k < E.length) (ha : atF rc E = some k)
 (hm : ∀ w0 : World, Bd w0 p lo A a B b C d E F L → Calls Try.prog 103 #[.agg #[.pointer (some ⟨p, 0, none⟩), .int .i64 (k : Int)], .agg #[.int .i64 rc, .int .i64 rn, .int .i64 5, .int .i64 rx, .int .i64 ry]] w0 (ActB p lo A a B b C d L (actG E F L k (E[k]'hk) ⟨rc, rn, 5, rx, ry⟩) w0)) :
 Calls Try.prog 72 #[.pointer (some ⟨p, 0, none⟩), .agg #[.int .i64 rc, .int .i64 rn, .int .i64 5, .int .i64 rx, .int .i64 ry]] w (StepB p lo B b C d L (actG E F L k (E[k]'hk) ⟨rc, rn, 5, rx, ry⟩) w) := by
 have B0 : Below w.heap.size w (w.alloc (.cells #[.int .i64 rc, .int .i64 rn, .int .i64 5, .int .i64 rx, .int .i64 ry] 49)) := (Below.refl _ _).alloc (Nat.le_refl _) _
 have H0 := Lib.hid (h.below B0)
 have LW := Lib.hid h.low
 have R0 : Hid (Bkk (w.alloc (.cells #[.int .i64 rc, .int .i64 rn, .int .i64 5, .int .i64 rx, .int .i64 ry] 49)) w.heap.size 49 #[.int .i64 rc, .int .i64 rn, .int .i64 5, .int .i64 rx, .int .i64 ry]) := Bkk.new w
 have FO := Lib.hid (figureOf p A a E rc (w.alloc (.cells #[.int .i64 rc, .int .i64 rn, .int .i64 5, .int .i64 rx, .int .i64 ry] 49)) he (RdF.of_own H0.out.e) H0.out.at_.cells.1)
 rw [ha, atF_lt he ha] at FO
 have FO : Hid (Calls Try.prog 99 #[.pointer (some ⟨p, 0, none⟩), .int .i64 rc] (w.alloc (.cells #[.int .i64 rc, .int .i64 rn, .int .i64 5, .int .i64 rx, .int .i64 ry] 49)) fun r w' => r = .returned (.tuple #[.agg #[.pointer (some ⟨p, 0, none⟩), .int .i64 (k : Int)], .bool true]) ∧ Below (w.alloc (.cells #[.int .i64 rc, .int .i64 rn, .int .i64 5, .int .i64 rx, .int .i64 ry] 49)).heap.size (w.alloc (.cells #[.int .i64 rc, .int .i64 rn, .int .i64 5, .int .i64 rx, .int .i64 ry] 49)) w') := FO
 have B0 := Lib.hid B0
 have HM := Lib.hid hm
 have hmm := @run_makeMap Try.prog
 obtain ⟨X, hX⟩ : ∃ X, X = actG E F L k (E[k]'hk) ⟨rc, rn, 5, rx, ry⟩ := ⟨_, rfl⟩
 rw [← hX] at HM ⊢
 clear h he ha hm hX
 go_enter Try.func72, Try.ntmps72
 go_wp2_with (fail)
 refine FO.out.mono ?_
 rintro e wa ⟨rfl, hb⟩
 clear FO
 have BA := Lib.hid (Below.and B0.out hb)
 have HA := Lib.hid (H0.out.below hb)
 have RA := Lib.hid (R0.out.below hb)
 have lr0 : w.heap.size < wa.heap.size := by have := hb.size; simp at this; omega
 clear hb H0 R0 B0
 have x2 : wa.cell? ⟨w.heap.size, 2, none⟩ = some (.int .i64 5) := RA.out.cell 2
 obtain ⟨W3, W4, W5, W6, r2, r3, r4, r5, r6, b6, s6⟩ := acts_made (wa.alloc (.cells #[.pointer (some ⟨p, 0, none⟩), .int .i64 (k : Int)] 111))
 have e1 : (wa.alloc (.cells #[.pointer (some ⟨p, 0, none⟩), .int .i64 (k : Int)] 111)).heap.size = wa.heap.size + 1 := by simp
 rw [e1] at r2 r3 r4 r5 r6 s6
 have B1 : Below wa.heap.size wa (wa.alloc (.cells #[.pointer (some ⟨p, 0, none⟩), .int .i64 (k : Int)] 111)) := (Below.refl _ _).alloc (Nat.le_refl _) _
 have B6 := Lib.hid (Below.and B1 b6)
 have K6 : Hid (Bkk W6 wa.heap.size 111 #[.pointer (some ⟨p, 0, none⟩), .int .i64 (k : Int)]) := (Bkk.new wa).below b6
 have R6 := Lib.hid (RA.out.below B6.out)
 have H6 := Lib.hid (HA.out.below B6.out)
 have BW := Lib.hid (Below.and BA.out B6.out)
 have l1 := (r6 W6 (Below.refl _ _)).1
 have l2 := (r6 W6 (Below.refl _ _)).2.1
 have l3 := (r6 W6 (Below.refl _ _)).2.2.1
 have l4 := (r6 W6 (Below.refl _ _)).2.2.2
 have S6 := Lib.hid s6
 clear r6 b6 e1 s6 B1
 have y0 : W6.cell? ⟨w.heap.size, 0, none⟩ = some (.int .i64 rc) := R6.out.cell 0
 have y1 : W6.cell? ⟨w.heap.size, 1, none⟩ = some (.int .i64 rn) := R6.out.cell 1
 have y2 : W6.cell? ⟨w.heap.size, 2, none⟩ = some (.int .i64 5) := R6.out.cell 2
 have y3 : W6.cell? ⟨w.heap.size, 3, none⟩ = some (.int .i64 rx) := R6.out.cell 3
 have y4 : W6.cell? ⟨w.heap.size, 4, none⟩ = some (.int .i64 ry) := R6.out.cell 4
 have z0 : W6.cell? ⟨wa.heap.size, 0, none⟩ = some (.pointer (some ⟨p, 0, none⟩)) := K6.out.cell 0
 have z1 : W6.cell? ⟨wa.heap.size, 1, none⟩ = some (.int .i64 (k : Int)) := K6.out.cell 1
 go_wp2_with (fail)
 refine (HM.out W6 H6.out).mono ?_
 unfold ActB
 rintro e wb ⟨rfl, hB, hb⟩
 have HBd := Lib.hid hB
 have HBb := Lib.hid hb
 clear hB hb
 go_wp2
 go_ret
 exact ⟨rfl, ⟨A, a, HBd.out⟩, (BW.out.mono LW.out).trans HBb.out⟩
set_option maxRecDepth 100000 in
set_option maxHeartbeats 2000000 in
theorem perfOff {w : World} {p lo : Nat} {A : Option Addr} {a : Nat} {B : Option Addr} {b : Nat} {C : Option Addr} {d : Nat} {E : List Fig} {F L : List Int} (h : Bd w p lo A a B b C d E F L) (he : OkE E) (rc rn ro rx ry : Int) (ho : ro ≠ 1) (ha : atF rc E = none) :
 Calls Try.prog 72 #[.pointer (some ⟨p, 0, none⟩), .agg #[.int .i64 rc, .int .i64 rn, .int .i64 ro, .int .i64 rx, .int .i64 ry]] w (StepB p lo B b C d L ((E, F, L), 5) w) := by
 have B0 : Below w.heap.size w (w.alloc (.cells #[.int .i64 rc, .int .i64 rn, .int .i64 ro, .int .i64 rx, .int .i64 ry] 49)) := (Below.refl _ _).alloc (Nat.le_refl _) _
 have H0 := Lib.hid (h.below B0)
 have LW := Lib.hid h.low
 have R0 : Hid (Bkk (w.alloc (.cells #[.int .i64 rc, .int .i64 rn, .int .i64 ro, .int .i64 rx, .int .i64 ry] 49)) w.heap.size 49 #[.int .i64 rc, .int .i64 rn, .int .i64 ro, .int .i64 rx, .int .i64 ry]) := Bkk.new w
 have FO := Lib.hid (figureOf p A a E rc (w.alloc (.cells #[.int .i64 rc, .int .i64 rn, .int .i64 ro, .int .i64 rx, .int .i64 ry] 49)) he (RdF.of_own H0.out.e) H0.out.at_.cells.1)
 rw [ha] at FO
 have FO : Hid (Calls Try.prog 99 #[.pointer (some ⟨p, 0, none⟩), .int .i64 rc] (w.alloc (.cells #[.int .i64 rc, .int .i64 rn, .int .i64 ro, .int .i64 rx, .int .i64 ry] 49)) fun r w' => r = .returned (.tuple #[.agg #[.pointer (some ⟨p, 0, none⟩), .int .i64 ((ltF rc E : Nat) : Int)], .bool false]) ∧ Below (w.alloc (.cells #[.int .i64 rc, .int .i64 rn, .int .i64 ro, .int .i64 rx, .int .i64 ry] 49)).heap.size (w.alloc (.cells #[.int .i64 rc, .int .i64 rn, .int .i64 ro, .int .i64 rx, .int .i64 ry] 49)) w') := FO
 have B0 := Lib.hid B0
 have e1 : (ro == 1) = false := by simpa using ho
 clear h he ha
 go_enter Try.func72, Try.ntmps72
 go_wp2_with (fail)
 refine FO.out.mono ?_
 rintro e wa ⟨rfl, hb⟩
 clear FO
 have BA := Lib.hid (Below.and B0.out hb)
 have HA := Lib.hid (H0.out.below hb)
 have HC := Lib.hid (HA.out.below ((Below.refl wa.heap.size wa).alloc (Nat.le_refl _) (.cells #[.pointer (some ⟨p, 0, none⟩), .int .i64 ((ltF rc E : Nat) : Int)] 111)))
 clear hb H0 R0 B0
 go_wp2
 go_ret
 exact ⟨rfl, ⟨A, a, HC.out⟩, (BA.out.mono LW.out).alloc (Nat.le_trans LW.out BA.out.size) _⟩
set_option maxRecDepth 100000 in
set_option maxHeartbeats 2000000 in
theorem perfJoin {w : World} {p lo : Nat} {A : Option Addr} {a : Nat} {B : Option Addr} {b : Nat} {C : Option Addr} {d : Nat} {E : List Fig} {F L : List Int} (h : Bd w p lo A a B b C d E F L) (he : OkE E) (rc rn rx ry : Int) (X : Gm × Int)
 (hj : ∀ w0 : World, Bd w0 p lo A a B b C d E F L → Calls Try.prog 98 #[.pointer (some ⟨p, 0, none⟩), .int .i64 rc] w0 (StepB p lo B b C d L X w0)) :
 Calls Try.prog 72 #[.pointer (some ⟨p, 0, none⟩), .agg #[.int .i64 rc, .int .i64 rn, .int .i64 1, .int .i64 rx, .int .i64 ry]] w (StepB p lo B b C d L X w) := by
 have B0 : Below w.heap.size w (w.alloc (.cells #[.int .i64 rc, .int .i64 rn, .int .i64 1, .int .i64 rx, .int .i64 ry] 49)) := (Below.refl _ _).alloc (Nat.le_refl _) _
 have H0 := Lib.hid (h.below B0)
 have LW := Lib.hid h.low
 have B0 := Lib.hid B0
 have HJ := Lib.hid hj
 clear h he hj
 go_enter Try.func72, Try.ntmps72
 go_wp2_with (fail)
 refine (HJ.out _ H0.out).mono ?_
 unfold StepB
 rintro e wa ⟨rfl, hB, hb⟩
 have HBd := Lib.hid hB
 have HBb := Lib.hid hb
 clear hB hb
 go_wp2
 go_ret
 exact ⟨rfl, HBd.out, (B0.out.mono LW.out).trans HBb.out⟩
theorem performI {w : World} {p lo : Nat} {A : Option Addr} {a : Nat} {B : Option Addr} {b : Nat} {C : Option Addr} {d : Nat} {E : List Fig} {F L : List Int} (h : Bd w p lo A a B b C d E F L) (he : OkE E) (hf : OkF F) (rc rn ro rx ry : Int) (hr : reqB rc rn ro rx ry = true) :
 Calls Try.prog 72 #[.pointer (some ⟨p, 0, none⟩), .agg #[.int .i64 rc, .int .i64 rn, .int .i64 ro, .int .i64 rx, .int .i64 ry]] w (StepB p lo B b C d L (perfG E F L ⟨rc, rn, ro, rx, ry⟩) w) := by
 simp only [reqB, inB, Bool.and_eq_true, decide_eq_true_eq] at hr
 obtain ⟨hc, hn, hs⟩ := hr
 by_cases h1 : ro = 1
 · subst h1
   rcases hat : atF rc E with _ | k
   · have hA : perfG E F L ⟨rc, rn, 1, rx, ry⟩ = ((E.take (ltF rc E) ++ ⟨rc, rc - 1, rc - 1, 3, 0⟩ :: E.drop (ltF rc E), F, L), 0) := by simp [perfG, hat]
     rw [hA]
     exact perfJoin h he rc rn rx ry _ (fun w0 h0 => joinYes h0 he rc hc hat)
   · have hA : perfG E F L ⟨rc, rn, 1, rx, ry⟩ = ((E, F, L), 4) := by simp [perfG, hat]
     rw [hA]
     exact perfJoin h he rc rn rx ry _ (fun w0 h0 => joinNo h0 he rc k hat)
 rcases hat : atF rc E with _ | k
 · have hA : perfG E F L ⟨rc, rn, ro, rx, ry⟩ = ((E, F, L), 5) := by simp [perfG, hat, h1]
   rw [hA]
   exact perfOff h he rc rn ro rx ry h1 hat
 obtain ⟨hk, _, _⟩ := atF_some hat
 have hA : perfG E F L ⟨rc, rn, ro, rx, ry⟩ = actG E F L k (E[k]'hk) ⟨rc, rn, ro, rx, ry⟩ := by simp [perfG, hat, h1, List.getElem?_eq_getElem hk]
 rw [hA]
 by_cases h2 : ro = 2
 · subst h2
   simp [shapeB, inB] at hs
   exact perfAct2 h he rc rn rx ry k hk hat (fun w0 h0 => moveAllI h0 he k hk rc rn rx ry (by omega))
 by_cases h3 : ro = 3
 · subst h3
   exact perfAct3 h he rc rn rx ry k hk hat (fun w0 h0 => takeAllI h0 he k hk rc rn rx ry hf)
 by_cases h4 : ro = 4
 · subst h4
   exact perfAct4 h he rc rn rx ry k hk hat (fun w0 h0 => hitWhole h0 he k hk rc rn rx ry hf)
 by_cases h5 : ro = 5
 · subst h5
   simp [shapeB, inB] at hs
   exact perfAct5 h he rc rn rx ry k hk hat (fun w0 h0 => giveAllI h0 he k hk rc rn rx ry (by omega))
 · simp [shapeB, h1, h2, h3, h4, h5] at hs
end Go.Proofs.Ytameldhdegcpoaa
