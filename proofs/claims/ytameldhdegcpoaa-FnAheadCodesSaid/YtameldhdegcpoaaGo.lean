import Derived.Test.YtameldhdegcpoaaGn
namespace Go.Proofs.Ytameldhdegcpoaa
open Go.ChangeShapes Go.WideShapes Go.ChangeAt Go.RowKit
set_option linter.unusedVariables false
set_option linter.unusedSimpArgs false
theorem own_setFig {w : World} {base : Nat} {e : TypeId} {q n c : Nat} {E : List Fig} (h : w.ownsRow base e 5 (.slice (some ⟨q, 0, none⟩) n c) n (figs E)) (k : Nat) (hk : k < E.length) (f : Fig) :
 (((((w.setCell ⟨q, k * 5, none⟩ (.int .i64 f.c)).setCell ⟨q, k * 5 + 1, none⟩ (.int .i64 f.x)).setCell ⟨q, k * 5 + 2, none⟩ (.int .i64 f.y)).setCell ⟨q, k * 5 + 3, none⟩ (.int .i64 f.l)).setCell ⟨q, k * 5 + 4, none⟩ (.int .i64 f.g)).ownsRow base e 5 (.slice (some ⟨q, 0, none⟩) n c) n (figs (E.set k f)) := by
 have key : ∀ {wz : World} {G : List Fig} (hz : wz.ownsRow base e 5 (.slice (some ⟨q, 0, none⟩) n c) n (figs G)) (j : Nat) (hj : j < 5) (hG : k < G.length) (u : Value) (f' : Fig), f'.cells = (G[k]'hG).cells.set j u → (wz.setCell ⟨q, k * 5 + j, none⟩ u).ownsRow base e 5 (.slice (some ⟨q, 0, none⟩) n c) n (figs (G.set k f')) := by
  intro wz G hz j hj hG u f' hf
  have h1 := (own_set1 (k * 5 + j) u (by rw [figs_length]; omega) hz).1
  rwa [figs_set G k j hG hj u f' hf] at h1
 obtain ⟨fc, fx, fy, fl, fg⟩ := f
 obtain ⟨o, ho⟩ : ∃ o, E[k] = o := ⟨_, rfl⟩
 obtain ⟨oc, ox, oy, ol, og⟩ := o
 have s0 := key h 0 (by omega) hk (.int .i64 fc) ⟨fc, ox, oy, ol, og⟩ (by rw [ho]; rfl)
 have s1 := key s0 1 (by omega) (by simpa using hk) (.int .i64 fx) ⟨fc, fx, oy, ol, og⟩ (by rw [List.getElem_set_self]; rfl)
 have s2 := key s1 2 (by omega) (by simpa using hk) (.int .i64 fy) ⟨fc, fx, fy, ol, og⟩ (by rw [List.getElem_set_self]; rfl)
 have s3 := key s2 3 (by omega) (by simpa using hk) (.int .i64 fl) ⟨fc, fx, fy, fl, og⟩ (by rw [List.getElem_set_self]; rfl)
 have s4 := key s3 4 (by omega) (by simpa using hk) (.int .i64 fg) ⟨fc, fx, fy, fl, fg⟩ (by rw [List.getElem_set_self]; rfl)
 simp only [List.set_set] at s4
 exact s4
set_option maxRecDepth 100000 in
set_option maxHeartbeats 4000000 in
theorem actEdgeX (g : Nat) (a : Nat) (B : Option Addr) (b : Nat) (C : Option Addr) (d : Nat) (E : List Fig) (F L : List Int) (k : Nat) (rc rn ro rx ry kc kx k_y kl kg : Int) (w : World) (hE : E.length ≤ 4) (hk : k < E.length) (hfk : E[k]'hk = ⟨kc, kx, k_y, kl, kg⟩) (b1 : 0 ≤ kx ∧ kx ≤ 3) (b2 : 0 ≤ k_y ∧ k_y ≤ 3) (b3 : 0 ≤ kg ∧ kg ≤ 20) (ho : ro = 2) (hx : -1 ≤ rx ∧ rx ≤ 1) (h1 : inB (kx + rx) 0 3 = false) (hg : GmR w (some ⟨g, 0, none⟩) a B b C d E F L) :
 Calls Try.prog 88 #[gameV (some ⟨g, 0, none⟩) E.length a B F.length b C L.length d, .int .i64 (k : Int), .agg #[.int .i64 rc, .int .i64 rn, .int .i64 ro, .int .i64 rx, .int .i64 ry]] w fun e w' => e = .returned (.tuple #[gameV (some ⟨g, 0, none⟩) E.length a B F.length b C L.length d, .int .i64 6]) ∧ Below w.heap.size w w' := by
 have BW : Hid (Below w.heap.size w ((((w.alloc (.cells #[.slice (some ⟨g, 0, none⟩) E.length a, .slice B F.length b, .slice C L.length d] 29)).alloc (.cells #[.int .i64 rc, .int .i64 rn, .int .i64 ro, .int .i64 rx, .int .i64 ry] 49)).alloc (.cells #[.slice none 0 0, .slice none 0 0, .slice none 0 0] 29)).alloc (.cells #[.int .i64 kc, .int .i64 kx, .int .i64 k_y, .int .i64 kl, .int .i64 kg] 72))) := (((below_alloc2 w _ _).alloc (by simp; omega) _).alloc (by simp; omega) _)
 have HSW : Hid (((((w.alloc (.cells #[.slice (some ⟨g, 0, none⟩) E.length a, .slice B F.length b, .slice C L.length d] 29)).alloc (.cells #[.int .i64 rc, .int .i64 rn, .int .i64 ro, .int .i64 rx, .int .i64 ry] 49)).alloc (.cells #[.slice none 0 0, .slice none 0 0, .slice none 0 0] 29)).alloc (.cells #[.int .i64 kc, .int .i64 kx, .int .i64 k_y, .int .i64 kl, .int .i64 kg] 72)).heap.size = w.heap.size + 4) := by show _ = _; simp
 have K0 : Hid (Three ((((w.alloc (.cells #[.slice (some ⟨g, 0, none⟩) E.length a, .slice B F.length b, .slice C L.length d] 29)).alloc (.cells #[.int .i64 rc, .int .i64 rn, .int .i64 ro, .int .i64 rx, .int .i64 ry] 49)).alloc (.cells #[.slice none 0 0, .slice none 0 0, .slice none 0 0] 29)).alloc (.cells #[.int .i64 kc, .int .i64 kx, .int .i64 k_y, .int .i64 kl, .int .i64 kg] 72)) w.heap.size 29 (.slice (some ⟨g, 0, none⟩) E.length a) (.slice B F.length b) (.slice C L.length d)) := (((Three.new w).alloc _).alloc _).alloc _
 have KR : Hid (Bkk ((((w.alloc (.cells #[.slice (some ⟨g, 0, none⟩) E.length a, .slice B F.length b, .slice C L.length d] 29)).alloc (.cells #[.int .i64 rc, .int .i64 rn, .int .i64 ro, .int .i64 rx, .int .i64 ry] 49)).alloc (.cells #[.slice none 0 0, .slice none 0 0, .slice none 0 0] 29)).alloc (.cells #[.int .i64 kc, .int .i64 kx, .int .i64 k_y, .int .i64 kl, .int .i64 kg] 72)) (w.heap.size + 1) 49 #[.int .i64 rc, .int .i64 rn, .int .i64 ro, .int .i64 rx, .int .i64 ry]) := by have := ((Bkk.new (t := 49) (cs := #[.int .i64 rc, .int .i64 rn, .int .i64 ro, .int .i64 rx, .int .i64 ry]) (w.alloc (.cells #[.slice (some ⟨g, 0, none⟩) E.length a, .slice B F.length b, .slice C L.length d] 29))).alloc (.cells #[.slice none 0 0, .slice none 0 0, .slice none 0 0] 29)).alloc (.cells #[.int .i64 kc, .int .i64 kx, .int .i64 k_y, .int .i64 kl, .int .i64 kg] 72); simpa [Hid] using this
 have K1 : Hid (Three ((((w.alloc (.cells #[.slice (some ⟨g, 0, none⟩) E.length a, .slice B F.length b, .slice C L.length d] 29)).alloc (.cells #[.int .i64 rc, .int .i64 rn, .int .i64 ro, .int .i64 rx, .int .i64 ry] 49)).alloc (.cells #[.slice none 0 0, .slice none 0 0, .slice none 0 0] 29)).alloc (.cells #[.int .i64 kc, .int .i64 kx, .int .i64 k_y, .int .i64 kl, .int .i64 kg] 72)) (w.heap.size + 1 + 1) 29 (.slice none 0 0) (.slice none 0 0) (.slice none 0 0)) := by have := (Three.new (t := 29) (u0 := .slice none 0 0) (u1 := .slice none 0 0) (u2 := .slice none 0 0) ((w.alloc (.cells #[.slice (some ⟨g, 0, none⟩) E.length a, .slice B F.length b, .slice C L.length d] 29)).alloc (.cells #[.int .i64 rc, .int .i64 rn, .int .i64 ro, .int .i64 rx, .int .i64 ry] 49))).alloc (.cells #[.int .i64 kc, .int .i64 kx, .int .i64 k_y, .int .i64 kl, .int .i64 kg] 72); simpa [Hid] using this
 have KE : Hid (Bkk ((((w.alloc (.cells #[.slice (some ⟨g, 0, none⟩) E.length a, .slice B F.length b, .slice C L.length d] 29)).alloc (.cells #[.int .i64 rc, .int .i64 rn, .int .i64 ro, .int .i64 rx, .int .i64 ry] 49)).alloc (.cells #[.slice none 0 0, .slice none 0 0, .slice none 0 0] 29)).alloc (.cells #[.int .i64 kc, .int .i64 kx, .int .i64 k_y, .int .i64 kl, .int .i64 kg] 72)) (w.heap.size + 1 + 1 + 1) 72 #[.int .i64 kc, .int .i64 kx, .int .i64 k_y, .int .i64 kl, .int .i64 kg]) := by have := Bkk.new (t := 72) (cs := #[.int .i64 kc, .int .i64 kx, .int .i64 k_y, .int .i64 kl, .int .i64 kg]) (((w.alloc (.cells #[.slice (some ⟨g, 0, none⟩) E.length a, .slice B F.length b, .slice C L.length d] 29)).alloc (.cells #[.int .i64 rc, .int .i64 rn, .int .i64 ro, .int .i64 rx, .int .i64 ry] 49)).alloc (.cells #[.slice none 0 0, .slice none 0 0, .slice none 0 0] 29)); simpa [Hid] using this
 have HG0 := Lib.hid hg
 obtain ⟨g', hg', a0, a1, a2, a3, a4⟩ := (hg.below ((below_alloc2 w (.cells #[.slice (some ⟨g, 0, none⟩) E.length a, .slice B F.length b, .slice C L.length d] 29) (.cells #[.int .i64 rc, .int .i64 rn, .int .i64 ro, .int .i64 rx, .int .i64 ry] 49)).alloc (by simp; omega) (.cells #[.slice none 0 0, .slice none 0 0, .slice none 0 0] 29))).rE k hk
 cases hg'
 rw [hfk] at a0 a1 a2 a3 a4
 simp only at a0 a1 a2 a3 a4
 have gl : g < w.heap.size + 1 + 1 + 1 := by have := World.block_lt_of_cell? _ _ a0; simpa using this
 have i0 : (0 : Int) ≤ (k : Int) := by omega
 have i1 : (k : Int) < (E.length : Int) := by omega
 have HFK := Lib.hid hfk
 subst ho
 have q1 : IntKind.i64.wrap (kx + rx) = kx + rx := IntWalk.i64_in _ (by omega)
 clear hg hfk
 unfold gameV
 go_enter Try.func88, Try.ntmps88
 go_wp2_with (go_at_call 79; refine (specIn _ _ _ _).mono ?_; rintro e w' ⟨rfl, rfl⟩; first | rw [h1])
 refine bodyPost_ret (v := .tuple #[.agg #[.slice (some ⟨g, 0, none⟩) E.length a, .slice B F.length b, .slice C L.length d], .int .i64 6]) (by simp [results, Try.results88, go_sem]) rfl ⟨rfl, ?_⟩
 exact (((below_alloc2 w _ _).alloc (by simp; omega) _).alloc (by simp; omega) _)
set_option maxRecDepth 100000 in
set_option maxHeartbeats 4000000 in
theorem actEdgeY (g : Nat) (a : Nat) (B : Option Addr) (b : Nat) (C : Option Addr) (d : Nat) (E : List Fig) (F L : List Int) (k : Nat) (rc rn ro rx ry kc kx k_y kl kg : Int) (w : World) (hE : E.length ≤ 4) (hk : k < E.length) (hfk : E[k]'hk = ⟨kc, kx, k_y, kl, kg⟩) (b1 : 0 ≤ kx ∧ kx ≤ 3) (b2 : 0 ≤ k_y ∧ k_y ≤ 3) (b3 : 0 ≤ kg ∧ kg ≤ 20) (ho : ro = 2) (hx : -1 ≤ rx ∧ rx ≤ 1) (hy : -1 ≤ ry ∧ ry ≤ 1) (h1 : inB (kx + rx) 0 3 = true) (h2 : inB (k_y + ry) 0 3 = false) (hg : GmR w (some ⟨g, 0, none⟩) a B b C d E F L) :
 Calls Try.prog 88 #[gameV (some ⟨g, 0, none⟩) E.length a B F.length b C L.length d, .int .i64 (k : Int), .agg #[.int .i64 rc, .int .i64 rn, .int .i64 ro, .int .i64 rx, .int .i64 ry]] w fun e w' => e = .returned (.tuple #[gameV (some ⟨g, 0, none⟩) E.length a B F.length b C L.length d, .int .i64 6]) ∧ Below w.heap.size w w' := by
 have BW : Hid (Below w.heap.size w ((((w.alloc (.cells #[.slice (some ⟨g, 0, none⟩) E.length a, .slice B F.length b, .slice C L.length d] 29)).alloc (.cells #[.int .i64 rc, .int .i64 rn, .int .i64 ro, .int .i64 rx, .int .i64 ry] 49)).alloc (.cells #[.slice none 0 0, .slice none 0 0, .slice none 0 0] 29)).alloc (.cells #[.int .i64 kc, .int .i64 kx, .int .i64 k_y, .int .i64 kl, .int .i64 kg] 72))) := (((below_alloc2 w _ _).alloc (by simp; omega) _).alloc (by simp; omega) _)
 have HSW : Hid (((((w.alloc (.cells #[.slice (some ⟨g, 0, none⟩) E.length a, .slice B F.length b, .slice C L.length d] 29)).alloc (.cells #[.int .i64 rc, .int .i64 rn, .int .i64 ro, .int .i64 rx, .int .i64 ry] 49)).alloc (.cells #[.slice none 0 0, .slice none 0 0, .slice none 0 0] 29)).alloc (.cells #[.int .i64 kc, .int .i64 kx, .int .i64 k_y, .int .i64 kl, .int .i64 kg] 72)).heap.size = w.heap.size + 4) := by show _ = _; simp
 have K0 : Hid (Three ((((w.alloc (.cells #[.slice (some ⟨g, 0, none⟩) E.length a, .slice B F.length b, .slice C L.length d] 29)).alloc (.cells #[.int .i64 rc, .int .i64 rn, .int .i64 ro, .int .i64 rx, .int .i64 ry] 49)).alloc (.cells #[.slice none 0 0, .slice none 0 0, .slice none 0 0] 29)).alloc (.cells #[.int .i64 kc, .int .i64 kx, .int .i64 k_y, .int .i64 kl, .int .i64 kg] 72)) w.heap.size 29 (.slice (some ⟨g, 0, none⟩) E.length a) (.slice B F.length b) (.slice C L.length d)) := (((Three.new w).alloc _).alloc _).alloc _
 have KR : Hid (Bkk ((((w.alloc (.cells #[.slice (some ⟨g, 0, none⟩) E.length a, .slice B F.length b, .slice C L.length d] 29)).alloc (.cells #[.int .i64 rc, .int .i64 rn, .int .i64 ro, .int .i64 rx, .int .i64 ry] 49)).alloc (.cells #[.slice none 0 0, .slice none 0 0, .slice none 0 0] 29)).alloc (.cells #[.int .i64 kc, .int .i64 kx, .int .i64 k_y, .int .i64 kl, .int .i64 kg] 72)) (w.heap.size + 1) 49 #[.int .i64 rc, .int .i64 rn, .int .i64 ro, .int .i64 rx, .int .i64 ry]) := by have := ((Bkk.new (t := 49) (cs := #[.int .i64 rc, .int .i64 rn, .int .i64 ro, .int .i64 rx, .int .i64 ry]) (w.alloc (.cells #[.slice (some ⟨g, 0, none⟩) E.length a, .slice B F.length b, .slice C L.length d] 29))).alloc (.cells #[.slice none 0 0, .slice none 0 0, .slice none 0 0] 29)).alloc (.cells #[.int .i64 kc, .int .i64 kx, .int .i64 k_y, .int .i64 kl, .int .i64 kg] 72); simpa [Hid] using this
 have K1 : Hid (Three ((((w.alloc (.cells #[.slice (some ⟨g, 0, none⟩) E.length a, .slice B F.length b, .slice C L.length d] 29)).alloc (.cells #[.int .i64 rc, .int .i64 rn, .int .i64 ro, .int .i64 rx, .int .i64 ry] 49)).alloc (.cells #[.slice none 0 0, .slice none 0 0, .slice none 0 0] 29)).alloc (.cells #[.int .i64 kc, .int .i64 kx, .int .i64 k_y, .int .i64 kl, .int .i64 kg] 72)) (w.heap.size + 1 + 1) 29 (.slice none 0 0) (.slice none 0 0) (.slice none 0 0)) := by have := (Three.new (t := 29) (u0 := .slice none 0 0) (u1 := .slice none 0 0) (u2 := .slice none 0 0) ((w.alloc (.cells #[.slice (some ⟨g, 0, none⟩) E.length a, .slice B F.length b, .slice C L.length d] 29)).alloc (.cells #[.int .i64 rc, .int .i64 rn, .int .i64 ro, .int .i64 rx, .int .i64 ry] 49))).alloc (.cells #[.int .i64 kc, .int .i64 kx, .int .i64 k_y, .int .i64 kl, .int .i64 kg] 72); simpa [Hid] using this
 have KE : Hid (Bkk ((((w.alloc (.cells #[.slice (some ⟨g, 0, none⟩) E.length a, .slice B F.length b, .slice C L.length d] 29)).alloc (.cells #[.int .i64 rc, .int .i64 rn, .int .i64 ro, .int .i64 rx, .int .i64 ry] 49)).alloc (.cells #[.slice none 0 0, .slice none 0 0, .slice none 0 0] 29)).alloc (.cells #[.int .i64 kc, .int .i64 kx, .int .i64 k_y, .int .i64 kl, .int .i64 kg] 72)) (w.heap.size + 1 + 1 + 1) 72 #[.int .i64 kc, .int .i64 kx, .int .i64 k_y, .int .i64 kl, .int .i64 kg]) := by have := Bkk.new (t := 72) (cs := #[.int .i64 kc, .int .i64 kx, .int .i64 k_y, .int .i64 kl, .int .i64 kg]) (((w.alloc (.cells #[.slice (some ⟨g, 0, none⟩) E.length a, .slice B F.length b, .slice C L.length d] 29)).alloc (.cells #[.int .i64 rc, .int .i64 rn, .int .i64 ro, .int .i64 rx, .int .i64 ry] 49)).alloc (.cells #[.slice none 0 0, .slice none 0 0, .slice none 0 0] 29)); simpa [Hid] using this
 have HG0 := Lib.hid hg
 obtain ⟨g', hg', a0, a1, a2, a3, a4⟩ := (hg.below ((below_alloc2 w (.cells #[.slice (some ⟨g, 0, none⟩) E.length a, .slice B F.length b, .slice C L.length d] 29) (.cells #[.int .i64 rc, .int .i64 rn, .int .i64 ro, .int .i64 rx, .int .i64 ry] 49)).alloc (by simp; omega) (.cells #[.slice none 0 0, .slice none 0 0, .slice none 0 0] 29))).rE k hk
 cases hg'
 rw [hfk] at a0 a1 a2 a3 a4
 simp only at a0 a1 a2 a3 a4
 have gl : g < w.heap.size + 1 + 1 + 1 := by have := World.block_lt_of_cell? _ _ a0; simpa using this
 have i0 : (0 : Int) ≤ (k : Int) := by omega
 have i1 : (k : Int) < (E.length : Int) := by omega
 have HFK := Lib.hid hfk
 subst ho
 have q1 : IntKind.i64.wrap (kx + rx) = kx + rx := IntWalk.i64_in _ (by omega)
 have q2 : IntKind.i64.wrap (k_y + ry) = k_y + ry := IntWalk.i64_in _ (by omega)
 clear hg hfk
 unfold gameV
 go_enter Try.func88, Try.ntmps88
 go_wp2_with (go_at_call 79; refine (specIn _ _ _ _).mono ?_; rintro e w' ⟨rfl, rfl⟩; first | rw [h1] | rw [h2])
 refine bodyPost_ret (v := .tuple #[.agg #[.slice (some ⟨g, 0, none⟩) E.length a, .slice B F.length b, .slice C L.length d], .int .i64 6]) (by simp [results, Try.results88, go_sem]) rfl ⟨rfl, ?_⟩
 exact (((below_alloc2 w _ _).alloc (by simp; omega) _).alloc (by simp; omega) _)
set_option maxRecDepth 100000 in
set_option maxHeartbeats 4000000 in
theorem actPoor (g : Nat) (a : Nat) (B : Option Addr) (b : Nat) (C : Option Addr) (d : Nat) (E : List Fig) (F L : List Int) (k : Nat) (rc rn ro rx ry kc kx k_y kl kg : Int) (w : World) (hE : E.length ≤ 4) (hk : k < E.length) (hfk : E[k]'hk = ⟨kc, kx, k_y, kl, kg⟩) (b1 : 0 ≤ kx ∧ kx ≤ 3) (b2 : 0 ≤ k_y ∧ k_y ≤ 3) (b3 : 0 ≤ kg ∧ kg ≤ 20) (ho : ro = 3) (j : Nat) (v : Int) (hF : F.length = 16) (hj : k_y * 4 + kx = (j : Int)) (hjl : j < F.length) (hv : F[j]'hjl = v) (b5 : 0 ≤ v ∧ v ≤ 20) (h1 : v = 0) (hg : GmR w (some ⟨g, 0, none⟩) a B b C d E F L) :
 Calls Try.prog 88 #[gameV (some ⟨g, 0, none⟩) E.length a B F.length b C L.length d, .int .i64 (k : Int), .agg #[.int .i64 rc, .int .i64 rn, .int .i64 ro, .int .i64 rx, .int .i64 ry]] w fun e w' => e = .returned (.tuple #[gameV (some ⟨g, 0, none⟩) E.length a B F.length b C L.length d, .int .i64 7]) ∧ Below w.heap.size w w' := by
 have BW : Hid (Below w.heap.size w ((((w.alloc (.cells #[.slice (some ⟨g, 0, none⟩) E.length a, .slice B F.length b, .slice C L.length d] 29)).alloc (.cells #[.int .i64 rc, .int .i64 rn, .int .i64 ro, .int .i64 rx, .int .i64 ry] 49)).alloc (.cells #[.slice none 0 0, .slice none 0 0, .slice none 0 0] 29)).alloc (.cells #[.int .i64 kc, .int .i64 kx, .int .i64 k_y, .int .i64 kl, .int .i64 kg] 72))) := (((below_alloc2 w _ _).alloc (by simp; omega) _).alloc (by simp; omega) _)
 have HSW : Hid (((((w.alloc (.cells #[.slice (some ⟨g, 0, none⟩) E.length a, .slice B F.length b, .slice C L.length d] 29)).alloc (.cells #[.int .i64 rc, .int .i64 rn, .int .i64 ro, .int .i64 rx, .int .i64 ry] 49)).alloc (.cells #[.slice none 0 0, .slice none 0 0, .slice none 0 0] 29)).alloc (.cells #[.int .i64 kc, .int .i64 kx, .int .i64 k_y, .int .i64 kl, .int .i64 kg] 72)).heap.size = w.heap.size + 4) := by show _ = _; simp
 have K0 : Hid (Three ((((w.alloc (.cells #[.slice (some ⟨g, 0, none⟩) E.length a, .slice B F.length b, .slice C L.length d] 29)).alloc (.cells #[.int .i64 rc, .int .i64 rn, .int .i64 ro, .int .i64 rx, .int .i64 ry] 49)).alloc (.cells #[.slice none 0 0, .slice none 0 0, .slice none 0 0] 29)).alloc (.cells #[.int .i64 kc, .int .i64 kx, .int .i64 k_y, .int .i64 kl, .int .i64 kg] 72)) w.heap.size 29 (.slice (some ⟨g, 0, none⟩) E.length a) (.slice B F.length b) (.slice C L.length d)) := (((Three.new w).alloc _).alloc _).alloc _
 have KR : Hid (Bkk ((((w.alloc (.cells #[.slice (some ⟨g, 0, none⟩) E.length a, .slice B F.length b, .slice C L.length d] 29)).alloc (.cells #[.int .i64 rc, .int .i64 rn, .int .i64 ro, .int .i64 rx, .int .i64 ry] 49)).alloc (.cells #[.slice none 0 0, .slice none 0 0, .slice none 0 0] 29)).alloc (.cells #[.int .i64 kc, .int .i64 kx, .int .i64 k_y, .int .i64 kl, .int .i64 kg] 72)) (w.heap.size + 1) 49 #[.int .i64 rc, .int .i64 rn, .int .i64 ro, .int .i64 rx, .int .i64 ry]) := by have := ((Bkk.new (t := 49) (cs := #[.int .i64 rc, .int .i64 rn, .int .i64 ro, .int .i64 rx, .int .i64 ry]) (w.alloc (.cells #[.slice (some ⟨g, 0, none⟩) E.length a, .slice B F.length b, .slice C L.length d] 29))).alloc (.cells #[.slice none 0 0, .slice none 0 0, .slice none 0 0] 29)).alloc (.cells #[.int .i64 kc, .int .i64 kx, .int .i64 k_y, .int .i64 kl, .int .i64 kg] 72); simpa [Hid] using this
 have K1 : Hid (Three ((((w.alloc (.cells #[.slice (some ⟨g, 0, none⟩) E.length a, .slice B F.length b, .slice C L.length d] 29)).alloc (.cells #[.int .i64 rc, .int .i64 rn, .int .i64 ro, .int .i64 rx, .int .i64 ry] 49)).alloc (.cells #[.slice none 0 0, .slice none 0 0, .slice none 0 0] 29)).alloc (.cells #[.int .i64 kc, .int .i64 kx, .int .i64 k_y, .int .i64 kl, .int .i64 kg] 72)) (w.heap.size + 1 + 1) 29 (.slice none 0 0) (.slice none 0 0) (.slice none 0 0)) := by have := (Three.new (t := 29) (u0 := .slice none 0 0) (u1 := .slice none 0 0) (u2 := .slice none 0 0) ((w.alloc (.cells #[.slice (some ⟨g, 0, none⟩) E.length a, .slice B F.length b, .slice C L.length d] 29)).alloc (.cells #[.int .i64 rc, .int .i64 rn, .int .i64 ro, .int .i64 rx, .int .i64 ry] 49))).alloc (.cells #[.int .i64 kc, .int .i64 kx, .int .i64 k_y, .int .i64 kl, .int .i64 kg] 72); simpa [Hid] using this
 have KE : Hid (Bkk ((((w.alloc (.cells #[.slice (some ⟨g, 0, none⟩) E.length a, .slice B F.length b, .slice C L.length d] 29)).alloc (.cells #[.int .i64 rc, .int .i64 rn, .int .i64 ro, .int .i64 rx, .int .i64 ry] 49)).alloc (.cells #[.slice none 0 0, .slice none 0 0, .slice none 0 0] 29)).alloc (.cells #[.int .i64 kc, .int .i64 kx, .int .i64 k_y, .int .i64 kl, .int .i64 kg] 72)) (w.heap.size + 1 + 1 + 1) 72 #[.int .i64 kc, .int .i64 kx, .int .i64 k_y, .int .i64 kl, .int .i64 kg]) := by have := Bkk.new (t := 72) (cs := #[.int .i64 kc, .int .i64 kx, .int .i64 k_y, .int .i64 kl, .int .i64 kg]) (((w.alloc (.cells #[.slice (some ⟨g, 0, none⟩) E.length a, .slice B F.length b, .slice C L.length d] 29)).alloc (.cells #[.int .i64 rc, .int .i64 rn, .int .i64 ro, .int .i64 rx, .int .i64 ry] 49)).alloc (.cells #[.slice none 0 0, .slice none 0 0, .slice none 0 0] 29)); simpa [Hid] using this
 have HG0 := Lib.hid hg
 obtain ⟨g', hg', a0, a1, a2, a3, a4⟩ := (hg.below ((below_alloc2 w (.cells #[.slice (some ⟨g, 0, none⟩) E.length a, .slice B F.length b, .slice C L.length d] 29) (.cells #[.int .i64 rc, .int .i64 rn, .int .i64 ro, .int .i64 rx, .int .i64 ry] 49)).alloc (by simp; omega) (.cells #[.slice none 0 0, .slice none 0 0, .slice none 0 0] 29))).rE k hk
 cases hg'
 rw [hfk] at a0 a1 a2 a3 a4
 simp only at a0 a1 a2 a3 a4
 have gl : g < w.heap.size + 1 + 1 + 1 := by have := World.block_lt_of_cell? _ _ a0; simpa using this
 have i0 : (0 : Int) ≤ (k : Int) := by omega
 have i1 : (k : Int) < (E.length : Int) := by omega
 have HFK := Lib.hid hfk
 subst ho
 have q1 : IntKind.i64.wrap (k_y * 4) = k_y * 4 := IntWalk.i64_in _ (by omega)
 have q2 : IntKind.i64.wrap (k_y * 4 + kx) = (j : Int) := by rw [hj]; exact IntWalk.i64_in _ (by omega)
 obtain ⟨qb, rfl, xb⟩ := (hg.below BW.out).rF j hjl
 rw [hv] at xb
 have ql : qb < w.heap.size := HG0.out.lB qb rfl
 have m0 : (0 : Int) ≤ (j : Int) := by omega
 have m1 : (j : Int) < (F.length : Int) := by omega
 have HFL := Lib.hid hF
 have HV := Lib.hid hv
 clear hF hj hv
 subst h1
 clear hg hfk
 unfold gameV
 go_enter Try.func88, Try.ntmps88
 go_wp2_with (fail)
 refine bodyPost_ret (v := .tuple #[.agg #[.slice (some ⟨g, 0, none⟩) E.length a, .slice (some ⟨qb, 0, none⟩) F.length b, .slice C L.length d], .int .i64 7]) (by simp [results, Try.results88, go_sem]) rfl ⟨rfl, ?_⟩
 exact (((below_alloc2 w _ _).alloc (by simp; omega) _).alloc (by simp; omega) _)
set_option maxRecDepth 100000 in
set_option maxHeartbeats 8000000 in
theorem actMove (g : Nat) (a : Nat) (B : Option Addr) (b : Nat) (C : Option Addr) (d : Nat) (E : List Fig) (F L : List Int) (k : Nat) (rc rn rx ry kc kx k_y kl kg : Int) (w : World) (hE : E.length ≤ 4) (hk : k < E.length) (hfk : E[k]'hk = ⟨kc, kx, k_y, kl, kg⟩) (b1 : 0 ≤ kx ∧ kx ≤ 3) (b2 : 0 ≤ k_y ∧ k_y ≤ 3) (b3 : 0 ≤ kg ∧ kg ≤ 20) (hx : -1 ≤ rx ∧ rx ≤ 1) (hy : -1 ≤ ry ∧ ry ≤ 1) (h1 : inB (kx + rx) 0 3 = true) (h2 : inB (k_y + ry) 0 3 = true) (hg : GmR w (some ⟨g, 0, none⟩) a B b C d E F L) :
 Calls Try.prog 88 #[gameV (some ⟨g, 0, none⟩) E.length a B F.length b C L.length d, .int .i64 (k : Int), .agg #[.int .i64 rc, .int .i64 rn, .int .i64 2, .int .i64 rx, .int .i64 ry]] w fun e w' => ∃ A' a', e = .returned (.tuple #[gameV A' (E.set k ⟨kc, kx + rx, k_y + ry, kl, kg⟩).length a' B F.length b C L.length d, .int .i64 0]) ∧
  GmR w' A' a' B b C d (E.set k ⟨kc, kx + rx, k_y + ry, kl, kg⟩) F L ∧ (∀ x, A' = some ⟨x, 0, none⟩ → w.heap.size ≤ x) ∧ Below w.heap.size w w' := by
 obtain ⟨I, hi, hz0, hz1, hz2⟩ := parts_of infoEnt'
 have I1 := Lib.hid hi
 have I2 := Lib.hid hz0
 have I3 := Lib.hid hz1
 have I4 := Lib.hid hz2
 clear hi hz0 hz1 hz2
 have BW : Hid (Below w.heap.size w ((((w.alloc (.cells #[.slice (some ⟨g, 0, none⟩) E.length a, .slice B F.length b, .slice C L.length d] 29)).alloc (.cells #[.int .i64 rc, .int .i64 rn, .int .i64 2, .int .i64 rx, .int .i64 ry] 49)).alloc (.cells #[.slice none 0 0, .slice none 0 0, .slice none 0 0] 29)).alloc (.cells #[.int .i64 kc, .int .i64 kx, .int .i64 k_y, .int .i64 kl, .int .i64 kg] 72))) := (((below_alloc2 w _ _).alloc (by simp; omega) _).alloc (by simp; omega) _)
 have HSW : Hid (((((w.alloc (.cells #[.slice (some ⟨g, 0, none⟩) E.length a, .slice B F.length b, .slice C L.length d] 29)).alloc (.cells #[.int .i64 rc, .int .i64 rn, .int .i64 2, .int .i64 rx, .int .i64 ry] 49)).alloc (.cells #[.slice none 0 0, .slice none 0 0, .slice none 0 0] 29)).alloc (.cells #[.int .i64 kc, .int .i64 kx, .int .i64 k_y, .int .i64 kl, .int .i64 kg] 72)).heap.size = w.heap.size + 4) := by show _ = _; simp
 have K0 : Hid (Three ((((w.alloc (.cells #[.slice (some ⟨g, 0, none⟩) E.length a, .slice B F.length b, .slice C L.length d] 29)).alloc (.cells #[.int .i64 rc, .int .i64 rn, .int .i64 2, .int .i64 rx, .int .i64 ry] 49)).alloc (.cells #[.slice none 0 0, .slice none 0 0, .slice none 0 0] 29)).alloc (.cells #[.int .i64 kc, .int .i64 kx, .int .i64 k_y, .int .i64 kl, .int .i64 kg] 72)) w.heap.size 29 (.slice (some ⟨g, 0, none⟩) E.length a) (.slice B F.length b) (.slice C L.length d)) := (((Three.new w).alloc _).alloc _).alloc _
 have KR : Hid (Bkk ((((w.alloc (.cells #[.slice (some ⟨g, 0, none⟩) E.length a, .slice B F.length b, .slice C L.length d] 29)).alloc (.cells #[.int .i64 rc, .int .i64 rn, .int .i64 2, .int .i64 rx, .int .i64 ry] 49)).alloc (.cells #[.slice none 0 0, .slice none 0 0, .slice none 0 0] 29)).alloc (.cells #[.int .i64 kc, .int .i64 kx, .int .i64 k_y, .int .i64 kl, .int .i64 kg] 72)) (w.heap.size + 1) 49 #[.int .i64 rc, .int .i64 rn, .int .i64 2, .int .i64 rx, .int .i64 ry]) := by have := ((Bkk.new (t := 49) (cs := #[.int .i64 rc, .int .i64 rn, .int .i64 2, .int .i64 rx, .int .i64 ry]) (w.alloc (.cells #[.slice (some ⟨g, 0, none⟩) E.length a, .slice B F.length b, .slice C L.length d] 29))).alloc (.cells #[.slice none 0 0, .slice none 0 0, .slice none 0 0] 29)).alloc (.cells #[.int .i64 kc, .int .i64 kx, .int .i64 k_y, .int .i64 kl, .int .i64 kg] 72); simpa [Hid] using this
 have K1 : Hid (Three ((((w.alloc (.cells #[.slice (some ⟨g, 0, none⟩) E.length a, .slice B F.length b, .slice C L.length d] 29)).alloc (.cells #[.int .i64 rc, .int .i64 rn, .int .i64 2, .int .i64 rx, .int .i64 ry] 49)).alloc (.cells #[.slice none 0 0, .slice none 0 0, .slice none 0 0] 29)).alloc (.cells #[.int .i64 kc, .int .i64 kx, .int .i64 k_y, .int .i64 kl, .int .i64 kg] 72)) (w.heap.size + 1 + 1) 29 (.slice none 0 0) (.slice none 0 0) (.slice none 0 0)) := by have := (Three.new (t := 29) (u0 := .slice none 0 0) (u1 := .slice none 0 0) (u2 := .slice none 0 0) ((w.alloc (.cells #[.slice (some ⟨g, 0, none⟩) E.length a, .slice B F.length b, .slice C L.length d] 29)).alloc (.cells #[.int .i64 rc, .int .i64 rn, .int .i64 2, .int .i64 rx, .int .i64 ry] 49))).alloc (.cells #[.int .i64 kc, .int .i64 kx, .int .i64 k_y, .int .i64 kl, .int .i64 kg] 72); simpa [Hid] using this
 have KE : Hid (Bkk ((((w.alloc (.cells #[.slice (some ⟨g, 0, none⟩) E.length a, .slice B F.length b, .slice C L.length d] 29)).alloc (.cells #[.int .i64 rc, .int .i64 rn, .int .i64 2, .int .i64 rx, .int .i64 ry] 49)).alloc (.cells #[.slice none 0 0, .slice none 0 0, .slice none 0 0] 29)).alloc (.cells #[.int .i64 kc, .int .i64 kx, .int .i64 k_y, .int .i64 kl, .int .i64 kg] 72)) (w.heap.size + 1 + 1 + 1) 72 #[.int .i64 kc, .int .i64 kx, .int .i64 k_y, .int .i64 kl, .int .i64 kg]) := by have := Bkk.new (t := 72) (cs := #[.int .i64 kc, .int .i64 kx, .int .i64 k_y, .int .i64 kl, .int .i64 kg]) (((w.alloc (.cells #[.slice (some ⟨g, 0, none⟩) E.length a, .slice B F.length b, .slice C L.length d] 29)).alloc (.cells #[.int .i64 rc, .int .i64 rn, .int .i64 2, .int .i64 rx, .int .i64 ry] 49)).alloc (.cells #[.slice none 0 0, .slice none 0 0, .slice none 0 0] 29)); simpa [Hid] using this
 have HG0 := Lib.hid hg
 obtain ⟨g', hg', a0, a1, a2, a3, a4⟩ := (hg.below ((below_alloc2 w (.cells #[.slice (some ⟨g, 0, none⟩) E.length a, .slice B F.length b, .slice C L.length d] 29) (.cells #[.int .i64 rc, .int .i64 rn, .int .i64 2, .int .i64 rx, .int .i64 ry] 49)).alloc (by simp; omega) (.cells #[.slice none 0 0, .slice none 0 0, .slice none 0 0] 29))).rE k hk
 cases hg'
 rw [hfk] at a0 a1 a2 a3 a4
 simp only at a0 a1 a2 a3 a4
 have gl : g < w.heap.size + 1 + 1 + 1 := by have := World.block_lt_of_cell? _ _ a0; simpa using this
 have i0 : (0 : Int) ≤ (k : Int) := by omega
 have i1 : (k : Int) < (E.length : Int) := by omega
 have HFK := Lib.hid hfk
 have q1 : IntKind.i64.wrap (kx + rx) = kx + rx := IntWalk.i64_in _ (by omega)
 have q2 : IntKind.i64.wrap (k_y + ry) = k_y + ry := IntWalk.i64_in _ (by omega)
 have BM : Hid (Below w.heap.size w ((((w.alloc (.cells #[.slice (some ⟨g, 0, none⟩) E.length a, .slice B F.length b, .slice C L.length d] 29)).alloc (.cells #[.int .i64 rc, .int .i64 rn, .int .i64 2, .int .i64 rx, .int .i64 ry] 49)).alloc (.cells #[.slice none 0 0, .slice none 0 0, .slice none 0 0] 29)).alloc (.cells #[.int .i64 kc, .int .i64 (kx + rx), .int .i64 (k_y + ry), .int .i64 kl, .int .i64 kg] 72))) := (((below_alloc2 w _ _).alloc (by simp; omega) _).alloc (by simp; omega) _)
 have HGm := Lib.hid (hg.below BM.out)
 have M0 : Hid (Three ((((w.alloc (.cells #[.slice (some ⟨g, 0, none⟩) E.length a, .slice B F.length b, .slice C L.length d] 29)).alloc (.cells #[.int .i64 rc, .int .i64 rn, .int .i64 2, .int .i64 rx, .int .i64 ry] 49)).alloc (.cells #[.slice none 0 0, .slice none 0 0, .slice none 0 0] 29)).alloc (.cells #[.int .i64 kc, .int .i64 (kx + rx), .int .i64 (k_y + ry), .int .i64 kl, .int .i64 kg] 72)) w.heap.size 29 (.slice (some ⟨g, 0, none⟩) E.length a) (.slice B F.length b) (.slice C L.length d)) := (((Three.new w).alloc _).alloc _).alloc _
 have M1 : Hid (Three ((((w.alloc (.cells #[.slice (some ⟨g, 0, none⟩) E.length a, .slice B F.length b, .slice C L.length d] 29)).alloc (.cells #[.int .i64 rc, .int .i64 rn, .int .i64 2, .int .i64 rx, .int .i64 ry] 49)).alloc (.cells #[.slice none 0 0, .slice none 0 0, .slice none 0 0] 29)).alloc (.cells #[.int .i64 kc, .int .i64 (kx + rx), .int .i64 (k_y + ry), .int .i64 kl, .int .i64 kg] 72)) (w.heap.size + 1 + 1) 29 (.slice none 0 0) (.slice none 0 0) (.slice none 0 0)) := by have := (Three.new (t := 29) (u0 := .slice none 0 0) (u1 := .slice none 0 0) (u2 := .slice none 0 0) ((w.alloc (.cells #[.slice (some ⟨g, 0, none⟩) E.length a, .slice B F.length b, .slice C L.length d] 29)).alloc (.cells #[.int .i64 rc, .int .i64 rn, .int .i64 2, .int .i64 rx, .int .i64 ry] 49))).alloc (.cells #[.int .i64 kc, .int .i64 (kx + rx), .int .i64 (k_y + ry), .int .i64 kl, .int .i64 kg] 72); simpa [Hid] using this
 have ME : Hid (Bkk ((((w.alloc (.cells #[.slice (some ⟨g, 0, none⟩) E.length a, .slice B F.length b, .slice C L.length d] 29)).alloc (.cells #[.int .i64 rc, .int .i64 rn, .int .i64 2, .int .i64 rx, .int .i64 ry] 49)).alloc (.cells #[.slice none 0 0, .slice none 0 0, .slice none 0 0] 29)).alloc (.cells #[.int .i64 kc, .int .i64 (kx + rx), .int .i64 (k_y + ry), .int .i64 kl, .int .i64 kg] 72)) (w.heap.size + 1 + 1 + 1) 72 #[.int .i64 kc, .int .i64 (kx + rx), .int .i64 (k_y + ry), .int .i64 kl, .int .i64 kg]) := by have := Bkk.new (t := 72) (cs := #[.int .i64 kc, .int .i64 (kx + rx), .int .i64 (k_y + ry), .int .i64 kl, .int .i64 kg]) (((w.alloc (.cells #[.slice (some ⟨g, 0, none⟩) E.length a, .slice B F.length b, .slice C L.length d] 29)).alloc (.cells #[.int .i64 rc, .int .i64 rn, .int .i64 2, .int .i64 rx, .int .i64 ry] 49)).alloc (.cells #[.slice none 0 0, .slice none 0 0, .slice none 0 0] 29)); simpa [Hid] using this
 clear hg hfk
 unfold gameV
 go_enter Try.func88, Try.ntmps88
 go_wp2_with (first | (go_at_call 79; refine (specIn _ _ _ _).mono ?_; rintro e w' ⟨rfl, rfl⟩; first | rw [h1] | rw [h2]) | (at_builtin; go_loud (refine list_app Fig.len rfl _ _ 26 rfl (w.heap.size + 4) 72 I (.agg #[.int .i64 0, .int .i64 0, .int .i64 0, .int .i64 0, .int .i64 0]) 40 Try.underlying26 I1.out I2.out I3.out I4.out rfl (by decide) (.slice (some ⟨w.heap.size + 1 + 1 + 1 + 1, 0, none⟩) 0 0) 0 [] rfl ?o1s1 _ _ E.length E ?m1s1 rfl ?r1s1 ?n1s1 (figs_one _) ?b1s1 ?c1s1 ?d1s1 ?_)))
 try case o1s1 => (have := own_base (base' := w.heap.size + 4) (own_nil_new ((((w.alloc (.cells #[.slice (some ⟨g, 0, none⟩) E.length a, .slice B F.length b, .slice C L.length d] 29)).alloc (.cells #[.int .i64 rc, .int .i64 rn, .int .i64 2, .int .i64 rx, .int .i64 ry] 49)).alloc (.cells #[.slice none 0 0, .slice none 0 0, .slice none 0 0] 29)).alloc (.cells #[.int .i64 kc, .int .i64 (kx + rx), .int .i64 (k_y + ry), .int .i64 kl, .int .i64 kg] 72)) 72 5 rfl) (by simp); simpa using this)
 try case m1s1 => (rfl)
 try case r1s1 => (exact (HGm.out.below ((Below.refl _ _).alloc (Nat.le_refl _) _)).rE.rd)
 try case r1s1.inl => (exact (HGm.out.below ((Below.refl _ _).alloc (Nat.le_refl _) _)).rE.rd)
 try case r1s1.inr => (exact (HGm.out.below ((Below.refl _ _).alloc (Nat.le_refl _) _)).rE.rd)
 try case n1s1 => (intro e; cases e)
 try case b1s1 => (unfold maxLen; omega)
 try case c1s1 => (omega)
 try case d1s1 => (first | omega | (simp; done) | (simp; omega))
 intro v1 w1 ho1 hg1 hp1
 clear a0 a1 a2 a3 a4 gl K0 K1 KE KR BW HSW q1 q2 h1 h2
 obtain ⟨A1, c1, hv1, _⟩ := own_form ho1
 subst hv1
 have ho1' : w1.ownsRow (w.heap.size + 4) 72 5 (.slice A1 E.length c1) E.length (figs E) := by simpa [figs] using ho1
 obtain ⟨q, rfl, hq1, hq2⟩ := own_some ho1' (by omega)
 have hge : ∀ x, (Value.slice (some ⟨w.heap.size + 1 + 1 + 1 + 1, 0, none⟩) 0 0).ownBlock = some x → w.heap.size + 4 ≤ x := fun x hx => by simp [Value.ownBlock] at hx; omega
 have BF := Lib.hid (Below.trans (BM.out.alloc BM.out.size (.cells #[] 72)) (Below.of_grown hg1 (by simp; omega) (fun x hx => by have := hge x hx; omega)))
 have SZ := Lib.hid (show w.heap.size + 4 ≤ w1.heap.size by have := hg1.size; simp at this; omega)
 have T0 := Lib.hid ((M0.out.alloc (.cells #[] 72)).grown hg1 (fun e => by have := hge _ e.symm; omega))
 have T1 := Lib.hid ((M1.out.alloc (.cells #[] 72)).grown hg1 (fun e => by have := hge _ e.symm; omega))
 have TE : Hid (Bkk w1 (w.heap.size + 1 + 1 + 1) 72 #[.int .i64 kc, .int .i64 (kx + rx), .int .i64 (k_y + ry), .int .i64 kl, .int .i64 kg]) := (hg1.block _ (by simp) (fun e => by have := hge _ e.symm; omega)).trans (ME.out.alloc (.cells #[] 72))
 have OF := Lib.hid ho1'
 clear ho1 hg1 hp1 hge ho1' M0 M1 ME HGm BM
 obtain ⟨y0, y1, y2⟩ := T0.out.cells
 obtain ⟨z0, z1, z2⟩ := T1.out.cells
 have yf := T0.out.frozen
 have zf := T1.out.frozen
 have x0 : w1.cell? ⟨w.heap.size + 1 + 1 + 1, 0, none⟩ = some (.int .i64 kc) := TE.out.cell 0
 have x1 : w1.cell? ⟨w.heap.size + 1 + 1 + 1, 1, none⟩ = some (.int .i64 (kx + rx)) := TE.out.cell 1
 have x2 : w1.cell? ⟨w.heap.size + 1 + 1 + 1, 2, none⟩ = some (.int .i64 (k_y + ry)) := TE.out.cell 2
 have x3 : w1.cell? ⟨w.heap.size + 1 + 1 + 1, 3, none⟩ = some (.int .i64 kl) := TE.out.cell 3
 have x4 : w1.cell? ⟨w.heap.size + 1 + 1 + 1, 4, none⟩ = some (.int .i64 kg) := TE.out.cell 4
 have xq : ∀ p, p < 5 → ∃ u, w1.cell? ⟨q, k * 5 + p, none⟩ = some u := fun p hp => ⟨_, (OF.out.cellAt (k * 5 + p) (by omega)).trans (List.getElem?_eq_getElem (by rw [figs_length]; omega))⟩
 obtain ⟨v0, xq0⟩ := xq 0 (by omega)
 obtain ⟨v1, xq1⟩ := xq 1 (by omega)
 obtain ⟨v2, xq2⟩ := xq 2 (by omega)
 obtain ⟨v3, xq3⟩ := xq 3 (by omega)
 obtain ⟨v4, xq4⟩ := xq 4 (by omega)
 rw [Nat.add_zero] at xq0
 have ff := fun i => OF.out.frozenAt i
 have n1 : ¬ q = w.heap.size := by omega
 have n2 : ¬ w.heap.size = q := by omega
 have n3 : ¬ q = w.heap.size + 1 + 1 := by omega
 have n4 : ¬ w.heap.size + 1 + 1 = q := by omega
 have n5 : ¬ q = w.heap.size + 1 + 1 + 1 := by omega
 have n6 : ¬ w.heap.size + 1 + 1 + 1 = q := by omega
 have l1 : w.heap.size < w1.heap.size := by have := SZ.out; omega
 have l2 : w.heap.size + 1 + 1 < w1.heap.size := by have := SZ.out; omega
 have l3 : w.heap.size + 1 + 1 + 1 < w1.heap.size := by have := SZ.out; omega
 clear xq
 go_wp2
 have LE : (E.set k ⟨kc, kx + rx, k_y + ry, kl, kg⟩).length = E.length := List.length_set
 refine bodyPost_ret (v := .tuple #[.agg #[.slice (some ⟨q, 0, none⟩) E.length c1, .slice B F.length b, .slice C L.length d], .int .i64 0]) (by simp [results, Try.results88, go_sem, y0, y1, y2, z0, z1, z2]) rfl ⟨some ⟨q, 0, none⟩, c1, by rw [LE], ?_⟩
 have OG : ∀ p0 p1 p2 p3 : Value, (((((((((w1.setCell ⟨w.heap.size, 0, none⟩ p0).setCell ⟨q, k * 5, none⟩ (.int .i64 kc)).setCell ⟨q, k * 5 + 1, none⟩ (.int .i64 (kx + rx))).setCell ⟨q, k * 5 + 2, none⟩ (.int .i64 (k_y + ry))).setCell ⟨q, k * 5 + 3, none⟩ (.int .i64 kl)).setCell ⟨q, k * 5 + 4, none⟩ (.int .i64 kg)).setCell ⟨w.heap.size + 1 + 1, 0, none⟩ p1).setCell ⟨w.heap.size + 1 + 1, 1, none⟩ p2).setCell ⟨w.heap.size + 1 + 1, 2, none⟩ p3).ownsRow (w.heap.size + 4) 72 5 (.slice (some ⟨q, 0, none⟩) E.length c1) E.length (figs (E.set k ⟨kc, kx + rx, k_y + ry, kl, kg⟩)) := fun p0 p1 p2 p3 => by
  iterate 3 (refine own_put ?_ (by omega) _ _)
  exact own_setFig (own_put OF.out (by omega) _ _) k hk ⟨kc, kx + rx, k_y + ry, kl, kg⟩
 have BG : ∀ p0 p1 p2 p3 : Value, Below w.heap.size w (((((((((w1.setCell ⟨w.heap.size, 0, none⟩ p0).setCell ⟨q, k * 5, none⟩ (.int .i64 kc)).setCell ⟨q, k * 5 + 1, none⟩ (.int .i64 (kx + rx))).setCell ⟨q, k * 5 + 2, none⟩ (.int .i64 (k_y + ry))).setCell ⟨q, k * 5 + 3, none⟩ (.int .i64 kl)).setCell ⟨q, k * 5 + 4, none⟩ (.int .i64 kg)).setCell ⟨w.heap.size + 1 + 1, 0, none⟩ p1).setCell ⟨w.heap.size + 1 + 1, 1, none⟩ p2).setCell ⟨w.heap.size + 1 + 1, 2, none⟩ p3) := fun p0 p1 p2 p3 => by
  iterate 9 (refine Below.setCell ?_ (by first | (simp; done) | (simp; omega)) _)
  exact BF.out
 exact ⟨⟨RdF.of_own (OG _ _ _ _), RdI.below HG0.out.rF (BG _ _ _ _), RdI.below HG0.out.rL (BG _ _ _ _), (by rw [LE]; exact (own_cap OF.out).1), HG0.out.cB, HG0.out.cC, .inr ⟨q, rfl⟩, HG0.out.nB, HG0.out.nC, (fun x hx => (own_at (OG _ _ _ _) x hx).2), (fun x hx => Nat.lt_of_lt_of_le (HG0.out.lB x hx) (BG _ _ _ _).size), (fun x hx => Nat.lt_of_lt_of_le (HG0.out.lC x hx) (BG _ _ _ _).size)⟩, (fun x hx => by have := (own_at OF.out x hx).1; omega), BG _ _ _ _⟩
end Go.Proofs.Ytameldhdegcpoaa
