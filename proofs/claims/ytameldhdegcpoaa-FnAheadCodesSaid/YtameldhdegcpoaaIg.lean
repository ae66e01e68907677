import Derived.Test.YtameldhdegcpoaaIc
import Derived.Test.YtameldhdegcpoaaIf
namespace Go.Proofs.Ytameldhdegcpoaa
open Go.ChangeShapes Go.WideShapes Go.ChangeAt Go.RowKit
set_option linter.unusedVariables false
set_option linter.unusedSimpArgs false
def suG (D T : List Rq) (k : Int) : Gm := if ahB D T k = true then foldG D else ([], [], [])
theorem suG_len (D T : List Rq) (k : Int) : (suG D T k).1.length ≤ 4 ∧ (suG D T k).2.1.length ≤ 16 ∧ (suG D T k).2.2.length ≤ 4 := by
 unfold suG
 split
 · rename_i h
   have := okG_of (foldG_ok D g0 g0_ok (ahB_all h).1)
   exact ⟨this.e.len, Nat.le_of_eq this.f, Nat.le_of_eq this.l⟩
 · simp
theorem OwG.grownP {w w' : World} {lo p : Nat} {A : Option Addr} {a : Nat} {B : Option Addr} {b : Nat} {C : Option Addr} {c : Nat} {E : List Fig} {F L : List Int} (h : OwG w lo A a B b C c E F L) {ys : Array Value} (hT : w.heap[p]? = some (.cells ys 62)) (hg : w.grownBy w' (some p)) : OwG w' lo A a B b C c E F L :=
 ⟨own_same h.e (fun k hk => hg.block k (own_block_ge h.e k hk).2 (fun e => own_typeH h.e hT (by decide) (hk.trans e))),
  own_same h.f (fun k hk => hg.block k (own_block_ge h.f k hk).2 (fun e => own_typeH h.f hT (by decide) (hk.trans e))),
  own_same h.l (fun k hk => hg.block k (own_block_ge h.l k hk).2 (fun e => own_typeH h.l hT (by decide) (hk.trans e))), h.ef, h.el, h.fl⟩
set_option maxRecDepth 100000 in
set_option maxHeartbeats 4000000 in
theorem implAheadSure (A : Option Addr) (a : Nat) (B : Option Addr) (b : Nat) (D T : List Rq) (k : Int) (w : World) (hD : D.length ≤ 1048576) (hT : T.length ≤ 1048576) (h : RdAc w A a B b D T) :
 Calls Try.prog 21 #[aheadV A D.length a B T.length b k] w (AgI (suG D T k) w) := by
 have HR := Lib.hid h
 have K1 := Lib.hid ((Three.new (u0 := .slice A D.length a) (u1 := .slice B T.length b) (u2 := .int .i64 k) (t := 33) w).alloc (.cells #[.slice none 0 0, .slice none 0 0, .slice none 0 0] 29))
 have K2 : Hid (Three ((w.alloc (.cells #[.slice A D.length a, .slice B T.length b, .int .i64 k] 33)).alloc (.cells #[.slice none 0 0, .slice none 0 0, .slice none 0 0] 29)) (w.heap.size + 1) 29 (.slice none 0 0) (.slice none 0 0) (.slice none 0 0)) := by have := Three.new (u0 := .slice none 0 0) (u1 := .slice none 0 0) (u2 := .slice none 0 0) (t := 29) (w.alloc (.cells #[.slice A D.length a, .slice B T.length b, .int .i64 k] 33)); simpa [Hid] using this
 have Z : Hid (Below w.heap.size w ((w.alloc (.cells #[.slice A D.length a, .slice B T.length b, .int .i64 k] 33)).alloc (.cells #[.slice none 0 0, .slice none 0 0, .slice none 0 0] 29))) := below_alloc2 w _ _
 have LZ : Hid (w.heap.size + 2 ≤ ((w.alloc (.cells #[.slice A D.length a, .slice B T.length b, .int .i64 k] 33)).alloc (.cells #[.slice none 0 0, .slice none 0 0, .slice none 0 0] 29)).heap.size) := by show _ ≤ _; simp
 clear h
 go_enter Try.func21, Try.ntmps21
 go_upto_region 1 with (fail)
 obtain ⟨w0, hw0⟩ : ∃ X, X = ((w.alloc (.cells #[.slice A D.length a, .slice B T.length b, .int .i64 k] 33)).alloc (.cells #[.slice none 0 0, .slice none 0 0, .slice none 0 0] 29)) := ⟨_, rfl⟩
 rw [← hw0] at K1 K2 Z LZ ⊢
 clear hw0
 obtain ⟨p0, p1, p2⟩ := K1.out.cells
 go_wp2_with (fail)
 refine (implAheadOk A a B b D T k _ hD hT (Rd.below HR.out.r.d Z.out) (Rd.below HR.out.r.t Z.out)).mono ?_
 rintro e w1 ⟨rfl, hb⟩
 have K1 := Lib.hid (Three.below K1.out hb K1.out.lt)
 have K2 := Lib.hid (Three.below K2.out hb K2.out.lt)
 have Z := Lib.hid (Below.and Z.out hb)
 have LZ := Lib.hid (Nat.le_trans LZ.out hb.size)
 clear hb p0 p1 p2
 rcases hok : ahB D T k with _ | _
 · have HX := Lib.hid (show suG D T k = ([], [], []) by unfold suG; rw [hok]; rfl)
   clear hok
   obtain ⟨z0, z1, z2⟩ := K2.out.cells
   have zf := K2.out.frozen
   have BG : ∀ p0 p1 p2 : Value, Below w.heap.size w (((w1.setCell ⟨w.heap.size + 1, 0, none⟩ p0).setCell ⟨w.heap.size + 1, 1, none⟩ p1).setCell ⟨w.heap.size + 1, 2, none⟩ p2) := fun p0 p1 p2 => by
    iterate 3 (refine Below.setCell ?_ (by first | (simp; done) | (simp; omega)) _)
    exact Z.out
   go_wp2
   refine bodyPost_ret (v := .agg #[.slice none 0 0, .slice none 0 0, .slice none 0 0]) (by simp [results, Try.results21, go_sem, z0, z1, z2]) rfl ⟨none, 0, none, 0, none, 0, by rw [HX.out]; rfl, by rw [HX.out]; exact OwG.nil _ _, BG _ _ _⟩
 have HX := Lib.hid (show suG D T k = foldG D by unfold suG; rw [if_pos hok])
 have HOK := Lib.hid hok
 clear hok
 obtain ⟨p0, p1, p2⟩ := K1.out.cells
 go_wp2_with (fail)
 refine (forecastOf A a B b D T k w1 HOK.out (HR.out.below Z.out)).mono ?_
 rintro e w2 ⟨pf, lg, A1, a1, B1, b1, C1, c1, Q, q, V, v, us, A0, a0, B0, b0, C0, c0, rfl, hlg, hpf, fc, hus, hul, hT0, hg0, hb⟩
 have HU := Lib.hid (show us.length ≤ 1000 by have := ahB_len HOK.out; omega)
 have HZ : Hid (us = [] → (Value.slice A1 (T.foldl stepF (foldG D)).1.length a1 = .slice A0 (foldG D).1.length a0 ∧ Value.slice B1 (T.foldl stepF (foldG D)).2.1.length b1 = .slice B0 (foldG D).2.1.length b0 ∧ Value.slice C1 (T.foldl stepF (foldG D)).2.2.length c1 = .slice C0 (foldG D).2.2.length c0)) := fun e => by
  have eT : T = [] := List.eq_nil_of_length_eq_zero (by rw [← hus, e]; rfl)
  obtain ⟨rfl, rfl, rfl, rfl, rfl, rfl⟩ := hT0 eT
  rw [eT]
  exact ⟨rfl, rfl, rfl⟩
 have hgb := goBackRun fc.at_ fc.un hul HZ.out HU.out
 have hl0 := LZ.out
 have F5 := Lib.hid fc.at_
 have K2 := Lib.hid (Three.below K2.out hb K2.out.lt)
 have Z := Lib.hid (Below.and Z.out hb)
 have HG0 := Lib.hid hg0
 have HPF := Lib.hid (show w.heap.size + 2 ≤ pf by omega)
 have HLG := Lib.hid (show w.heap.size + 2 ≤ lg by omega)
 have HW2 := Lib.hid (show w.heap.size ≤ w2.heap.size by have := Z.out.size; exact this)
 clear fc hus hul hT0 hg0 HZ HU hb p0 p1 p2 hl0 hlg hpf
 go_wp2_with (fail)
 refine hgb.mono ?_
 clear hgb
 rintro e w3 ⟨⟨vv, rfl⟩, ⟨v3, v4, f5⟩, hg⟩
 obtain ⟨X, hX⟩ : ∃ X, X = foldG D := ⟨_, rfl⟩
 rw [← hX] at HG0 HX f5
 have GG := Lib.hid ((HG0.out.grownP F5.out hg).base HLG.out)
 have K2 := Lib.hid (K2.out.grown hg (fun e => by injection e with e; have := HPF.out; omega))
 have Z := Lib.hid (Z.out.trans (Below.of_grown hg HW2.out (fun k e => by injection e with e; have := HPF.out; omega)))
 have F5 := Lib.hid f5
 clear f5 hg hX HG0
 obtain ⟨x0, x1, x2, x3, x4⟩ := F5.out.cells
 obtain ⟨z0, z1, z2⟩ := K2.out.cells
 have zf := K2.out.frozen
 have GN := Lib.hid ((((GG.out.put (q := w.heap.size + 1) (by omega) 0 (.slice A0 X.1.length a0)).put (q := w.heap.size + 1) (by omega) 1 (.slice B0 X.2.1.length b0)).put (q := w.heap.size + 1) (by omega) 2 (.slice C0 X.2.2.length c0)).base (show w.heap.size ≤ w.heap.size + 2 by omega))
 have BG := Lib.hid (((Z.out.setCell (p := ⟨w.heap.size + 1, 0, none⟩) (by simp) (.slice A0 X.1.length a0)).setCell (p := ⟨w.heap.size + 1, 1, none⟩) (by simp) (.slice B0 X.2.1.length b0)).setCell (p := ⟨w.heap.size + 1, 2, none⟩) (by simp) (.slice C0 X.2.2.length c0))
 clear GG F5 K2 Z K1
 go_wp2
 refine bodyPost_ret (v := .agg #[.slice A0 X.1.length a0, .slice B0 X.2.1.length b0, .slice C0 X.2.2.length c0]) (by simp [results, Try.results21, go_sem, z0, z1, z2]) rfl ⟨A0, a0, B0, b0, C0, c0, by rw [HX.out], by rw [HX.out]; exact GN.out, BG.out⟩
end Go.Proofs.Ytameldhdegcpoaa
