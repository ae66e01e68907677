/- All that come till a time: both ways. -/
import Derived.Test.YtgnemgnhjallhaaVo
namespace Go.Proofs.Ytgnemgnhjallhaa
open Go.ChangeShapes Go.WideShapes Go.ChangeAt Go.RowKit
set_option linter.unusedVariables false
set_option linter.unusedSimpArgs false

def lenV : Value → Nat
  | .slice _ n _ => n
  | _ => 0
def tillQ (L : List Tm) (t : Int) : List Tm × List Tm := if okQ L = true then tillT t L.length L [] else ([], [])
structure Two (w : World) (lo : Nat) (A : Option Addr) (a : Nat) (X : List Tm) (B : Option Addr) (b : Nat) (D : List Tm) : Prop where
  x : OwT w lo A a X
  d : OwT w lo B b D
  ne : ∀ k, (Value.slice A X.length a).ownBlock = some k → (Value.slice B D.length b).ownBlock ≠ some k
def DoT (X : List Tm × List Tm) (w : World) (e : Ending) (w' : World) : Prop := ∃ A a B b, e = .returned (.tuple #[.slice A X.1.length a, .slice B X.2.length b]) ∧ Two w' w.heap.size A a X.1 B b X.2 ∧ Below w.heap.size w w'
theorem tillQ_bad {L : List Tm} {t : Int} (h : okQ L = false) : tillQ L t = ([], []) := by unfold tillQ; rw [h]; rfl
theorem tillQ_ok {L : List Tm} {t : Int} (h : okQ L = true) : tillQ L t = tillT t L.length L [] := by unfold tillQ; rw [h]; rfl
theorem till_len (t : Int) : ∀ (m : Nat) (L D : List Tm), (tillT t m L D).1.length + (tillT t m L D).2.length = L.length + D.length := by
  intro m
  induction m with
  | zero => intro L D; rfl
  | succ m ih =>
    intro L D
    by_cases h : 0 < L.length ∧ (at' L 0).a ≤ t
    · rw [till_go t m L D h.1 h.2, ih, nextT_len]
      simp
      omega
    · rw [till_end t _ L D h]
theorem tillQ_len (L : List Tm) (t : Int) : (tillQ L t).1.length ≤ L.length ∧ (tillQ L t).2.length ≤ L.length := by
  unfold tillQ
  split
  · have := till_len t L.length L []
    simp at this
    omega
  · simp
theorem OwT.fr {w w' : World} {lo p : Nat} {v : Value} {B : Option Addr} {b : Nat} {D : List Tm} (h : OwT w lo B b D) (hf : Fr w w' p v) (hp : (Value.slice B D.length b).ownBlock ≠ some p) (hv : ∀ k, v.ownBlock = some k → (Value.slice B D.length b).ownBlock ≠ some k) : OwT w' lo B b D :=
  own_same (show w.ownsRow _ _ _ _ _ _ from h) (fun k hk => hf.block k (own_block_ge (show w.ownsRow _ _ _ _ _ _ from h) k hk).2 (fun e => hp (e ▸ hk)) (fun e => hv k e hk))
theorem OwT.lt {w : World} {lo : Nat} {A : Option Addr} {a : Nat} {L : List Tm} (h : OwT w lo A a L) : ∀ k, (Value.slice A L.length a).ownBlock = some k → lo ≤ k ∧ k < w.heap.size := own_block_ge (show World.ownsRow _ _ _ _ _ _ _ from h)
theorem OwT.grown {w w' : World} {lo : Nat} {A : Option Addr} {a : Nat} {L : List Tm} {row : Option Nat} (h : OwT w lo A a L) (hg : w.grownBy w' row) (hr : ∀ k, (Value.slice A L.length a).ownBlock = some k → row ≠ some k) : OwT w' lo A a L :=
  own_same (show w.ownsRow _ _ _ _ _ _ from h) (fun k hk => hg.block k (h.lt k hk).2 (fun e => hr k hk e.symm))

set_option maxRecDepth 100000 in
set_option maxHeartbeats 4000000 in
theorem implQueueTill (A : Option Addr) (a : Nat) (L : List Tm) (t : Int) (w : World) (hL : L.length ≤ 1048576) (h : RdT w A a L) :
    Calls Try.prog 23 #[.slice A L.length a, .int .i64 t] w (DoT (tillQ L t) w) := by
  obtain ⟨I, hi, hz0, hz1, hz2⟩ := parts_ofH infoTimed
  have I1 := Lib.hid hi
  have I2 := Lib.hid hz0
  have I3 := Lib.hid hz1
  have I4 := Lib.hid hz2
  clear hi hz0 hz1 hz2
  have HR := Lib.hid h
  clear h
  go_enter Try.func23, Try.ntmps23
  go_wp2_with (fail)
  refine (implQueueOk A a L _ (by omega) HR.out).mono ?_
  rintro e w1 ⟨rfl, hb⟩
  have Z := Lib.hid hb
  clear hb
  rcases hok : okQ L with _ | _
  · have HX := Lib.hid (tillQ_bad (t := t) hok)
    go_wp2
    go_light
    go_ret2
    rw [HX.out]
    exact ⟨none, 0, none, 0, rfl, ⟨OwT.nil _ _, OwT.nil _ _, fun k hk => by simp [Value.ownBlock] at hk⟩, Z.out⟩
  have h20 := okQ_len hok
  obtain ⟨n, hn⟩ : ∃ n, L.length = n := ⟨_, rfl⟩
  obtain ⟨R, hR⟩ : ∃ R, R = tillT t n L [] := ⟨_, rfl⟩
  have HX := Lib.hid (show tillQ L t = R by rw [tillQ_ok hok, hR, hn])
  have HRR := Lib.hid hR
  have HN := Lib.hid hn
  have hn20 : n ≤ 20 := by omega
  clear hok hR hn
  go_wp2_with (fail)
  refine (queueOf A a L _ (by omega) (HR.out.below Z.out)).mono ?_
  rintro e w2 ⟨p, A1, a1, rfl, h1, hb⟩
  have HH := Lib.hid h1
  have LZ := Lib.hid (show w.heap.size ≤ w1.heap.size from Z.out.size)
  have LW := Lib.hid (show w1.heap.size ≤ w2.heap.size from hb.size)
  replace Z := Lib.hid (Below.and Z.out hb)
  clear h1 hb h20 hL
  go_wp2
  go_loopw [7] (fun v wr => ∃ (m : Nat) (L' D : List Tm) (B : Option Addr) (b : Nat), v = .slice B D.length b ∧ D.length + m = n ∧ Hid (L'.length = m) ∧ Hid (Hp wr w1.heap.size p A1 a1 L') ∧ Hid (OwT wr w1.heap.size B b D) ∧ Hid (∀ k, (Value.slice A1 L'.length a1).ownBlock = some k → (Value.slice B D.length b).ownBlock ≠ some k) ∧ Hid (tillT t m L' D = R) ∧ Hid (w1.heap.size ≤ wr.heap.size) ∧ Hid (Below w.heap.size w wr)) (fun v _ => n - lenV v)
  case atStart => exact ⟨n, L, [], none, 0, rfl, by simp, HN.out, HH.out, OwT.nil _ _, fun k hk => by simp [Value.ownBlock], HRR.out.symm, LW.out, Z.out⟩
  case round =>
    clear HH Z LW HRR HN
    obtain ⟨m, L', D, B, b, rfl, hm, HN, HH, OD, NE, HT, LW, Z⟩ := hrel
    rcases m with _ | m
    · have q0 : wr.cell? ⟨p, 0, none⟩ = some (.slice A1 0 a1) := by have h9 := HH.out.box.cell 0; rw [HN.out] at h9; exact h9
      have lp := HH.out.box.lt
      have HE := Lib.hid (show R = (L', D) from HT.out.symm)
      have EL := Lib.hid (show (0 : Nat) = L'.length from HN.out.symm)
      have TW : Hid (Two wr w.heap.size A1 a1 L' B b D) := ⟨HH.out.row.base LZ.out, OD.out.base LZ.out, NE.out⟩
      clear HT NE HH OD
      go_wp2
      go_light
      go_ret2
      rw [HX.out, HE.out]
      exact ⟨A1, a1, B, b, by rw [← EL.out]; rfl, TW.out, Z.out⟩
    · obtain ⟨g, hA, hg1, hg2, hgp⟩ := HH.out.g (by rw [HN.out]; omega)
      subst hA
      have q0 : wr.cell? ⟨p, 0, none⟩ = some (.slice (some ⟨g, 0, none⟩) (m + 1) a1) := by rw [← HN.out]; exact HH.out.box.cell 0
      have lp := HH.out.box.lt
      obtain ⟨x, hx⟩ : ∃ x, at' L' 0 = x := ⟨_, rfl⟩
      have hc := HH.out.cells 0 (by rw [HN.out]; omega)
      rw [hx] at hc
      have x0 : wr.cell? ⟨g, 0, none⟩ = some (.int .i64 x.a) := by simpa using hc 0 _ rfl
      have x1 : wr.cell? ⟨g, 1, none⟩ = some (.int .i64 x.f) := by simpa using hc 1 _ rfl
      have x2 : wr.cell? ⟨g, 2, none⟩ = some (.int .i64 x.n) := by simpa using hc 2 _ rfl
      have Hx := Lib.hid hx
      have i0 : (0 : Int) < (m : Int) + 1 := by omega
      clear hx hc hg1 hgp
      by_cases ht : x.a ≤ t
      · have NX := nextH w1.heap.size p (some ⟨g, 0, none⟩) a1 L' m wr (by rw [HN.out]; omega) HN.out HH.out
        rw [Hx.out] at NX
        have NX := Lib.hid NX
        have HTG := Lib.hid (show tillT t m (nextT L') (D ++ [x]) = R by rw [← HT.out, till_go t m L' D (by rw [HN.out]; omega) (by rw [Hx.out]; exact ht), Hx.out])
        have HNN := Lib.hid (show (nextT L').length = m by rw [nextT_len, HN.out]; rfl)
        clear HT
        go_wp2_with (fail)
        refine NX.out.mono ?_
        rintro e w3 ⟨rfl, h1, h2, h3⟩
        have ODP := OD.out.apart HH.out.box (by decide)
        have HH2 := Lib.hid h1
        replace OD := Lib.hid (OD.out.fr h3 ODP NE.out)
        replace Z := Lib.hid (Z.out.trans (h2.mono LZ.out))
        replace LW := Lib.hid (Nat.le_trans LW.out h3.size)
        clear h1 h2 h3 NX HH ODP q0 lp x0 x1 x2 ht hg2 HN
        generalize nextT L' = L2 at HH2 HTG HNN
        have hba : Below w3.heap.size w3 (w3.alloc (.cells (tmCs x) 25)) := (Below.refl _ _).alloc (Nat.le_refl _) _
        have HRw := Lib.hid (tm_row w3 25 x)
        replace OD := Lib.hid (OD.out.below hba)
        replace HH2 := Lib.hid (HH2.out.below hba)
        replace Z := Lib.hid (Below.and Z.out hba)
        replace LW := Lib.hid (Nat.le_trans LW.out hba.size)
        clear hba
        go_wp2_with (at_builtin; go_loud (refine list_app (f := Tm.cells) (fun _ => rfl) rfl _ _ 23 rfl w1.heap.size 25 I (.agg #[.int .i64 0, .int .i64 0, .int .i64 0]) 24 Try.underlying23 I1.out I2.out I3.out I4.out rfl (by decide) _ D.length (D.flatMap Tm.cells) rfl OD.out _ _ 1 [x] rfl rfl HRw.out (fun h => by cases h) (tm_one _) (by unfold maxLen; omega) (by omega) LW.out ?_))
        intro v5 w5 ho hg hp
        have hge := OD.out.lt
        have hA := HH2.out.row.lt
        have BX := Lib.hid (HH2.out.box.grownV hg (fun e => OD.out.apart HH2.out.box (by decide) e.symm))
        have OX := Lib.hid (HH2.out.row.grown hg (fun k hk => NE.out k hk))
        have HH3 : Hid (Hp w5 w1.heap.size p (some ⟨g, 0, none⟩) a1 L2) := ⟨BX.out, OX.out, HH2.out.lop⟩
        replace Z := Lib.hid (Z.out.grown hg Z.out.size (fun q hq => Nat.le_trans LZ.out (hge q hq).1))
        replace LW := Lib.hid (Nat.le_trans LW.out hg.size)
        have NE2 : Hid (∀ k, (Value.slice (some ⟨g, 0, none⟩) L2.length a1).ownBlock = some k → v5.ownBlock ≠ some k) := fun k hk e => by
          rcases hp with h | h
          · rw [h] at e
            exact NE.out k hk e
          · rw [h] at e
            injection e with e
            have h1 := (hA k hk).2
            have e2 : (w3.alloc (.cells (tmCs x) 25)).heap.size = w3.heap.size + 1 := by simp
            rw [e2] at h1
            omega
        obtain ⟨B5, b5, rfl, oa⟩ := OwT.push ho
        have OD5 := Lib.hid oa
        have hlen : (D ++ [x]).length = D.length + 1 := by simp
        obtain ⟨D2, hD2⟩ : ∃ X, X = D ++ [x] := ⟨_, rfl⟩
        rw [← hD2] at OD5 NE2 HTG hlen ⊢
        clear ho hg hp hge hA oa HRw OD HH2 BX OX NE hD2
        have hl5 : D2.length + m = n := by omega
        have hl6 : D2.length ≤ D.length + 1 ∧ D.length + 1 ≤ D2.length := by omega
        clear hlen
        go_wp2
        go_roundw
        case rel => exact ⟨m, L2, D2, B5, b5, rfl, hl5, HNN.out, HH3.out, OD5.out, NE2.out, HTG.out, LW.out, Z.out⟩
        case measure => (simp [lenV]; omega)
      · have HE := Lib.hid (show R = (L', D) by rw [← HT.out, till_end t _ L' D (fun hh => ht (by rw [← Hx.out]; exact hh.2))])
        have EL := Lib.hid (show m + 1 = L'.length from HN.out.symm)
        have TW : Hid (Two wr w.heap.size (some ⟨g, 0, none⟩) a1 L' B b D) := ⟨HH.out.row.base LZ.out, OD.out.base LZ.out, NE.out⟩
        clear HT NE HH OD
        go_wp2
        go_light
        go_ret2
        rw [HX.out, HE.out]
        exact ⟨_, a1, B, b, by rw [← EL.out]; rfl, TW.out, Z.out⟩

set_option maxRecDepth 100000 in
set_option maxHeartbeats 4000000 in
theorem specQueueTill (A : Option Addr) (a : Nat) (L : List Tm) (t : Int) (w : World) (hL : L.length ≤ 1048576) (h : RdT w A a L) :
    Calls Try.prog 24 #[.slice A L.length a, .int .i64 t] w (DoT (tillQ L t) w) := by
  obtain ⟨I, hi, hz0, hz1, hz2⟩ := parts_ofH infoTimed
  have I1 := Lib.hid hi
  have I2 := Lib.hid hz0
  have I3 := Lib.hid hz1
  have I4 := Lib.hid hz2
  clear hi hz0 hz1 hz2
  have HR := Lib.hid h
  have OD0 : Hid (OwT (w.alloc (.cells #[] 25)) w.heap.size (some ⟨w.heap.size, 0, none⟩) 0 []) := own_nil_newH w 25 3 rfl
  have Z : Hid (Below w.heap.size w (w.alloc (.cells #[] 25))) := (Below.refl _ _).alloc (Nat.le_refl _) _
  clear h
  go_enter Try.func24, Try.ntmps24
  go_upto_region 2 with (fail)
  obtain ⟨d0, hd0⟩ : ∃ X, X = w.heap.size := ⟨_, rfl⟩
  obtain ⟨w0, hw0⟩ : ∃ X, X = (w.alloc (.cells #[] 25)) := ⟨_, rfl⟩
  have LD0 := Lib.hid (show d0 < (w.alloc (.cells #[] 25)).heap.size by rw [hd0]; simp)
  have DD := Lib.hid hd0
  rw [← hw0] at OD0 Z LD0 ⊢
  rw [show (some ⟨w.heap.size, 0, none⟩ : Option Addr) = some ⟨d0, 0, none⟩ by rw [hd0]] at OD0
  rw [show (Value.slice (some ⟨w.heap.size, 0, none⟩) 0 0) = Value.slice (some ⟨d0, 0, none⟩) 0 0 by rw [hd0]]
  clear hw0 hd0
  go_wp2_with (fail)
  refine (l13Ok A a L _ (by omega) (HR.out.below Z.out).r).mono ?_
  rintro e w1 ⟨rfl, hb⟩
  replace OD0 := Lib.hid (OD0.out.below hb)
  replace Z := Lib.hid (Below.and Z.out hb)
  replace LD0 := Lib.hid (Nat.lt_of_lt_of_le LD0.out hb.size)
  clear hb
  rcases hok : okQ L with _ | _
  · have HX := Lib.hid (tillQ_bad (t := t) hok)
    go_wp2
    go_light
    go_ret2
    rw [HX.out]
    exact ⟨none, 0, _, 0, rfl, ⟨OwT.nil _ _, OD0.out, fun k hk => by simp [Value.ownBlock] at hk⟩, Z.out⟩
  have h20 := okQ_len hok
  obtain ⟨n, hn⟩ : ∃ n, L.length = n := ⟨_, rfl⟩
  obtain ⟨R, hR⟩ : ∃ R, R = tillT t n L [] := ⟨_, rfl⟩
  have HX := Lib.hid (show tillQ L t = R by rw [tillQ_ok hok, hR, hn])
  have HRR := Lib.hid hR
  have HN := Lib.hid hn
  have hn20 : n ≤ 20 := by omega
  have HOK := Lib.hid hok
  clear hok hR hn
  have hba : Below w1.heap.size w1 (w1.alloc (.cells #[] 25)) := (Below.refl _ _).alloc (Nat.le_refl _) _
  have OE : Hid ((w1.alloc (.cells #[] 25)).ownsRow w1.heap.size 25 3 (.slice (some ⟨w1.heap.size, 0, none⟩) 0 0) 0 []) := own_nil_newH w1 25 3 rfl
  have LZ := Lib.hid (show w.heap.size ≤ w1.heap.size from Z.out.size)
  replace OD0 := Lib.hid (OD0.out.below hba)
  replace Z := Lib.hid (Below.and Z.out hba)
  have LE := Lib.hid hba.size
  clear hba
  go_wp2_with (at_builtin; go_loud (refine list_app (f := Tm.cells) (fun _ => rfl) rfl _ _ 23 rfl w1.heap.size 25 I (.agg #[.int .i64 0, .int .i64 0, .int .i64 0]) 24 Try.underlying23 I1.out I2.out I3.out I4.out rfl (by decide) (.slice (some ⟨w1.heap.size, 0, none⟩) 0 0) 0 [] rfl OE.out A a L.length L rfl rfl (Rd.below HR.out.r Z.out) HR.out.nA (tm_one _) (by unfold maxLen; omega) (by omega) LE.out ?_))
  intro v3 w3 ho hg hp
  (try simp only [Nat.zero_add, List.nil_append] at ho)
  obtain ⟨A1, a1, rfl⟩ := own_formH ho
  have hge := own_block_ge (show World.ownsRow _ _ _ _ _ _ _ from OE.out)
  replace OD0 := Lib.hid (OD0.out.grown hg (fun k hk e => by have h1 := LD0.out; have h2 := hge k (by rw [← e]); simp [Value.ownBlock] at hk; omega))
  replace Z := Lib.hid (Z.out.grown hg Z.out.size (fun q hq => Nat.le_trans LZ.out (hge q hq).1))
  have LW := Lib.hid (show w.heap.size ≤ w3.heap.size from Z.out.size)
  have OA1 := Lib.hid (show OwT w3 w1.heap.size A1 a1 L from ho)
  have NE0 : Hid (∀ k, (Value.slice A1 L.length a1).ownBlock = some k → (Value.slice (some ⟨d0, 0, none⟩) ([] : List Tm).length 0).ownBlock ≠ some k) := fun k hk e => by
    have h1 := LD0.out
    have h2 := (OA1.out.lt k hk).1
    simp [Value.ownBlock] at e
    omega
  have OA := Lib.hid (OA1.out.base LZ.out)
  clear ho hg hp hge OE LE h20 hL OA1
  go_wp2
  go_loopw [6, 7] (fun u v wr => ∃ (m : Nat) (L' D : List Tm) (B : Option Addr) (b : Nat) (A' : Option Addr) (a' : Nat), u = .slice B D.length b ∧ v = .slice A' L'.length a' ∧ D.length + m = n ∧ Hid (L'.length = m) ∧ Hid (okQ L' = true) ∧ Hid (Two wr w.heap.size A' a' L' B b D) ∧ Hid (tillT t m L' D = R) ∧ Hid (w.heap.size ≤ wr.heap.size) ∧ Hid (Below w.heap.size w wr)) (fun u _ _ => n - lenV u)
  case atStart => exact ⟨n, L, [], _, 0, A1, a1, rfl, rfl, by simp, HN.out, HOK.out, ⟨OA.out, OD0.out, NE0.out⟩, HRR.out.symm, LW.out, Z.out⟩
  case round =>
    clear OA OD0 NE0 Z LW HRR HN HOK
    obtain ⟨m, L', D, B, b, A', a', rfl, rfl, hm, HN, HOK, TW, HT, LW, Z⟩ := hrel
    rcases hL0 : L' with _ | ⟨x, L0⟩
    · have HL0 := Lib.hid hL0
      have HE := Lib.hid (show R = ([], D) by rw [← HT.out, hL0, till_end t _ [] D (fun hh => by simp at hh)])
      have TW2 : Hid (Two wr w.heap.size A' a' [] B b D) := by have := TW.out; rw [hL0] at this; exact this
      clear HT TW hL0
      go_wp2
      go_light
      go_ret2
      rw [HX.out, HE.out]
      exact ⟨A', a', B, b, rfl, TW2.out, Z.out⟩
    · have HL0 := Lib.hid hL0
      have h0 : 0 < L'.length := by rw [hL0]; simp
      have hx0 : at' L' 0 = x := by rw [hL0]; rfl
      have Hx := Lib.hid hx0
      obtain ⟨k, hk⟩ : ∃ k, L'.length = k + 1 := ⟨L'.length - 1, by omega⟩
      have HK := Lib.hid hk
      have hmk : m = k + 1 := by have := HN.out; omega
      have HMK := Lib.hid hmk
      obtain ⟨g, hA, hg1, hg2⟩ := own_g TW.out.x h0
      subst hA
      obtain ⟨x0, x1, x2⟩ := (show wr.cell? ⟨g, 0, none⟩ = some (.int .i64 x.a) ∧ wr.cell? ⟨g, 1, none⟩ = some (.int .i64 x.f) ∧ wr.cell? ⟨g, 2, none⟩ = some (.int .i64 x.n) by simpa using ownC TW.out.x 0 h0 x hx0)
      have i0 : (0 : Int) < (k : Int) + 1 := by omega
      rw [← hL0, hk]
      have hkn : k + 1 ≤ 20 := by omega
      clear hL0 hx0 h0 hg1 hg2 hmk
      by_cases ht : x.a ≤ t
      · have NX := specQueueNext (some ⟨g, 0, none⟩) a' L' wr (by rw [HK.out]; omega) TW.out.x.rdT
        rw [nextQ_yes HOK.out (by rw [HK.out]; omega), Hx.out, HK.out] at NX
        have NX := Lib.hid NX
        have HTG := Lib.hid (show tillT t k (nextT L') (D ++ [x]) = R by rw [← HT.out, HMK.out, till_go t k L' D (by rw [HK.out]; omega) (by rw [Hx.out]; exact ht), Hx.out])
        have HNN := Lib.hid (show (nextT L').length = k by rw [nextT_len, HK.out]; rfl)
        have HO2 := Lib.hid (show okQ (nextT L') = true from decide_eq_true ((of_decide_eq_true HOK.out : OkQ L').next (by rw [HK.out]; omega)))
        have hmD : D.length + (k + 1) = n := by have := HMK.out; omega
        clear HT hk hm
        go_wp2_with (fail)
        refine NX.out.mono ?_
        rintro e w4 ⟨A5, a5, rfl, o2, hb⟩
        have OD := Lib.hid (TW.out.d.below hb)
        have ODl := TW.out.d.lt
        have NE : Hid (∀ q, (Value.slice A5 (nextT L').length a5).ownBlock = some q → (Value.slice B D.length b).ownBlock ≠ some q) := fun q hq e => by
          have h1 := (ODl q e).2
          have h2 := (OwT.lt o2 q hq).1
          omega
        have OA := Lib.hid (o2.base LW.out)
        replace Z := Lib.hid (Below.and Z.out hb)
        replace LW := Lib.hid (Nat.le_trans LW.out hb.size)
        dsimp only
        clear o2 hb ODl TW NX x0 x1 x2 ht HL0 HN HOK Hx
        generalize nextT L' = L2 at HTG HNN HO2 NE OA ⊢
        have hba : Below w4.heap.size w4 (w4.alloc (.cells (tmCs x) 25)) := (Below.refl _ _).alloc (Nat.le_refl _) _
        have KX : Hid (Bkk (w4.alloc (.cells (tmCs x) 25)) w4.heap.size 25 (tmCs x)) := Bkk.new _
        replace OA := Lib.hid (OA.out.below hba)
        replace OD := Lib.hid (OD.out.below hba)
        replace Z := Lib.hid (Below.and Z.out hba)
        replace LW := Lib.hid (Nat.le_trans LW.out hba.size)
        clear hba
        go_upto_region 7 with (fail)
        obtain ⟨xb, hxb⟩ : ∃ X, X = w4.heap.size := ⟨_, rfl⟩
        obtain ⟨w5, hw5⟩ : ∃ X, X = w4.alloc (.cells (tmCs x) 25) := ⟨_, rfl⟩
        rw [← hw5] at OA OD Z LW KX ⊢
        rw [← hxb] at KX ⊢
        clear hw5 hxb
        have x0 : w5.cell? ⟨xb, 0, none⟩ = some (.int .i64 x.a) := KX.out.cell 0
        have x1 : w5.cell? ⟨xb, 1, none⟩ = some (.int .i64 x.f) := KX.out.cell 1
        have x2 : w5.cell? ⟨xb, 2, none⟩ = some (.int .i64 x.n) := KX.out.cell 2
        have lx := KX.out.lt
        have hba : Below w5.heap.size w5 (w5.alloc (.cells (tmCs x) 25)) := (Below.refl _ _).alloc (Nat.le_refl _) _
        have HRw := Lib.hid (tm_row w5 25 x)
        replace OA := Lib.hid (OA.out.below hba)
        replace OD := Lib.hid (OD.out.below hba)
        replace Z := Lib.hid (Below.and Z.out hba)
        replace LW := Lib.hid (Nat.le_trans LW.out hba.size)
        clear hba
        go_wp2_with (at_builtin; go_loud (refine list_app (f := Tm.cells) (fun _ => rfl) rfl _ _ 23 rfl w.heap.size 25 I (.agg #[.int .i64 0, .int .i64 0, .int .i64 0]) 24 Try.underlying23 I1.out I2.out I3.out I4.out rfl (by decide) _ D.length (D.flatMap Tm.cells) rfl OD.out _ _ 1 [x] rfl rfl HRw.out (fun h => by cases h) (tm_one _) (by unfold maxLen; omega) (by omega) LW.out ?_))
        intro v7 w7 ho hg hp
        have hge := OD.out.lt
        have hA := OA.out.lt
        have OX := Lib.hid (OA.out.grown hg (fun q hq => NE.out q hq))
        replace Z := Lib.hid (Z.out.grown hg Z.out.size (fun q hq => (hge q hq).1))
        replace LW := Lib.hid (Nat.le_trans LW.out hg.size)
        have NE2 : Hid (∀ q, (Value.slice A5 L2.length a5).ownBlock = some q → v7.ownBlock ≠ some q) := fun q hq e => by
          rcases hp with h | h
          · rw [h] at e
            exact NE.out q hq e
          · rw [h] at e
            injection e with e
            have h1 := (hA q hq).2
            have e2 : (w5.alloc (.cells (tmCs x) 25)).heap.size = w5.heap.size + 1 := by simp
            rw [e2] at h1
            omega
        obtain ⟨B5, b5, rfl, oa⟩ := OwT.push ho
        have OD5 := Lib.hid oa
        have hlen : (D ++ [x]).length = D.length + 1 := by simp
        obtain ⟨D2, hD2⟩ : ∃ X, X = D ++ [x] := ⟨_, rfl⟩
        rw [← hD2] at OD5 NE2 HTG hlen ⊢
        clear ho hg hp hge hA oa HRw OD OA NE hD2 KX x0 x1 x2 lx
        have hl5 : D2.length + k = n := by omega
        have hl6 : D2.length ≤ D.length + 1 ∧ D.length + 1 ≤ D2.length := by omega
        have TW9 : Hid (Two w7 w.heap.size A5 a5 L2 B5 b5 D2) := ⟨OX.out, OD5.out, NE2.out⟩
        clear hlen HMK HK
        go_wp2
        go_roundw
        case rel => exact ⟨k, L2, D2, B5, b5, A5, a5, rfl, rfl, hl5, HNN.out, HO2.out, TW9.out, HTG.out, LW.out, Z.out⟩
        case measure => (simp [lenV]; omega)
      · have HE := Lib.hid (show R = (L', D) by rw [← HT.out, till_end t _ L' D (fun hh => ht (by rw [← Hx.out]; exact hh.2))])
        have TW2 := Lib.hid TW.out
        clear HT TW hk
        go_wp2
        go_light
        go_ret2
        rw [HX.out, HE.out]
        exact ⟨_, a', B, b, by rw [← HK.out]; rfl, TW2.out, Z.out⟩

end Go.Proofs.Ytgnemgnhjallhaa
