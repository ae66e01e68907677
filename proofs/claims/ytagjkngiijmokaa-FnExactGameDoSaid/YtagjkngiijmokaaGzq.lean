/- The exact law of GameDo, walked. -/
import Derived.Test.YtagjkngiijmokaaMU
import Derived.Test.YtagjkngiijmokaaMC
import Derived.Deep.Cut
namespace Go.Proofs.Ytagjkngiijmokaa
open Go.ChangeShapes Go.WideShapes Go.ChangeAt Go.RowKit
set_option linter.unusedVariables false
set_option linter.unusedSimpArgs false

theorem GameAt.put {w : World} {lo hi : Nat} {A : Option Addr} {a : Nat} {B : Option Addr} {b : Nat} {C : Option Addr} {c : Nat} {E : List Fig} {F L : List Int} (h : GameAt w lo hi A a B b C c E F L) {p : Nat} (hp : p < lo ∨ hi ≤ p) (o : Nat) (v : Value) : GameAt (w.setCell ⟨p, o, none⟩ v) lo hi A a B b C c E F L :=
 h.same fun k h1 h2 => heap_setCell_other w ⟨p, o, none⟩ k v (by show k ≠ p; omega)

set_option maxRecDepth 100000 in
set_option maxHeartbeats 8000000 in
theorem exactStep (A : Option Addr) (a : Nat) (B : Option Addr) (b : Nat) (C : Option Addr) (c : Nat) (E : List Fig) (F L : List Int) (rc rn ro rx ry : Int) (w : World) (hE : E.length ≤ maxLen) (hF : F.length ≤ maxLen) (hL : L.length ≤ maxLen)
 (rE : InF w A E) (rF : InI w B F) (rL : InI w C L) (E1 : List Fig) (F1 L1 : List Int) (c1 : Int) (hX : ((E1, F1, L1), c1) = stepG E F L ⟨rc, rn, ro, rx, ry⟩) :
 Calls Try.prog 4 #[gameV A E.length a B F.length b C L.length c, .agg #[.int .i64 rc, .int .i64 rn, .int .i64 ro, .int .i64 rx, .int .i64 ry]] w fun e w' => e = .returned (.bool true) ∧ Below w.heap.size w w' := by
 unfold gameV
 have Z0 : Hid (Below w.heap.size w ((w.alloc (.cells #[.slice A E.length a, .slice B F.length b, .slice C L.length c] 40)).alloc (.cells #[.int .i64 rc, .int .i64 rn, .int .i64 ro, .int .i64 rx, .int .i64 ry] 41))) := below_alloc2 w _ _
 have H1 := Lib.hid rE
 have H2 := Lib.hid rF
 have H3 := Lib.hid rL
 have K0 : Hid (Three ((w.alloc (.cells #[.slice A E.length a, .slice B F.length b, .slice C L.length c] 40)).alloc (.cells #[.int .i64 rc, .int .i64 rn, .int .i64 ro, .int .i64 rx, .int .i64 ry] 41)) w.heap.size 40 (.slice A E.length a) (.slice B F.length b) (.slice C L.length c)) := (Three.new w).alloc _
 have R0 : Hid (Bkk ((w.alloc (.cells #[.slice A E.length a, .slice B F.length b, .slice C L.length c] 40)).alloc (.cells #[.int .i64 rc, .int .i64 rn, .int .i64 ro, .int .i64 rx, .int .i64 ry] 41)) (w.heap.size + 1) 41 #[.int .i64 rc, .int .i64 rn, .int .i64 ro, .int .i64 rx, .int .i64 ry]) := by have := Bkk.new (t := 41) (cs := #[.int .i64 rc, .int .i64 rn, .int .i64 ro, .int .i64 rx, .int .i64 ry]) (w.alloc (.cells #[.slice A E.length a, .slice B F.length b, .slice C L.length c] 40)); simpa [Hid] using this
 have S0 : Hid (((w.alloc (.cells #[.slice A E.length a, .slice B F.length b, .slice C L.length c] 40)).alloc (.cells #[.int .i64 rc, .int .i64 rn, .int .i64 ro, .int .i64 rx, .int .i64 ry] 41)).heap.size = w.heap.size + 2) := by show _ = _; simp
 clear rE rF rL
 go_enter Try.func4, Try.ntmps4
 go_wp2_with (fail)
 refine (szGame A _ a B _ b C _ c _ hE hF hL).mono ?_
 rintro e wA ⟨rfl, h1⟩
 have Z1 := Lib.hid (Below.and Z0.out h1)
 have K1 := Lib.hid (Three.below K0.out h1 (by have := S0.out; omega))
 have R1 := Lib.hid (R0.out.below h1)
 have S1 := Lib.hid (show w.heap.size + 2 ≤ wA.heap.size by have := h1.size; have := S0.out; omega)
 clear h1 Z0 K0 R0 S0
 by_cases hsz : ¬ E.length + F.length + L.length ≤ 1048576
 · rw [szOf, if_neg hsz]
   go_wp2
   go_light
   go_ret
   exact ⟨rfl, Z1.out⟩
 have hsz' : E.length + F.length + L.length ≤ 1048576 := by omega
 clear hsz hE hF hL
 rw [szOf, if_pos hsz']
 have d0 : decide ((1048576 : Int) - E.length - F.length - L.length < 0) = false := by simp; omega
 have HS : Hid (∀ (wx : World) (A' : Option Addr) (a' : Nat) (B' : Option Addr) (b' : Nat) (C' : Option Addr) (d' : Nat), GmR wx A' a' B' b' C' d' E F L → Calls Try.prog 15 #[gameV A' E.length a' B' F.length b' C' L.length d', .agg #[.int .i64 rc, .int .i64 rn, .int .i64 ro, .int .i64 rx, .int .i64 ry]] wx
  fun e w' => ∃ A' a' B' b' C' d', e = .returned (.tuple #[gameV A' E1.length a' B' F1.length b' C' L1.length d', .int .i64 c1]) ∧ GmR w' A' a' B' b' C' d' E1 F1 L1 ∧ Below wx.heap.size wx w') :=
  fun wx A' a' B' b' C' d' hg => by have := specGameDo A' a' B' b' C' d' E F L ⟨rc, rn, ro, rx, ry⟩ wx (by omega) (by omega) (by omega) hg; rw [← hX] at this; exact this
 have HI : Hid (∀ (wx : World) (A' : Option Addr) (a' : Nat) (B' : Option Addr) (b' : Nat) (C' : Option Addr) (d' : Nat), GmR wx A' a' B' b' C' d' E F L → Calls Try.prog 11 #[gameV A' E.length a' B' F.length b' C' L.length d', .agg #[.int .i64 rc, .int .i64 rn, .int .i64 ro, .int .i64 rx, .int .i64 ry]] wx
  fun e w' => ∃ A' a' B' b' C' d', e = .returned (.tuple #[gameV A' E1.length a' B' F1.length b' C' L1.length d', .int .i64 c1]) ∧ OwG w' wx.heap.size A' a' B' b' C' d' E1 F1 L1 ∧ Below wx.heap.size wx w') :=
  fun wx A' a' B' b' C' d' hg => by have := implGameDo A' a' B' b' C' d' E F L ⟨rc, rn, ro, rx, ry⟩ wx (by omega) (by omega) (by omega) hg; rw [← hX] at this; exact this
 have hl := stepG_len E F L ⟨rc, rn, ro, rx, ry⟩
 rw [← hX] at hl
 have HE1 : Hid (E1.length ≤ 5) := hl.1
 have HF1 : Hid (F1.length ≤ 16) := hl.2.1
 have HL1 : Hid (L1.length ≤ 4) := hl.2.2
 clear hl hX
 go_upto_region 5 with (fail)
 go_cut [6, 7] from 16 (fun s6 s7 wc => ∃ p6 A3 a3 B3 b3 C3 c3, s6 = .pointer (some ⟨p6, 0, none⟩) ∧ s7 = .int .i64 c1 ∧ Hid (Three wc p6 28 (.slice A3 E1.length a3) (.slice B3 F1.length b3) (.slice C3 L1.length c3)) ∧ Hid (GmR wc A3 a3 B3 b3 C3 c3 E1 F1 L1) ∧ Hid (wA.heap.size ≤ p6) ∧ Hid (Below wA.heap.size wA wc))
 case first =>
  obtain ⟨p0, p1, p2⟩ := K1.out.cells
  have l0 := K1.out.lt
  have l1 : w.heap.size + 1 < wA.heap.size := by have := S1.out; omega
  have xr0 : wA.cell? ⟨w.heap.size + 1, 0, none⟩ = some (.int .i64 rc) := R1.out.cell 0
  have xr1 : wA.cell? ⟨w.heap.size + 1, 1, none⟩ = some (.int .i64 rn) := R1.out.cell 1
  have xr2 : wA.cell? ⟨w.heap.size + 1, 2, none⟩ = some (.int .i64 ro) := R1.out.cell 2
  have xr3 : wA.cell? ⟨w.heap.size + 1, 3, none⟩ = some (.int .i64 rx) := R1.out.cell 3
  have xr4 : wA.cell? ⟨w.heap.size + 1, 4, none⟩ = some (.int .i64 ry) := R1.out.cell 4
  refine wp_region_held_drew (S := fun WS => Below wA.heap.size wA WS) (by kernel_rfl) ((Below.refl _ _).drew) (fun hS0 => ?_)
  refine tkI 0 22 (v := ?_) rfl rfl ?_ ?_
  rotate_left
  · intro w1 hSw; obtain ⟨hcS, hfS⟩ := bcell hSw; go_simp; (try with_reducible rfl)
  (try simp only [Act.put, pu1, pu2, pu3])
  refine tkI 2 24 (v := ?_) rfl rfl ?_ ?_
  rotate_left
  · intro w1 hSw; obtain ⟨hcS, hfS⟩ := bcell hSw; go_simp; (try with_reducible rfl)
  (try simp only [Act.put, pu1, pu2, pu3])
  have HBd : Hid (Below wA.heap.size wA wA.drew) := (Below.refl _ _).drew
  refine wpAnyH_ready (rs := [1, 8]) (by kernel_rfl) (by simp) ?_
  refine AllReadyH.cons rfl (fun KK hK => ?_) (AllReadyH.cons rfl (fun KK hK => ?_) AllReadyH.nil)
  · go_simp
    refine (toGame A a B b C c E F L _ (by omega) (by omega) (by omega) (H1.out.below (Below.and Z1.out HBd.out)) (H2.out.below (Below.and Z1.out HBd.out)) (H3.out.below (Below.and Z1.out HBd.out))).mono ?_
    rintro e wx137 ⟨Aqx139, aqx139, Bqx139, bqx139, Cqx139, cqx139, rfl, gqx139, hqx139⟩
    have Gx140 := Lib.hid gqx139.gmR
    have HBx138 := Lib.hid (Below.and HBd.out hqx139)
    clear gqx139 hqx139
    refine hK.out _ _ HBx138.out (fun hSx141 => ?_)
    clear hK KK
    (try simp only [Act.put, pu1, pu2, pu3])
    refine wpAnyH_ready (rs := [3, 8]) (by kernel_rfl) (by simp) ?_
    refine AllReadyH.cons rfl (fun KK hK => ?_) (AllReadyH.cons rfl (fun KK hK => ?_) AllReadyH.nil)
    · go_simp
      refine (toReq rc rn ro rx ry _).mono ?_
      rintro e wx142 ⟨rfl, hx144⟩
      have HBx143 := Lib.hid (Below.and HBx138.out hx144)
      have Gx145 := Lib.hid (Gx140.out.below hx144)
      clear hx144
      refine hK.out _ _ HBx143.out (fun hSx146 => ?_)
      clear hK KK
      (try simp only [Act.put, pu1, pu2, pu3])
      refine wpAnyH_ready (rs := [4, 8]) (by kernel_rfl) (by simp) ?_
      refine AllReadyH.cons rfl (fun KK hK => ?_) (AllReadyH.cons rfl (fun KK hK => ?_) AllReadyH.nil)
      · go_simp
        refine (HS.out _ _ _ _ _ _ _ Gx145.out).mono ?_
        rintro e wx147 ⟨Arx149, arx149, Brx149, brx149, Crx149, crx149, rfl, grx149, hrx149⟩
        have Gx150 := Lib.hid grx149
        unfold gameV
        have HBx148 := Lib.hid (Below.and HBx143.out hrx149)
        have Gx151 := Lib.hid (Gx145.out.below hrx149)
        clear hrx149 grx149
        refine hK.out _ _ HBx148.out (fun hSx152 => ?_)
        clear hK KK
        (try simp only [Act.put, pu1, pu2, pu3])
        refine tkI 5 21 (v := ?_) rfl rfl ?_ ?_
        rotate_left
        · intro w1 hSw; obtain ⟨hcS, hfS⟩ := bcell hSw; go_simp; (try with_reducible rfl)
        (try simp only [Act.put, pu1, pu2, pu3])
        refine tkI 6 27 (v := ?_) rfl rfl ?_ ?_
        rotate_left
        · intro w1 hSw; obtain ⟨hcS, hfS⟩ := bcell hSw; go_simp; (try with_reducible rfl)
        (try simp only [Act.put, pu1, pu2, pu3])
        refine tkI 7 28 (v := ?_) rfl rfl ?_ ?_
        rotate_left
        · intro w1 hSw; obtain ⟨hcS, hfS⟩ := bcell hSw; go_simp; (try with_reducible rfl)
        (try simp only [Act.put, pu1, pu2, pu3])
        refine wpAnyH_ready (rs := [8]) (by kernel_rfl) (by simp) ?_
        refine AllReadyH.cons rfl (fun KK hK => ?_) AllReadyH.nil
        go_simp
        have HBx154a : Below wA.heap.size wA (wx147.alloc (.cells #[.slice none 0 0, .slice none 0 0, .slice none 0 0] 28)) := HBx148.out.alloc HBx148.out.size _
        refine hK.out _ _ HBx154a (fun hSx157 => ?_)
        clear hK KK
        (try simp only [Act.put, pu1, pu2, pu3])
        have Gx156a : Three (wx147.alloc (.cells #[.slice none 0 0, .slice none 0 0, .slice none 0 0] 28)) wx147.heap.size 28 (.slice none 0 0) (.slice none 0 0) (.slice none 0 0) := Three.new wx147
        have hba : Below wx147.heap.size wx147 (wx147.alloc (.cells #[.slice none 0 0, .slice none 0 0, .slice none 0 0] 28)) := (Below.refl _ _).alloc (Nat.le_refl _) _
        have Gx158 := Lib.hid (Gx151.out.below hba)
        have Gx159 := Lib.hid (Gx150.out.below hba)
        have PBpx155 := Lib.hid (show wA.heap.size ≤ wx147.heap.size from HBx148.out.size)
        have PApx155 := Lib.hid (show wx147.heap.size < (wx147.alloc (.cells #[.slice none 0 0, .slice none 0 0, .slice none 0 0] 28)).heap.size by simp)
        obtain ⟨px155, hbpx155⟩ : ∃ X, X = wx147.heap.size := ⟨_, rfl⟩
        rw [← hbpx155] at Gx156a PBpx155 PApx155 ⊢
        obtain ⟨wx153, hwwx153⟩ : ∃ X, X = (wx147.alloc (.cells #[.slice none 0 0, .slice none 0 0, .slice none 0 0] 28)) := ⟨_, rfl⟩
        rw [← hwwx153] at HBx154a Gx156a PApx155 Gx158 Gx159  ⊢
        have HBx154 := Lib.hid HBx154a
        have Gx156 := Lib.hid Gx156a
        clear HBx154a Gx156a hba hwwx153 hbpx155
        refine wpAnyH_ready (rs := [9]) (by kernel_rfl) (by simp) ?_
        refine AllReadyH.cons rfl (fun KK hK => ?_) AllReadyH.nil
        obtain ⟨zb0, zb1, zb2⟩ := Gx156.out.cells
        have zbf := Gx156.out.frozen
        go_simp
        have HBx160 : Hid (Below wA.heap.size wA (((wx153.setCell ⟨px155, 0, none⟩ (.slice Arx149 E1.length arx149)).setCell ⟨px155, 1, none⟩ (.slice Brx149 F1.length brx149)).setCell ⟨px155, 2, none⟩ (.slice Crx149 L1.length crx149))) := ((HBx154.out.setCell PBpx155.out (p := ⟨px155, 0, none⟩) (.slice Arx149 E1.length arx149)).setCell PBpx155.out (p := ⟨px155, 1, none⟩) (.slice Brx149 F1.length brx149)).setCell PBpx155.out (p := ⟨px155, 2, none⟩) (.slice Crx149 L1.length crx149)
        have TB : Hid (Three (((wx153.setCell ⟨px155, 0, none⟩ (.slice Arx149 E1.length arx149)).setCell ⟨px155, 1, none⟩ (.slice Brx149 F1.length brx149)).setCell ⟨px155, 2, none⟩ (.slice Crx149 L1.length crx149)) px155 28 (.slice Arx149 E1.length arx149) (.slice Brx149 F1.length brx149) (.slice Crx149 L1.length crx149)) := ((Gx156.out.set0 (.slice Arx149 E1.length arx149)).set1 (.slice Brx149 F1.length brx149)).set2 (.slice Crx149 L1.length crx149)
        refine hK.out _ _ HBx160.out (fun hSz => ?_)
        clear hK KK
        (try simp only [Act.put, pu1, pu2, pu3])
        refine tkI 10 7 (v := ?_) rfl rfl ?_ ?_
        rotate_left
        · intro w1 hSw; obtain ⟨hcS, hfS⟩ := bcell hSw; go_simp; (try with_reducible rfl)
        (try simp only [Act.put, pu1, pu2, pu3])
        refine wpAnyH_done (by kernel_rfl) ?_ _
        have GF := Lib.hid (((Gx159.out.box (p := px155) Gx156.out.cells.1 0 (.slice Arx149 E1.length arx149)).box (p := px155) (Gx156.out.set0 _).cells.1 1 (.slice Brx149 F1.length brx149)).box (p := px155) ((Gx156.out.set0 _).set1 _).cells.1 2 (.slice Crx149 L1.length crx149))
        go_wp2_with (fail)
        go_meet
        case rel => exact ⟨px155, Arx149, arx149, Brx149, brx149, Crx149, crx149, rfl, rfl, TB, GF, PBpx155, HBx160⟩
      · go_simp
        have HBx162a : Below wA.heap.size wA (wx142.alloc (.cells #[.slice none 0 0, .slice none 0 0, .slice none 0 0] 28)) := HBx143.out.alloc HBx143.out.size _
        refine hK.out _ _ HBx162a (fun hSx165 => ?_)
        clear hK KK
        (try simp only [Act.put, pu1, pu2, pu3])
        have Gx164a : Three (wx142.alloc (.cells #[.slice none 0 0, .slice none 0 0, .slice none 0 0] 28)) wx142.heap.size 28 (.slice none 0 0) (.slice none 0 0) (.slice none 0 0) := Three.new wx142
        have hba : Below wx142.heap.size wx142 (wx142.alloc (.cells #[.slice none 0 0, .slice none 0 0, .slice none 0 0] 28)) := (Below.refl _ _).alloc (Nat.le_refl _) _
        have Gx166 := Lib.hid (Gx145.out.below hba)
        have PBpx163 := Lib.hid (show wA.heap.size ≤ wx142.heap.size from HBx143.out.size)
        have PApx163 := Lib.hid (show wx142.heap.size < (wx142.alloc (.cells #[.slice none 0 0, .slice none 0 0, .slice none 0 0] 28)).heap.size by simp)
        obtain ⟨px163, hbpx163⟩ : ∃ X, X = wx142.heap.size := ⟨_, rfl⟩
        rw [← hbpx163] at Gx164a PBpx163 PApx163 ⊢
        obtain ⟨wx161, hwwx161⟩ : ∃ X, X = (wx142.alloc (.cells #[.slice none 0 0, .slice none 0 0, .slice none 0 0] 28)) := ⟨_, rfl⟩
        rw [← hwwx161] at HBx162a Gx164a PApx163 Gx166  ⊢
        have HBx162 := Lib.hid HBx162a
        have Gx164 := Lib.hid Gx164a
        clear HBx162a Gx164a hba hwwx161 hbpx163
        refine wpAnyH_ready (rs := [4]) (by kernel_rfl) (by simp) ?_
        refine AllReadyH.cons rfl (fun KK hK => ?_) AllReadyH.nil
        go_simp
        refine (HS.out _ _ _ _ _ _ _ Gx166.out).mono ?_
        rintro e wx167 ⟨Arx169, arx169, Brx169, brx169, Crx169, crx169, rfl, grx169, hrx169⟩
        have Gx170 := Lib.hid grx169
        unfold gameV
        have HBx168 := Lib.hid (Below.and HBx162.out hrx169)
        have Gx171 := Lib.hid (Gx166.out.below hrx169)
        have Gx172 := Lib.hid (Three.below Gx164.out hrx169 Gx164.out.lt)
        clear hrx169 grx169
        refine hK.out _ _ HBx168.out (fun hSx173 => ?_)
        clear hK KK
        (try simp only [Act.put, pu1, pu2, pu3])
        refine tkI 5 21 (v := ?_) rfl rfl ?_ ?_
        rotate_left
        · intro w1 hSw; obtain ⟨hcS, hfS⟩ := bcell hSw; go_simp; (try with_reducible rfl)
        (try simp only [Act.put, pu1, pu2, pu3])
        refine tkI 6 27 (v := ?_) rfl rfl ?_ ?_
        rotate_left
        · intro w1 hSw; obtain ⟨hcS, hfS⟩ := bcell hSw; go_simp; (try with_reducible rfl)
        (try simp only [Act.put, pu1, pu2, pu3])
        refine tkI 7 28 (v := ?_) rfl rfl ?_ ?_
        rotate_left
        · intro w1 hSw; obtain ⟨hcS, hfS⟩ := bcell hSw; go_simp; (try with_reducible rfl)
        (try simp only [Act.put, pu1, pu2, pu3])
        refine wpAnyH_ready (rs := [9]) (by kernel_rfl) (by simp) ?_
        refine AllReadyH.cons rfl (fun KK hK => ?_) AllReadyH.nil
        obtain ⟨zb0, zb1, zb2⟩ := Gx172.out.cells
        have zbf := Gx172.out.frozen
        go_simp
        have HBx174 : Hid (Below wA.heap.size wA (((wx167.setCell ⟨px163, 0, none⟩ (.slice Arx169 E1.length arx169)).setCell ⟨px163, 1, none⟩ (.slice Brx169 F1.length brx169)).setCell ⟨px163, 2, none⟩ (.slice Crx169 L1.length crx169))) := ((HBx168.out.setCell PBpx163.out (p := ⟨px163, 0, none⟩) (.slice Arx169 E1.length arx169)).setCell PBpx163.out (p := ⟨px163, 1, none⟩) (.slice Brx169 F1.length brx169)).setCell PBpx163.out (p := ⟨px163, 2, none⟩) (.slice Crx169 L1.length crx169)
        have TB : Hid (Three (((wx167.setCell ⟨px163, 0, none⟩ (.slice Arx169 E1.length arx169)).setCell ⟨px163, 1, none⟩ (.slice Brx169 F1.length brx169)).setCell ⟨px163, 2, none⟩ (.slice Crx169 L1.length crx169)) px163 28 (.slice Arx169 E1.length arx169) (.slice Brx169 F1.length brx169) (.slice Crx169 L1.length crx169)) := ((Gx172.out.set0 (.slice Arx169 E1.length arx169)).set1 (.slice Brx169 F1.length brx169)).set2 (.slice Crx169 L1.length crx169)
        refine hK.out _ _ HBx174.out (fun hSz => ?_)
        clear hK KK
        (try simp only [Act.put, pu1, pu2, pu3])
        refine tkI 10 7 (v := ?_) rfl rfl ?_ ?_
        rotate_left
        · intro w1 hSw; obtain ⟨hcS, hfS⟩ := bcell hSw; go_simp; (try with_reducible rfl)
        (try simp only [Act.put, pu1, pu2, pu3])
        refine wpAnyH_done (by kernel_rfl) ?_ _
        have GF := Lib.hid (((Gx170.out.box (p := px163) Gx172.out.cells.1 0 (.slice Arx169 E1.length arx169)).box (p := px163) (Gx172.out.set0 _).cells.1 1 (.slice Brx169 F1.length brx169)).box (p := px163) ((Gx172.out.set0 _).set1 _).cells.1 2 (.slice Crx169 L1.length crx169))
        go_wp2_with (fail)
        go_meet
        case rel => exact ⟨px163, Arx169, arx169, Brx169, brx169, Crx169, crx169, rfl, rfl, TB, GF, PBpx163, HBx174⟩
    · go_simp
      have HBx176a : Below wA.heap.size wA (wx137.alloc (.cells #[.slice none 0 0, .slice none 0 0, .slice none 0 0] 28)) := HBx138.out.alloc HBx138.out.size _
      refine hK.out _ _ HBx176a (fun hSx179 => ?_)
      clear hK KK
      (try simp only [Act.put, pu1, pu2, pu3])
      have Gx178a : Three (wx137.alloc (.cells #[.slice none 0 0, .slice none 0 0, .slice none 0 0] 28)) wx137.heap.size 28 (.slice none 0 0) (.slice none 0 0) (.slice none 0 0) := Three.new wx137
      have hba : Below wx137.heap.size wx137 (wx137.alloc (.cells #[.slice none 0 0, .slice none 0 0, .slice none 0 0] 28)) := (Below.refl _ _).alloc (Nat.le_refl _) _
      have Gx180 := Lib.hid (Gx140.out.below hba)
      have PBpx177 := Lib.hid (show wA.heap.size ≤ wx137.heap.size from HBx138.out.size)
      have PApx177 := Lib.hid (show wx137.heap.size < (wx137.alloc (.cells #[.slice none 0 0, .slice none 0 0, .slice none 0 0] 28)).heap.size by simp)
      obtain ⟨px177, hbpx177⟩ : ∃ X, X = wx137.heap.size := ⟨_, rfl⟩
      rw [← hbpx177] at Gx178a PBpx177 PApx177 ⊢
      obtain ⟨wx175, hwwx175⟩ : ∃ X, X = (wx137.alloc (.cells #[.slice none 0 0, .slice none 0 0, .slice none 0 0] 28)) := ⟨_, rfl⟩
      rw [← hwwx175] at HBx176a Gx178a PApx177 Gx180  ⊢
      have HBx176 := Lib.hid HBx176a
      have Gx178 := Lib.hid Gx178a
      clear HBx176a Gx178a hba hwwx175 hbpx177
      refine wpAnyH_ready (rs := [3]) (by kernel_rfl) (by simp) ?_
      refine AllReadyH.cons rfl (fun KK hK => ?_) AllReadyH.nil
      go_simp
      refine (toReq rc rn ro rx ry _).mono ?_
      rintro e wx181 ⟨rfl, hx183⟩
      have HBx182 := Lib.hid (Below.and HBx176.out hx183)
      have Gx184 := Lib.hid (Gx180.out.below hx183)
      have Gx185 := Lib.hid (Three.below Gx178.out hx183 Gx178.out.lt)
      clear hx183
      refine hK.out _ _ HBx182.out (fun hSx186 => ?_)
      clear hK KK
      (try simp only [Act.put, pu1, pu2, pu3])
      refine wpAnyH_ready (rs := [4]) (by kernel_rfl) (by simp) ?_
      refine AllReadyH.cons rfl (fun KK hK => ?_) AllReadyH.nil
      go_simp
      refine (HS.out _ _ _ _ _ _ _ Gx184.out).mono ?_
      rintro e wx187 ⟨Arx189, arx189, Brx189, brx189, Crx189, crx189, rfl, grx189, hrx189⟩
      have Gx190 := Lib.hid grx189
      unfold gameV
      have HBx188 := Lib.hid (Below.and HBx182.out hrx189)
      have Gx191 := Lib.hid (Gx184.out.below hrx189)
      have Gx192 := Lib.hid (Three.below Gx185.out hrx189 Gx185.out.lt)
      clear hrx189 grx189
      refine hK.out _ _ HBx188.out (fun hSx193 => ?_)
      clear hK KK
      (try simp only [Act.put, pu1, pu2, pu3])
      refine tkI 5 21 (v := ?_) rfl rfl ?_ ?_
      rotate_left
      · intro w1 hSw; obtain ⟨hcS, hfS⟩ := bcell hSw; go_simp; (try with_reducible rfl)
      (try simp only [Act.put, pu1, pu2, pu3])
      refine tkI 6 27 (v := ?_) rfl rfl ?_ ?_
      rotate_left
      · intro w1 hSw; obtain ⟨hcS, hfS⟩ := bcell hSw; go_simp; (try with_reducible rfl)
      (try simp only [Act.put, pu1, pu2, pu3])
      refine tkI 7 28 (v := ?_) rfl rfl ?_ ?_
      rotate_left
      · intro w1 hSw; obtain ⟨hcS, hfS⟩ := bcell hSw; go_simp; (try with_reducible rfl)
      (try simp only [Act.put, pu1, pu2, pu3])
      refine wpAnyH_ready (rs := [9]) (by kernel_rfl) (by simp) ?_
      refine AllReadyH.cons rfl (fun KK hK => ?_) AllReadyH.nil
      obtain ⟨zb0, zb1, zb2⟩ := Gx192.out.cells
      have zbf := Gx192.out.frozen
      go_simp
      have HBx194 : Hid (Below wA.heap.size wA (((wx187.setCell ⟨px177, 0, none⟩ (.slice Arx189 E1.length arx189)).setCell ⟨px177, 1, none⟩ (.slice Brx189 F1.length brx189)).setCell ⟨px177, 2, none⟩ (.slice Crx189 L1.length crx189))) := ((HBx188.out.setCell PBpx177.out (p := ⟨px177, 0, none⟩) (.slice Arx189 E1.length arx189)).setCell PBpx177.out (p := ⟨px177, 1, none⟩) (.slice Brx189 F1.length brx189)).setCell PBpx177.out (p := ⟨px177, 2, none⟩) (.slice Crx189 L1.length crx189)
      have TB : Hid (Three (((wx187.setCell ⟨px177, 0, none⟩ (.slice Arx189 E1.length arx189)).setCell ⟨px177, 1, none⟩ (.slice Brx189 F1.length brx189)).setCell ⟨px177, 2, none⟩ (.slice Crx189 L1.length crx189)) px177 28 (.slice Arx189 E1.length arx189) (.slice Brx189 F1.length brx189) (.slice Crx189 L1.length crx189)) := ((Gx192.out.set0 (.slice Arx189 E1.length arx189)).set1 (.slice Brx189 F1.length brx189)).set2 (.slice Crx189 L1.length crx189)
      refine hK.out _ _ HBx194.out (fun hSz => ?_)
      clear hK KK
      (try simp only [Act.put, pu1, pu2, pu3])
      refine tkI 10 7 (v := ?_) rfl rfl ?_ ?_
      rotate_left
      · intro w1 hSw; obtain ⟨hcS, hfS⟩ := bcell hSw; go_simp; (try with_reducible rfl)
      (try simp only [Act.put, pu1, pu2, pu3])
      refine wpAnyH_done (by kernel_rfl) ?_ _
      have GF := Lib.hid (((Gx190.out.box (p := px177) Gx192.out.cells.1 0 (.slice Arx189 E1.length arx189)).box (p := px177) (Gx192.out.set0 _).cells.1 1 (.slice Brx189 F1.length brx189)).box (p := px177) ((Gx192.out.set0 _).set1 _).cells.1 2 (.slice Crx189 L1.length crx189))
      go_wp2_with (fail)
      go_meet
      case rel => exact ⟨px177, Arx189, arx189, Brx189, brx189, Crx189, crx189, rfl, rfl, TB, GF, PBpx177, HBx194⟩
  · go_simp
    have HBx196a : Below wA.heap.size wA (wA.alloc (.cells #[.slice none 0 0, .slice none 0 0, .slice none 0 0] 28)).drew := HBd.out.alloc HBd.out.size _
    refine hK.out _ _ HBx196a (fun hSx199 => ?_)
    clear hK KK
    (try simp only [Act.put, pu1, pu2, pu3])
    have Gx198a : Three (wA.alloc (.cells #[.slice none 0 0, .slice none 0 0, .slice none 0 0] 28)).drew wA.heap.size 28 (.slice none 0 0) (.slice none 0 0) (.slice none 0 0) := Three.new wA.drew
    have hba : Below wA.drew.heap.size wA.drew (wA.alloc (.cells #[.slice none 0 0, .slice none 0 0, .slice none 0 0] 28)).drew := (Below.refl _ _).alloc (Nat.le_refl _) _
    have PBpx197 := Lib.hid (show wA.heap.size ≤ wA.heap.size from HBd.out.size)
    have PApx197 := Lib.hid (show wA.heap.size < (wA.alloc (.cells #[.slice none 0 0, .slice none 0 0, .slice none 0 0] 28)).drew.heap.size by simp)
    obtain ⟨wx195, hwwx195⟩ : ∃ X, X = (wA.alloc (.cells #[.slice none 0 0, .slice none 0 0, .slice none 0 0] 28)).drew := ⟨_, rfl⟩
    rw [← hwwx195] at HBx196a Gx198a PApx197   ⊢
    have HBx196 := Lib.hid HBx196a
    have Gx198 := Lib.hid Gx198a
    clear HBx196a Gx198a hba hwwx195
    refine wpAnyH_ready (rs := [1]) (by kernel_rfl) (by simp) ?_
    refine AllReadyH.cons rfl (fun KK hK => ?_) AllReadyH.nil
    go_simp
    refine (toGame A a B b C c E F L _ (by omega) (by omega) (by omega) (H1.out.below (Below.and Z1.out HBx196.out)) (H2.out.below (Below.and Z1.out HBx196.out)) (H3.out.below (Below.and Z1.out HBx196.out))).mono ?_
    rintro e wx200 ⟨Aqx202, aqx202, Bqx202, bqx202, Cqx202, cqx202, rfl, gqx202, hqx202⟩
    have Gx203 := Lib.hid gqx202.gmR
    have HBx201 := Lib.hid (Below.and HBx196.out hqx202)
    have Gx204 := Lib.hid (Three.below Gx198.out hqx202 Gx198.out.lt)
    clear gqx202 hqx202
    refine hK.out _ _ HBx201.out (fun hSx205 => ?_)
    clear hK KK
    (try simp only [Act.put, pu1, pu2, pu3])
    refine wpAnyH_ready (rs := [3]) (by kernel_rfl) (by simp) ?_
    refine AllReadyH.cons rfl (fun KK hK => ?_) AllReadyH.nil
    go_simp
    refine (toReq rc rn ro rx ry _).mono ?_
    rintro e wx206 ⟨rfl, hx208⟩
    have HBx207 := Lib.hid (Below.and HBx201.out hx208)
    have Gx209 := Lib.hid (Three.below Gx204.out hx208 Gx204.out.lt)
    have Gx210 := Lib.hid (Gx203.out.below hx208)
    clear hx208
    refine hK.out _ _ HBx207.out (fun hSx211 => ?_)
    clear hK KK
    (try simp only [Act.put, pu1, pu2, pu3])
    refine wpAnyH_ready (rs := [4]) (by kernel_rfl) (by simp) ?_
    refine AllReadyH.cons rfl (fun KK hK => ?_) AllReadyH.nil
    go_simp
    refine (HS.out _ _ _ _ _ _ _ Gx210.out).mono ?_
    rintro e wx212 ⟨Arx214, arx214, Brx214, brx214, Crx214, crx214, rfl, grx214, hrx214⟩
    have Gx215 := Lib.hid grx214
    unfold gameV
    have HBx213 := Lib.hid (Below.and HBx207.out hrx214)
    have Gx216 := Lib.hid (Three.below Gx209.out hrx214 Gx209.out.lt)
    have Gx217 := Lib.hid (Gx210.out.below hrx214)
    clear hrx214 grx214
    refine hK.out _ _ HBx213.out (fun hSx218 => ?_)
    clear hK KK
    (try simp only [Act.put, pu1, pu2, pu3])
    refine tkI 5 21 (v := ?_) rfl rfl ?_ ?_
    rotate_left
    · intro w1 hSw; obtain ⟨hcS, hfS⟩ := bcell hSw; go_simp; (try with_reducible rfl)
    (try simp only [Act.put, pu1, pu2, pu3])
    refine tkI 6 27 (v := ?_) rfl rfl ?_ ?_
    rotate_left
    · intro w1 hSw; obtain ⟨hcS, hfS⟩ := bcell hSw; go_simp; (try with_reducible rfl)
    (try simp only [Act.put, pu1, pu2, pu3])
    refine tkI 7 28 (v := ?_) rfl rfl ?_ ?_
    rotate_left
    · intro w1 hSw; obtain ⟨hcS, hfS⟩ := bcell hSw; go_simp; (try with_reducible rfl)
    (try simp only [Act.put, pu1, pu2, pu3])
    refine wpAnyH_ready (rs := [9]) (by kernel_rfl) (by simp) ?_
    refine AllReadyH.cons rfl (fun KK hK => ?_) AllReadyH.nil
    obtain ⟨zb0, zb1, zb2⟩ := Gx216.out.cells
    have zbf := Gx216.out.frozen
    go_simp
    have HBx219 : Hid (Below wA.heap.size wA (((wx212.setCell ⟨wA.heap.size, 0, none⟩ (.slice Arx214 E1.length arx214)).setCell ⟨wA.heap.size, 1, none⟩ (.slice Brx214 F1.length brx214)).setCell ⟨wA.heap.size, 2, none⟩ (.slice Crx214 L1.length crx214))) := ((HBx213.out.setCell PBpx197.out (p := ⟨wA.heap.size, 0, none⟩) (.slice Arx214 E1.length arx214)).setCell PBpx197.out (p := ⟨wA.heap.size, 1, none⟩) (.slice Brx214 F1.length brx214)).setCell PBpx197.out (p := ⟨wA.heap.size, 2, none⟩) (.slice Crx214 L1.length crx214)
    have TB : Hid (Three (((wx212.setCell ⟨wA.heap.size, 0, none⟩ (.slice Arx214 E1.length arx214)).setCell ⟨wA.heap.size, 1, none⟩ (.slice Brx214 F1.length brx214)).setCell ⟨wA.heap.size, 2, none⟩ (.slice Crx214 L1.length crx214)) wA.heap.size 28 (.slice Arx214 E1.length arx214) (.slice Brx214 F1.length brx214) (.slice Crx214 L1.length crx214)) := ((Gx216.out.set0 (.slice Arx214 E1.length arx214)).set1 (.slice Brx214 F1.length brx214)).set2 (.slice Crx214 L1.length crx214)
    refine hK.out _ _ HBx219.out (fun hSz => ?_)
    clear hK KK
    (try simp only [Act.put, pu1, pu2, pu3])
    refine tkI 10 7 (v := ?_) rfl rfl ?_ ?_
    rotate_left
    · intro w1 hSw; obtain ⟨hcS, hfS⟩ := bcell hSw; go_simp; (try with_reducible rfl)
    (try simp only [Act.put, pu1, pu2, pu3])
    refine wpAnyH_done (by kernel_rfl) ?_ _
    have GF := Lib.hid (((Gx215.out.box (p := wA.heap.size) Gx216.out.cells.1 0 (.slice Arx214 E1.length arx214)).box (p := wA.heap.size) (Gx216.out.set0 _).cells.1 1 (.slice Brx214 F1.length brx214)).box (p := wA.heap.size) ((Gx216.out.set0 _).set1 _).cells.1 2 (.slice Crx214 L1.length crx214))
    go_wp2_with (fail)
    go_meet
    case rel => exact ⟨wA.heap.size, Arx214, arx214, Brx214, brx214, Crx214, crx214, rfl, rfl, TB, GF, PBpx197, HBx219⟩
 case rest =>
  obtain ⟨p6, A3, a3, B3, b3, C3, c3, rfl, rfl, T6, G6, N6, HB⟩ := hcut
  have G6 := Lib.hid G6.out.rd
  have K := Lib.hid (Three.below K1.out HB.out K1.out.lt)
  have R := Lib.hid (R1.out.below HB.out)
  have Z := Lib.hid (Below.and Z1.out HB.out)
  have SW := Lib.hid (show w.heap.size + 2 ≤ wc.heap.size by have := HB.out.size; have := S1.out; omega)
  have L6 := Lib.hid T6.out.lt
  clear HB K1 R1 Z1 S1 d0 HS
  obtain ⟨W6, hW6⟩ : ∃ X, X = wc.heap.size := ⟨_, rfl⟩
  obtain ⟨p0, p1, p2⟩ := K.out.cells
  rw [← hW6] at G6 L6
  have HW6 := Lib.hid hW6
  clear hW6
  go_wp2_with (fail)
  refine (toGame A a B b C c E F L _ (by omega) (by omega) (by omega) (H1.out.below Z.out) (H2.out.below Z.out) (H3.out.below Z.out)).mono ?_
  rintro e wd ⟨A4, a4, B4, b4, C4, c4, rfl, g4, hb⟩
  clear p0 p1 p2
  have BE : Below wc.heap.size wc (wd.alloc (.cells #[.slice A4 E.length a4, .slice B4 F.length b4, .slice C4 L.length c4] 28)) := Below.and hb ((Below.refl wd.heap.size wd).alloc (Nat.le_refl _) _)
  have X8 := Lib.hid (Three.new (u0 := .slice A4 E.length a4) (u1 := .slice B4 F.length b4) (u2 := .slice C4 L.length c4) (t := 28) wd)
  have G4 := Lib.hid (g4.below ((Below.refl wd.heap.size wd).alloc (Nat.le_refl _) (.cells #[.slice A4 E.length a4, .slice B4 F.length b4, .slice C4 L.length c4] 28)))
  have L4 := Lib.hid (show wc.heap.size ≤ wd.heap.size from hb.size)
  rw [← HW6.out] at L4 G4
  have T6 := Lib.hid (Three.below T6.out BE T6.out.lt)
  have G6 := Lib.hid (G6.out.below BE)
  have K := Lib.hid (Three.below K.out BE K.out.lt)
  have R := Lib.hid (R.out.below BE)
  have Z := Lib.hid (Below.and Z.out BE)
  have L8 := Lib.hid (show wd.heap.size < (wd.alloc (.cells #[.slice A4 E.length a4, .slice B4 F.length b4, .slice C4 L.length c4] 28)).heap.size by simp)
  have SW := Lib.hid (show w.heap.size + 2 ≤ W6 by have := SW.out; have := HW6.out; omega)
  have PB6 := Lib.hid (show p6 < W6 from L6.out)
  clear hb g4 BE HW6 L6
  unfold gameV
  go_upto_region 7 with (fail)
  obtain ⟨p8, hp8⟩ : ∃ X, X = wd.heap.size := ⟨_, rfl⟩
  obtain ⟨wE, hwE⟩ : ∃ X, X = (wd.alloc (.cells #[.slice A4 E.length a4, .slice B4 F.length b4, .slice C4 L.length c4] 28)) := ⟨_, rfl⟩
  rw [← hwE] at T6 G6 K R Z X8 G4 L8 ⊢
  rw [← hp8] at X8 G4 L4 L8 ⊢
  clear hwE hp8
  go_upto_region 7 with (fail)
  go_cut [9, 10] from 16 (fun s9 s10 wf => ∃ p9 A7 a7 B7 b7 C7 c7 lo7 hi7, s9 = .pointer (some ⟨p9, 0, none⟩) ∧ s10 = .int .i64 c1 ∧ Hid (Three wf p9 28 (.slice A7 E1.length a7) (.slice B7 F1.length b7) (.slice C7 L1.length c7)) ∧ Hid (GameAt wf lo7 hi7 A7 a7 B7 b7 C7 c7 E1 F1 L1) ∧ Hid (wE.heap.size ≤ p9) ∧ Hid (wE.heap.size ≤ lo7) ∧ Hid (hi7 ≤ wf.heap.size) ∧ Hid (p9 < lo7 ∨ hi7 ≤ p9) ∧ Hid (Below wE.heap.size wE wf))
  case first =>
   clear T6 G6 HE1 HF1 HL1 PB6
   obtain ⟨v0, v1, v2⟩ := X8.out.cells
   have lx := X8.out.lt
   have G0q := Lib.hid ((G4.out.below (Below.refl wE.heap.size wE).drew).gmR)
   have l1 : w.heap.size + 1 < wE.heap.size := by have := SW.out; have := L4.out; have := L8.out; omega
   have xr0 : wE.cell? ⟨w.heap.size + 1, 0, none⟩ = some (.int .i64 rc) := R.out.cell 0
   have xr1 : wE.cell? ⟨w.heap.size + 1, 1, none⟩ = some (.int .i64 rn) := R.out.cell 1
   have xr2 : wE.cell? ⟨w.heap.size + 1, 2, none⟩ = some (.int .i64 ro) := R.out.cell 2
   have xr3 : wE.cell? ⟨w.heap.size + 1, 3, none⟩ = some (.int .i64 rx) := R.out.cell 3
   have xr4 : wE.cell? ⟨w.heap.size + 1, 4, none⟩ = some (.int .i64 ry) := R.out.cell 4
   refine wp_region_held_drew (S := fun WS => Below wE.heap.size wE WS) (by kernel_rfl) ((Below.refl _ _).drew) (fun hS0 => ?_)
   refine tkI 0 32 (v := ?_) rfl rfl ?_ ?_
   rotate_left
   · intro w1 hSw; obtain ⟨hcS, hfS⟩ := bcell hSw; go_simp; (try with_reducible rfl)
   (try simp only [Act.put, pu1, pu2, pu3])
   refine tkI 1 33 (v := ?_) rfl rfl ?_ ?_
   rotate_left
   · intro w1 hSw; obtain ⟨hcS, hfS⟩ := bcell hSw; go_simp; (try with_reducible rfl)
   (try simp only [Act.put, pu1, pu2, pu3])
   have HBd : Hid (Below wE.heap.size wE wE.drew) := (Below.refl _ _).drew
   refine wpAnyH_ready (rs := [2, 7]) (by kernel_rfl) (by simp) ?_
   refine AllReadyH.cons rfl (fun KK hK => ?_) (AllReadyH.cons rfl (fun KK hK => ?_) AllReadyH.nil)
   · go_simp
     refine (toReq rc rn ro rx ry _).mono ?_
     rintro e wx1 ⟨rfl, hx3⟩
     have HBx2 := Lib.hid (Below.and HBd.out hx3)
     have Gx4 := Lib.hid (G0q.out.below hx3)
     clear hx3
     refine hK.out _ _ HBx2.out (fun hSx5 => ?_)
     clear hK KK
     (try simp only [Act.put, pu1, pu2, pu3])
     refine wpAnyH_ready (rs := [3, 7]) (by kernel_rfl) (by simp) ?_
     refine AllReadyH.cons rfl (fun KK hK => ?_) (AllReadyH.cons rfl (fun KK hK => ?_) AllReadyH.nil)
     · go_simp
       refine (HI.out _ _ _ _ _ _ _ Gx4.out).mono ?_
       rintro e wx6 ⟨Arx8, arx8, Brx8, brx8, Crx8, crx8, rfl, grx8, hrx8⟩
       have Gx9 := Lib.hid grx8.game
       have LOrx8 := Lib.hid (show wE.heap.size ≤ wx1.heap.size from HBx2.out.size)
       have HZrx8 := Lib.hid (Nat.le_refl wx6.heap.size)
       unfold gameV
       have HBx7 := Lib.hid (Below.and HBx2.out hrx8)
       have Gx10 := Lib.hid (Gx4.out.below hrx8)
       clear hrx8 grx8
       refine hK.out _ _ HBx7.out (fun hSx11 => ?_)
       clear hK KK
       (try simp only [Act.put, pu1, pu2, pu3])
       refine tkI 4 31 (v := ?_) rfl rfl ?_ ?_
       rotate_left
       · intro w1 hSw; obtain ⟨hcS, hfS⟩ := bcell hSw; go_simp; (try with_reducible rfl)
       (try simp only [Act.put, pu1, pu2, pu3])
       refine tkI 5 36 (v := ?_) rfl rfl ?_ ?_
       rotate_left
       · intro w1 hSw; obtain ⟨hcS, hfS⟩ := bcell hSw; go_simp; (try with_reducible rfl)
       (try simp only [Act.put, pu1, pu2, pu3])
       refine tkI 6 37 (v := ?_) rfl rfl ?_ ?_
       rotate_left
       · intro w1 hSw; obtain ⟨hcS, hfS⟩ := bcell hSw; go_simp; (try with_reducible rfl)
       (try simp only [Act.put, pu1, pu2, pu3])
       refine wpAnyH_ready (rs := [7]) (by kernel_rfl) (by simp) ?_
       refine AllReadyH.cons rfl (fun KK hK => ?_) AllReadyH.nil
       go_simp
       have HBx13a : Below wE.heap.size wE (wx6.alloc (.cells #[.slice none 0 0, .slice none 0 0, .slice none 0 0] 28)) := HBx7.out.alloc HBx7.out.size _
       refine hK.out _ _ HBx13a (fun hSx16 => ?_)
       clear hK KK
       (try simp only [Act.put, pu1, pu2, pu3])
       have Gx15a : Three (wx6.alloc (.cells #[.slice none 0 0, .slice none 0 0, .slice none 0 0] 28)) wx6.heap.size 28 (.slice none 0 0) (.slice none 0 0) (.slice none 0 0) := Three.new wx6
       have hba : Below wx6.heap.size wx6 (wx6.alloc (.cells #[.slice none 0 0, .slice none 0 0, .slice none 0 0] 28)) := (Below.refl _ _).alloc (Nat.le_refl _) _
       have Gx17 := Lib.hid (Gx10.out.below hba)
       have Gx18 := Lib.hid (Gx9.out.below hba)
       have PBpx14 := Lib.hid (show wE.heap.size ≤ wx6.heap.size from HBx7.out.size)
       have PApx14 := Lib.hid (show wx6.heap.size < (wx6.alloc (.cells #[.slice none 0 0, .slice none 0 0, .slice none 0 0] 28)).heap.size by simp)
       have PQrx8 := Lib.hid (Nat.le_refl wx6.heap.size)
       have HZrx8 := Lib.hid (show wx6.heap.size ≤ (wx6.alloc (.cells #[.slice none 0 0, .slice none 0 0, .slice none 0 0] 28)).heap.size from hba.size)
       obtain ⟨HIpx14, hhipx14⟩ : ∃ X, X = wx6.heap.size := ⟨_, rfl⟩
       rw [← hhipx14] at PQrx8 HZrx8 Gx18
       obtain ⟨px14, hbpx14⟩ : ∃ X, X = wx6.heap.size := ⟨_, rfl⟩
       have HHpx14 := Lib.hid (show HIpx14 ≤ px14 by omega)
       rw [← hbpx14] at Gx15a PBpx14 PApx14 ⊢
       obtain ⟨wx12, hwwx12⟩ : ∃ X, X = (wx6.alloc (.cells #[.slice none 0 0, .slice none 0 0, .slice none 0 0] 28)) := ⟨_, rfl⟩
       rw [← hwwx12] at HBx13a Gx15a PApx14 Gx17 Gx18 HZrx8 ⊢
       have HBx13 := Lib.hid HBx13a
       have Gx15 := Lib.hid Gx15a
       clear HBx13a Gx15a hba hwwx12 hbpx14
       refine wpAnyH_ready (rs := [8]) (by kernel_rfl) (by simp) ?_
       refine AllReadyH.cons rfl (fun KK hK => ?_) AllReadyH.nil
       obtain ⟨zb0, zb1, zb2⟩ := Gx15.out.cells
       have zbf := Gx15.out.frozen
       go_simp
       have HBx19 : Hid (Below wE.heap.size wE (((wx12.setCell ⟨px14, 0, none⟩ (.slice Arx8 E1.length arx8)).setCell ⟨px14, 1, none⟩ (.slice Brx8 F1.length brx8)).setCell ⟨px14, 2, none⟩ (.slice Crx8 L1.length crx8))) := ((HBx13.out.setCell PBpx14.out (p := ⟨px14, 0, none⟩) (.slice Arx8 E1.length arx8)).setCell PBpx14.out (p := ⟨px14, 1, none⟩) (.slice Brx8 F1.length brx8)).setCell PBpx14.out (p := ⟨px14, 2, none⟩) (.slice Crx8 L1.length crx8)
       have TB : Hid (Three (((wx12.setCell ⟨px14, 0, none⟩ (.slice Arx8 E1.length arx8)).setCell ⟨px14, 1, none⟩ (.slice Brx8 F1.length brx8)).setCell ⟨px14, 2, none⟩ (.slice Crx8 L1.length crx8)) px14 28 (.slice Arx8 E1.length arx8) (.slice Brx8 F1.length brx8) (.slice Crx8 L1.length crx8)) := ((Gx15.out.set0 (.slice Arx8 E1.length arx8)).set1 (.slice Brx8 F1.length brx8)).set2 (.slice Crx8 L1.length crx8)
       refine hK.out _ _ HBx19.out (fun hSz => ?_)
       clear hK KK
       (try simp only [Act.put, pu1, pu2, pu3])
       refine tkI 9 10 (v := ?_) rfl rfl ?_ ?_
       rotate_left
       · intro w1 hSw; obtain ⟨hcS, hfS⟩ := bcell hSw; go_simp; (try with_reducible rfl)
       (try simp only [Act.put, pu1, pu2, pu3])
       refine wpAnyH_done (by kernel_rfl) ?_ _
       have GF := Lib.hid (((Gx18.out.put (.inr HHpx14.out) 0 (.slice Arx8 E1.length arx8)).put (.inr HHpx14.out) 1 (.slice Brx8 F1.length brx8)).put (.inr HHpx14.out) 2 (.slice Crx8 L1.length crx8))
       have HZf := Lib.hid (show HIpx14 ≤ (((wx12.setCell ⟨px14, 0, none⟩ (.slice Arx8 E1.length arx8)).setCell ⟨px14, 1, none⟩ (.slice Brx8 F1.length brx8)).setCell ⟨px14, 2, none⟩ (.slice Crx8 L1.length crx8)).heap.size by simpa using HZrx8.out)
       go_wp2_with (fail)
       go_meet
       case rel => exact ⟨px14, Arx8, arx8, Brx8, brx8, Crx8, crx8, _, _, rfl, rfl, TB, GF, PBpx14, LOrx8, HZf, Lib.hid (.inr HHpx14.out), HBx19⟩
     · go_simp
       have HBx21a : Below wE.heap.size wE (wx1.alloc (.cells #[.slice none 0 0, .slice none 0 0, .slice none 0 0] 28)) := HBx2.out.alloc HBx2.out.size _
       refine hK.out _ _ HBx21a (fun hSx24 => ?_)
       clear hK KK
       (try simp only [Act.put, pu1, pu2, pu3])
       have Gx23a : Three (wx1.alloc (.cells #[.slice none 0 0, .slice none 0 0, .slice none 0 0] 28)) wx1.heap.size 28 (.slice none 0 0) (.slice none 0 0) (.slice none 0 0) := Three.new wx1
       have hba : Below wx1.heap.size wx1 (wx1.alloc (.cells #[.slice none 0 0, .slice none 0 0, .slice none 0 0] 28)) := (Below.refl _ _).alloc (Nat.le_refl _) _
       have Gx25 := Lib.hid (Gx4.out.below hba)
       have PBpx22 := Lib.hid (show wE.heap.size ≤ wx1.heap.size from HBx2.out.size)
       have PApx22 := Lib.hid (show wx1.heap.size < (wx1.alloc (.cells #[.slice none 0 0, .slice none 0 0, .slice none 0 0] 28)).heap.size by simp)
       obtain ⟨px22, hbpx22⟩ : ∃ X, X = wx1.heap.size := ⟨_, rfl⟩
       rw [← hbpx22] at Gx23a PBpx22 PApx22 ⊢
       obtain ⟨wx20, hwwx20⟩ : ∃ X, X = (wx1.alloc (.cells #[.slice none 0 0, .slice none 0 0, .slice none 0 0] 28)) := ⟨_, rfl⟩
       rw [← hwwx20] at HBx21a Gx23a PApx22 Gx25  ⊢
       have HBx21 := Lib.hid HBx21a
       have Gx23 := Lib.hid Gx23a
       clear HBx21a Gx23a hba hwwx20 hbpx22
       refine wpAnyH_ready (rs := [3]) (by kernel_rfl) (by simp) ?_
       refine AllReadyH.cons rfl (fun KK hK => ?_) AllReadyH.nil
       go_simp
       refine (HI.out _ _ _ _ _ _ _ Gx25.out).mono ?_
       rintro e wx26 ⟨Arx28, arx28, Brx28, brx28, Crx28, crx28, rfl, grx28, hrx28⟩
       have Gx29 := Lib.hid grx28.game
       have LOrx28 := Lib.hid (show wE.heap.size ≤ wx20.heap.size from HBx21.out.size)
       have HZrx28 := Lib.hid (Nat.le_refl wx26.heap.size)
       have PQrx28 := Lib.hid (show _ < wx20.heap.size from Gx23.out.lt)
       unfold gameV
       have HBx27 := Lib.hid (Below.and HBx21.out hrx28)
       have Gx30 := Lib.hid (Gx25.out.below hrx28)
       have Gx31 := Lib.hid (Three.below Gx23.out hrx28 Gx23.out.lt)
       clear hrx28 grx28
       refine hK.out _ _ HBx27.out (fun hSx32 => ?_)
       clear hK KK
       (try simp only [Act.put, pu1, pu2, pu3])
       refine tkI 4 31 (v := ?_) rfl rfl ?_ ?_
       rotate_left
       · intro w1 hSw; obtain ⟨hcS, hfS⟩ := bcell hSw; go_simp; (try with_reducible rfl)
       (try simp only [Act.put, pu1, pu2, pu3])
       refine tkI 5 36 (v := ?_) rfl rfl ?_ ?_
       rotate_left
       · intro w1 hSw; obtain ⟨hcS, hfS⟩ := bcell hSw; go_simp; (try with_reducible rfl)
       (try simp only [Act.put, pu1, pu2, pu3])
       refine tkI 6 37 (v := ?_) rfl rfl ?_ ?_
       rotate_left
       · intro w1 hSw; obtain ⟨hcS, hfS⟩ := bcell hSw; go_simp; (try with_reducible rfl)
       (try simp only [Act.put, pu1, pu2, pu3])
       refine wpAnyH_ready (rs := [8]) (by kernel_rfl) (by simp) ?_
       refine AllReadyH.cons rfl (fun KK hK => ?_) AllReadyH.nil
       obtain ⟨zb0, zb1, zb2⟩ := Gx31.out.cells
       have zbf := Gx31.out.frozen
       go_simp
       have HBx33 : Hid (Below wE.heap.size wE (((wx26.setCell ⟨px22, 0, none⟩ (.slice Arx28 E1.length arx28)).setCell ⟨px22, 1, none⟩ (.slice Brx28 F1.length brx28)).setCell ⟨px22, 2, none⟩ (.slice Crx28 L1.length crx28))) := ((HBx27.out.setCell PBpx22.out (p := ⟨px22, 0, none⟩) (.slice Arx28 E1.length arx28)).setCell PBpx22.out (p := ⟨px22, 1, none⟩) (.slice Brx28 F1.length brx28)).setCell PBpx22.out (p := ⟨px22, 2, none⟩) (.slice Crx28 L1.length crx28)
       have TB : Hid (Three (((wx26.setCell ⟨px22, 0, none⟩ (.slice Arx28 E1.length arx28)).setCell ⟨px22, 1, none⟩ (.slice Brx28 F1.length brx28)).setCell ⟨px22, 2, none⟩ (.slice Crx28 L1.length crx28)) px22 28 (.slice Arx28 E1.length arx28) (.slice Brx28 F1.length brx28) (.slice Crx28 L1.length crx28)) := ((Gx31.out.set0 (.slice Arx28 E1.length arx28)).set1 (.slice Brx28 F1.length brx28)).set2 (.slice Crx28 L1.length crx28)
       refine hK.out _ _ HBx33.out (fun hSz => ?_)
       clear hK KK
       (try simp only [Act.put, pu1, pu2, pu3])
       refine tkI 9 10 (v := ?_) rfl rfl ?_ ?_
       rotate_left
       · intro w1 hSw; obtain ⟨hcS, hfS⟩ := bcell hSw; go_simp; (try with_reducible rfl)
       (try simp only [Act.put, pu1, pu2, pu3])
       refine wpAnyH_done (by kernel_rfl) ?_ _
       have GF := Lib.hid (((Gx29.out.put (.inl PQrx28.out) 0 (.slice Arx28 E1.length arx28)).put (.inl PQrx28.out) 1 (.slice Brx28 F1.length brx28)).put (.inl PQrx28.out) 2 (.slice Crx28 L1.length crx28))
       have HZf := Lib.hid (show wx26.heap.size ≤ (((wx26.setCell ⟨px22, 0, none⟩ (.slice Arx28 E1.length arx28)).setCell ⟨px22, 1, none⟩ (.slice Brx28 F1.length brx28)).setCell ⟨px22, 2, none⟩ (.slice Crx28 L1.length crx28)).heap.size by simp)
       go_wp2_with (fail)
       go_meet
       case rel => exact ⟨px22, Arx28, arx28, Brx28, brx28, Crx28, crx28, _, _, rfl, rfl, TB, GF, PBpx22, LOrx28, HZf, Lib.hid (.inl PQrx28.out), HBx33⟩
   · go_simp
     have HBx35a : Below wE.heap.size wE (wE.alloc (.cells #[.slice none 0 0, .slice none 0 0, .slice none 0 0] 28)).drew := HBd.out.alloc HBd.out.size _
     refine hK.out _ _ HBx35a (fun hSx38 => ?_)
     clear hK KK
     (try simp only [Act.put, pu1, pu2, pu3])
     have Gx37a : Three (wE.alloc (.cells #[.slice none 0 0, .slice none 0 0, .slice none 0 0] 28)).drew wE.heap.size 28 (.slice none 0 0) (.slice none 0 0) (.slice none 0 0) := Three.new wE.drew
     have hba : Below wE.drew.heap.size wE.drew (wE.alloc (.cells #[.slice none 0 0, .slice none 0 0, .slice none 0 0] 28)).drew := (Below.refl _ _).alloc (Nat.le_refl _) _
     have Gx39 := Lib.hid (G0q.out.below hba)
     have PBpx36 := Lib.hid (show wE.heap.size ≤ wE.heap.size from HBd.out.size)
     have PApx36 := Lib.hid (show wE.heap.size < (wE.alloc (.cells #[.slice none 0 0, .slice none 0 0, .slice none 0 0] 28)).drew.heap.size by simp)
     obtain ⟨wx34, hwwx34⟩ : ∃ X, X = (wE.alloc (.cells #[.slice none 0 0, .slice none 0 0, .slice none 0 0] 28)).drew := ⟨_, rfl⟩
     rw [← hwwx34] at HBx35a Gx37a PApx36 Gx39  ⊢
     have HBx35 := Lib.hid HBx35a
     have Gx37 := Lib.hid Gx37a
     clear HBx35a Gx37a hba hwwx34
     refine wpAnyH_ready (rs := [2]) (by kernel_rfl) (by simp) ?_
     refine AllReadyH.cons rfl (fun KK hK => ?_) AllReadyH.nil
     go_simp
     refine (toReq rc rn ro rx ry _).mono ?_
     rintro e wx40 ⟨rfl, hx42⟩
     have HBx41 := Lib.hid (Below.and HBx35.out hx42)
     have Gx43 := Lib.hid (Gx39.out.below hx42)
     have Gx44 := Lib.hid (Three.below Gx37.out hx42 Gx37.out.lt)
     clear hx42
     refine hK.out _ _ HBx41.out (fun hSx45 => ?_)
     clear hK KK
     (try simp only [Act.put, pu1, pu2, pu3])
     refine wpAnyH_ready (rs := [3]) (by kernel_rfl) (by simp) ?_
     refine AllReadyH.cons rfl (fun KK hK => ?_) AllReadyH.nil
     go_simp
     refine (HI.out _ _ _ _ _ _ _ Gx43.out).mono ?_
     rintro e wx46 ⟨Arx48, arx48, Brx48, brx48, Crx48, crx48, rfl, grx48, hrx48⟩
     have Gx49 := Lib.hid grx48.game
     have LOrx48 := Lib.hid (show wE.heap.size ≤ wx40.heap.size from HBx41.out.size)
     have HZrx48 := Lib.hid (Nat.le_refl wx46.heap.size)
     have PQrx48 := Lib.hid (show _ < wx40.heap.size from Gx44.out.lt)
     unfold gameV
     have HBx47 := Lib.hid (Below.and HBx41.out hrx48)
     have Gx50 := Lib.hid (Gx43.out.below hrx48)
     have Gx51 := Lib.hid (Three.below Gx44.out hrx48 Gx44.out.lt)
     clear hrx48 grx48
     refine hK.out _ _ HBx47.out (fun hSx52 => ?_)
     clear hK KK
     (try simp only [Act.put, pu1, pu2, pu3])
     refine tkI 4 31 (v := ?_) rfl rfl ?_ ?_
     rotate_left
     · intro w1 hSw; obtain ⟨hcS, hfS⟩ := bcell hSw; go_simp; (try with_reducible rfl)
     (try simp only [Act.put, pu1, pu2, pu3])
     refine tkI 5 36 (v := ?_) rfl rfl ?_ ?_
     rotate_left
     · intro w1 hSw; obtain ⟨hcS, hfS⟩ := bcell hSw; go_simp; (try with_reducible rfl)
     (try simp only [Act.put, pu1, pu2, pu3])
     refine tkI 6 37 (v := ?_) rfl rfl ?_ ?_
     rotate_left
     · intro w1 hSw; obtain ⟨hcS, hfS⟩ := bcell hSw; go_simp; (try with_reducible rfl)
     (try simp only [Act.put, pu1, pu2, pu3])
     refine wpAnyH_ready (rs := [8]) (by kernel_rfl) (by simp) ?_
     refine AllReadyH.cons rfl (fun KK hK => ?_) AllReadyH.nil
     obtain ⟨zb0, zb1, zb2⟩ := Gx51.out.cells
     have zbf := Gx51.out.frozen
     go_simp
     have HBx53 : Hid (Below wE.heap.size wE (((wx46.setCell ⟨wE.heap.size, 0, none⟩ (.slice Arx48 E1.length arx48)).setCell ⟨wE.heap.size, 1, none⟩ (.slice Brx48 F1.length brx48)).setCell ⟨wE.heap.size, 2, none⟩ (.slice Crx48 L1.length crx48))) := ((HBx47.out.setCell PBpx36.out (p := ⟨wE.heap.size, 0, none⟩) (.slice Arx48 E1.length arx48)).setCell PBpx36.out (p := ⟨wE.heap.size, 1, none⟩) (.slice Brx48 F1.length brx48)).setCell PBpx36.out (p := ⟨wE.heap.size, 2, none⟩) (.slice Crx48 L1.length crx48)
     have TB : Hid (Three (((wx46.setCell ⟨wE.heap.size, 0, none⟩ (.slice Arx48 E1.length arx48)).setCell ⟨wE.heap.size, 1, none⟩ (.slice Brx48 F1.length brx48)).setCell ⟨wE.heap.size, 2, none⟩ (.slice Crx48 L1.length crx48)) wE.heap.size 28 (.slice Arx48 E1.length arx48) (.slice Brx48 F1.length brx48) (.slice Crx48 L1.length crx48)) := ((Gx51.out.set0 (.slice Arx48 E1.length arx48)).set1 (.slice Brx48 F1.length brx48)).set2 (.slice Crx48 L1.length crx48)
     refine hK.out _ _ HBx53.out (fun hSz => ?_)
     clear hK KK
     (try simp only [Act.put, pu1, pu2, pu3])
     refine tkI 9 10 (v := ?_) rfl rfl ?_ ?_
     rotate_left
     · intro w1 hSw; obtain ⟨hcS, hfS⟩ := bcell hSw; go_simp; (try with_reducible rfl)
     (try simp only [Act.put, pu1, pu2, pu3])
     refine wpAnyH_done (by kernel_rfl) ?_ _
     have GF := Lib.hid (((Gx49.out.put (.inl PQrx48.out) 0 (.slice Arx48 E1.length arx48)).put (.inl PQrx48.out) 1 (.slice Brx48 F1.length brx48)).put (.inl PQrx48.out) 2 (.slice Crx48 L1.length crx48))
     have HZf := Lib.hid (show wx46.heap.size ≤ (((wx46.setCell ⟨wE.heap.size, 0, none⟩ (.slice Arx48 E1.length arx48)).setCell ⟨wE.heap.size, 1, none⟩ (.slice Brx48 F1.length brx48)).setCell ⟨wE.heap.size, 2, none⟩ (.slice Crx48 L1.length crx48)).heap.size by simp)
     go_wp2_with (fail)
     go_meet
     case rel => exact ⟨wE.heap.size, Arx48, arx48, Brx48, brx48, Crx48, crx48, _, _, rfl, rfl, TB, GF, PBpx36, LOrx48, HZf, Lib.hid (.inl PQrx48.out), HBx53⟩
  case rest =>
  obtain ⟨p9, A7, a7, B7, b7, C7, c7, lo7, hi7, rfl, rfl, T9, G7, N9, NL, NH, NQ, HB⟩ := hcut
  have hb := HB.out
  have T6 := Lib.hid (Three.below T6.out hb T6.out.lt)
  have G6 := Lib.hid (G6.out.below hb)
  have K := Lib.hid (Three.below K.out hb K.out.lt)
  have R := Lib.hid (R.out.below hb)
  have Z := Lib.hid (Below.and Z.out hb)
  have X8 := Lib.hid (Three.below X8.out hb X8.out.lt)
  have G4 := Lib.hid (G4.out.below hb)
  have G7r := Lib.hid (G7.out.rd)
  have N9 := Lib.hid (show p8 < p9 by have := N9.out; have := L8.out; omega)
  have NL := Lib.hid (show p8 < lo7 by have := NL.out; have := L8.out; omega)
  clear HB hb L8
  obtain ⟨p0, p1, p2⟩ := T9.out.cells
  obtain ⟨q0, q1, q2⟩ := T6.out.cells
  have bb : (c1 != c1) = false := by simp
  go_wp2_with (fail)
  refine (eqGame_rd G7r.out G6.out (by have := HE1.out; omega) (by have := HF1.out; omega) (by have := HL1.out; omega)).mono ?_
  rintro e wh ⟨rfl, hb⟩
  have SF := Lib.hid (show hi7 ≤ wh.heap.size by have := NH.out; have := hb.size; omega)
  have T6 := Lib.hid (Three.below T6.out hb T6.out.lt)
  have T9 := Lib.hid (Three.below T9.out hb T9.out.lt)
  have G6 := Lib.hid (G6.out.below hb)
  have G7 := Lib.hid (G7.out.below hb)
  have K := Lib.hid (Three.below K.out hb K.out.lt)
  have R := Lib.hid (R.out.below hb)
  have Z := Lib.hid (Below.and Z.out hb)
  have X8 := Lib.hid (Three.below X8.out hb X8.out.lt)
  have G4 := Lib.hid (G4.out.below hb)
  clear hb p0 p1 p2 q0 q1 q2 G7r NH
  go_wp2_with (fail)
  obtain ⟨p0, p1, p2⟩ := K.out.cells
  obtain ⟨q0, q1, q2⟩ := X8.out.cells
  have lk := K.out.lt
  have lx := X8.out.lt
  refine wp_region_held_drew (S := fun WS => Below wh.heap.size wh WS) (by kernel_rfl) ((Below.refl _ _).drew) (fun hS0 => ?_)
  refine tkI 0 47 (v := ?_) rfl rfl ?_ ?_
  rotate_left
  · intro w1 hSw; obtain ⟨hcS, hfS⟩ := bcell hSw; go_simp; (try with_reducible rfl)
  (try simp only [Act.put, pu1, pu2, pu3])
  refine tkI 1 48 (v := ?_) rfl rfl ?_ ?_
  rotate_left
  · intro w1 hSw; obtain ⟨hcS, hfS⟩ := bcell hSw; go_simp; (try with_reducible rfl)
  (try simp only [Act.put, pu1, pu2, pu3])
  have HBd : Hid (Below wh.heap.size wh wh.drew) := (Below.refl _ _).drew
  refine wpAnyH_ready (rs := [2]) (by kernel_rfl) (by simp) ?_
  refine AllReadyH.cons rfl (fun KK hK => ?_) AllReadyH.nil
  go_simp
  refine (toGame A a B b C c E F L _ (by omega) (by omega) (by omega) (H1.out.below (Below.and Z.out HBd.out)) (H2.out.below (Below.and Z.out HBd.out)) (H3.out.below (Below.and Z.out HBd.out))).mono ?_
  rintro e wi ⟨A5, a5, B5, b5, C5, c5, rfl, g5, hb⟩
  have HB1 := Lib.hid (Below.and HBd.out hb)
  have g5 := Lib.hid g5.rd
  clear hb
  refine hK.out _ _ HB1.out (fun hS1 => ?_)
  clear hK KK
  (try simp only [Act.put, pu1, pu2, pu3])
  refine wpAnyH_ready (rs := [3]) (by kernel_rfl) (by simp) ?_
  refine AllReadyH.cons rfl (fun KK hK => ?_) AllReadyH.nil
  go_simp
  refine (eqGame_rd (G4.out.below HB1.out).rd g5.out (by omega) (by omega) (by omega)).mono ?_
  rintro e wk ⟨rfl, hb⟩
  have HB2 := Lib.hid (Below.and HB1.out hb)
  clear hb g5
  refine hK.out _ _ HB2.out (fun hS2 => ?_)
  clear hK KK
  (try simp only [Act.put, pu1, pu2, pu3])
  refine tkI 4 51 (v := ?_) rfl rfl ?_ ?_
  rotate_left
  · intro w1 hSw; obtain ⟨hcS, hfS⟩ := bcell hSw; go_simp; (try with_reducible rfl)
  (try simp only [Act.put, pu1, pu2, pu3])
  refine wpAnyH_done (by kernel_rfl) ?_ _
  have hb := HB2.out
  have SF := Lib.hid (show hi7 ≤ wk.heap.size by have := SF.out; have := hb.size; omega)
  have T6 := Lib.hid (Three.below T6.out hb T6.out.lt)
  have T9 := Lib.hid (Three.below T9.out hb T9.out.lt)
  have G6 := Lib.hid (G6.out.below hb)
  have G7 := Lib.hid (G7.out.below hb)
  have K := Lib.hid (Three.below K.out hb K.out.lt)
  have R := Lib.hid (R.out.below hb)
  have Z := Lib.hid (Below.and Z.out hb)
  have X8 := Lib.hid (Three.below X8.out hb X8.out.lt)
  have G4 := Lib.hid (G4.out.below hb)
  clear hb HB1 HB2 HBd hS0 hS1 hS2 p0 p1 p2 q0 q1 q2 lk lx
  obtain ⟨q0, q1, q2⟩ := X8.out.cells
  go_wp2_with (fail)
  obtain ⟨v, hv⟩ : ∃ v : Int, v = 1 + 5 * (E.length : Int) + (F.length : Int) + (L.length : Int) := ⟨_, rfl⟩
  have v0 : decide (v < 0) = false := by simp; omega
  refine (mark_game G4.out E.length F.length L.length rfl rfl rfl v hv (by omega) (by omega) (by omega) (Nat.le_of_lt X8.out.lt)).mono ?_
  clear hv
  rintro e wm ⟨rfl, hk, _⟩
  have hs6 : W6 ≤ wk.heap.size := by have := X8.out.lt; have := L4.out; omega
  have SF := Lib.hid (show hi7 ≤ wm.heap.size by have := SF.out; have := hk.size; omega)
  have T6 := Lib.hid (hk.three T6.out (.inl PB6.out))
  have T9 := Lib.hid (hk.three T9.out (.inr (Nat.le_of_lt N9.out)))
  have G6 := Lib.hid (G6.out.keeps hs6 hk (Nat.le_refl _))
  have G7 := Lib.hid (G7.out.keeps hk (.inr (Nat.le_of_lt NL.out)))
  have K := Lib.hid (hk.three K.out (.inl (by have := SW.out; omega)))
  have R := Lib.hid (hk.bkk R.out (by have := SW.out; omega) (.inl (by have := SW.out; omega)))
  have Z := Lib.hid (Z.out.trans (hk.below (B := w.heap.size) (by have := SW.out; omega) Z.out.size))
  have S6 := Lib.hid (Nat.le_trans hs6 hk.size)
  clear hk hs6 q0 q1 q2 X8 G4
  have G7r := Lib.hid (G7.out.rd)
  obtain ⟨p0, p1, p2⟩ := T9.out.cells
  obtain ⟨q0, q1, q2⟩ := T6.out.cells
  go_wp2_with (fail)
  refine (eqGame_rd G7r.out G6.out (by have := HE1.out; omega) (by have := HF1.out; omega) (by have := HL1.out; omega)).mono ?_
  rintro e wn ⟨rfl, hb⟩
  have SF := Lib.hid (show hi7 ≤ wn.heap.size by have := SF.out; have := hb.size; omega)
  have S6 := Lib.hid (Nat.le_trans S6.out hb.size)
  have T6 := Lib.hid (Three.below T6.out hb T6.out.lt)
  have T9 := Lib.hid (Three.below T9.out hb T9.out.lt)
  have G6 := Lib.hid (G6.out.below hb)
  have G7 := Lib.hid (G7.out.below hb)
  have K := Lib.hid (Three.below K.out hb K.out.lt)
  have R := Lib.hid (R.out.below hb)
  have Z := Lib.hid (Below.and Z.out hb)
  clear hb p0 p1 p2 q0 q1 q2 G7r v0
  obtain ⟨p0, p1, p2⟩ := T9.out.cells
  go_wp2_with (fail)
  obtain ⟨v, hv⟩ : ∃ v : Int, v = 1 + 5 * (E1.length : Int) + (F1.length : Int) + (L1.length : Int) := ⟨_, rfl⟩
  have HV := Lib.hid hv
  have v0 : decide (v < 0) = false := by simp; omega
  have v1 : (v != v) = false := by simp
  refine (mark_game G7.out E1.length F1.length L1.length rfl rfl rfl v hv (by have := HE1.out; omega) (by have := HF1.out; omega) (by have := HL1.out; omega) SF.out).mono ?_
  clear hv
  rintro e wo ⟨rfl, hk, M⟩
  have T6 := Lib.hid (hk.three T6.out (.inl (by have := PB6.out; have := L4.out; have := NL.out; omega)))
  have T9 := Lib.hid (hk.three T9.out NQ.out)
  have G6 := Lib.hid (G6.out.keeps S6.out hk (by have := L4.out; have := NL.out; omega))
  have K := Lib.hid (hk.three K.out (.inl (by have := SW.out; have := L4.out; have := NL.out; omega)))
  have R := Lib.hid (hk.bkk R.out (by have := SW.out; have := S6.out; omega) (.inl (by have := SW.out; have := L4.out; have := NL.out; omega)))
  have Z := Lib.hid (Z.out.trans (hk.below (B := w.heap.size) (by have := SW.out; have := L4.out; have := NL.out; omega) Z.out.size))
  have S6 := Lib.hid (Nat.le_trans S6.out hk.size)
  have M := Lib.hid M
  clear hk p0 p1 p2 G7 SF NQ
  obtain ⟨p0, p1, p2⟩ := T9.out.cells
  go_wp2_with (fail)
  refine (held_game E1.length F1.length L1.length M.out v HV.out (by have := HE1.out; omega) (by have := HF1.out; omega) (by have := HL1.out; omega)).mono ?_
  rintro e wp ⟨rfl, hb⟩
  have S6 := Lib.hid (Nat.le_trans S6.out hb.size)
  have T6 := Lib.hid (Three.below T6.out hb T6.out.lt)
  have T9 := Lib.hid (Three.below T9.out hb T9.out.lt)
  have G6 := Lib.hid (G6.out.below hb)
  have K := Lib.hid (Three.below K.out hb K.out.lt)
  have R := Lib.hid (R.out.below hb)
  have Z := Lib.hid (Below.and Z.out hb)
  have M := Lib.hid (M.out.below hb)
  clear hb p0 p1 p2
  go_upto_region 24 with (fail)
  go_cut [14, 15] from 16 (fun s14 s15 wq => ∃ p9 A7 a7 B7 b7 C7 c7 lo7 hi7, s14 = .pointer (some ⟨p9, 0, none⟩) ∧ s15 = .int .i64 c1 ∧ Hid (Three wq p9 28 (.slice A7 E1.length a7) (.slice B7 F1.length b7) (.slice C7 L1.length c7)) ∧ Hid (GameAt wq lo7 hi7 A7 a7 B7 b7 C7 c7 E1 F1 L1) ∧ Hid (wp.heap.size ≤ p9) ∧ Hid (wp.heap.size ≤ lo7) ∧ Hid (hi7 ≤ wq.heap.size) ∧ Hid (p9 < lo7 ∨ hi7 ≤ p9) ∧ Hid (Below wp.heap.size wp wq))
  case first =>
   clear T6 G6 T9 M HV HE1 HF1 HL1 PB6 L4 N9 NL v0 v1 bb
   obtain ⟨p0, p1, p2⟩ := K.out.cells
   have lx := K.out.lt
   have l1 : w.heap.size + 1 < wp.heap.size := by have := SW.out; have := S6.out; omega
   clear SW S6
   have xr0 : wp.cell? ⟨w.heap.size + 1, 0, none⟩ = some (.int .i64 rc) := R.out.cell 0
   have xr1 : wp.cell? ⟨w.heap.size + 1, 1, none⟩ = some (.int .i64 rn) := R.out.cell 1
   have xr2 : wp.cell? ⟨w.heap.size + 1, 2, none⟩ = some (.int .i64 ro) := R.out.cell 2
   have xr3 : wp.cell? ⟨w.heap.size + 1, 3, none⟩ = some (.int .i64 rx) := R.out.cell 3
   have xr4 : wp.cell? ⟨w.heap.size + 1, 4, none⟩ = some (.int .i64 ry) := R.out.cell 4
   refine wp_region_held_drew (S := fun WS => Below wp.heap.size wp WS) (by kernel_rfl) ((Below.refl _ _).drew) (fun hS0 => ?_)
   refine tkI 0 80 (v := ?_) rfl rfl ?_ ?_
   rotate_left
   · intro w1 hSw; obtain ⟨hcS, hfS⟩ := bcell hSw; go_simp; (try with_reducible rfl)
   (try simp only [Act.put, pu1, pu2, pu3])
   refine tkI 2 82 (v := ?_) rfl rfl ?_ ?_
   rotate_left
   · intro w1 hSw; obtain ⟨hcS, hfS⟩ := bcell hSw; go_simp; (try with_reducible rfl)
   (try simp only [Act.put, pu1, pu2, pu3])
   have HBd : Hid (Below wp.heap.size wp wp.drew) := (Below.refl _ _).drew
   refine wpAnyH_ready (rs := [1, 8]) (by kernel_rfl) (by simp) ?_
   refine AllReadyH.cons rfl (fun KK hK => ?_) (AllReadyH.cons rfl (fun KK hK => ?_) AllReadyH.nil)
   · go_simp
     refine (toGame A a B b C c E F L _ (by omega) (by omega) (by omega) (H1.out.below (Below.and Z.out HBd.out)) (H2.out.below (Below.and Z.out HBd.out)) (H3.out.below (Below.and Z.out HBd.out))).mono ?_
     rintro e wx54 ⟨Aqx56, aqx56, Bqx56, bqx56, Cqx56, cqx56, rfl, gqx56, hqx56⟩
     have Gx57 := Lib.hid gqx56.gmR
     have HBx55 := Lib.hid (Below.and HBd.out hqx56)
     clear gqx56 hqx56
     refine hK.out _ _ HBx55.out (fun hSx58 => ?_)
     clear hK KK
     (try simp only [Act.put, pu1, pu2, pu3])
     refine wpAnyH_ready (rs := [3, 8]) (by kernel_rfl) (by simp) ?_
     refine AllReadyH.cons rfl (fun KK hK => ?_) (AllReadyH.cons rfl (fun KK hK => ?_) AllReadyH.nil)
     · go_simp
       refine (toReq rc rn ro rx ry _).mono ?_
       rintro e wx59 ⟨rfl, hx61⟩
       have HBx60 := Lib.hid (Below.and HBx55.out hx61)
       have Gx62 := Lib.hid (Gx57.out.below hx61)
       clear hx61
       refine hK.out _ _ HBx60.out (fun hSx63 => ?_)
       clear hK KK
       (try simp only [Act.put, pu1, pu2, pu3])
       refine wpAnyH_ready (rs := [4, 8]) (by kernel_rfl) (by simp) ?_
       refine AllReadyH.cons rfl (fun KK hK => ?_) (AllReadyH.cons rfl (fun KK hK => ?_) AllReadyH.nil)
       · go_simp
         refine (HI.out _ _ _ _ _ _ _ Gx62.out).mono ?_
         rintro e wx64 ⟨Arx66, arx66, Brx66, brx66, Crx66, crx66, rfl, grx66, hrx66⟩
         have Gx67 := Lib.hid grx66.game
         have LOrx66 := Lib.hid (show wp.heap.size ≤ wx59.heap.size from HBx60.out.size)
         have HZrx66 := Lib.hid (Nat.le_refl wx64.heap.size)
         unfold gameV
         have HBx65 := Lib.hid (Below.and HBx60.out hrx66)
         have Gx68 := Lib.hid (Gx62.out.below hrx66)
         clear hrx66 grx66
         refine hK.out _ _ HBx65.out (fun hSx69 => ?_)
         clear hK KK
         (try simp only [Act.put, pu1, pu2, pu3])
         refine tkI 5 79 (v := ?_) rfl rfl ?_ ?_
         rotate_left
         · intro w1 hSw; obtain ⟨hcS, hfS⟩ := bcell hSw; go_simp; (try with_reducible rfl)
         (try simp only [Act.put, pu1, pu2, pu3])
         refine tkI 6 85 (v := ?_) rfl rfl ?_ ?_
         rotate_left
         · intro w1 hSw; obtain ⟨hcS, hfS⟩ := bcell hSw; go_simp; (try with_reducible rfl)
         (try simp only [Act.put, pu1, pu2, pu3])
         refine tkI 7 86 (v := ?_) rfl rfl ?_ ?_
         rotate_left
         · intro w1 hSw; obtain ⟨hcS, hfS⟩ := bcell hSw; go_simp; (try with_reducible rfl)
         (try simp only [Act.put, pu1, pu2, pu3])
         refine wpAnyH_ready (rs := [8]) (by kernel_rfl) (by simp) ?_
         refine AllReadyH.cons rfl (fun KK hK => ?_) AllReadyH.nil
         go_simp
         have HBx71a : Below wp.heap.size wp (wx64.alloc (.cells #[.slice none 0 0, .slice none 0 0, .slice none 0 0] 28)) := HBx65.out.alloc HBx65.out.size _
         refine hK.out _ _ HBx71a (fun hSx74 => ?_)
         clear hK KK
         (try simp only [Act.put, pu1, pu2, pu3])
         have Gx73a : Three (wx64.alloc (.cells #[.slice none 0 0, .slice none 0 0, .slice none 0 0] 28)) wx64.heap.size 28 (.slice none 0 0) (.slice none 0 0) (.slice none 0 0) := Three.new wx64
         have hba : Below wx64.heap.size wx64 (wx64.alloc (.cells #[.slice none 0 0, .slice none 0 0, .slice none 0 0] 28)) := (Below.refl _ _).alloc (Nat.le_refl _) _
         have Gx75 := Lib.hid (Gx68.out.below hba)
         have Gx76 := Lib.hid (Gx67.out.below hba)
         have PBpx72 := Lib.hid (show wp.heap.size ≤ wx64.heap.size from HBx65.out.size)
         have PApx72 := Lib.hid (show wx64.heap.size < (wx64.alloc (.cells #[.slice none 0 0, .slice none 0 0, .slice none 0 0] 28)).heap.size by simp)
         have PQrx66 := Lib.hid (Nat.le_refl wx64.heap.size)
         have HZrx66 := Lib.hid (show wx64.heap.size ≤ (wx64.alloc (.cells #[.slice none 0 0, .slice none 0 0, .slice none 0 0] 28)).heap.size from hba.size)
         obtain ⟨HIpx72, hhipx72⟩ : ∃ X, X = wx64.heap.size := ⟨_, rfl⟩
         rw [← hhipx72] at PQrx66 HZrx66 Gx76
         obtain ⟨px72, hbpx72⟩ : ∃ X, X = wx64.heap.size := ⟨_, rfl⟩
         have HHpx72 := Lib.hid (show HIpx72 ≤ px72 by omega)
         rw [← hbpx72] at Gx73a PBpx72 PApx72 ⊢
         obtain ⟨wx70, hwwx70⟩ : ∃ X, X = (wx64.alloc (.cells #[.slice none 0 0, .slice none 0 0, .slice none 0 0] 28)) := ⟨_, rfl⟩
         rw [← hwwx70] at HBx71a Gx73a PApx72 Gx75 Gx76 HZrx66 ⊢
         have HBx71 := Lib.hid HBx71a
         have Gx73 := Lib.hid Gx73a
         clear HBx71a Gx73a hba hwwx70 hbpx72
         refine wpAnyH_ready (rs := [9]) (by kernel_rfl) (by simp) ?_
         refine AllReadyH.cons rfl (fun KK hK => ?_) AllReadyH.nil
         obtain ⟨zb0, zb1, zb2⟩ := Gx73.out.cells
         have zbf := Gx73.out.frozen
         go_simp
         have HBx77 : Hid (Below wp.heap.size wp (((wx70.setCell ⟨px72, 0, none⟩ (.slice Arx66 E1.length arx66)).setCell ⟨px72, 1, none⟩ (.slice Brx66 F1.length brx66)).setCell ⟨px72, 2, none⟩ (.slice Crx66 L1.length crx66))) := ((HBx71.out.setCell PBpx72.out (p := ⟨px72, 0, none⟩) (.slice Arx66 E1.length arx66)).setCell PBpx72.out (p := ⟨px72, 1, none⟩) (.slice Brx66 F1.length brx66)).setCell PBpx72.out (p := ⟨px72, 2, none⟩) (.slice Crx66 L1.length crx66)
         have TB : Hid (Three (((wx70.setCell ⟨px72, 0, none⟩ (.slice Arx66 E1.length arx66)).setCell ⟨px72, 1, none⟩ (.slice Brx66 F1.length brx66)).setCell ⟨px72, 2, none⟩ (.slice Crx66 L1.length crx66)) px72 28 (.slice Arx66 E1.length arx66) (.slice Brx66 F1.length brx66) (.slice Crx66 L1.length crx66)) := ((Gx73.out.set0 (.slice Arx66 E1.length arx66)).set1 (.slice Brx66 F1.length brx66)).set2 (.slice Crx66 L1.length crx66)
         refine hK.out _ _ HBx77.out (fun hSz => ?_)
         clear hK KK
         (try simp only [Act.put, pu1, pu2, pu3])
         refine tkI 10 15 (v := ?_) rfl rfl ?_ ?_
         rotate_left
         · intro w1 hSw; obtain ⟨hcS, hfS⟩ := bcell hSw; go_simp; (try with_reducible rfl)
         (try simp only [Act.put, pu1, pu2, pu3])
         refine wpAnyH_done (by kernel_rfl) ?_ _
         have GF := Lib.hid (((Gx76.out.put (.inr HHpx72.out) 0 (.slice Arx66 E1.length arx66)).put (.inr HHpx72.out) 1 (.slice Brx66 F1.length brx66)).put (.inr HHpx72.out) 2 (.slice Crx66 L1.length crx66))
         have HZf := Lib.hid (show HIpx72 ≤ (((wx70.setCell ⟨px72, 0, none⟩ (.slice Arx66 E1.length arx66)).setCell ⟨px72, 1, none⟩ (.slice Brx66 F1.length brx66)).setCell ⟨px72, 2, none⟩ (.slice Crx66 L1.length crx66)).heap.size by simpa using HZrx66.out)
         go_wp2_with (fail)
         go_meet
         case rel => exact ⟨px72, Arx66, arx66, Brx66, brx66, Crx66, crx66, _, _, rfl, rfl, TB, GF, PBpx72, LOrx66, HZf, Lib.hid (.inr HHpx72.out), HBx77⟩
       · go_simp
         have HBx79a : Below wp.heap.size wp (wx59.alloc (.cells #[.slice none 0 0, .slice none 0 0, .slice none 0 0] 28)) := HBx60.out.alloc HBx60.out.size _
         refine hK.out _ _ HBx79a (fun hSx82 => ?_)
         clear hK KK
         (try simp only [Act.put, pu1, pu2, pu3])
         have Gx81a : Three (wx59.alloc (.cells #[.slice none 0 0, .slice none 0 0, .slice none 0 0] 28)) wx59.heap.size 28 (.slice none 0 0) (.slice none 0 0) (.slice none 0 0) := Three.new wx59
         have hba : Below wx59.heap.size wx59 (wx59.alloc (.cells #[.slice none 0 0, .slice none 0 0, .slice none 0 0] 28)) := (Below.refl _ _).alloc (Nat.le_refl _) _
         have Gx83 := Lib.hid (Gx62.out.below hba)
         have PBpx80 := Lib.hid (show wp.heap.size ≤ wx59.heap.size from HBx60.out.size)
         have PApx80 := Lib.hid (show wx59.heap.size < (wx59.alloc (.cells #[.slice none 0 0, .slice none 0 0, .slice none 0 0] 28)).heap.size by simp)
         obtain ⟨px80, hbpx80⟩ : ∃ X, X = wx59.heap.size := ⟨_, rfl⟩
         rw [← hbpx80] at Gx81a PBpx80 PApx80 ⊢
         obtain ⟨wx78, hwwx78⟩ : ∃ X, X = (wx59.alloc (.cells #[.slice none 0 0, .slice none 0 0, .slice none 0 0] 28)) := ⟨_, rfl⟩
         rw [← hwwx78] at HBx79a Gx81a PApx80 Gx83  ⊢
         have HBx79 := Lib.hid HBx79a
         have Gx81 := Lib.hid Gx81a
         clear HBx79a Gx81a hba hwwx78 hbpx80
         refine wpAnyH_ready (rs := [4]) (by kernel_rfl) (by simp) ?_
         refine AllReadyH.cons rfl (fun KK hK => ?_) AllReadyH.nil
         go_simp
         refine (HI.out _ _ _ _ _ _ _ Gx83.out).mono ?_
         rintro e wx84 ⟨Arx86, arx86, Brx86, brx86, Crx86, crx86, rfl, grx86, hrx86⟩
         have Gx87 := Lib.hid grx86.game
         have LOrx86 := Lib.hid (show wp.heap.size ≤ wx78.heap.size from HBx79.out.size)
         have HZrx86 := Lib.hid (Nat.le_refl wx84.heap.size)
         have PQrx86 := Lib.hid (show _ < wx78.heap.size from Gx81.out.lt)
         unfold gameV
         have HBx85 := Lib.hid (Below.and HBx79.out hrx86)
         have Gx88 := Lib.hid (Gx83.out.below hrx86)
         have Gx89 := Lib.hid (Three.below Gx81.out hrx86 Gx81.out.lt)
         clear hrx86 grx86
         refine hK.out _ _ HBx85.out (fun hSx90 => ?_)
         clear hK KK
         (try simp only [Act.put, pu1, pu2, pu3])
         refine tkI 5 79 (v := ?_) rfl rfl ?_ ?_
         rotate_left
         · intro w1 hSw; obtain ⟨hcS, hfS⟩ := bcell hSw; go_simp; (try with_reducible rfl)
         (try simp only [Act.put, pu1, pu2, pu3])
         refine tkI 6 85 (v := ?_) rfl rfl ?_ ?_
         rotate_left
         · intro w1 hSw; obtain ⟨hcS, hfS⟩ := bcell hSw; go_simp; (try with_reducible rfl)
         (try simp only [Act.put, pu1, pu2, pu3])
         refine tkI 7 86 (v := ?_) rfl rfl ?_ ?_
         rotate_left
         · intro w1 hSw; obtain ⟨hcS, hfS⟩ := bcell hSw; go_simp; (try with_reducible rfl)
         (try simp only [Act.put, pu1, pu2, pu3])
         refine wpAnyH_ready (rs := [9]) (by kernel_rfl) (by simp) ?_
         refine AllReadyH.cons rfl (fun KK hK => ?_) AllReadyH.nil
         obtain ⟨zb0, zb1, zb2⟩ := Gx89.out.cells
         have zbf := Gx89.out.frozen
         go_simp
         have HBx91 : Hid (Below wp.heap.size wp (((wx84.setCell ⟨px80, 0, none⟩ (.slice Arx86 E1.length arx86)).setCell ⟨px80, 1, none⟩ (.slice Brx86 F1.length brx86)).setCell ⟨px80, 2, none⟩ (.slice Crx86 L1.length crx86))) := ((HBx85.out.setCell PBpx80.out (p := ⟨px80, 0, none⟩) (.slice Arx86 E1.length arx86)).setCell PBpx80.out (p := ⟨px80, 1, none⟩) (.slice Brx86 F1.length brx86)).setCell PBpx80.out (p := ⟨px80, 2, none⟩) (.slice Crx86 L1.length crx86)
         have TB : Hid (Three (((wx84.setCell ⟨px80, 0, none⟩ (.slice Arx86 E1.length arx86)).setCell ⟨px80, 1, none⟩ (.slice Brx86 F1.length brx86)).setCell ⟨px80, 2, none⟩ (.slice Crx86 L1.length crx86)) px80 28 (.slice Arx86 E1.length arx86) (.slice Brx86 F1.length brx86) (.slice Crx86 L1.length crx86)) := ((Gx89.out.set0 (.slice Arx86 E1.length arx86)).set1 (.slice Brx86 F1.length brx86)).set2 (.slice Crx86 L1.length crx86)
         refine hK.out _ _ HBx91.out (fun hSz => ?_)
         clear hK KK
         (try simp only [Act.put, pu1, pu2, pu3])
         refine tkI 10 15 (v := ?_) rfl rfl ?_ ?_
         rotate_left
         · intro w1 hSw; obtain ⟨hcS, hfS⟩ := bcell hSw; go_simp; (try with_reducible rfl)
         (try simp only [Act.put, pu1, pu2, pu3])
         refine wpAnyH_done (by kernel_rfl) ?_ _
         have GF := Lib.hid (((Gx87.out.put (.inl PQrx86.out) 0 (.slice Arx86 E1.length arx86)).put (.inl PQrx86.out) 1 (.slice Brx86 F1.length brx86)).put (.inl PQrx86.out) 2 (.slice Crx86 L1.length crx86))
         have HZf := Lib.hid (show wx84.heap.size ≤ (((wx84.setCell ⟨px80, 0, none⟩ (.slice Arx86 E1.length arx86)).setCell ⟨px80, 1, none⟩ (.slice Brx86 F1.length brx86)).setCell ⟨px80, 2, none⟩ (.slice Crx86 L1.length crx86)).heap.size by simp)
         go_wp2_with (fail)
         go_meet
         case rel => exact ⟨px80, Arx86, arx86, Brx86, brx86, Crx86, crx86, _, _, rfl, rfl, TB, GF, PBpx80, LOrx86, HZf, Lib.hid (.inl PQrx86.out), HBx91⟩
     · go_simp
       have HBx93a : Below wp.heap.size wp (wx54.alloc (.cells #[.slice none 0 0, .slice none 0 0, .slice none 0 0] 28)) := HBx55.out.alloc HBx55.out.size _
       refine hK.out _ _ HBx93a (fun hSx96 => ?_)
       clear hK KK
       (try simp only [Act.put, pu1, pu2, pu3])
       have Gx95a : Three (wx54.alloc (.cells #[.slice none 0 0, .slice none 0 0, .slice none 0 0] 28)) wx54.heap.size 28 (.slice none 0 0) (.slice none 0 0) (.slice none 0 0) := Three.new wx54
       have hba : Below wx54.heap.size wx54 (wx54.alloc (.cells #[.slice none 0 0, .slice none 0 0, .slice none 0 0] 28)) := (Below.refl _ _).alloc (Nat.le_refl _) _
       have Gx97 := Lib.hid (Gx57.out.below hba)
       have PBpx94 := Lib.hid (show wp.heap.size ≤ wx54.heap.size from HBx55.out.size)
       have PApx94 := Lib.hid (show wx54.heap.size < (wx54.alloc (.cells #[.slice none 0 0, .slice none 0 0, .slice none 0 0] 28)).heap.size by simp)
       obtain ⟨px94, hbpx94⟩ : ∃ X, X = wx54.heap.size := ⟨_, rfl⟩
       rw [← hbpx94] at Gx95a PBpx94 PApx94 ⊢
       obtain ⟨wx92, hwwx92⟩ : ∃ X, X = (wx54.alloc (.cells #[.slice none 0 0, .slice none 0 0, .slice none 0 0] 28)) := ⟨_, rfl⟩
       rw [← hwwx92] at HBx93a Gx95a PApx94 Gx97  ⊢
       have HBx93 := Lib.hid HBx93a
       have Gx95 := Lib.hid Gx95a
       clear HBx93a Gx95a hba hwwx92 hbpx94
       refine wpAnyH_ready (rs := [3]) (by kernel_rfl) (by simp) ?_
       refine AllReadyH.cons rfl (fun KK hK => ?_) AllReadyH.nil
       go_simp
       refine (toReq rc rn ro rx ry _).mono ?_
       rintro e wx98 ⟨rfl, hx100⟩
       have HBx99 := Lib.hid (Below.and HBx93.out hx100)
       have Gx101 := Lib.hid (Gx97.out.below hx100)
       have Gx102 := Lib.hid (Three.below Gx95.out hx100 Gx95.out.lt)
       clear hx100
       refine hK.out _ _ HBx99.out (fun hSx103 => ?_)
       clear hK KK
       (try simp only [Act.put, pu1, pu2, pu3])
       refine wpAnyH_ready (rs := [4]) (by kernel_rfl) (by simp) ?_
       refine AllReadyH.cons rfl (fun KK hK => ?_) AllReadyH.nil
       go_simp
       refine (HI.out _ _ _ _ _ _ _ Gx101.out).mono ?_
       rintro e wx104 ⟨Arx106, arx106, Brx106, brx106, Crx106, crx106, rfl, grx106, hrx106⟩
       have Gx107 := Lib.hid grx106.game
       have LOrx106 := Lib.hid (show wp.heap.size ≤ wx98.heap.size from HBx99.out.size)
       have HZrx106 := Lib.hid (Nat.le_refl wx104.heap.size)
       have PQrx106 := Lib.hid (show _ < wx98.heap.size from Gx102.out.lt)
       unfold gameV
       have HBx105 := Lib.hid (Below.and HBx99.out hrx106)
       have Gx108 := Lib.hid (Gx101.out.below hrx106)
       have Gx109 := Lib.hid (Three.below Gx102.out hrx106 Gx102.out.lt)
       clear hrx106 grx106
       refine hK.out _ _ HBx105.out (fun hSx110 => ?_)
       clear hK KK
       (try simp only [Act.put, pu1, pu2, pu3])
       refine tkI 5 79 (v := ?_) rfl rfl ?_ ?_
       rotate_left
       · intro w1 hSw; obtain ⟨hcS, hfS⟩ := bcell hSw; go_simp; (try with_reducible rfl)
       (try simp only [Act.put, pu1, pu2, pu3])
       refine tkI 6 85 (v := ?_) rfl rfl ?_ ?_
       rotate_left
       · intro w1 hSw; obtain ⟨hcS, hfS⟩ := bcell hSw; go_simp; (try with_reducible rfl)
       (try simp only [Act.put, pu1, pu2, pu3])
       refine tkI 7 86 (v := ?_) rfl rfl ?_ ?_
       rotate_left
       · intro w1 hSw; obtain ⟨hcS, hfS⟩ := bcell hSw; go_simp; (try with_reducible rfl)
       (try simp only [Act.put, pu1, pu2, pu3])
       refine wpAnyH_ready (rs := [9]) (by kernel_rfl) (by simp) ?_
       refine AllReadyH.cons rfl (fun KK hK => ?_) AllReadyH.nil
       obtain ⟨zb0, zb1, zb2⟩ := Gx109.out.cells
       have zbf := Gx109.out.frozen
       go_simp
       have HBx111 : Hid (Below wp.heap.size wp (((wx104.setCell ⟨px94, 0, none⟩ (.slice Arx106 E1.length arx106)).setCell ⟨px94, 1, none⟩ (.slice Brx106 F1.length brx106)).setCell ⟨px94, 2, none⟩ (.slice Crx106 L1.length crx106))) := ((HBx105.out.setCell PBpx94.out (p := ⟨px94, 0, none⟩) (.slice Arx106 E1.length arx106)).setCell PBpx94.out (p := ⟨px94, 1, none⟩) (.slice Brx106 F1.length brx106)).setCell PBpx94.out (p := ⟨px94, 2, none⟩) (.slice Crx106 L1.length crx106)
       have TB : Hid (Three (((wx104.setCell ⟨px94, 0, none⟩ (.slice Arx106 E1.length arx106)).setCell ⟨px94, 1, none⟩ (.slice Brx106 F1.length brx106)).setCell ⟨px94, 2, none⟩ (.slice Crx106 L1.length crx106)) px94 28 (.slice Arx106 E1.length arx106) (.slice Brx106 F1.length brx106) (.slice Crx106 L1.length crx106)) := ((Gx109.out.set0 (.slice Arx106 E1.length arx106)).set1 (.slice Brx106 F1.length brx106)).set2 (.slice Crx106 L1.length crx106)
       refine hK.out _ _ HBx111.out (fun hSz => ?_)
       clear hK KK
       (try simp only [Act.put, pu1, pu2, pu3])
       refine tkI 10 15 (v := ?_) rfl rfl ?_ ?_
       rotate_left
       · intro w1 hSw; obtain ⟨hcS, hfS⟩ := bcell hSw; go_simp; (try with_reducible rfl)
       (try simp only [Act.put, pu1, pu2, pu3])
       refine wpAnyH_done (by kernel_rfl) ?_ _
       have GF := Lib.hid (((Gx107.out.put (.inl PQrx106.out) 0 (.slice Arx106 E1.length arx106)).put (.inl PQrx106.out) 1 (.slice Brx106 F1.length brx106)).put (.inl PQrx106.out) 2 (.slice Crx106 L1.length crx106))
       have HZf := Lib.hid (show wx104.heap.size ≤ (((wx104.setCell ⟨px94, 0, none⟩ (.slice Arx106 E1.length arx106)).setCell ⟨px94, 1, none⟩ (.slice Brx106 F1.length brx106)).setCell ⟨px94, 2, none⟩ (.slice Crx106 L1.length crx106)).heap.size by simp)
       go_wp2_with (fail)
       go_meet
       case rel => exact ⟨px94, Arx106, arx106, Brx106, brx106, Crx106, crx106, _, _, rfl, rfl, TB, GF, PBpx94, LOrx106, HZf, Lib.hid (.inl PQrx106.out), HBx111⟩
   · go_simp
     have HBx113a : Below wp.heap.size wp (wp.alloc (.cells #[.slice none 0 0, .slice none 0 0, .slice none 0 0] 28)).drew := HBd.out.alloc HBd.out.size _
     refine hK.out _ _ HBx113a (fun hSx116 => ?_)
     clear hK KK
     (try simp only [Act.put, pu1, pu2, pu3])
     have Gx115a : Three (wp.alloc (.cells #[.slice none 0 0, .slice none 0 0, .slice none 0 0] 28)).drew wp.heap.size 28 (.slice none 0 0) (.slice none 0 0) (.slice none 0 0) := Three.new wp.drew
     have hba : Below wp.drew.heap.size wp.drew (wp.alloc (.cells #[.slice none 0 0, .slice none 0 0, .slice none 0 0] 28)).drew := (Below.refl _ _).alloc (Nat.le_refl _) _
     have PBpx114 := Lib.hid (show wp.heap.size ≤ wp.heap.size from HBd.out.size)
     have PApx114 := Lib.hid (show wp.heap.size < (wp.alloc (.cells #[.slice none 0 0, .slice none 0 0, .slice none 0 0] 28)).drew.heap.size by simp)
     obtain ⟨wx112, hwwx112⟩ : ∃ X, X = (wp.alloc (.cells #[.slice none 0 0, .slice none 0 0, .slice none 0 0] 28)).drew := ⟨_, rfl⟩
     rw [← hwwx112] at HBx113a Gx115a PApx114   ⊢
     have HBx113 := Lib.hid HBx113a
     have Gx115 := Lib.hid Gx115a
     clear HBx113a Gx115a hba hwwx112
     refine wpAnyH_ready (rs := [1]) (by kernel_rfl) (by simp) ?_
     refine AllReadyH.cons rfl (fun KK hK => ?_) AllReadyH.nil
     go_simp
     refine (toGame A a B b C c E F L _ (by omega) (by omega) (by omega) (H1.out.below (Below.and Z.out HBx113.out)) (H2.out.below (Below.and Z.out HBx113.out)) (H3.out.below (Below.and Z.out HBx113.out))).mono ?_
     rintro e wx117 ⟨Aqx119, aqx119, Bqx119, bqx119, Cqx119, cqx119, rfl, gqx119, hqx119⟩
     have Gx120 := Lib.hid gqx119.gmR
     have HBx118 := Lib.hid (Below.and HBx113.out hqx119)
     have Gx121 := Lib.hid (Three.below Gx115.out hqx119 Gx115.out.lt)
     clear gqx119 hqx119
     refine hK.out _ _ HBx118.out (fun hSx122 => ?_)
     clear hK KK
     (try simp only [Act.put, pu1, pu2, pu3])
     refine wpAnyH_ready (rs := [3]) (by kernel_rfl) (by simp) ?_
     refine AllReadyH.cons rfl (fun KK hK => ?_) AllReadyH.nil
     go_simp
     refine (toReq rc rn ro rx ry _).mono ?_
     rintro e wx123 ⟨rfl, hx125⟩
     have HBx124 := Lib.hid (Below.and HBx118.out hx125)
     have Gx126 := Lib.hid (Three.below Gx121.out hx125 Gx121.out.lt)
     have Gx127 := Lib.hid (Gx120.out.below hx125)
     clear hx125
     refine hK.out _ _ HBx124.out (fun hSx128 => ?_)
     clear hK KK
     (try simp only [Act.put, pu1, pu2, pu3])
     refine wpAnyH_ready (rs := [4]) (by kernel_rfl) (by simp) ?_
     refine AllReadyH.cons rfl (fun KK hK => ?_) AllReadyH.nil
     go_simp
     refine (HI.out _ _ _ _ _ _ _ Gx127.out).mono ?_
     rintro e wx129 ⟨Arx131, arx131, Brx131, brx131, Crx131, crx131, rfl, grx131, hrx131⟩
     have Gx132 := Lib.hid grx131.game
     have LOrx131 := Lib.hid (show wp.heap.size ≤ wx123.heap.size from HBx124.out.size)
     have HZrx131 := Lib.hid (Nat.le_refl wx129.heap.size)
     have PQrx131 := Lib.hid (show _ < wx123.heap.size from Gx126.out.lt)
     unfold gameV
     have HBx130 := Lib.hid (Below.and HBx124.out hrx131)
     have Gx133 := Lib.hid (Three.below Gx126.out hrx131 Gx126.out.lt)
     have Gx134 := Lib.hid (Gx127.out.below hrx131)
     clear hrx131 grx131
     refine hK.out _ _ HBx130.out (fun hSx135 => ?_)
     clear hK KK
     (try simp only [Act.put, pu1, pu2, pu3])
     refine tkI 5 79 (v := ?_) rfl rfl ?_ ?_
     rotate_left
     · intro w1 hSw; obtain ⟨hcS, hfS⟩ := bcell hSw; go_simp; (try with_reducible rfl)
     (try simp only [Act.put, pu1, pu2, pu3])
     refine tkI 6 85 (v := ?_) rfl rfl ?_ ?_
     rotate_left
     · intro w1 hSw; obtain ⟨hcS, hfS⟩ := bcell hSw; go_simp; (try with_reducible rfl)
     (try simp only [Act.put, pu1, pu2, pu3])
     refine tkI 7 86 (v := ?_) rfl rfl ?_ ?_
     rotate_left
     · intro w1 hSw; obtain ⟨hcS, hfS⟩ := bcell hSw; go_simp; (try with_reducible rfl)
     (try simp only [Act.put, pu1, pu2, pu3])
     refine wpAnyH_ready (rs := [9]) (by kernel_rfl) (by simp) ?_
     refine AllReadyH.cons rfl (fun KK hK => ?_) AllReadyH.nil
     obtain ⟨zb0, zb1, zb2⟩ := Gx133.out.cells
     have zbf := Gx133.out.frozen
     go_simp
     have HBx136 : Hid (Below wp.heap.size wp (((wx129.setCell ⟨wp.heap.size, 0, none⟩ (.slice Arx131 E1.length arx131)).setCell ⟨wp.heap.size, 1, none⟩ (.slice Brx131 F1.length brx131)).setCell ⟨wp.heap.size, 2, none⟩ (.slice Crx131 L1.length crx131))) := ((HBx130.out.setCell PBpx114.out (p := ⟨wp.heap.size, 0, none⟩) (.slice Arx131 E1.length arx131)).setCell PBpx114.out (p := ⟨wp.heap.size, 1, none⟩) (.slice Brx131 F1.length brx131)).setCell PBpx114.out (p := ⟨wp.heap.size, 2, none⟩) (.slice Crx131 L1.length crx131)
     have TB : Hid (Three (((wx129.setCell ⟨wp.heap.size, 0, none⟩ (.slice Arx131 E1.length arx131)).setCell ⟨wp.heap.size, 1, none⟩ (.slice Brx131 F1.length brx131)).setCell ⟨wp.heap.size, 2, none⟩ (.slice Crx131 L1.length crx131)) wp.heap.size 28 (.slice Arx131 E1.length arx131) (.slice Brx131 F1.length brx131) (.slice Crx131 L1.length crx131)) := ((Gx133.out.set0 (.slice Arx131 E1.length arx131)).set1 (.slice Brx131 F1.length brx131)).set2 (.slice Crx131 L1.length crx131)
     refine hK.out _ _ HBx136.out (fun hSz => ?_)
     clear hK KK
     (try simp only [Act.put, pu1, pu2, pu3])
     refine tkI 10 15 (v := ?_) rfl rfl ?_ ?_
     rotate_left
     · intro w1 hSw; obtain ⟨hcS, hfS⟩ := bcell hSw; go_simp; (try with_reducible rfl)
     (try simp only [Act.put, pu1, pu2, pu3])
     refine wpAnyH_done (by kernel_rfl) ?_ _
     have GF := Lib.hid (((Gx132.out.put (.inl PQrx131.out) 0 (.slice Arx131 E1.length arx131)).put (.inl PQrx131.out) 1 (.slice Brx131 F1.length brx131)).put (.inl PQrx131.out) 2 (.slice Crx131 L1.length crx131))
     have HZf := Lib.hid (show wx129.heap.size ≤ (((wx129.setCell ⟨wp.heap.size, 0, none⟩ (.slice Arx131 E1.length arx131)).setCell ⟨wp.heap.size, 1, none⟩ (.slice Brx131 F1.length brx131)).setCell ⟨wp.heap.size, 2, none⟩ (.slice Crx131 L1.length crx131)).heap.size by simp)
     go_wp2_with (fail)
     go_meet
     case rel => exact ⟨wp.heap.size, Arx131, arx131, Brx131, brx131, Crx131, crx131, _, _, rfl, rfl, TB, GF, PBpx114, LOrx131, HZf, Lib.hid (.inl PQrx131.out), HBx136⟩
  case rest =>
  obtain ⟨p5, A8, a8, B8, b8, C8, c8, lo8, hi8, rfl, rfl, T8, G8, _, _, _, _, HB⟩ := hcut
  have hb := HB.out
  have T6 := Lib.hid (Three.below T6.out hb T6.out.lt)
  have T9 := Lib.hid (Three.below T9.out hb T9.out.lt)
  have G6 := Lib.hid (G6.out.below hb)
  have Z := Lib.hid (Below.and Z.out hb)
  have M := Lib.hid (M.out.below hb)
  have G8r := Lib.hid (G8.out.rd)
  clear HB hb K R G8
  obtain ⟨p0, p1, p2⟩ := T8.out.cells
  obtain ⟨q0, q1, q2⟩ := T6.out.cells
  go_wp2_with (fail)
  refine (eqGame_rd G8r.out G6.out (by have := HE1.out; omega) (by have := HF1.out; omega) (by have := HL1.out; omega)).mono ?_
  rintro e wr ⟨rfl, hb⟩
  have T9 := Lib.hid (Three.below T9.out hb T9.out.lt)
  have Z := Lib.hid (Below.and Z.out hb)
  have M := Lib.hid (M.out.below hb)
  clear hb p0 p1 p2 q0 q1 q2 G8r T6 T8 G6
  obtain ⟨p0, p1, p2⟩ := T9.out.cells
  go_wp2_with (fail)
  refine (held_game E1.length F1.length L1.length M.out v HV.out (by have := HE1.out; omega) (by have := HF1.out; omega) (by have := HL1.out; omega)).mono ?_
  rintro e wt ⟨rfl, hb⟩
  have Z := Lib.hid (Below.and Z.out hb)
  clear hb p0 p1 p2 T9 M HV
  go_wp2
  go_light
  go_ret
  exact ⟨rfl, Z.out⟩

theorem exactGameDo (A : Option Addr) (a : Nat) (B : Option Addr) (b : Nat) (C : Option Addr) (c : Nat) (E : List Fig) (F L : List Int) (rc rn ro rx ry : Int) (w : World) (hE : E.length ≤ maxLen) (hF : F.length ≤ maxLen) (hL : L.length ≤ maxLen)
 (rE : InF w A E) (rF : InI w B F) (rL : InI w C L) :
 Calls Try.prog 4 #[gameV A E.length a B F.length b C L.length c, .agg #[.int .i64 rc, .int .i64 rn, .int .i64 ro, .int .i64 rx, .int .i64 ry]] w fun e w' => e = .returned (.bool true) ∧ Below w.heap.size w w' := by
 obtain ⟨⟨⟨E1, F1, L1⟩, c1⟩, hX⟩ : ∃ X, X = stepG E F L ⟨rc, rn, ro, rx, ry⟩ := ⟨_, rfl⟩
 exact exactStep A a B b C c E F L rc rn ro rx ry w hE hF hL rE rF rL E1 F1 L1 c1 hX

end Go.Proofs.Ytagjkngiijmokaa
