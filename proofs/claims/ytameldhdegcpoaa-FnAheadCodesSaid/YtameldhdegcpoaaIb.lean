import Derived.Test.YtameldhdegcpoaaIa
import Derived.Test.YtameldhdegcpoaaMQ
namespace Go.Proofs.Ytameldhdegcpoaa
open Go.ChangeShapes Go.WideShapes Go.ChangeAt Go.RowKit
set_option linter.unusedVariables false
set_option linter.unusedSimpArgs false
structure RdAc (w : World) (A : Option Addr) (a : Nat) (B : Option Addr) (b : Nat) (D T : List Rq) : Prop where
 r : RdA w A a B b D T
 cd : D.length ≤ a
 ct : T.length ≤ b
theorem RdAc.below {w w' : World} {A : Option Addr} {a : Nat} {B : Option Addr} {b : Nat} {D T : List Rq} (h : RdAc w A a B b D T) (hb : Below w.heap.size w w') : RdAc w' A a B b D T := ⟨h.r.below hb, h.cd, h.ct⟩
theorem OwA.rdAc {w : World} {lo : Nat} {A : Option Addr} {a : Nat} {B : Option Addr} {b : Nat} {D T : List Rq} (h : OwA w lo A a B b D T) : RdAc w A a B b D T := ⟨h.rdA, (own_cap h.d).1, (own_cap h.t).1⟩
def codesG : Gm → List Rq → List Int
 | _, [] => []
 | g, r :: t => (doG g.1 g.2.1 g.2.2 r).2 :: codesG (stepF g r) t
theorem codesG_append : ∀ (l : List Rq) (g : Gm) (r : Rq), codesG g (l ++ [r]) = codesG g l ++ [(doG (l.foldl stepF g).1 (l.foldl stepF g).2.1 (l.foldl stepF g).2.2 r).2]
 | [], g, r => rfl
 | x :: l, g, r => by simp [codesG, codesG_append l]
theorem codesG_len : ∀ (l : List Rq) (g : Gm), (codesG g l).length = l.length
 | [], _ => rfl
 | x :: l, g => by simp [codesG, codesG_len l]
theorem ahB_all {D T : List Rq} {k : Int} (h : ahB D T k = true) : (∀ r ∈ D, okB r = true) ∧ (∀ r ∈ T, okB r = true) := by
 unfold ahB at h
 simp only [Bool.and_eq_true, List.all_eq_true] at h
 exact ⟨h.2.2.1, h.2.2.2⟩
theorem stepG_at {g : Gm} {r : Rq} (hg : gokB g.1 g.2.1 g.2.2 = true) (hr : okB r = true) : stepG g.1 g.2.1 g.2.2 r = doG g.1 g.2.1 g.2.2 r := by
 unfold stepG
 rw [if_pos ⟨hg, hr⟩]
theorem OwG.lower2 {w w' : World} {lg lo : Nat} {A : Option Addr} {a : Nat} {B : Option Addr} {b : Nat} {C : Option Addr} {c : Nat} {E : List Fig} {F L : List Int} (h : OwG w lg A a B b C c E F L) (hE : ∀ x, (Value.slice A E.length a).ownBlock = some x → x < lo) (hF : ∀ x, (Value.slice B F.length b).ownBlock = some x → x < lo) (hL : ∀ x, (Value.slice C L.length c).ownBlock = some x → x < lo) (hb : Below lo w w') : OwG w' lg A a B b C c E F L :=
 ⟨own_same h.e (fun k hk => hb.block k (hE k hk)), own_same h.f (fun k hk => hb.block k (hF k hk)), own_same h.l (fun k hk => hb.block k (hL k hk)), h.ef, h.el, h.fl⟩
def ULog (w : World) (pf : Nat) (A0 : Option Addr) (a0 : Nat) (B0 : Option Addr) (b0 : Nat) (C0 : Option Addr) (c0 n0 m0 l0 : Nat) (us : List Value) : Prop :=
 ∀ i (hi : i < us.length), ∃ A a B b C c n m l, UndoB w pf A a B b C c n m l (us[i]'hi) ∧ (i = 0 → A = A0 ∧ a = a0 ∧ B = B0 ∧ b = b0 ∧ C = C0 ∧ c = c0 ∧ n = n0 ∧ m = m0 ∧ l = l0)
theorem ULog.step {w w' : World} {pf : Nat} {A0 : Option Addr} {a0 : Nat} {B0 : Option Addr} {b0 : Nat} {C0 : Option Addr} {c0 n0 m0 l0 : Nat} {us : List Value} (h : ULog w pf A0 a0 B0 b0 C0 c0 n0 m0 l0 us) (hk : KeptT w w') {A : Option Addr} {a : Nat} {B : Option Addr} {b : Nat} {C : Option Addr} {c n m l : Nat} {u : Value} (hu : UndoB w' pf A a B b C c n m l u) (h0 : us = [] → A = A0 ∧ a = a0 ∧ B = B0 ∧ b = b0 ∧ C = C0 ∧ c = c0 ∧ n = n0 ∧ m = m0 ∧ l = l0) : ULog w' pf A0 a0 B0 b0 C0 c0 n0 m0 l0 (us ++ [u]) := by
 intro i hi
 by_cases hlt : i < us.length
 · obtain ⟨A1, a1, B1, b1, C1, c1, n1, m1, l1, h1, h2⟩ := h i hlt
   rw [List.getElem_append_left hlt]
   exact ⟨A1, a1, B1, b1, C1, c1, n1, m1, l1, h1.kept hk, h2⟩
 · have hi' : i = us.length := by simp at hi; omega
   subst hi'
   rw [List.getElem_append_right (Nat.le_refl _)]
   simp only [Nat.sub_self, List.getElem_cons_zero]
   exact ⟨A, a, B, b, C, c, n, m, l, hu, fun e => h0 (List.eq_nil_of_length_eq_zero e)⟩
def FcOf (w : World) (D T : List Rq) (e : Ending) (w' : World) : Prop :=
 ∃ (pf lg : Nat) (A1 : Option Addr) (a1 : Nat) (B1 : Option Addr) (b1 : Nat) (C1 : Option Addr) (c1 : Nat) (Q : Option Addr) (q : Nat) (V : Option Addr) (v : Nat) (us : List Value) (A0 : Option Addr) (a0 : Nat) (B0 : Option Addr) (b0 : Nat) (C0 : Option Addr) (c0 : Nat), e = .returned (.pointer (some ⟨pf, 0, none⟩)) ∧ w.heap.size ≤ lg ∧ lg ≤ pf ∧ Fc w' pf pf lg A1 a1 B1 b1 C1 c1 (T.foldl stepF (foldG D)).1 (T.foldl stepF (foldG D)).2.1 (T.foldl stepF (foldG D)).2.2 Q q (codesG (foldG D) T) V v us ∧ us.length = T.length ∧ ULog w' pf A0 a0 B0 b0 C0 c0 (foldG D).1.length (foldG D).2.1.length (foldG D).2.2.length us ∧ (T = [] → A1 = A0 ∧ a1 = a0 ∧ B1 = B0 ∧ b1 = b0 ∧ C1 = C0 ∧ c1 = c0) ∧ OwG w' lg A0 a0 B0 b0 C0 c0 (foldG D).1 (foldG D).2.1 (foldG D).2.2 ∧ Below w.heap.size w w'
set_option maxRecDepth 100000 in
set_option maxHeartbeats 8000000 in
theorem forecastOf (A : Option Addr) (a : Nat) (B : Option Addr) (b : Nat) (D T : List Rq) (k : Int) (w : World) (hok : ahB D T k = true) (h : RdAc w A a B b D T) :
 Calls Try.prog 49 #[aheadV A D.length a B T.length b k] w (FcOf w D T) := by
 have hlen := ahB_len hok
 obtain ⟨okD, okT⟩ := ahB_all hok
 have HL := Lib.hid hlen
 have OD := Lib.hid okD
 have OT := Lib.hid okT
 have HR := Lib.hid h
 have hd60 : D.length ≤ 60 := by omega
 have K1 := Lib.hid (Three.new (u0 := .slice A D.length a) (u1 := .slice B T.length b) (u2 := .int .i64 k) (t := 33) w)
 have Z : Hid (Below w.heap.size w (w.alloc (.cells #[.slice A D.length a, .slice B T.length b, .int .i64 k] 33))) := (Below.refl _ _).alloc (Nat.le_refl _) _
 have t60 : T.length ≤ 60 := by omega
 clear hlen okD okT h hok
 go_enter Try.func49, Try.ntmps49
 go_upto_region 1 with (fail)
 obtain ⟨w0, hw0⟩ : ∃ X, X = w.alloc (.cells #[.slice A D.length a, .slice B T.length b, .int .i64 k] 33) := ⟨_, rfl⟩
 rw [← hw0] at K1 Z ⊢
 clear hw0
 obtain ⟨p0, p1, p2⟩ := K1.out.cells
 go_wp2_with (fail)
 have hf := implGameFold A a D w0 (by omega) HR.out.cd (Rd.below HR.out.r.d Z.out)
 rw [foldR_good OD.out hd60] at hf
 refine hf.mono ?_
 clear hf
 rintro e w1 ⟨A0, a0, B0, b0, C0, c0, rfl, g0, hb⟩
 have K1 := Lib.hid (Three.below K1.out hb K1.out.lt)
 have LG := Lib.hid (show w.heap.size ≤ w0.heap.size from Z.out.size)
 have LG2 := Lib.hid (show w0.heap.size ≤ w1.heap.size from hb.size)
 have Z := Lib.hid (Below.and Z.out hb)
 clear hb p0 p1 p2
 have hba : Below w1.heap.size w1 (w1.alloc (.cells #[.slice A0 (foldG D).1.length a0, .slice B0 (foldG D).2.1.length b0, .slice C0 (foldG D).2.2.length c0, .slice none 0 0, .slice none 0 0] 62)) := (Below.refl _ _).alloc (Nat.le_refl _) _
 have UE : Hid (∀ x, (Value.slice A0 (foldG D).1.length a0).ownBlock = some x → x < w1.heap.size) := fun x hx => (own_block_ge g0.e x hx).2
 have UF : Hid (∀ x, (Value.slice B0 (foldG D).2.1.length b0).ownBlock = some x → x < w1.heap.size) := fun x hx => (own_block_ge g0.f x hx).2
 have UL : Hid (∀ x, (Value.slice C0 (foldG D).2.2.length c0).ownBlock = some x → x < w1.heap.size) := fun x hx => (own_block_ge g0.l x hx).2
 have G0 := Lib.hid (g0.below hba)
 have FN : Hid (Fc (w1.alloc (.cells #[.slice A0 (foldG D).1.length a0, .slice B0 (foldG D).2.1.length b0, .slice C0 (foldG D).2.2.length c0, .slice none 0 0, .slice none 0 0] 62)) w1.heap.size w1.heap.size w0.heap.size A0 a0 B0 b0 C0 c0 (foldG D).1 (foldG D).2.1 (foldG D).2.2 none 0 [] none 0 []) := ⟨Five.new w1, g0.below hba, World.ownsRow_nil _ _ _ _, World.ownsRow_nil _ _ _ _, (fun x hx e => by simp [Value.ownBlock] at e), (fun x hx e => by simp [Value.ownBlock] at e), Nat.le_refl _, (fun u hu => by cases hu)⟩
 have K1 := Lib.hid (Three.below K1.out hba K1.out.lt)
 have Z := Lib.hid (Below.and Z.out hba)
 have PL : w1.heap.size < (w1.alloc (.cells #[.slice A0 (foldG D).1.length a0, .slice B0 (foldG D).2.1.length b0, .slice C0 (foldG D).2.2.length c0, .slice none 0 0, .slice none 0 0] 62)).heap.size := by simp
 clear hba g0
 unfold gameV
 go_upto_region 2 with (fail)
 obtain ⟨lg, hlg⟩ : ∃ X, X = w0.heap.size := ⟨_, rfl⟩
 obtain ⟨pf, hpf⟩ : ∃ X, X = w1.heap.size := ⟨_, rfl⟩
 obtain ⟨w2, hw2⟩ : ∃ X, X = w1.alloc (.cells #[.slice A0 (foldG D).1.length a0, .slice B0 (foldG D).2.1.length b0, .slice C0 (foldG D).2.2.length c0, .slice none 0 0, .slice none 0 0] 62) := ⟨_, rfl⟩
 rw [← hw2] at FN K1 Z G0 PL ⊢
 rw [← hpf] at FN UE UF UL LG2 PL ⊢
 rw [← hlg] at FN G0 LG LG2
 clear hw2 hpf hlg
 obtain ⟨p0, p1, p2⟩ := K1.out.cells
 go_wp2
 go_loopw [14] (fun vv wr => ∃ (j : Nat) (A1 : Option Addr) (a1 : Nat) (B1 : Option Addr) (b1 : Nat) (C1 : Option Addr) (c1 : Nat) (Q : Option Addr) (q : Nat) (V : Option Addr) (v : Nat) (us : List Value), j ≤ T.length ∧ vv = .int .i64 (j : Int) ∧ us.length = j ∧ Hid (Fc wr pf pf lg A1 a1 B1 b1 C1 c1 ((T.take j).foldl stepF (foldG D)).1 ((T.take j).foldl stepF (foldG D)).2.1 ((T.take j).foldl stepF (foldG D)).2.2 Q q (codesG (foldG D) (T.take j)) V v us) ∧ Hid (ULog wr pf A0 a0 B0 b0 C0 c0 (foldG D).1.length (foldG D).2.1.length (foldG D).2.2.length us) ∧ (j = 0 → A1 = A0 ∧ a1 = a0 ∧ B1 = B0 ∧ b1 = b0 ∧ C1 = C0 ∧ c1 = c0) ∧ Hid (OwG wr lg A0 a0 B0 b0 C0 c0 (foldG D).1 (foldG D).2.1 (foldG D).2.2) ∧ Hid (Below w.heap.size w wr) ∧ pf < wr.heap.size) (fun vv _ => T.length - (intOf vv).toNat)
 case atStart => exact ⟨0, A0, a0, B0, b0, C0, c0, none, 0, none, 0, [], Nat.zero_le _, rfl, rfl, FN.out, fun i hi => by simp at hi, fun _ => ⟨rfl, rfl, rfl, rfl, rfl, rfl⟩, G0.out, Z.out, PL⟩
 case round =>
  clear p0 p1 p2 K1 FN G0 Z PL
  obtain ⟨j, A1, a1, B1, b1, C1, c1, Q, q, V, v, us, hj, rfl, hus, FF, UU, h0, G0, Z, PL⟩ := hrel
  have H0 := Lib.hid h0
  clear h0
  by_cases hlt : j < T.length
  · obtain ⟨g, o, rfl, ca⟩ := Rd.below HR.out.r.t Z.out j hlt
    have HT := Lib.hid (List.take_succ_eq_append_getElem hlt)
    have HO := Lib.hid (OT.out _ (List.getElem_mem hlt))
    generalize T[j] = x at ca HT HO
    have xr0 : wr.cell? ⟨g, o + j * 5, none⟩ = some (.int .i64 x.c) := ca 0 _ rfl
    have xr1 : wr.cell? ⟨g, o + j * 5 + 1, none⟩ = some (.int .i64 x.n) := ca 1 _ rfl
    have xr2 : wr.cell? ⟨g, o + j * 5 + 2, none⟩ = some (.int .i64 x.o) := ca 2 _ rfl
    have xr3 : wr.cell? ⟨g, o + j * 5 + 3, none⟩ = some (.int .i64 x.x) := ca 3 _ rfl
    have xr4 : wr.cell? ⟨g, o + j * 5 + 4, none⟩ = some (.int .i64 x.y) := ca 4 _ rfl
    clear ca
    have lx : g < wr.heap.size := World.block_lt_of_cell? wr _ xr0
    have i0 : (0 : Int) ≤ (j : Int) := by omega
    have i1 : (j : Int) < (T.length : Int) := by omega
    obtain ⟨Y, hY⟩ : ∃ Y : Gm, Y = (T.take j).foldl stepF (foldG D) := ⟨_, rfl⟩
    have HK : gokB Y.1 Y.2.1 Y.2.2 = true := by
     rw [hY]
     exact foldG_ok _ _ (foldG_ok D g0 g0_ok OD.out) (fun r hr => OT.out r (List.mem_of_mem_take hr))
    rw [← hY] at FF
    have HY := Lib.hid hY
    have hSG := stepG_at HK HO.out
    have HSG := Lib.hid hSG
    have OKG := Lib.hid (okG_of HK)
    clear hY hSG HK
    have hba : Below wr.heap.size wr (wr.alloc (.cells #[.int .i64 x.c, .int .i64 x.n, .int .i64 x.o, .int .i64 x.x, .int .i64 x.y] 49)) := (Below.refl _ _).alloc (Nat.le_refl _) _
    have FF := Lib.hid (FF.out.below hba)
    have G0 := Lib.hid (G0.out.below hba)
    have Z := Lib.hid (Below.and Z.out hba)
    have UK := Lib.hid (KeptT.bel hba)
    have PL2 : pf < (wr.alloc (.cells #[.int .i64 x.c, .int .i64 x.n, .int .i64 x.o, .int .i64 x.x, .int .i64 x.y] 49)).heap.size := by simp; omega
    have HUS := Lib.hid hus
    clear hba
    go_wp2_with (fail)
    refine (fcDo x FF.out (Nat.le_of_lt PL2) (Nat.le_of_lt (Nat.lt_of_le_of_lt LG2.out PL2)) (by have := OKG.out.e.len; omega) (by rw [OKG.out.f]; omega) (by rw [OKG.out.l]; omega) (by rw [codesG_len, List.length_take]; omega) (by omega)).mono ?_
    rintro e w3 ⟨rfl, ⟨A2, a2, B2, b2, C2, c2, Q2, q2, V2, v2, u, F2, U2⟩, hb, hk, hsz⟩
    have HCG : Hid (codesG (foldG D) (T.take (j + 1)) = codesG (foldG D) (T.take j) ++ [(stepG Y.1 Y.2.1 Y.2.2 x).2]) := by
     show _ = _
     rw [HT.out, codesG_append, HSG.out, HY.out]
    have HXG : Hid ((T.take (j + 1)).foldl stepF (foldG D) = (stepG Y.1 Y.2.1 Y.2.2 x).1) := by
     show _ = _
     rw [HT.out, List.foldl_append, HSG.out, ← HY.out]
     rfl
    rw [← HXG.out, ← HCG.out] at F2
    have FF := Lib.hid F2
    have UU := Lib.hid (UU.out.step (UK.out.trans hk) U2 (fun e => by
     have hj0 : j = 0 := by have := HUS.out; rw [e] at this; simpa using this.symm
     obtain ⟨e1, e2, e3, e4, e5, e6⟩ := H0.out hj0
     have eY : Y = foldG D := by rw [HY.out, hj0]; rfl
     exact ⟨e1, e2, e3, e4, e5, e6, by rw [eY], by rw [eY], by rw [eY]⟩))
    have G0 := Lib.hid (G0.out.lower2 UE.out UF.out UL.out hb)
    have Z := Lib.hid (Z.out.trans (hb.mono (Nat.le_trans LG.out LG2.out)))
    have PL3 : pf < w3.heap.size := Nat.lt_of_lt_of_le PL2 hsz
    have LU := Lib.hid (show (us ++ [u]).length = j + 1 by have := HUS.out; simp; omega)
    clear F2 U2 hb hk hsz xr0 xr1 xr2 xr3 xr4 PL2 UK HCG HXG HY HSG OKG HT HO hus HUS H0
    go_wp2
    go_roundw
    case rel => exact ⟨j + 1, A2, a2, B2, b2, C2, c2, Q2, q2, V2, v2, us ++ [u], by omega, by go_num, LU.out, FF.out, UU.out, (fun e => by omega), G0.out, Z.out, PL3⟩
    case measure => (simp [intOf]; try omega)
  · have i1 : ¬ (j : Int) < (T.length : Int) := by omega
    obtain rfl : j = T.length := by omega
    rw [List.take_length] at FF
    go_wp2
    go_light
    go_ret
    exact ⟨pf, lg, A1, a1, B1, b1, C1, c1, Q, q, V, v, us, A0, a0, B0, b0, C0, c0, rfl, LG.out, LG2.out, FF.out, hus, UU.out, (fun e => H0.out (by rw [e]; rfl)), G0.out, Z.out⟩
end Go.Proofs.Ytameldhdegcpoaa
