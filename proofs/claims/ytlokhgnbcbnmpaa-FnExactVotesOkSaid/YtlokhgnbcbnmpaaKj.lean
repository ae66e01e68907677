/- Whether votes make a leader: both ways. -/
import Derived.Test.YtlokhgnbcbnmpaaKi
import Derived.Test.YtlokhgnbcbnmpaaJd
namespace Go.Proofs.Ytlokhgnbcbnmpaa
open Go.ChangeShapes Go.WideShapes Go.ChangeAt Go.RowKit
set_option linter.unusedVariables false
set_option linter.unusedSimpArgs false

def befI (P : List MgP) (view : Int) (l : List Cl) : Bool := l.all fun c => decide (c.v < view) && (clB c && readyM P c)
def befM (P : List MgP) (view : Int) (l : List Cl) : Bool := l.all fun c => decide (c.v < view) && readyM P c
theorem befI_step {P : List MgP} {view : Int} {l : List Cl} {k : Nat} (h : k < l.length) : befI P view (l.drop k) = ((decide (l[k].v < view) && (clB l[k] && readyM P l[k])) && befI P view (l.drop (k + 1))) := by
  unfold befI
  rw [List.drop_eq_getElem_cons h, List.all_cons]
theorem befM_step {P : List MgP} {view : Int} {l : List Cl} {k : Nat} (h : k < l.length) : befM P view (l.drop k) = ((decide (l[k].v < view) && readyM P l[k]) && befM P view (l.drop (k + 1))) := by
  unfold befM
  rw [List.drop_eq_getElem_cons h, List.all_cons]
theorem befI_end {P : List MgP} {view : Int} {l : List Cl} {k : Nat} (h : l.length ≤ k) : befI P view (l.drop k) = true := by rw [List.drop_of_length_le h]; rfl
theorem befM_end {P : List MgP} {view : Int} {l : List Cl} {k : Nat} (h : l.length ≤ k) : befM P view (l.drop k) = true := by rw [List.drop_of_length_le h]; rfl

set_option maxRecDepth 100000 in
set_option maxHeartbeats 2000000 in
theorem readyBefore (A : Option Addr) (a : Nat) (P : List MgP) (view : Int) (B : Option Addr) (b : Nat) (l : List Cl) (w : World) (hn : P.length ≤ maxLen) (hr : RdMs w A P) (hm : l.length ≤ maxLen) (hc : RdC w B l) :
    Calls Try.prog 67 #[.slice A P.length a, .int .i64 view, .slice B l.length b] w fun e w' => e = .returned (.bool (befI P view l)) ∧ Below w.heap.size w w' := by
  unfold maxLen at hm
  have HR := Lib.hid hr
  have HC := Lib.hid hc
  have HN := Lib.hid hn
  clear hr hc hn
  go_enter Try.func67, Try.ntmps67
  go_wp2
  go_loopw [11] (fun i wr => ∃ k : Nat, k ≤ l.length ∧ i = .int .i64 k ∧ Hid (befI P view l = befI P view (l.drop k)) ∧ Hid (Below w.heap.size w wr)) (fun i _ => l.length - (intOf i).toNat)
  case atStart => exact ⟨0, Nat.zero_le _, rfl, by simp [Hid], Below.refl _ _⟩
  case round =>
    obtain ⟨k, hk, rfl, ht, hb⟩ := hrel
    by_cases hlt : k < l.length
    · obtain ⟨g, o, rfl, ca⟩ := Rd.below HC.out hb.out k hlt
      have HD := Lib.hid (show befI P view l = ((decide (l[k].v < view) && (clB l[k] && readyM P l[k])) && befI P view (l.drop (k + 1))) by rw [ht.out, befI_step hlt])
      generalize l[k] = y at ca HD
      clear ht
      have c0 : wr.cell? ⟨g, o + k * 7, none⟩ = some (.int .i64 y.s) := ca 0 _ rfl
      have c1 : wr.cell? ⟨g, o + k * 7 + 1, none⟩ = some (.int .i64 y.v) := ca 1 _ rfl
      have c2 : wr.cell? ⟨g, o + k * 7 + 2, none⟩ = some (.int .i64 y.r.c) := ca 2 _ rfl
      have c3 : wr.cell? ⟨g, o + k * 7 + 3, none⟩ = some (.int .i64 y.r.n) := ca 3 _ rfl
      have c4 : wr.cell? ⟨g, o + k * 7 + 4, none⟩ = some (.int .i64 y.r.o) := ca 4 _ rfl
      have c5 : wr.cell? ⟨g, o + k * 7 + 5, none⟩ = some (.int .i64 y.r.x) := ca 5 _ rfl
      have c6 : wr.cell? ⟨g, o + k * 7 + 6, none⟩ = some (.int .i64 y.r.y) := ca 6 _ rfl
      clear ca
      have BB := Lib.hid (hb.out.alloc hb.out.size (.cells #[.int .i64 y.s, .int .i64 y.v, .int .i64 y.r.c, .int .i64 y.r.n, .int .i64 y.r.o, .int .i64 y.r.x, .int .i64 y.r.y] 55))
      have HRW := Lib.hid (HR.out.below BB.out)
      have KY : Hid (Blk (wr.alloc (.cells #[.int .i64 y.s, .int .i64 y.v, .int .i64 y.r.c, .int .i64 y.r.n, .int .i64 y.r.o, .int .i64 y.r.x, .int .i64 y.r.y] 55)) wr.heap.size 55 #[.int .i64 y.s, .int .i64 y.v, .int .i64 y.r.c, .int .i64 y.r.n, .int .i64 y.r.o, .int .i64 y.r.x, .int .i64 y.r.y]) := Blk.new wr
      have i0 : (0 : Int) ≤ (k : Int) := by omega
      have i1 : (k : Int) < (l.length : Int) := by omega
      by_cases hv : view ≤ y.v
      · have HZ := Lib.hid (show befI P view l = false by rw [HD.out, decide_eq_false (show ¬ y.v < view by omega)]; rfl)
        go_wp2
        go_light
        go_ret
        exact ⟨ret_bool (by rw [HZ.out]), BB.out⟩
      have HD := Lib.hid (show befI P view l = ((clB y && readyM P y) && befI P view (l.drop (k + 1))) by rw [HD.out, decide_eq_true (show y.v < view by omega)]; rfl)
      go_wp2_with (fail)
      refine (implClaimReady A a P y _ HN.out HRW.out).mono ?_
      rintro e w1 ⟨rfl, hb1⟩
      have BN := Lib.hid (Below.and BB.out hb1)
      clear hb1
      rcases hz : (clB y && readyM P y) with _ | _
      · have HZ := Lib.hid (show befI P view l = false by rw [HD.out, hz]; rfl)
        clear hz
        go_wp2
        go_light
        go_ret
        exact ⟨ret_bool (by rw [HZ.out]), BN.out⟩
      · have HN' := Lib.hid (show befI P view l = befI P view (l.drop (k + 1)) by rw [HD.out, hz]; rfl)
        clear hz
        go_wp2
        go_roundw
        case rel => exact ⟨k + 1, by omega, by go_num, HN'.out, BN.out⟩
        case measure => simp [intOf]; omega
    · have HZ := Lib.hid (show befI P view l = true by rw [ht.out, befI_end (by omega)])
      go_wp2
      go_light
      go_ret
      exact ⟨ret_bool (by rw [HZ.out]), hb.out⟩

set_option maxRecDepth 100000 in
set_option maxHeartbeats 2000000 in
theorem l4Ahead (A : Option Addr) (a : Nat) (P : List MgP) (view : Int) (v : VtP) (w : World) (hn : P.length ≤ maxLen) (hr : RdMs w A P) (hv : v.rd w) :
    Calls Try.prog 98 #[.slice A P.length a, .int .i64 view, v.val] w fun e w' => e = .returned (.bool (befM P view v.cl)) ∧ Below w.heap.size w w' := by
  obtain ⟨vf, B, vb, l⟩ := v
  have hm : l.length ≤ 9223372036854775807 := hv.1
  have hc : RdC w B l := hv.2
  have HR := Lib.hid hr
  have HC := Lib.hid hc
  have HN := Lib.hid hn
  have Z0 : Hid (Below w.heap.size w (w.alloc (.cells #[.int .i64 vf, .slice B l.length vb] 67))) := (Below.refl _ _).alloc (Nat.le_refl _) _
  have K0 : Hid (Blk (w.alloc (.cells #[.int .i64 vf, .slice B l.length vb] 67)) w.heap.size 67 #[.int .i64 vf, .slice B l.length vb]) := Blk.new w
  clear hr hc hn hv
  go_enter Try.func98, Try.ntmps98
  go_wp2
  go_loopw [7] (fun i wr => ∃ k : Nat, k ≤ l.length ∧ i = .int .i64 k ∧ Hid (befM P view l = befM P view (l.drop k)) ∧ Hid (Blk wr w.heap.size 67 #[.int .i64 vf, .slice B l.length vb]) ∧ Hid (Below w.heap.size w wr)) (fun i _ => l.length - (intOf i).toNat)
  case atStart => exact ⟨0, Nat.zero_le _, rfl, by simp [Hid], K0, Z0⟩
  case round =>
    clear Z0 K0
    obtain ⟨k, hk, rfl, ht, KV, hb⟩ := hrel
    have lk := KV.out.lt
    have y1 : wr.cell? ⟨w.heap.size, 1, none⟩ = some (.slice B l.length vb) := KV.out.cell 1
    by_cases hlt : k < l.length
    · obtain ⟨g, o, rfl, ca⟩ := Rd.below HC.out hb.out k hlt
      have HD := Lib.hid (show befM P view l = ((decide (l[k].v < view) && readyM P l[k]) && befM P view (l.drop (k + 1))) by rw [ht.out, befM_step hlt])
      generalize l[k] = y at ca HD
      clear ht
      have c0 : wr.cell? ⟨g, o + k * 7, none⟩ = some (.int .i64 y.s) := ca 0 _ rfl
      have c1 : wr.cell? ⟨g, o + k * 7 + 1, none⟩ = some (.int .i64 y.v) := ca 1 _ rfl
      have c2 : wr.cell? ⟨g, o + k * 7 + 2, none⟩ = some (.int .i64 y.r.c) := ca 2 _ rfl
      have c3 : wr.cell? ⟨g, o + k * 7 + 3, none⟩ = some (.int .i64 y.r.n) := ca 3 _ rfl
      have c4 : wr.cell? ⟨g, o + k * 7 + 4, none⟩ = some (.int .i64 y.r.o) := ca 4 _ rfl
      have c5 : wr.cell? ⟨g, o + k * 7 + 5, none⟩ = some (.int .i64 y.r.x) := ca 5 _ rfl
      have c6 : wr.cell? ⟨g, o + k * 7 + 6, none⟩ = some (.int .i64 y.r.y) := ca 6 _ rfl
      clear ca
      have HRW := Lib.hid (HR.out.below hb.out)
      have i0 : (0 : Int) ≤ (k : Int) := by omega
      have i1 : (k : Int) < (l.length : Int) := by omega
      by_cases hv : view ≤ y.v
      · have HZ := Lib.hid (show befM P view l = false by rw [HD.out, decide_eq_false (show ¬ y.v < view by omega)]; rfl)
        go_wp2
        go_light
        go_ret
        exact ⟨ret_bool (by rw [HZ.out]), hb.out⟩
      have HD := Lib.hid (show befM P view l = (readyM P y && befM P view (l.drop (k + 1))) by rw [HD.out, decide_eq_true (show y.v < view by omega)]; rfl)
      go_wp2_with (fail)
      refine (l4Ready A a P y _ HN.out HRW.out).mono ?_
      rintro e w1 ⟨rfl, hb1⟩
      have BN := Lib.hid (Below.and hb.out hb1)
      have KN := Lib.hid (KV.out.below hb1)
      clear hb1
      rcases hz : readyM P y with _ | _
      · have HZ := Lib.hid (show befM P view l = false by rw [HD.out, hz]; rfl)
        clear hz
        go_wp2
        go_light
        go_ret
        exact ⟨ret_bool (by rw [HZ.out]), BN.out⟩
      · have HN' := Lib.hid (show befM P view l = befM P view (l.drop (k + 1)) by rw [HD.out, hz]; rfl)
        clear hz
        go_wp2
        go_roundw
        case rel => exact ⟨k + 1, by omega, by go_num, HN'.out, KN.out, BN.out⟩
        case measure => simp [intOf]; omega
    · have HZ := Lib.hid (show befM P view l = true by rw [ht.out, befM_end (by omega)])
      go_wp2
      go_light
      go_ret
      exact ⟨ret_bool (by rw [HZ.out]), hb.out⟩

def allV (f : VtP → Bool) (V : List VtP) : Bool := V.all f
theorem allV_step {f : VtP → Bool} {V : List VtP} {k : Nat} (h : k < V.length) : allV f (V.drop k) = (f V[k] && allV f (V.drop (k + 1))) := by
  unfold allV
  rw [List.drop_eq_getElem_cons h, List.all_cons]
theorem allV_end {f : VtP → Bool} {V : List VtP} {k : Nat} (h : V.length ≤ k) : allV f (V.drop k) = true := by rw [List.drop_of_length_le h]; rfl
def vI (P : List MgP) (view : Int) (v : VtP) : Bool := sentV P view v.vt && befI P view v.cl
def vM (P : List MgP) (view : Int) (v : VtP) : Bool := sentV P view v.vt && befM P view v.cl
def votesB (P : List MgP) (view : Int) (V : List VtP) : Bool := inB view 0 6 && (decide (V.length = 3) && (vtsB (-1) V && allV (vM P view) V))
theorem befI_ok (P : List MgP) (view : Int) (l : List Cl) (h : ∀ c ∈ l, clB c = true) : befI P view l = befM P view l := by
  unfold befI befM
  induction l with
  | nil => rfl
  | cons c l ih => rw [List.all_cons, List.all_cons, ih (fun x hx => h x (by simp [hx])), h c (by simp)]; rfl
theorem vI_ok (P : List MgP) (view : Int) (V : List VtP) (h : vtsB (-1) V = true) : allV (vI P view) V = allV (vM P view) V := by
  have e : ∀ v ∈ V, vI P view v = vM P view v := fun v hv => by unfold vI vM; rw [befI_ok P view v.cl (cls_mem _ _ (vts_mem _ _ h v hv))]
  clear h
  unfold allV
  induction V with
  | nil => rfl
  | cons v V ih => rw [List.all_cons, List.all_cons, e v (by simp), ih (fun x hx => e x (by simp [hx]))]

set_option maxRecDepth 100000 in
set_option maxHeartbeats 4000000 in
theorem l4Votes (A : Option Addr) (a : Nat) (P : List MgP) (view : Int) (B : Option Addr) (b : Nat) (V : List VtP) (w : World) (hn : P.length ≤ maxLen) (hr : RdMs w A P) (hm : V.length ≤ maxLen) (hv : RdV w B V) :
    Calls Try.prog 64 #[.slice A P.length a, .int .i64 view, .slice B V.length b] w fun e w' => e = .returned (.bool (decide (V.length = 3) && (vtsB (-1) V && allV (vM P view) V))) ∧ Below w.heap.size w w' := by
  have HM := Lib.hid hm
  unfold maxLen at hm
  have HR := Lib.hid hr
  have HV := Lib.hid hv
  have HN := Lib.hid hn
  have HE := Lib.hid (show (decide (V.length = 3) && (vtsB (-1) V && allV (vM P view) V)) = (allV (vM P view) V && (vtsB (-1) V && decide (V.length = 3))) by
    cases decide (V.length = 3) <;> cases vtsB (-1) V <;> cases allV (vM P view) V <;> rfl)
  clear hr hv hn
  go_enter Try.func64, Try.ntmps64
  go_wp2
  go_loopw [7] (fun i wr => ∃ k : Nat, k ≤ V.length ∧ i = .int .i64 k ∧ Hid (allV (vM P view) V = allV (vM P view) (V.drop k)) ∧ Hid (Below w.heap.size w wr)) (fun i _ => V.length - (intOf i).toNat)
  case atStart => exact ⟨0, Nat.zero_le _, rfl, by simp [Hid], Below.refl _ _⟩
  case round =>
    obtain ⟨k, hk, rfl, ht, hb⟩ := hrel
    by_cases hlt : k < V.length
    · obtain ⟨g, o, rfl, ca⟩ := Rd.below HV.out.1 hb.out k hlt
      have rx := HV.out.2 V[k] (List.getElem_mem hlt)
      have HD := Lib.hid (show allV (vM P view) V = ((sentV P view V[k].vt && befM P view V[k].cl) && allV (vM P view) (V.drop (k + 1))) by rw [ht.out, allV_step hlt]; rfl)
      generalize V[k] = x at ca HD rx
      have RX := Lib.hid rx
      clear ht rx
      have c0 : wr.cell? ⟨g, o + k * 2, none⟩ = some (.int .i64 x.f) := ca 0 _ rfl
      have c1 : wr.cell? ⟨g, o + k * 2 + 1, none⟩ = some (.slice x.A x.cl.length x.c) := ca 1 _ rfl
      clear ca
      have BB := hb
      have KX : Hid (∀ W, Below wr.heap.size wr W → W.cell? ⟨g, o + k * 2, none⟩ = some (.int .i64 x.f) ∧ W.cell? ⟨g, o + k * 2 + 1, none⟩ = some (.slice x.A x.cl.length x.c)) := fun W h => ⟨cell_kept h c0, cell_kept h c1⟩
      have i0 : (0 : Int) ≤ (k : Int) := by omega
      have i1 : (k : Int) < (V.length : Int) := by omega
      go_wp2_with (fail)
      refine (l4Sent A a P view x _ HN.out (HR.out.below BB.out) (RX.out.below BB.out)).mono ?_
      rintro e w1 ⟨rfl, hb1⟩
      have BN := Lib.hid (Below.and BB.out hb1)
      obtain ⟨z0, z1⟩ := KX.out w1 hb1
      clear hb1 c0 c1
      rcases hz : sentV P view x.vt with _ | _
      · have HZ := Lib.hid (show allV (vM P view) V = false by rw [HD.out, hz]; rfl)
        clear hz
        go_wp2
        go_light
        go_ret
        exact ⟨ret_bool (by rw [HE.out, HZ.out]; rfl), BN.out⟩
      have HD := Lib.hid (show allV (vM P view) V = (befM P view x.cl && allV (vM P view) (V.drop (k + 1))) by rw [HD.out, hz]; rfl)
      clear hz
      go_wp2_with (fail)
      refine (l4Ahead A a P view x _ HN.out (HR.out.below BN.out) (RX.out.below BN.out)).mono ?_
      rintro e w2 ⟨rfl, hb2⟩
      have BN := Lib.hid (Below.and BN.out hb2)
      clear hb2 z0 z1
      rcases hz : befM P view x.cl with _ | _
      · have HZ := Lib.hid (show allV (vM P view) V = false by rw [HD.out, hz]; rfl)
        clear hz
        go_wp2
        go_light
        go_ret
        exact ⟨ret_bool (by rw [HE.out, HZ.out]; rfl), BN.out⟩
      · have HN' := Lib.hid (show allV (vM P view) V = allV (vM P view) (V.drop (k + 1)) by rw [HD.out, hz]; rfl)
        clear hz
        go_wp2
        go_roundw
        case rel => exact ⟨k + 1, by omega, by go_num, HN'.out, BN.out⟩
        case measure => simp [intOf]; omega
    · have HZ := Lib.hid (show allV (vM P view) V = true by rw [ht.out, allV_end (by omega)])
      go_wp2_with (fail)
      refine (l3VotesOk B b V _ HM.out (HV.out.below hb.out)).mono ?_
      rintro e w1 ⟨rfl, hb1⟩
      have BN := Lib.hid (Below.and hb.out hb1)
      clear hb1
      rcases h1 : vtsB (-1) V with _ | _
      · go_wp2
        go_light
        go_ret
        exact ⟨ret_bool (by rw [HE.out, HZ.out, h1]; rfl), BN.out⟩
      rcases h2 : decide (V.length = 3) with _ | _
      · have h3 : ((V.length : Int) == 3) = false := by simp at h2; simp; omega
        have HH := Lib.hid h2
        clear h2
        go_wp2
        go_light
        go_ret
        exact ⟨ret_bool (by rw [HE.out, HZ.out, h1, HH.out]; rfl), BN.out⟩
      · have h3 : ((V.length : Int) == 3) = true := by simp at h2; simp; omega
        have HH := Lib.hid h2
        clear h2
        go_wp2
        go_light
        go_ret
        exact ⟨ret_bool (by rw [HE.out, HZ.out, h1, HH.out]; rfl), BN.out⟩

set_option maxRecDepth 100000 in
set_option maxHeartbeats 1000000 in
theorem specVotesOk (A : Option Addr) (a : Nat) (P : List MgP) (view : Int) (B : Option Addr) (b : Nat) (V : List VtP) (w : World) (hn : P.length ≤ maxLen) (hr : RdMs w A P) (hm : V.length ≤ maxLen) (hv : RdV w B V) :
    Calls Try.prog 32 #[.slice A P.length a, .int .i64 view, .slice B V.length b] w fun e w' => e = .returned (.bool (votesB P view V)) ∧ Below w.heap.size w w' := by
  have HR := Lib.hid hr
  have HV := Lib.hid hv
  clear hr hv
  rcases h1 : inB view 0 6 with _ | _
  · have HE := Lib.hid (show votesB P view V = false by unfold votesB; rw [h1]; rfl)
    go_enter Try.func32, Try.ntmps32
    go_wp2_with (go_at_call 63; refine (specIn _ _ _ _).mono ?_; rintro e w' ⟨rfl, rfl⟩; rw [h1])
    go_light
    go_ret
    exact ⟨ret_bool (by rw [HE.out]), Below.refl _ _⟩
  · have HE := Lib.hid (show votesB P view V = (decide (V.length = 3) && (vtsB (-1) V && allV (vM P view) V)) by unfold votesB; rw [h1]; rfl)
    go_enter Try.func32, Try.ntmps32
    go_wp2_with (go_at_call 63; refine (specIn _ _ _ _).mono ?_; rintro e w' ⟨rfl, rfl⟩; rw [h1])
    refine (l4Votes A a P view B b V _ hn HR.out hm HV.out).mono ?_
    rintro e w1 ⟨rfl, hb⟩
    have BB := Lib.hid hb
    clear hb
    go_wp2
    go_light
    go_ret
    exact ⟨ret_bool (by rw [HE.out]), BB.out⟩

set_option maxRecDepth 100000 in
set_option maxHeartbeats 4000000 in
theorem implVotesOk (A : Option Addr) (a : Nat) (P : List MgP) (view : Int) (B : Option Addr) (b : Nat) (V : List VtP) (w : World) (hn : P.length ≤ maxLen) (hr : RdMs w A P) (hm : V.length ≤ maxLen) (hv : RdV w B V) :
    Calls Try.prog 33 #[.slice A P.length a, .int .i64 view, .slice B V.length b] w fun e w' => e = .returned (.bool (votesB P view V)) ∧ Below w.heap.size w w' := by
  have HM := Lib.hid hm
  unfold maxLen at hm
  have HR := Lib.hid hr
  have HV := Lib.hid hv
  have HN := Lib.hid hn
  clear hr hv hn
  rcases h1 : inB view 0 6 with _ | _
  · have HE := Lib.hid (show votesB P view V = false by unfold votesB; rw [h1]; rfl)
    go_enter Try.func33, Try.ntmps33
    go_wp2_with (go_at_call 65; refine (isView _ _).mono ?_; rintro e w' ⟨rfl, rfl⟩; rw [h1])
    go_light
    go_ret
    exact ⟨ret_bool (by rw [HE.out]), Below.refl _ _⟩
  rcases h2 : decide (V.length = 3) with _ | _
  · have HE := Lib.hid (show votesB P view V = false by unfold votesB; rw [h1, h2]; rfl)
    have h3 : ((V.length : Int) != 3) = true := by simp at h2; simp; omega
    clear h2
    go_enter Try.func33, Try.ntmps33
    go_wp2_with (go_at_call 65; refine (isView _ _).mono ?_; rintro e w' ⟨rfl, rfl⟩; rw [h1])
    go_light
    go_ret
    exact ⟨ret_bool (by rw [HE.out]), Below.refl _ _⟩
  have h3 : ((V.length : Int) != 3) = false := by simp at h2; simp; omega
  rcases h4 : vtsB (-1) V with _ | _
  · have HE := Lib.hid (show votesB P view V = false by unfold votesB; rw [h1, h2, h4]; rfl)
    clear h2
    go_enter Try.func33, Try.ntmps33
    go_wp2_with (first | (go_at_call 65; refine (isView _ _).mono ?_; rintro e w' ⟨rfl, rfl⟩; rw [h1]) | (go_at_call 51; refine (votesValid B b V _ HM.out HV.out).mono ?_; rintro e w1 ⟨rfl, hb⟩; rw [h4]))
    go_light
    go_ret
    exact ⟨ret_bool (by rw [HE.out]), hb⟩
  have HE := Lib.hid (show votesB P view V = allV (vI P view) V by unfold votesB; rw [h1, h2, h4, vI_ok P view V h4]; rfl)
  clear h2
  go_enter Try.func33, Try.ntmps33
  go_wp2_with (go_at_call 65; refine (isView _ _).mono ?_; rintro e w' ⟨rfl, rfl⟩; rw [h1])
  refine (votesValid B b V _ HM.out HV.out).mono ?_
  rintro e w0 ⟨rfl, hb0⟩
  rw [h4]
  have BW0 := Lib.hid hb0
  clear hb0 h4
  go_wp2
  go_loopw [24] (fun i wr => ∃ k : Nat, k ≤ V.length ∧ i = .int .i64 k ∧ Hid (allV (vI P view) V = allV (vI P view) (V.drop k)) ∧ Hid (Below w.heap.size w wr)) (fun i _ => V.length - (intOf i).toNat)
  case atStart => exact ⟨0, Nat.zero_le _, rfl, by simp [Hid], BW0.out⟩
  case round =>
    obtain ⟨k, hk, rfl, ht, hb⟩ := hrel
    by_cases hlt : k < V.length
    · obtain ⟨g, o, rfl, ca⟩ := Rd.below HV.out.1 hb.out k hlt
      have rx := HV.out.2 V[k] (List.getElem_mem hlt)
      have HD := Lib.hid (show allV (vI P view) V = ((sentV P view V[k].vt && befI P view V[k].cl) && allV (vI P view) (V.drop (k + 1))) by rw [ht.out, allV_step hlt]; rfl)
      generalize V[k] = x at ca HD rx
      have RX := Lib.hid rx
      clear ht rx
      have c0 : wr.cell? ⟨g, o + k * 2, none⟩ = some (.int .i64 x.f) := ca 0 _ rfl
      have c1 : wr.cell? ⟨g, o + k * 2 + 1, none⟩ = some (.slice x.A x.cl.length x.c) := ca 1 _ rfl
      clear ca
      have BB := Lib.hid (hb.out.alloc hb.out.size (.cells #[.int .i64 x.f, .slice x.A x.cl.length x.c] 67))
      have KX : Hid (Blk (wr.alloc (.cells #[.int .i64 x.f, .slice x.A x.cl.length x.c] 67)) wr.heap.size 67 #[.int .i64 x.f, .slice x.A x.cl.length x.c]) := Blk.new wr
      have i0 : (0 : Int) ≤ (k : Int) := by omega
      have i1 : (k : Int) < (V.length : Int) := by omega
      go_wp2_with (fail)
      refine (turned A a P view x _ HN.out (HR.out.below BB.out) (RX.out.below BB.out)).mono ?_
      rintro e w1 ⟨rfl, hb1⟩
      have BN := Lib.hid (Below.and BB.out hb1)
      have KN := Lib.hid (KX.out.below hb1)
      have z0 : w1.cell? ⟨wr.heap.size, 0, none⟩ = some (.int .i64 x.f) := KN.out.cell 0
      have z1 : w1.cell? ⟨wr.heap.size, 1, none⟩ = some (.slice x.A x.cl.length x.c) := KN.out.cell 1
      clear hb1 c0 c1
      rcases hz : sentV P view x.vt with _ | _
      · have HZ := Lib.hid (show allV (vI P view) V = false by rw [HD.out, hz]; rfl)
        clear hz
        go_wp2
        go_light
        go_ret
        exact ⟨ret_bool (by rw [HE.out, HZ.out]), BN.out⟩
      have HD := Lib.hid (show allV (vI P view) V = (befI P view x.cl && allV (vI P view) (V.drop (k + 1))) by rw [HD.out, hz]; rfl)
      clear hz
      go_wp2_with (fail)
      refine (readyBefore A a P view x.A x.c x.cl _ HN.out (HR.out.below BN.out) (RX.out.below BN.out).1 (RX.out.below BN.out).2).mono ?_
      rintro e w2 ⟨rfl, hb2⟩
      have BN := Lib.hid (Below.and BN.out hb2)
      clear hb2 z0 z1
      rcases hz : befI P view x.cl with _ | _
      · have HZ := Lib.hid (show allV (vI P view) V = false by rw [HD.out, hz]; rfl)
        clear hz
        go_wp2
        go_light
        go_ret
        exact ⟨ret_bool (by rw [HE.out, HZ.out]), BN.out⟩
      · have HN' := Lib.hid (show allV (vI P view) V = allV (vI P view) (V.drop (k + 1)) by rw [HD.out, hz]; rfl)
        clear hz
        go_wp2
        go_roundw
        case rel => exact ⟨k + 1, by omega, by go_num, HN'.out, BN.out⟩
        case measure => simp [intOf]; omega
    · have HZ := Lib.hid (show allV (vI P view) V = true by rw [ht.out, allV_end (by omega)])
      go_wp2
      go_light
      go_ret
      exact ⟨ret_bool (by rw [HE.out, HZ.out]), hb.out⟩

end Go.Proofs.Ytlokhgnbcbnmpaa
