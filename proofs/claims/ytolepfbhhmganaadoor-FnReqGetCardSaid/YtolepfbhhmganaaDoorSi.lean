/- A request read from a text: the program's side. -/
import Derived.Test.YtolepfbhhmganaaDoorSh
import Derived.Deep.RegionHeld3
namespace Go.Proofs.YtolepfbhhmganaaDoor
open Go.ChangeShapes Go.WideShapes Go.ChangeAt Go.RowKit
set_option linter.unusedVariables false
set_option linter.unusedSimpArgs false

theorem splitK_len : ∀ (n : Nat) (l : List UInt8), l.length ≤ n → (Lib.splitK [32] 0 (Lib.count l [32]) l).length = Lib.count l [32] + 1 := by
  intro n
  induction n with
  | zero =>
    intro l hl
    obtain rfl : l = [] := List.eq_nil_of_length_eq_zero (by omega)
    rw [count_none [] (fun c h => by cases h)]; rfl
  | succ n ih =>
    intro l hl
    rcases Lib.index_spec l [32] with ⟨h, _⟩ | ⟨i, h, hi, ho, _⟩
    · rw [Lib.count_miss h]; rfl
    · rw [Lib.count_hit (by simp) h, Nat.add_comm 1, Lib.splitK, h, if_neg (by simp)]
      have hr := Lib.occAt_room ho
      have hr' : i + 1 ≤ l.length := by rcases hr with hr | hr; simpa using hr; simp at hr
      have := ih (l.drop (i + [32].length)) (by simp; omega)
      show (Lib.splitK [32] 0 (Lib.count (l.drop (i + 1)) [32]) (l.drop (i + 1))).length + 1 = Lib.count (l.drop (i + 1)) [32] + 1 + 1
      have this' : (Lib.splitK [32] 0 (Lib.count (l.drop (i + 1)) [32]) (l.drop (i + 1))).length = Lib.count (l.drop (i + 1)) [32] + 1 := this
      rw [this']
theorem split_count (l : List UInt8) : (Lib.split l [32]).length = Lib.count l [32] + 1 := splitK_len l.length l (Nat.le_refl _)
theorem nums_not {ss : List ByteArray} {L : List Int} (h : Nums ss L) (k : NoNums ss) : False := by
  obtain ⟨i, hi, hv⟩ := k
  exact hv _ (h.2 i hi (by rw [h.1]; exact hi))
theorem nums_same {ss : List ByteArray} {L M : List Int} (h : Nums ss L) (k : Nums ss M) : L = M := by
  apply List.ext_getElem
  · rw [h.1, k.1]
  · intro i h1 h2
    have a := h.2 i (by rw [← h.1]; exact h1) h1
    have b := k.2 i (by rw [← h.1]; exact h1) h2
    rw [a] at b
    injection b
theorem readYes (g c : Nat) (ss : List ByteArray) (L : List Int) (w : World) (hL : Nums ss L) (hn : ss.length ≤ 1048577) (hr : RdS w g ss) (hs : ∀ x ∈ ss, x.size ≤ 1048577) (E : Env w) :
    Calls Tryd.prog 28 #[.slice (some ⟨g, 0, none⟩) ss.length c] w fun e w' => ∃ B d, e = .returned (.tuple #[.slice B L.length d, .bool true]) ∧ w'.ownsRow w.heap.size 3 1 (.slice B L.length d) L.length (ints L) ∧ Below w.heap.size w w' :=
  (readNumbers g c ss w hn hr hs E).mono fun e w' ⟨hb, h⟩ => by
    rcases h with ⟨M, B, d, hM, he, ho⟩ | ⟨hN, _⟩
    · obtain rfl := nums_same hL hM
      exact ⟨B, d, he, ho, hb⟩
    · exact (nums_not hL hN).elim
theorem readNo (g c : Nat) (ss : List ByteArray) (w : World) (hN : NoNums ss) (hn : ss.length ≤ 1048577) (hr : RdS w g ss) (hs : ∀ x ∈ ss, x.size ≤ 1048577) (E : Env w) :
    Calls Tryd.prog 28 #[.slice (some ⟨g, 0, none⟩) ss.length c] w fun e w' => e = .returned (.tuple #[.slice none 0 0, .bool false]) ∧ Below w.heap.size w w' :=
  (readNumbers g c ss w hn hr hs E).mono fun e w' ⟨hb, h⟩ => by
    rcases h with ⟨M, B, d, hM, he, ho⟩ | ⟨_, he⟩
    · exact (nums_not hM hN).elim
    · exact ⟨he, hb⟩

/-- A text cut at its blanks. -/
def piecesB (s : ByteArray) : List ByteArray := Lib.splitB ⟨#[32]⟩ 0 (Lib.countB s ⟨#[32]⟩) s
theorem pieces_data (s : ByteArray) : (piecesB s).map (·.data.toList) = Lib.split s.data.toList [32] := Lib.splitB_data ⟨#[32]⟩ 0 _ s
theorem pieces_size (s : ByteArray) : ∀ k (t : ByteArray), ∀ x ∈ Lib.splitB ⟨#[32]⟩ 0 k t, x.size ≤ t.size := by
  intro k
  induction k with
  | zero => intro t x hx; rw [Lib.splitB_zero, List.mem_singleton] at hx; subst hx; exact Nat.le_refl _
  | succ k ih =>
    intro t x hx
    rcases Lib.indexB_cases t ⟨#[32]⟩ with h | ⟨i, h, hi⟩
    · rw [Lib.splitB_miss _ _ _ _ h, List.mem_singleton] at hx; subst hx; exact Nat.le_refl _
    · rw [Lib.splitB_hit _ _ _ _ _ h] at hx
      rcases List.mem_cons.1 hx with rfl | hx
      · rw [ByteArray.size_extract]; omega
      · have := ih _ x hx
        rw [ByteArray.size_extract] at this; omega
theorem pieces_good {s : ByteArray} {r : Rq} (h : goodB s.data.toList r = true) : (piecesB s).length = 5 ∧ ∀ a b c x y, piecesB s = [a, b, c, x, y] → ∃ v0 v1 v2 v3 : Int, Lib.atoiAll a.data.toList = .ok v0 ∧ Lib.atoiAll b.data.toList = .ok v1 ∧ Lib.atoiAll x.data.toList = .ok v2 ∧ Lib.atoiAll y.data.toList = .ok v3 := by
  obtain ⟨hq, hs⟩ := good_put h
  obtain ⟨b1, b2, b3, b4, b5⟩ := rq_bd (show reqB r.c r.n r.o r.x r.y = true from hq)
  have hp := pieces_data s
  rw [hs, split_five _ _ _ _ _ (itoa_noB _) (itoa_noB _) (word_noB _) (itoa_noB _) (itoa_noB _)] at hp
  refine ⟨by have := congrArg List.length hp; simpa using this, fun a b c x y he => ?_⟩
  rw [he] at hp
  simp only [List.map_cons, List.map_nil, List.cons.injEq, and_true] at hp
  obtain ⟨h1, h2, h3, h4, h5⟩ := hp
  exact ⟨_, _, _, _, by rw [h1]; exact atoi_itoa _ (by omega) (by omega), by rw [h2]; exact atoi_itoa _ (by omega) (by omega), by rw [h4]; exact atoi_itoa _ (by omega) (by omega), by rw [h5]; exact atoi_itoa _ (by omega) (by omega)⟩
theorem parse_pieces {s a b c x y : ByteArray} {v0 v1 v2 v3 : Int} (h : piecesB s = [a, b, c, x, y]) (h0 : Lib.atoiAll a.data.toList = .ok v0) (h1 : Lib.atoiAll b.data.toList = .ok v1) (h2 : Lib.atoiAll x.data.toList = .ok v2) (h3 : Lib.atoiAll y.data.toList = .ok v3) :
    parseT s.data.toList = ⟨v0, v1, opT c.data.toList, v2, v3⟩ := by
  unfold parseT
  rw [← pieces_data, h]
  simp only [List.map_cons, List.map_nil, numT, h0, h1, h2, h3]
theorem get_five {s : ByteArray} {r : Rq} (hl : s.data.toList ≠ [110, 111, 110, 101]) (h5 : (piecesB s).length = 5) (hr : parseT s.data.toList = r) (hp : putT r = s.data.toList) : getT s.data.toList = (r, true) := by
  refine get_good hl ?_
  unfold goodB
  rw [Bool.and_eq_true]
  refine ⟨?_, decide_eq_true hp⟩
  rcases hn : nullB r with _ | _
  · rcases hq : rqB r with _ | _
    · exfalso
      have : s.data.toList = [] := by rw [← hp]; unfold putT; rw [hn, hq]; rfl
      have h6 := congrArg List.length (pieces_data s)
      rw [List.length_map, h5, this] at h6
      simp [Lib.split, count_none [] (fun c h => by cases h), Lib.splitK] at h6
    · rfl
  · exfalso
    apply hl
    rw [← hp]
    unfold putT
    rw [hn]; rfl
theorem get_five_no {s : ByteArray} {r : Rq} (hl : s.data.toList ≠ [110, 111, 110, 101]) (hr : parseT s.data.toList = r) (hp : putT r ≠ s.data.toList) : getT s.data.toList = (⟨0, 0, 0, 0, 0⟩, false) := by
  refine get_bad hl fun q => ?_
  rcases h : goodB s.data.toList q with _ | _
  · rfl
  · exfalso
    have h1 := parse_good h
    rw [hr] at h1
    subst h1
    unfold goodB at h
    rw [Bool.and_eq_true] at h
    exact hp (of_decide_eq_true h.2)

theorem split_len (s : ByteArray) (n : Nat) (h : Lib.countB s ⟨#[32]⟩ + 1 = n) : (piecesB s).length = n := by
  subst h
  have h1 := congrArg List.length (pieces_data s)
  rw [List.length_map] at h1
  rw [h1]
  exact split_count _
theorem rds4 (W : World) (g : Nat) (a b x y : ByteArray) (h : W.heap[g]? = some (.cells #[.string a, .string b, .string x, .string y] 9)) : RdS W g [a, b, x, y] := by
  intro i hi
  rw [cell_of_row _ _ _ _ 9 (0, 0) h]
  rcases i with _ | _ | _ | _ | i
  all_goals first | rfl | (simp at hi; done) | (simp at hi; omega)

set_option maxRecDepth 100000 in
set_option maxHeartbeats 2000000 in
theorem implGet_none (s : ByteArray) (w : World) (hl : s.data.toList = [110, 111, 110, 101]) :
    Calls Tryd.prog 13 #[.string s] w fun e w' => e = .returned (.tuple #[.agg #[.int .i64 0, .int .i64 0, .int .i64 0, .int .i64 0, .int .i64 0], .bool true]) ∧ Below w.heap.size w w' := by
  have e1 : (s.toList == [110, 111, 110, 101]) = true := by rw [toList_data, hl]; rfl
  clear hl
  go_enter Tryd.func13, Tryd.ntmps13
  go_wp2
  exact bodyPost_ret (v := .tuple #[.agg #[.int .i64 0, .int .i64 0, .int .i64 0, .int .i64 0, .int .i64 0], .bool true]) (by simp [results, Tryd.results13, go_sem]) rfl ⟨rfl, (Below.refl _ _).alloc (Nat.le_refl _) _⟩

set_option maxRecDepth 100000 in
set_option maxHeartbeats 2000000 in
theorem implGet_few (s : ByteArray) (w : World) (hs : s.size ≤ 1048576) (hl : s.data.toList ≠ [110, 111, 110, 101]) (h5 : (piecesB s).length ≠ 5) (E : Env w) :
    Calls Tryd.prog 13 #[.string s] w fun e w' => e = .returned (.tuple #[.agg #[.int .i64 0, .int .i64 0, .int .i64 0, .int .i64 0, .int .i64 0], .bool false]) ∧ Below w.heap.size w w' := by
  obtain ⟨P, hP⟩ : ∃ P, ((Lib.splitB ⟨#[32]⟩ 0 (Lib.countB s ⟨#[32]⟩) s).map Value.string).toArray = P := ⟨_, rfl⟩
  have HP := Lib.hid hP
  obtain ⟨n, hc⟩ : ∃ n, Lib.countB s ⟨#[32]⟩ + 1 = n := ⟨_, rfl⟩
  have hlen : (piecesB s).length = n := split_len s n hc
  have hn5 : n ≠ 5 := by omega
  have hnb : n ≤ 1048578 := by have := Lib.count_le s.data.toList [32]; have h2 : Lib.countB s ⟨#[32]⟩ = Lib.count s.data.toList [32] := rfl; have h3 := Lib.size_eq s; omega
  have e5 : ((n : Int) != 5) = true := by simp; omega
  have hBW0 : Below w.heap.size w (w.alloc (.cells #[.int .i64 0, .int .i64 0, .int .i64 0, .int .i64 0, .int .i64 0] 25)) := (Below.refl _ _).alloc (Nat.le_refl _) _
  have hm0 : ∃ m, (w.alloc (.cells #[.int .i64 0, .int .i64 0, .int .i64 0, .int .i64 0, .int .i64 0] 25)).cell? ⟨1, 0, none⟩ = some (.int .i64 m) := (E.below hBW0).max
  obtain ⟨m, hm⟩ := hm0
  have HM := Lib.hid hm
  have E0 := Lib.hid E
  have e1 : (s.toList == [110, 111, 110, 101]) = false := by rw [beq_eq_false_iff_ne, toList_data]; exact hl
  have HC := Lib.hid hc
  clear hP hm hlen h5 hn5 hc
  go_enter Tryd.func13, Tryd.ntmps13
  go_wp2_with (fail)
  refine (Tryd.strings_Split s ⟨#[32]⟩ m _ (by omega) HM.out (by decide)).mono ?_
  rintro e w' ⟨rfl, rfl⟩
  rw [HC.out, show ((Lib.splitB ⟨#[32]⟩ 0 (Lib.countB s ⟨#[32]⟩) s).map Value.string).toArray = _ from HP.out]
  go_wp2
  exact bodyPost_ret (v := .tuple #[.agg #[.int .i64 0, .int .i64 0, .int .i64 0, .int .i64 0, .int .i64 0], .bool false]) (by simp [results, Tryd.results13, go_sem]) rfl ⟨rfl, hBW0.alloc hBW0.size _⟩

set_option maxRecDepth 100000 in
set_option maxHeartbeats 4000000 in
theorem implGet_bad (s a b c x y : ByteArray) (w : World) (hs : s.size ≤ 1048576) (hl : s.data.toList ≠ [110, 111, 110, 101]) (h5 : piecesB s = [a, b, c, x, y]) (hN : NoNums [a, b, x, y]) (E : Env w) :
    Calls Tryd.prog 13 #[.string s] w fun e w' => e = .returned (.tuple #[.agg #[.int .i64 0, .int .i64 0, .int .i64 0, .int .i64 0, .int .i64 0], .bool false]) ∧ Below w.heap.size w w' := by
  have hc : Lib.countB s ⟨#[32]⟩ + 1 = 5 := by have h1 := split_len s _ rfl; rw [h5] at h1; simpa using h1.symm
  have HP : Hid (((Lib.splitB ⟨#[32]⟩ 0 (Lib.countB s ⟨#[32]⟩) s).map Value.string).toArray = #[.string a, .string b, .string c, .string x, .string y]) := by
    show ((piecesB s).map Value.string).toArray = _
    rw [h5]; rfl
  have hsz : ∀ z ∈ piecesB s, z.size ≤ 1048577 := fun z hz => by have := pieces_size s _ s z hz; omega
  have HS : Hid (∀ z ∈ [a, b, x, y], z.size ≤ 1048577) := fun z hz => hsz z (by rw [h5]; simp at hz ⊢; (rcases hz with rfl | rfl | rfl | rfl <;> simp))
  have HV := Lib.hid h5
  have BW : Hid (Below w.heap.size w ((w.alloc (.cells #[.int .i64 0, .int .i64 0, .int .i64 0, .int .i64 0, .int .i64 0] 25)).alloc (.cells #[.string a, .string b, .string c, .string x, .string y] 9))) := below_alloc2 _ _ _
  have KW : Hid (Bkk ((w.alloc (.cells #[.int .i64 0, .int .i64 0, .int .i64 0, .int .i64 0, .int .i64 0] 25)).alloc (.cells #[.string a, .string b, .string c, .string x, .string y] 9)) (w.heap.size + 1) 9 #[.string a, .string b, .string c, .string x, .string y]) := by have := Bkk.new (t := 9) (cs := #[.string a, .string b, .string c, .string x, .string y]) (w.alloc (.cells #[.int .i64 0, .int .i64 0, .int .i64 0, .int .i64 0, .int .i64 0] 25)); simpa [Hid] using this
  have KR : Hid (Bkk ((w.alloc (.cells #[.int .i64 0, .int .i64 0, .int .i64 0, .int .i64 0, .int .i64 0] 25)).alloc (.cells #[.string a, .string b, .string c, .string x, .string y] 9)) w.heap.size 25 #[.int .i64 0, .int .i64 0, .int .i64 0, .int .i64 0, .int .i64 0]) := (Bkk.new (t := 25) (cs := #[.int .i64 0, .int .i64 0, .int .i64 0, .int .i64 0, .int .i64 0]) w).alloc _
  have HN := Lib.hid hN
  have hBW0 : Below w.heap.size w (w.alloc (.cells #[.int .i64 0, .int .i64 0, .int .i64 0, .int .i64 0, .int .i64 0] 25)) := (Below.refl _ _).alloc (Nat.le_refl _) _
  have hm0 : ∃ m, (w.alloc (.cells #[.int .i64 0, .int .i64 0, .int .i64 0, .int .i64 0, .int .i64 0] 25)).cell? ⟨1, 0, none⟩ = some (.int .i64 m) := (E.below hBW0).max
  obtain ⟨m, hm⟩ := hm0
  have HM := Lib.hid hm
  have E0 := Lib.hid E
  have e1 : (s.toList == [110, 111, 110, 101]) = false := by rw [beq_eq_false_iff_ne, toList_data]; exact hl
  have HC := Lib.hid hc
  clear hm h5 hN hsz hc E
  go_enter Tryd.func13, Tryd.ntmps13
  go_wp2_with (fail)
  refine (Tryd.strings_Split s ⟨#[32]⟩ m _ (by omega) HM.out (by decide)).mono ?_
  rintro e w' ⟨rfl, rfl⟩
  rw [HC.out, show ((Lib.splitB ⟨#[32]⟩ 0 (Lib.countB s ⟨#[32]⟩) s).map Value.string).toArray = _ from HP.out]
  go_wp2_with (fail)
  refine wp_region_held_drew (S := fun w1 => Below ((w.alloc (.cells #[.int .i64 0, .int .i64 0, .int .i64 0, .int .i64 0, .int .i64 0] 25)).alloc (.cells #[.string a, .string b, .string c, .string x, .string y] 9)).heap.size ((w.alloc (.cells #[.int .i64 0, .int .i64 0, .int .i64 0, .int .i64 0, .int .i64 0] 25)).alloc (.cells #[.string a, .string b, .string c, .string x, .string y] 9)) w1) (by kernel_rfl) ((Below.refl _ _).drew) (fun hH => ?_)
  refine takeD 0 18 (v := ?_) rfl rfl (by kernel_rfl) (by kernel_rfl) (by kernel_rfl) (fun _ _ _ h => h) (Or.inl ⟨by rfl, ?_⟩) (by assumption) ?_
  rotate_left
  · intro w1 hSw; obtain ⟨hcS, hfS⟩ := bcell hSw; go_simp; (try with_reducible rfl)
  (try simp only [Act.put, List.setIfInBounds_toArray, List.set_cons_zero, List.set_cons_succ])
  refine takeD 1 19 (v := ?_) rfl rfl (by kernel_rfl) (by kernel_rfl) (by kernel_rfl) (fun _ _ _ h => h) (Or.inl ⟨by rfl, ?_⟩) (by assumption) ?_
  rotate_left
  · intro w1 hSw; obtain ⟨hcS, hfS⟩ := bcell hSw; go_simp; (try with_reducible rfl)
  (try simp only [Act.put, List.setIfInBounds_toArray, List.set_cons_zero, List.set_cons_succ])
  refine takeD 2 20 (v := ?_) rfl rfl (by kernel_rfl) (by kernel_rfl) (by kernel_rfl) (fun _ _ _ h => h) (Or.inl ⟨by rfl, ?_⟩) (by assumption) ?_
  rotate_left
  · intro w1 hSw; obtain ⟨hcS, hfS⟩ := bcell hSw; go_simp; (try with_reducible rfl)
  (try simp only [Act.put, List.setIfInBounds_toArray, List.set_cons_zero, List.set_cons_succ])
  refine takeD 3 21 (v := ?_) rfl rfl (by kernel_rfl) (by kernel_rfl) (by kernel_rfl) (fun _ _ _ h => h) (Or.inl ⟨by rfl, ?_⟩) (by assumption) ?_
  rotate_left
  · intro w1 hSw; obtain ⟨hcS, hfS⟩ := bcell hSw; go_simp; (try with_reducible rfl)
  (try simp only [Act.put, List.setIfInBounds_toArray, List.set_cons_zero, List.set_cons_succ])
  refine takeD 4 22 (v := ?_) rfl rfl (by kernel_rfl) (by kernel_rfl) (by kernel_rfl) (fun _ _ _ h => h) (Or.inl ⟨by rfl, ?_⟩) (by assumption) ?_
  rotate_left
  · intro w1 hSw; obtain ⟨hcS, hfS⟩ := bcell hSw; go_simp; (try with_reducible rfl)
  (try simp only [Act.put, List.setIfInBounds_toArray, List.set_cons_zero, List.set_cons_succ])
  refine takeD 5 23 (v := ?_) rfl rfl (by kernel_rfl) (by kernel_rfl) (by kernel_rfl) (fun _ _ _ h => h) (Or.inl ⟨by rfl, ?_⟩) (by assumption) ?_
  rotate_left
  · intro w1 hSw; obtain ⟨hcS, hfS⟩ := bcell hSw; go_simp; (try with_reducible rfl)
  (try simp only [Act.put, List.setIfInBounds_toArray, List.set_cons_zero, List.set_cons_succ])
  refine takeD 6 24 (v := ?_) rfl rfl (by kernel_rfl) (by kernel_rfl) (by kernel_rfl) (fun _ _ _ h => h) (Or.inl ⟨by rfl, ?_⟩) (by assumption) ?_
  rotate_left
  · intro w1 hSw; obtain ⟨hcS, hfS⟩ := bcell hSw; go_simp; (try with_reducible rfl)
  (try simp only [Act.put, List.setIfInBounds_toArray, List.set_cons_zero, List.set_cons_succ])
  refine takeD 7 25 (v := ?_) rfl rfl (by kernel_rfl) (by kernel_rfl) (by kernel_rfl) (fun _ _ _ h => h) (Or.inl ⟨by rfl, ?_⟩) (by assumption) ?_
  rotate_left
  · intro w1 hSw; obtain ⟨hcS, hfS⟩ := bcell hSw; go_simp; (try with_reducible rfl)
  (try simp only [Act.put, List.setIfInBounds_toArray, List.set_cons_zero, List.set_cons_succ])
  refine takeD 8 26 (v := ?_) rfl rfl (by kernel_rfl) (by kernel_rfl) (by kernel_rfl) (fun _ _ _ h => h) (Or.inl ⟨by rfl, ?_⟩) (by assumption) ?_
  rotate_left
  · intro w1 hSw; obtain ⟨hcS, hfS⟩ := bcell hSw; go_simp; (try with_reducible rfl)
  (try simp only [Act.put, List.setIfInBounds_toArray, List.set_cons_zero, List.set_cons_succ])
  refine takeD 9 27 (v := ?_) rfl rfl (by kernel_rfl) (by kernel_rfl) (by kernel_rfl) (fun _ _ _ h => h) (Or.inl ⟨by rfl, ?_⟩) (by assumption) ?_
  rotate_left
  · intro w1 hSw; obtain ⟨hcS, hfS⟩ := bcell hSw; go_simp; (try with_reducible rfl)
  (try simp only [Act.put, List.setIfInBounds_toArray, List.set_cons_zero, List.set_cons_succ])
  refine takeD 10 28 (v := ?_) rfl rfl (by kernel_rfl) (by kernel_rfl) (by kernel_rfl) (fun _ _ _ h => h) (Or.inl ⟨by rfl, ?_⟩) (by assumption) ?_
  rotate_left
  · intro w1 hSw; obtain ⟨hcS, hfS⟩ := bcell hSw; go_simp; (try with_reducible rfl)
  (try simp only [Act.put, List.setIfInBounds_toArray, List.set_cons_zero, List.set_cons_succ])
  refine takeD 11 29 (v := ?_) rfl rfl (by kernel_rfl) (by kernel_rfl) (by kernel_rfl) (fun _ _ _ h => h) (Or.inl ⟨by rfl, ?_⟩) (by assumption) ?_
  rotate_left
  · intro w1 hSw; obtain ⟨hcS, hfS⟩ := bcell hSw; go_simp; (try with_reducible rfl)
  (try simp only [Act.put, List.setIfInBounds_toArray, List.set_cons_zero, List.set_cons_succ])
  refine wpAnyH_ready (rs := [12]) (by kernel_rfl) (by simp) ?_
  refine AllReadyH.cons rfl (fun K hK => ?_) AllReadyH.nil
  go_simp
  refine hK.out _ _ (hH.alloc hH.size _) (fun hH2 => ?_)
  clear hK K
  (try simp only [Act.put, List.setIfInBounds_toArray, List.set_cons_zero, List.set_cons_succ])
  refine wpAnyH_ready (rs := [13]) (by kernel_rfl) (by simp) ?_
  refine AllReadyH.cons rfl (fun K hK => ?_) AllReadyH.nil
  go_simp
  refine (readNo _ 4 [a, b, x, y] _ HN.out (by simp) ?_ HS.out (E0.out.below (Below.and BW.out hH2))).mono ?_
  · exact rds4 _ _ a b x y (by have h := heap_alloc_new ((w.alloc (.cells #[.int .i64 0, .int .i64 0, .int .i64 0, .int .i64 0, .int .i64 0] 25)).alloc (.cells #[.string a, .string b, .string c, .string x, .string y] 9)) (.cells #[.string a, .string b, .string x, .string y] 9); rw [show ((w.alloc (.cells #[.int .i64 0, .int .i64 0, .int .i64 0, .int .i64 0, .int .i64 0] 25)).alloc (.cells #[.string a, .string b, .string c, .string x, .string y] 9)).heap.size = w.heap.size + 1 + 1 by simp] at h; exact h)
  rintro e w3 ⟨rfl, hb⟩
  refine hK.out _ _ (Below.and hH2 hb) (fun hH3 => ?_)
  clear hK K
  (try simp only [Act.put, List.setIfInBounds_toArray, List.set_cons_zero, List.set_cons_succ])
  refine takeD 14 17 (v := ?_) rfl rfl (by kernel_rfl) (by kernel_rfl) (by kernel_rfl) (fun _ _ _ h => h) (Or.inl ⟨by rfl, ?_⟩) (by assumption) ?_
  rotate_left
  · intro w1 hSw; obtain ⟨hcS, hfS⟩ := bcell hSw; go_simp; (try with_reducible rfl)
  (try simp only [Act.put, List.setIfInBounds_toArray, List.set_cons_zero, List.set_cons_succ])
  refine takeD 15 32 (v := ?_) rfl rfl (by kernel_rfl) (by kernel_rfl) (by kernel_rfl) (fun _ _ _ h => h) (Or.inl ⟨by rfl, ?_⟩) (by assumption) ?_
  rotate_left
  · intro w1 hSw; obtain ⟨hcS, hfS⟩ := bcell hSw; go_simp; (try with_reducible rfl)
  (try simp only [Act.put, List.setIfInBounds_toArray, List.set_cons_zero, List.set_cons_succ])
  refine takeD 16 33 (v := ?_) rfl rfl (by kernel_rfl) (by kernel_rfl) (by kernel_rfl) (fun _ _ _ h => h) (Or.inl ⟨by rfl, ?_⟩) (by assumption) ?_
  rotate_left
  · intro w1 hSw; obtain ⟨hcS, hfS⟩ := bcell hSw; go_simp; (try with_reducible rfl)
  (try simp only [Act.put, List.setIfInBounds_toArray, List.set_cons_zero, List.set_cons_succ])
  refine takeD 17 5 (v := ?_) rfl rfl (by kernel_rfl) (by kernel_rfl) (by kernel_rfl) (fun _ _ _ h => h) (Or.inl ⟨by rfl, ?_⟩) (by assumption) ?_
  rotate_left
  · intro w1 hSw; obtain ⟨hcS, hfS⟩ := bcell hSw; go_simp; (try with_reducible rfl)
  (try simp only [Act.put, List.setIfInBounds_toArray, List.set_cons_zero, List.set_cons_succ])
  refine takeD 18 6 (v := ?_) rfl rfl (by kernel_rfl) (by kernel_rfl) (by kernel_rfl) (fun _ _ _ h => h) (Or.inl ⟨by rfl, ?_⟩) (by assumption) ?_
  rotate_left
  · intro w1 hSw; obtain ⟨hcS, hfS⟩ := bcell hSw; go_simp; (try with_reducible rfl)
  (try simp only [Act.put, List.setIfInBounds_toArray, List.set_cons_zero, List.set_cons_succ])
  refine wpAnyH_done (by kernel_rfl) ?_ _
  have BX := Lib.hid (Below.and BW.out hH3)
  have KR := Lib.hid (KR.out.below hH3)
  clear hH hH2 hH3 hBW0
  have z0 : w3.cell? ⟨w.heap.size, 0, none⟩ = some (.int .i64 0) := KR.out.cell 0
  have z1 : w3.cell? ⟨w.heap.size, 1, none⟩ = some (.int .i64 0) := KR.out.cell 1
  have z2 : w3.cell? ⟨w.heap.size, 2, none⟩ = some (.int .i64 0) := KR.out.cell 2
  have z3 : w3.cell? ⟨w.heap.size, 3, none⟩ = some (.int .i64 0) := KR.out.cell 3
  have z4 : w3.cell? ⟨w.heap.size, 4, none⟩ = some (.int .i64 0) := KR.out.cell 4
  have zf := KR.out.frozen
  have zl := KR.out.lt
  go_wp2
  refine bodyPost_ret (v := .tuple #[.agg #[.int .i64 0, .int .i64 0, .int .i64 0, .int .i64 0, .int .i64 0], .bool false]) (by simp [results, Tryd.results13, go_sem, z0, z1, z2, z3, z4]) rfl ⟨rfl, ?_⟩
  iterate 5 (refine Below.setCell ?_ (by first | (simp; done) | (simp; omega)) _)
  exact BX.out

end Go.Proofs.YtolepfbhhmganaaDoor
