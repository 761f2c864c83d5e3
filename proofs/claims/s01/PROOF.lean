import PyProof.Rows.All
import Wide.All
import OpenK.AllK
import Wide.FinOn
import Open.SpecLaws
import KE.OsGo
import HandS.ForSpec
import HandS.ForMost
import HandS.Flow
import HandS.Walk
import HandS.Steps
import HandS.SetFor
import PyKg61
import PySem.Challenge.RW_cubematch_s01_answers
set_option Elab.async false
set_option linter.all false
set_option maxRecDepth 100000
set_option maxHeartbeats 2000000
namespace BG
open Kg61
theorem mem_places {p : Nat} : p ∈ places ↔ p < 26 := by
  unfold places
  rw [List.mem_reverse, List.mem_range]
theorem may_ge {b : Board} {p d : Nat} (h : may b p d = true) : 1 ≤ p ∧ p ≤ 25 ∧ 0 < at_ b.own p := by
  unfold may at h
  simp only [Bool.and_eq_true, decide_eq_true_eq] at h
  exact ⟨h.1, h.2.1, h.2.2.1⟩
theorem can_succ {n : Nat} {b : Board} {l : List Nat} : can (n + 1) b l = true ↔ ∃ d, d ∈ l ∧ ∃ p, may b p d = true ∧ can n (step b p d) (less l d) = true := by
  show (l.eraseDups.any fun d => places.any fun p => may b p d && can n (step b p d) (less l d)) = true ↔ _
  rw [List.any_eq_true]
  constructor
  · rintro ⟨d, hd, h⟩
    obtain ⟨p, _, h⟩ := List.any_eq_true.mp h
    rw [Bool.and_eq_true] at h
    exact ⟨d, List.mem_eraseDups.mp hd, p, h.1, h.2⟩
  · rintro ⟨d, hd, p, h1, h2⟩
    refine ⟨d, List.mem_eraseDups.mpr hd, List.any_eq_true.mpr ⟨p, mem_places.mpr (by have := may_ge h1; omega), ?_⟩⟩
    rw [h1, h2]; rfl
theorem less_len : ∀ {l : List Nat} {d : Nat}, d ∈ l → (less l d).length + 1 = l.length
  | [], _, h => by cases h
  | x :: l, d, h => by
    unfold less
    by_cases e : x = d
    · rw [if_pos e]; rfl
    · rw [if_neg e]
      have hm : d ∈ l := by
        rcases List.mem_cons.mp h with q | q
        · exact absurd q.symm e
        · exact q
      have := less_len hm
      simp only [List.length_cons]; omega
theorem can_mono : ∀ {n : Nat} {b : Board} {l : List Nat}, can (n + 1) b l = true → can n b l = true
  | 0, _, _, _ => rfl
  | n + 1, b, l, h => by
    obtain ⟨d, hd, p, h1, h2⟩ := can_succ.mp h
    exact can_succ.mpr ⟨d, hd, p, h1, can_mono h2⟩
theorem can_le {n m : Nat} {b : Board} {l : List Nat} (h : n ≤ m) (c : can m b l = true) : can n b l = true := by
  induction m with
  | zero => have : n = 0 := by omega
            subst this; exact c
  | succ m ih =>
    by_cases e : n = m + 1
    · rw [e]; exact c
    · exact ih (by omega) (can_mono c)
theorem can_len : ∀ {n : Nat} {b : Board} {l : List Nat}, can n b l = true → n ≤ l.length
  | 0, _, _, _ => Nat.zero_le _
  | n + 1, b, l, h => by
    obtain ⟨d, hd, p, h1, h2⟩ := can_succ.mp h
    have h3 := can_len h2
    have h4 := less_len hd
    omega
theorem find_top (f : Nat → Bool) (h0 : f 0 = true) : ∀ k : Nat, ∃ m, ((List.range (k + 1)).reverse.find? f).getD 0 = m ∧ m ≤ k ∧ f m = true ∧ ∀ n, n ≤ k → f n = true → n ≤ m
  | 0 => by
    refine ⟨0, ?_, Nat.le_refl _, h0, fun n hn _ => hn⟩
    show (List.find? f [0]).getD 0 = 0
    rw [List.find?_cons, h0]; rfl
  | k + 1 => by
    rw [List.range_succ, List.reverse_append]
    show ∃ m, (List.find? f ((k + 1) :: (List.range (k + 1)).reverse)).getD 0 = m ∧ _
    rw [List.find?_cons]
    by_cases e : f (k + 1) = true
    · rw [e]
      exact ⟨k + 1, rfl, Nat.le_refl _, e, fun n hn _ => hn⟩
    · rw [Bool.not_eq_true] at e
      rw [e]
      obtain ⟨m, h1, h2, h3, h4⟩ := find_top f h0 k
      refine ⟨m, h1, by omega, h3, fun n hn hf => ?_⟩
      by_cases q : n = k + 1
      · subst q; rw [e] at hf; cases hf
      · exact h4 n (by omega) hf
theorem most_can {n : Nat} {b : Board} {l : List Nat} : can n b l = true ↔ n ≤ most b l := by
  obtain ⟨m, h1, h2, h3, h4⟩ := find_top (fun n => can n b l) rfl l.length
  have e : most b l = m := h1
  rw [e]
  exact ⟨fun h => h4 n (can_len h) h, fun h => can_le h h3⟩
theorem most_len {b : Board} {l : List Nat} : most b l ≤ l.length := can_len (most_can.mpr (Nat.le_refl _))
/-- what the program reckons is the most -/
theorem most_is {b : Board} {l : List Nat} {v : Nat} (h1 : ∀ d p, d ∈ l → may b p d = true → 1 + most (step b p d) (less l d) ≤ v)
    (h2 : v = 0 ∨ ∃ d p, d ∈ l ∧ may b p d = true ∧ v = 1 + most (step b p d) (less l d)) : most b l = v := by
  refine Nat.le_antisymm ?_ ?_
  · have q := most_can.mpr (Nat.le_refl (most b l))
    cases e : most b l with
    | zero => exact Nat.zero_le _
    | succ n =>
      rw [e] at q
      obtain ⟨d, hd, p, m1, m2⟩ := can_succ.mp q
      have := most_can.mp m2
      have := h1 d p hd m1
      omega
  · rcases h2 with rfl | ⟨d, p, hd, m1, rfl⟩
    · exact Nat.zero_le _
    · refine most_can.mp ?_
      rw [Nat.add_comm]
      exact can_succ.mpr ⟨d, hd, p, m1, most_can.mpr (Nat.le_refl _)⟩
end BG
namespace BG
open Kg61
/-! ### the sides -/
structure WFB (b : Board) : Prop where
  own : b.own.length = 26
  other : b.other.length = 26
def side0 (b : Board) (w : Nat) : Side := if w = 0 then b.own else b.other
def side1 (b : Board) (w : Nat) : Side := if w = 0 then b.other else b.own
theorem foldl_add (f : Nat → Nat) : ∀ (l : List Nat) (n : Nat), l.foldl (fun n q => n + f q) n = n + (l.map f).sum
  | [], n => by simp
  | x :: r, n => by
    rw [List.foldl_cons, foldl_add f r, List.map_cons, List.sum_cons]
    omega
theorem sum_zero : ∀ {l : List Nat}, l.sum = 0 ↔ ∀ x ∈ l, x = 0
  | [] => by simp
  | x :: r => by
    rw [List.sum_cons]
    have := sum_zero (l := r)
    simp only [List.mem_cons]
    constructor
    · intro h y hy
      rcases hy with rfl | hy
      · omega
      · exact this.mp (by omega) y hy
    · intro h
      have h1 := h x (.inl rfl)
      have h2 := this.mpr fun y hy => h y (.inr hy)
      omega
theorem above_zero {s : Side} {p : Nat} (hl : s.length = 26) : above s p = 0 ↔ (s.drop (p + 1)).sum = 0 := by
  unfold above
  rw [foldl_add, Nat.zero_add, sum_zero, sum_zero]
  constructor
  · intro h x hx
    obtain ⟨i, hi, e⟩ := List.mem_iff_getElem.mp hx
    rw [List.length_drop] at hi
    rw [List.getElem_drop] at e
    refine h x (List.mem_map.mpr ⟨p + 1 + i, List.mem_filter.mpr ⟨List.mem_range.mpr (by omega), by simp; omega⟩, ?_⟩)
    unfold at_
    rw [List.getD_eq_getElem?_getD, List.getElem?_eq_getElem (by omega), e]; rfl
  · intro h x hx
    obtain ⟨q, hq, rfl⟩ := List.mem_map.mp hx
    obtain ⟨h1, h2⟩ := List.mem_filter.mp hq
    have h1 := List.mem_range.mp h1
    have h2 : p < q := of_decide_eq_true h2
    unfold at_
    rw [List.getD_eq_getElem?_getD, List.getElem?_eq_getElem (by omega)]
    refine h _ (List.mem_iff_getElem.mpr ⟨q - (p + 1), by rw [List.length_drop]; omega, ?_⟩)
    rw [List.getElem_drop]
    have e : p + 1 + (q - (p + 1)) = q := by omega
    simp only [e]; rfl
theorem at_set {s : Side} {i j n : Nat} (hi : i < s.length) : at_ (s.set i n) j = if i = j then n else at_ s j := by
  unfold at_
  rw [List.getD_eq_getElem?_getD, List.getD_eq_getElem?_getD, List.getElem?_set]
  by_cases h : i = j
  · rw [if_pos h, if_pos h, if_pos (by omega)]; rfl
  · rw [if_neg h, if_neg h]
theorem fromTo_len {s : Side} {p q : Nat} : (fromTo s p q).length = s.length := by
  unfold fromTo
  rw [List.length_set, List.length_set]
theorem step_wf {b : Board} {p d : Nat} (h : WFB b) : WFB (step b p d) := by
  refine ⟨?_, ?_⟩
  · show (fromTo b.own p (p - d)).length = 26
    rw [fromTo_len, h.own]
  · show (if _ then fromTo b.other (25 - (p - d)) BAR else b.other).length = 26
    split
    · rw [fromTo_len, h.other]
    · exact h.other
/-! ### dice without one -/
theorem less_at : ∀ {l : List Nat} {i d : Nat}, l[i]? = some d → ¬ d ∈ l.take i → l.take i ++ l.drop (i + 1) = less l d
  | [], i, d, h, _ => by simp at h
  | x :: r, 0, d, h, _ => by
    have e : x = d := by simpa using h
    unfold less
    rw [if_pos e]; rfl
  | x :: r, i + 1, d, h, hn => by
    have hn' : ¬ d ∈ x :: r.take i := hn
    have h1 : x ≠ d := fun e => hn' (by rw [e]; exact List.mem_cons_self ..)
    have h2 : ¬ d ∈ r.take i := fun m => hn' (List.mem_cons_of_mem _ m)
    unfold less
    rw [if_neg h1]
    show x :: (r.take i ++ r.drop (i + 1)) = x :: less r d
    rw [less_at (by simpa using h) h2]
theorem less_sub : ∀ {l : List Nat} {d x : Nat}, x ∈ less l d → x ∈ l
  | [], _, _, h => h
  | y :: l, d, x, h => by
    unfold less at h
    by_cases e : y = d
    · rw [if_pos e] at h; exact List.mem_cons_of_mem _ h
    · rw [if_neg e] at h
      rcases List.mem_cons.mp h with q | q
      · rw [q]; exact List.mem_cons_self ..
      · exact List.mem_cons_of_mem _ (less_sub q)
end BG
namespace BG
open Kg61
/-- all of them dice -/
def Dice (l : List Nat) : Prop := ∀ x ∈ l, 1 ≤ x ∧ x ≤ 6
/-! ### what always holds of a game, of a state -/
structure WFG (G : Game) : Prop where
  bd : WFB G.board
  own15 : G.board.own.sum = 15
  oth15 : G.board.other.sum = 15
  who : G.who < 2
  dice : Dice G.dice
  four : G.dice.length ≤ 4
  down : G.dice.Pairwise (· ≥ ·)
  open_ : G.phase = 0 → G.board.own = G.board.other
  idle : G.phase ≠ 3 → G.dice = [] ∧ G.left = 0
  left_ : G.phase = 3 → 0 < G.left ∧ G.left = most G.board G.dice
  ph : G.phase ≤ 3
  hold : ∀ w, G.holder = some w → w < 2
structure WFS (st : State) : Prop where
  game : ∀ G, st.game = some G → WFG G ∧ st.a < st.to ∧ st.b < st.to
/-! ### dice -/
def dl (x y : Nat) : List Nat := if x = y then [x, x, x, x] else [max x y, min x y]
theorem dl_max (x y : Nat) : (if max x y = min x y then [max x y, max x y, max x y, max x y] else [max x y, min x y]) = dl x y := by
  unfold dl
  by_cases h : x = y
  · subst h
    rw [if_pos rfl, Nat.max_self, Nat.min_self, if_pos rfl]
  · rw [if_neg h, if_neg (by omega)]
theorem dl_dice {x y : Nat} (hx : 1 ≤ x ∧ x ≤ 6) (hy : 1 ≤ y ∧ y ≤ 6) : Dice (dl x y) := by
  unfold dl
  intro z hz
  split at hz
  · have : z = x := by simpa using hz
    omega
  · have : z = max x y ∨ z = min x y := by simpa using hz
    omega
theorem dl_four (x y : Nat) : (dl x y).length ≤ 4 := by
  unfold dl
  split <;> simp
theorem dl_down (x y : Nat) : (dl x y).Pairwise (· ≥ ·) := by
  unfold dl
  split
  · simp
  · simp
    omega
theorem less_len_le : ∀ (l : List Nat) (d : Nat), (less l d).length ≤ l.length
  | [], _ => Nat.le_refl _
  | x :: l, d => by
    unfold less
    split
    · exact Nat.le_succ _
    · exact Nat.succ_le_succ (less_len_le l d)
theorem less_down : ∀ {l : List Nat} {d : Nat}, l.Pairwise (· ≥ ·) → (less l d).Pairwise (· ≥ ·)
  | [], _, h => h
  | x :: l, d, h => by
    obtain ⟨h1, h2⟩ := List.pairwise_cons.mp h
    unfold less
    split
    · exact h2
    · exact List.pairwise_cons.mpr ⟨fun y hy => h1 y (less_sub hy), less_down h2⟩
/-! ### checkers stay -/
theorem sum_set_nat : ∀ {s : List Nat} {i n : Nat}, i < s.length → (s.set i n).sum + at_ s i = s.sum + n
  | [], i, n, h => by simp at h
  | x :: r, 0, n, h => by
    show (n :: r).sum + x = (x :: r).sum + n
    rw [List.sum_cons, List.sum_cons]
    omega
  | x :: r, i + 1, n, h => by
    have ih := sum_set_nat (s := r) (i := i) (n := n) (by simpa using h)
    show (x :: r.set i n).sum + at_ r i = (x :: r).sum + n
    rw [List.sum_cons, List.sum_cons]
    omega
theorem fromTo_sum {s : Side} {p q : Nat} (hp : p < s.length) (hq : q < s.length) (h : 0 < at_ s p) : (fromTo s p q).sum = s.sum := by
  unfold fromTo
  have e1 := sum_set_nat (n := at_ s p - 1) hp
  have e2 := sum_set_nat (s := s.set p (at_ s p - 1)) (i := q) (n := at_ (s.set p (at_ s p - 1)) q + 1) (by rw [List.length_set]; exact hq)
  omega
theorem step_own15 {b : Board} {p d : Nat} (W : WFB b) (m : may b p d = true) (h : b.own.sum = 15) : (step b p d).own.sum = 15 := by
  obtain ⟨h1, h2, h3⟩ := may_ge m
  show (fromTo b.own p (p - d)).sum = 15
  rw [fromTo_sum (by rw [W.own]; omega) (by rw [W.own]; omega) h3, h]
theorem step_oth15 {b : Board} {p d : Nat} (W : WFB b) (m : may b p d = true) (h : b.other.sum = 15) : (step b p d).other.sum = 15 := by
  obtain ⟨h1, h2, h3⟩ := may_ge m
  show (if (decide (0 < p - d) && at_ b.other (25 - (p - d)) == 1) = true then fromTo b.other (25 - (p - d)) BAR else b.other).sum = 15
  split
  · rename_i c
    rw [Bool.and_eq_true] at c
    have c2 := eq_of_beq c.2
    rw [fromTo_sum (by rw [W.other]; omega) (by rw [W.other]; decide) (by omega), h]
  · exact h
theorem flip_wf {b : Board} (h : WFB b) : WFB (flip b) := ⟨h.other, h.own⟩
/-! ### games -/
theorem fresh_wf (free : Bool) : WFG (fresh free) :=
  ⟨⟨rfl, rfl⟩, rfl, rfl, by show 0 < 2; decide, fun x hx => (by cases hx), by show 0 ≤ 4; decide, List.Pairwise.nil, fun _ => rfl, fun _ => ⟨rfl, rfl⟩, fun h => (by cases h), by show 0 ≤ 3; decide, fun w h => (by cases h)⟩
theorem passes_wf {G : Game} (h : WFG G) : WFG G.passes :=
  ⟨flip_wf h.bd, h.oth15, h.own15, by show 1 - G.who < 2; omega, fun x hx => (by cases hx), Nat.zero_le _, List.Pairwise.nil, fun z => (by cases z), fun _ => ⟨rfl, rfl⟩, fun z => (by cases z), by show 1 ≤ 3; decide, h.hold⟩
theorem throws_eq (G : Game) (x y : Nat) : G.throws (max x y) (min x y) = if most G.board (dl x y) = 0 then G.passes else { G with phase := 3, dice := dl x y, left := most G.board (dl x y) } := by
  unfold Game.throws
  rw [dl_max]
theorem throws_wf {G : Game} (h : WFG G) {w x y : Nat} (hw : w < 2) (hx : 1 ≤ x ∧ x ≤ 6) (hy : 1 ≤ y ∧ y ≤ 6) : WFG (({ G with who := w } : Game).throws (max x y) (min x y)) := by
  rw [throws_eq]
  dsimp only
  split
  · exact ⟨flip_wf h.bd, h.oth15, h.own15, by show 1 - w < 2; omega, fun x hx => (by cases hx), Nat.zero_le _, List.Pairwise.nil, fun z => (by cases z), fun _ => ⟨rfl, rfl⟩, fun z => (by cases z), by show 1 ≤ 3; decide, h.hold⟩
  · rename_i c
    exact ⟨h.bd, h.own15, h.oth15, hw, dl_dice hx hy, dl_four x y, dl_down x y, fun z => (by cases z), fun z => absurd rfl z, fun _ => ⟨by show 0 < most G.board (dl x y); omega, rfl⟩, by show 3 ≤ 3; decide, h.hold⟩
/-- a step that may be made: what is left to be used is what can be used -/
theorem good_parts {b : Board} {l : List Nat} {n p d : Nat} (h : good b l n p d = true) : 0 < n ∧ d ∈ l ∧ may b p d = true ∧ can (n - 1) (step b p d) (less l d) = true := by
  unfold good at h
  simp only [Bool.and_eq_true, decide_eq_true_eq, List.contains_iff_mem] at h
  exact ⟨h.1, h.2.1, h.2.2.1, h.2.2.2.1⟩
theorem good_left {b : Board} {l : List Nat} {n p d : Nat} (h : good b l n p d = true) (hn : n = most b l) : n - 1 = most (step b p d) (less l d) := by
  obtain ⟨h0, hd, hm, hc⟩ := good_parts h
  refine Nat.le_antisymm (most_can.mp hc) ?_
  have : can (most (step b p d) (less l d) + 1) b l = true := can_succ.mpr ⟨d, hd, p, hm, most_can.mpr (Nat.le_refl _)⟩
  have := most_can.mp this
  omega
theorem step_wfg {G : Game} (h : WFG G) (h3 : G.phase = 3) {p d : Nat} (g : good G.board G.dice G.left p d = true) (hn : G.left - 1 ≠ 0) :
    WFG { G with board := step G.board p d, dice := less G.dice d, left := G.left - 1 } := by
  obtain ⟨h0, hd, hm, hc⟩ := good_parts g
  exact ⟨step_wf h.bd, step_own15 h.bd hm h.own15, step_oth15 h.bd hm h.oth15, h.who, fun x hx => h.dice x (less_sub hx), Nat.le_trans (less_len_le _ _) h.four, less_down h.down, fun z => (by rw [show _ = G.phase from rfl, h3] at z; cases z),
    fun z => absurd h3 z, fun _ => ⟨by show 0 < G.left - 1; omega, good_left g (h.left_ h3).2⟩, h.ph, h.hold⟩
theorem step_passes_wf {G : Game} (h : WFG G) {p d : Nat} (g : good G.board G.dice G.left p d = true) : WFG ({ G with board := step G.board p d, dice := less G.dice d, left := G.left - 1 } : Game).passes := by
  obtain ⟨h0, hd, hm, hc⟩ := good_parts g
  exact ⟨flip_wf (step_wf h.bd), step_oth15 h.bd hm h.oth15, step_own15 h.bd hm h.own15, by show 1 - G.who < 2; omega, fun x hx => (by cases hx), Nat.zero_le _, List.Pairwise.nil, fun z => (by cases z), fun _ => ⟨rfl, rfl⟩, fun z => (by cases z), by show 1 ≤ 3; decide, h.hold⟩
/-! ### the match -/
def addP (st : State) (w n : Nat) : State := if w = 0 then { st with a := st.a + n } else { st with b := st.b + n }
theorem addP_to (st : State) (w n : Nat) : (addP st w n).to = st.to ∧ (addP st w n).crawford = st.crawford := by
  unfold addP
  split <;> exact ⟨rfl, rfl⟩
theorem wins_eq (st : State) (w n : Nat) : st.wins w n = (if st.to ≤ (addP st w n).points w then { addP st w n with game := none } else if (addP st w n).crawford = false ∧ ((addP st w n).a + 1 = (addP st w n).to ∨ (addP st w n).b + 1 = (addP st w n).to) then
      { addP st w n with crawford := true, game := some (fresh false) } else { addP st w n with game := some (fresh true) }) := rfl
theorem addP_lt {st : State} {w n : Nat} (h : ¬ st.to ≤ (addP st w n).points w) (ha : st.a < st.to) (hb : st.b < st.to) : (addP st w n).a < (addP st w n).to ∧ (addP st w n).b < (addP st w n).to := by
  unfold addP at h ⊢
  unfold State.points at h
  by_cases c : w = 0
  · rw [if_pos c, if_pos c] at h
    rw [if_pos c]
    dsimp only at h ⊢
    omega
  · rw [if_neg c, if_neg c] at h
    rw [if_neg c]
    dsimp only at h ⊢
    omega
theorem wins_wf {st : State} {w n : Nat} (ha : st.a < st.to) (hb : st.b < st.to) : WFS (st.wins w n) := by
  rw [wins_eq]
  split
  · exact ⟨fun G h => (by cases h)⟩
  · rename_i c
    have hl := addP_lt c ha hb
    split
    · exact ⟨fun G h => by cases h; exact ⟨fresh_wf _, hl⟩⟩
    · exact ⟨fun G h => by cases h; exact ⟨fresh_wf _, hl⟩⟩
theorem onGame_wf {st : State} {f : Game → State × Ans} (h : WFS st) (k : ∀ G, st.game = some G → WFG G → st.a < st.to → st.b < st.to → WFS (f G).1) : WFS (onGame st f).1 := by
  unfold onGame
  split
  · rename_i G e
    obtain ⟨h1, h2, h3⟩ := h.game G e
    exact k G e h1 h2 h3
  · exact h
theorem on_wf {st : State} (ha : st.a < st.to) (hb : st.b < st.to) {G : Game} (h : WFG G) (z : Int) : WFS (goesOn st G z).1 := ⟨fun G' e => by cases e; exact ⟨h, ha, hb⟩⟩
theorem within_nat {z : Int} {n : Nat} (h : within z 1 n = true) : 1 ≤ z.toNat ∧ z.toNat ≤ n := by
  unfold within at h
  rw [Bool.and_eq_true] at h
  have h1 := of_decide_eq_true h.1
  have h2 := of_decide_eq_true h.2
  omega
theorem two_dice {x y : Int} (h : ¬ (within x 1 6 && within y 1 6) = false) : (1 ≤ x.toNat ∧ x.toNat ≤ 6) ∧ (1 ≤ y.toNat ∧ y.toNat ≤ 6) := by
  rw [Bool.not_eq_false, Bool.and_eq_true] at h
  exact ⟨within_nat (n := 6) h.1, within_nat (n := 6) h.2⟩
/-- every call leaves a state of which all this holds -/
theorem spec_wf {st : State} (h : WFS st) : ∀ c : Call, WFS (spec st c).1
  | .begin_ n => by
    show WFS (if within n 1 25 = false then _ else _ : State × Ans).1
    split
    · exact h
    · rename_i c
      rw [Bool.not_eq_false] at c
      have := within_nat (n := 25) c
      exact ⟨fun G e => by cases e; exact ⟨fresh_wf _, by show 0 < n.toNat; omega, by show 0 < n.toNat; omega⟩⟩
  | .open_ x y => by
    show WFS (if (within x 1 6 && within y 1 6) = false then _ else _ : State × Ans).1
    split
    · exact h
    · rename_i c
      obtain ⟨hx, hy⟩ := two_dice c
      refine onGame_wf h fun G e W ha hb => ?_
      try dsimp only
      split
      · exact h
      · split
        · exact h
        · exact on_wf ha hb (throws_wf W (by split <;> decide) hx hy) _
  | .throw_ x y => by
    show WFS (if (within x 1 6 && within y 1 6) = false then _ else _ : State × Ans).1
    split
    · exact h
    · rename_i c
      obtain ⟨hx, hy⟩ := two_dice c
      refine onGame_wf h fun G e W ha hb => ?_
      try dsimp only
      split
      · exact h
      · exact on_wf ha hb (throws_wf (w := G.who) W W.who hx hy) _
  | .double => by
    refine onGame_wf h fun G e W ha hb => ?_
    try dsimp only
    split
    · exact h
    · rename_i c
      split
      · exact h
      · have c : G.phase = 1 := by simpa using c
        have i := W.idle (by rw [c]; decide)
        have W2 : WFG { G with phase := 2 } := ⟨W.bd, W.own15, W.oth15, W.who, W.dice, W.four, W.down, fun z => (by cases z), fun _ => i, fun z => (by cases z), by show 2 ≤ 3; decide, W.hold⟩
        exact on_wf ha hb W2 _
  | .take => by
    refine onGame_wf h fun G e W ha hb => ?_
    try dsimp only
    split
    · exact h
    · rename_i c
      have c : G.phase = 2 := by simpa using c
      have i := W.idle (by rw [c]; decide)
      have W2 : WFG { G with phase := 1, cube := 2 * G.cube, holder := some (1 - G.who) } := ⟨W.bd, W.own15, W.oth15, W.who, W.dice, W.four, W.down, fun z => (by cases z), fun _ => i, fun z => (by cases z), by show 1 ≤ 3; decide, fun w e => (by cases e; omega)⟩
      exact on_wf ha hb W2 _
  | .drop => by
    refine onGame_wf h fun G e W ha hb => ?_
    try dsimp only
    split
    · exact h
    · exact wins_wf ha hb
  | .step p d => by
    show WFS (if (within p 1 25 && within d 1 6) = false then _ else _ : State × Ans).1
    split
    · exact h
    · refine onGame_wf h fun G e W ha hb => ?_
      try dsimp only
      split
      · exact h
      · rename_i c3
        have c3 : G.phase = 3 := by simpa using c3
        split
        · exact h
        · rename_i cg
          rw [Bool.not_eq_false] at cg
          split
          · exact wins_wf ha hb
          · split
            · exact on_wf ha hb (step_passes_wf W cg) _
            · rename_i cl
              exact on_wf ha hb (step_wfg W c3 cg cl) _
  | .give n => by
    show WFS (if within n 1 3 = false then _ else _ : State × Ans).1
    split
    · exact h
    · refine onGame_wf h fun G e W ha hb => ?_
      try dsimp only
      split
      · exact h
      · exact wins_wf ha hb
  | .now => h
  | .board => onGame_wf h fun G e W ha hb => h
  | .steps => by
    refine onGame_wf h fun G e W ha hb => ?_
    try dsimp only
    split <;> exact h
  | .may p d => by
    show WFS (if (within p 1 25 && within d 1 6) = false then _ else _ : State × Ans).1
    split
    · exact h
    · exact onGame_wf h fun G e W ha hb => h
theorem init_wf : WFS init := ⟨fun G e => (by cases e)⟩
end BG
namespace BG
open Kg61
/-! ### the list of calls -/
theorem shape_some {p : Int} {n k : Nat} (h : PyKg61.shape p = some (n, k)) : k = 0 ∧ ((p = 1 ∧ n = 1) ∨ (p = 2 ∧ n = 2) ∨ (p = 3 ∧ n = 2) ∨ (p = 4 ∧ n = 0) ∨ (p = 5 ∧ n = 0) ∨ (p = 6 ∧ n = 0) ∨ (p = 7 ∧ n = 2) ∨ (p = 8 ∧ n = 1) ∨ (p = 9 ∧ n = 0) ∨ (p = 10 ∧ n = 0) ∨ (p = 11 ∧ n = 0) ∨ (p = 12 ∧ n = 2)) := by
  by_cases h1 : p = 1
  · subst h1
    have h : some (1, 0) = some (n, k) := h
    cases h
    exact ⟨rfl, .inl ⟨rfl, rfl⟩⟩
  by_cases h2 : p = 2
  · subst h2
    have h : some (2, 0) = some (n, k) := h
    cases h
    exact ⟨rfl, .inr (.inl ⟨rfl, rfl⟩)⟩
  by_cases h3 : p = 3
  · subst h3
    have h : some (2, 0) = some (n, k) := h
    cases h
    exact ⟨rfl, .inr (.inr (.inl ⟨rfl, rfl⟩))⟩
  by_cases h4 : p = 4
  · subst h4
    have h : some (0, 0) = some (n, k) := h
    cases h
    exact ⟨rfl, .inr (.inr (.inr (.inl ⟨rfl, rfl⟩)))⟩
  by_cases h5 : p = 5
  · subst h5
    have h : some (0, 0) = some (n, k) := h
    cases h
    exact ⟨rfl, .inr (.inr (.inr (.inr (.inl ⟨rfl, rfl⟩))))⟩
  by_cases h6 : p = 6
  · subst h6
    have h : some (0, 0) = some (n, k) := h
    cases h
    exact ⟨rfl, .inr (.inr (.inr (.inr (.inr (.inl ⟨rfl, rfl⟩)))))⟩
  by_cases h7 : p = 7
  · subst h7
    have h : some (2, 0) = some (n, k) := h
    cases h
    exact ⟨rfl, .inr (.inr (.inr (.inr (.inr (.inr (.inl ⟨rfl, rfl⟩))))))⟩
  by_cases h8 : p = 8
  · subst h8
    have h : some (1, 0) = some (n, k) := h
    cases h
    exact ⟨rfl, .inr (.inr (.inr (.inr (.inr (.inr (.inr (.inl ⟨rfl, rfl⟩)))))))⟩
  by_cases h9 : p = 9
  · subst h9
    have h : some (0, 0) = some (n, k) := h
    cases h
    exact ⟨rfl, .inr (.inr (.inr (.inr (.inr (.inr (.inr (.inr (.inl ⟨rfl, rfl⟩))))))))⟩
  by_cases h10 : p = 10
  · subst h10
    have h : some (0, 0) = some (n, k) := h
    cases h
    exact ⟨rfl, .inr (.inr (.inr (.inr (.inr (.inr (.inr (.inr (.inr (.inl ⟨rfl, rfl⟩)))))))))⟩
  by_cases h11 : p = 11
  · subst h11
    have h : some (0, 0) = some (n, k) := h
    cases h
    exact ⟨rfl, .inr (.inr (.inr (.inr (.inr (.inr (.inr (.inr (.inr (.inr (.inl ⟨rfl, rfl⟩))))))))))⟩
  by_cases h12 : p = 12
  · subst h12
    have h : some (2, 0) = some (n, k) := h
    cases h
    exact ⟨rfl, .inr (.inr (.inr (.inr (.inr (.inr (.inr (.inr (.inr (.inr (.inr (⟨rfl, rfl⟩)))))))))))⟩
  unfold PyKg61.shape at h
  rw [if_neg h1, if_neg h2, if_neg h3, if_neg h4, if_neg h5, if_neg h6, if_neg h7, if_neg h8, if_neg h9, if_neg h10, if_neg h11, if_neg h12] at h
  cases h
theorem whole_id (c : List (List Int)) : PyKg61.whole c = c := by
  unfold PyKg61.whole
  split <;> rfl
theorem map_whole (cs : List (List (List Int))) : cs.map PyKg61.whole = cs := by
  rw [show PyKg61.whole = id from funext whole_id, List.map_id]
/-- one call, then the rest -/
theorem calls_cons {f : Nat} {p : Int} {r : List Int} {cs : List (List (List Int))} (h : PyFlat.calls PyKg61.shape f (p :: r) = some cs) :
    ∃ n f' cs', PyKg61.shape p = some (n, 0) ∧ n ≤ r.length ∧ cs = [p :: r.take n] :: cs' ∧ PyFlat.calls PyKg61.shape f' (r.drop n) = some cs' := by
  cases f with
  | zero => cases h
  | succ f =>
    unfold PyFlat.calls at h
    split at h
    · cases h
    · rename_i c t hc
      split at h
      · cases h
      · rename_i cs' hcs
        have h := (Option.some.inj h).symm
        have hc : (match PyKg61.shape p with
          | none => none
          | some (n, k) => if r.length < n then none else match PyFlat.rows k (r.drop n) with
            | none => none
            | some (xs, t) => some ((p :: r.take n) :: xs, t)) = some (c, t) := hc
        split at hc
        · cases hc
        · rename_i n k hs
          obtain ⟨hk, _⟩ := shape_some hs
          subst hk
          split at hc
          · cases hc
          · rename_i hl
            unfold PyFlat.rows at hc
            have hc := Option.some.inj hc
            have e1 := congrArg Prod.fst hc
            have e2 := congrArg Prod.snd hc
            dsimp only at e1 e2
            subst e1 e2
            exact ⟨n, f, cs', hs, by omega, h, hcs⟩
theorem calls_nil {f : Nat} {cs : List (List (List Int))} (h : PyFlat.calls PyKg61.shape f [] = some cs) : cs = [] := by
  cases f with
  | zero => exact (Option.some.inj h).symm
  | succ f => exact (Option.some.inj h).symm
/-- the call that a piece of the list is -/
theorem call_of {p : Int} {n : Nat} {ns : List Int} (h : PyKg61.shape p = some (n, 0)) (hl : ns.length = n) : ∃ k, Kg61Neutral.callOf [p :: ns] = some k := by
  obtain ⟨_, h⟩ := shape_some h
  have h0 : ns.length = 0 → ns = [] := List.eq_nil_of_length_eq_zero
  have h1 : ns.length = 1 → ∃ x, ns = [x] := fun e => by
    match ns, e with
    | [x], _ => exact ⟨x, rfl⟩
  have h2 : ns.length = 2 → ∃ x y, ns = [x, y] := fun e => by
    match ns, e with
    | [x, y], _ => exact ⟨x, y, rfl⟩
  rcases h with ⟨rfl, e⟩ | ⟨rfl, e⟩ | ⟨rfl, e⟩ | ⟨rfl, e⟩ | ⟨rfl, e⟩ | ⟨rfl, e⟩ | ⟨rfl, e⟩ | ⟨rfl, e⟩ | ⟨rfl, e⟩ | ⟨rfl, e⟩ | ⟨rfl, e⟩ | ⟨rfl, e⟩
  · obtain ⟨x, rfl⟩ := h1 (by omega); exact ⟨_, rfl⟩
  · obtain ⟨x, y, rfl⟩ := h2 (by omega); exact ⟨_, rfl⟩
  · obtain ⟨x, y, rfl⟩ := h2 (by omega); exact ⟨_, rfl⟩
  · rw [h0 (by omega)]; exact ⟨_, rfl⟩
  · rw [h0 (by omega)]; exact ⟨_, rfl⟩
  · rw [h0 (by omega)]; exact ⟨_, rfl⟩
  · obtain ⟨x, y, rfl⟩ := h2 (by omega); exact ⟨_, rfl⟩
  · obtain ⟨x, rfl⟩ := h1 (by omega); exact ⟨_, rfl⟩
  · rw [h0 (by omega)]; exact ⟨_, rfl⟩
  · rw [h0 (by omega)]; exact ⟨_, rfl⟩
  · rw [h0 (by omega)]; exact ⟨_, rfl⟩
  · obtain ⟨x, y, rfl⟩ := h2 (by omega); exact ⟨_, rfl⟩
/-- what the calls answer from a state on, as one list -/
def from_ (st : State) (cs : List (List (List Int))) : List Int := PyFlat.told (PyFlat.played Kg61Neutral.step st cs)
theorem from_nil (st : State) : from_ st [] = [] := rfl
theorem from_cons {st : State} {c : List (List Int)} {cs : List (List (List Int))} {k : Call} (h : Kg61Neutral.callOf c = some k) :
    from_ st (c :: cs) = (((spec st k).2.out.length + 1 : Nat) : Int) :: (spec st k).2.value :: ((spec st k).2.out ++ from_ (spec st k).1 cs) := by
  have e : Kg61Neutral.step st c = ((spec st k).1, (spec st k).2.value :: (spec st k).2.out) := by
    unfold Kg61Neutral.step
    rw [h]
  unfold from_
  show PyFlat.told ((Kg61Neutral.step st c).2 :: PyFlat.played Kg61Neutral.step (Kg61Neutral.step st c).1 cs) = _
  rw [e]
  show List.flatMap _ (_ :: _) = _
  rw [List.flatMap_cons]
  rfl
/-- the whole, where it is asked -/
theorem asked_calls {l : List Int} (h : PyKg61.answers_asked l = true) : ∃ cs, PyFlat.calls PyKg61.shape l.length l = some cs ∧ PyKg61.answers l = from_ init cs ∧ (from_ init cs).length ≤ 10000000 := by
  unfold PyKg61.answers_asked at h
  split at h
  · cases h
  · rename_i raw e
    have ea : PyKg61.answers l = from_ init raw := by
      unfold PyKg61.answers PyKg61.calls
      rw [e]
      show from_ init (raw.map PyKg61.whole) = _
      rw [map_whole]
    simp only [Bool.and_eq_true] at h
    refine ⟨raw, e, ea, ?_⟩
    have h2 := h.2
    rw [ea] at h2
    exact of_decide_eq_true h2
end BG
namespace BG
open Kg61
/-! ### a die less, by its place -/
theorem less_erase : ∀ {l : List Nat} {d : Nat}, d ∈ l → ∃ j : Nat, l[j]? = some d ∧ (∀ m : Nat, m < j → l[m]? ≠ some d) ∧ l.eraseIdx j = less l d
  | [], _, h => by cases h
  | x :: l, d, h => by
    by_cases e : x = d
    · refine ⟨0, by simp [e], fun m hm => by omega, ?_⟩
      unfold less
      rw [if_pos e]; rfl
    · have hm : d ∈ l := by
        rcases List.mem_cons.mp h with q | q
        · exact absurd q.symm e
        · exact q
      obtain ⟨j, h1, h2, h3⟩ := less_erase hm
      refine ⟨j + 1, by simpa using h1, fun m hm => ?_, ?_⟩
      · cases m with
        | zero => simpa using e
        | succ m =>
          rw [List.getElem?_cons_succ]
          exact h2 m (by omega)
      · show x :: l.eraseIdx j = less (x :: l) d
        rw [h3]
        show x :: less l d = if x = d then l else x :: less l d
        rw [if_neg e]
/-! ### which steps may be made -/
theorem fold_max_top : ∀ {r : List Nat} {x : Nat}, (∀ y ∈ r, y ≤ x) → r.foldl max x = x
  | [], _, _ => rfl
  | y :: r, x, h => by
    rw [List.foldl_cons, Nat.max_eq_left (h y (List.mem_cons_self ..))]
    exact fold_max_top fun z hz => h z (List.mem_cons_of_mem _ hz)
theorem one_first {b : Board} {x : Nat} : decide (most b [x] = 1) = places.any fun q => may b q x := by
  have h1 : most b [x] ≤ 1 := most_len (b := b) (l := [x])
  have h2 : 1 ≤ most b [x] ↔ can 1 b [x] = true := most_can.symm
  by_cases c : can 1 b [x] = true
  · have e : most b [x] = 1 := by have := h2.mpr c; omega
    rw [decide_eq_true e]
    obtain ⟨d, hd, p, m, _⟩ := can_succ.mp c
    have hd : d = x := by simpa using hd
    subst hd
    exact (List.any_eq_true.mpr ⟨p, mem_places.mpr (by have := may_ge m; omega), m⟩).symm
  · have e : ¬ most b [x] = 1 := fun e => c (h2.mp (by omega))
    rw [decide_eq_false e]
    cases z : places.any fun q => may b q x with
    | false => rfl
    | true =>
      obtain ⟨p, _, m⟩ := List.any_eq_true.mp z
      exact absurd (can_succ.mpr ⟨x, List.mem_cons_self .., p, m, rfl⟩) c
theorem good_is {b : Board} {x : Nat} {r : List Nat} {n p d : Nat} (h0 : 0 < n) (hd : d ∈ x :: r) (hm : may b p d = true) (hs : (x :: r).Pairwise (· ≥ ·)) :
    good b (x :: r) n p d = ((d == x || !(n == 1 && decide (most b [x] = 1))) && decide (n - 1 ≤ most (step b p d) (less (x :: r) d))) := by
  have hf : (x :: r).foldl max 0 = x := by
    rw [List.foldl_cons, Nat.max_eq_right (Nat.zero_le _)]
    exact fold_max_top fun y hy => (List.pairwise_cons.mp hs).1 y hy
  have hc : can (n - 1) (step b p d) (less (x :: r) d) = decide (n - 1 ≤ most (step b p d) (less (x :: r) d)) := by
    cases z : can (n - 1) (step b p d) (less (x :: r) d) with
    | true => exact (decide_eq_true (most_can.mp z)).symm
    | false => exact (decide_eq_false fun q => by rw [most_can.mpr q] at z; cases z).symm
  unfold good
  rw [decide_eq_true h0, List.contains_iff_mem.mpr hd, hm, hc, hf, one_first, Bool.true_and, Bool.true_and, Bool.true_and]
  generalize decide (n - 1 ≤ most (step b p d) (less (x :: r) d)) = c
  generalize (places.any fun q => may b q x) = a
  by_cases e : d = x
  · subst e
    simp
  · have hr : d ∈ r := by
      rcases List.mem_cons.mp hd with q | q
      · exact absurd q e
      · exact q
    have h2 : 2 ≤ (x :: r).length := by
      have := List.length_pos_of_mem hr
      rw [List.length_cons]; omega
    rw [decide_eq_true h2, beq_eq_false_iff_ne.mpr e, Bool.false_or, Bool.false_or, Bool.and_true]
    cases c <;> cases a <;> cases (n == 1) <;> rfl
theorem good_no {b : Board} {l : List Nat} {n p d : Nat} (h : (decide (d ∈ l) && may b p d) = false) : good b l n p d = false := by
  cases z : good b l n p d with
  | false => rfl
  | true =>
    obtain ⟨_, h1, h2, _⟩ := good_parts z
    rw [decide_eq_true h1, h2] at h
    cases h
/-! ### all of them, as they are found -/
def stepsOf (b : Board) (l : List Nat) (n d : Nat) : List (Nat × Nat) := (places.filter fun p => good b l n p d).map fun p => (p, d)
def stepsTo (b : Board) (l : List Nat) (n d j : Nat) : List (Nat × Nat) := ((places.take j).filter fun p => good b l n p d).map fun p => (p, d)
def stepsBy (b : Board) (l : List Nat) (n i : Nat) : List (Nat × Nat) := (l.take i).eraseDups.flatMap (stepsOf b l n)
theorem places_is : places = [25, 24, 23, 22, 21, 20, 19, 18, 17, 16, 15, 14, 13, 12, 11, 10, 9, 8, 7, 6, 5, 4, 3, 2, 1, 0] := by decide
theorem places_len : places.length = 26 := by
  unfold places
  rw [List.length_reverse, List.length_range]
theorem places_at {j : Nat} (h : j < 26) : places[j]? = some (25 - j) := by
  unfold places
  rw [List.getElem?_reverse (by rw [List.length_range]; exact h), List.length_range, List.getElem?_range (by omega)]
theorem stepsTo_zero {b : Board} {l : List Nat} {n d : Nat} : stepsTo b l n d 0 = [] := rfl
theorem stepsTo_succ {b : Board} {l : List Nat} {n d j : Nat} (h : j < 26) : stepsTo b l n d (j + 1) = stepsTo b l n d j ++ (if good b l n (25 - j) d = true then [(25 - j, d)] else []) := by
  unfold stepsTo
  rw [List.take_add_one, places_at h, List.filter_append, List.map_append]
  congr 1
  show List.map (fun p => (p, d)) (List.filter (fun p => good b l n p d) [25 - j]) = _
  rw [List.filter_cons, List.filter_nil]
  split <;> rfl
theorem stepsTo_all {b : Board} {l : List Nat} {n d : Nat} : stepsTo b l n d 25 = stepsOf b l n d := by
  have h : stepsTo b l n d 26 = stepsOf b l n d := by
    unfold stepsTo stepsOf
    rw [List.take_of_length_le (by rw [places_len]; exact Nat.le_refl _)]
  rw [stepsTo_succ (by decide)] at h
  have z : good b l n (25 - 25) d = false := by
    cases z : good b l n (25 - 25) d with
    | false => rfl
    | true =>
      obtain ⟨_, _, m, _⟩ := good_parts z
      have := may_ge m
      omega
  rw [z, if_neg Bool.false_ne_true, List.append_nil] at h
  exact h
theorem dups_snoc (as : List Nat) (d : Nat) : (as ++ [d]).eraseDups = if d ∈ as then as.eraseDups else as.eraseDups ++ [d] := by
  rw [List.eraseDups_append]
  by_cases h : d ∈ as
  · rw [if_pos h]
    have e : [d].removeAll as = [] := by simp [List.removeAll, h]
    rw [e]
    simp
  · rw [if_neg h]
    have e : [d].removeAll as = [d] := by simp [List.removeAll, h]
    rw [e]
    simp [List.eraseDups_cons]
theorem stepsBy_zero {b : Board} {l : List Nat} {n : Nat} : stepsBy b l n 0 = [] := by
  unfold stepsBy
  simp
theorem stepsBy_again {b : Board} {l : List Nat} {n i d : Nat} (hi : l[i]? = some d) (h : d ∈ l.take i) : stepsBy b l n (i + 1) = stepsBy b l n i := by
  unfold stepsBy
  rw [List.take_add_one, hi]
  show ((l.take i ++ [d]).eraseDups).flatMap _ = _
  rw [dups_snoc, if_pos h]
theorem stepsBy_new {b : Board} {l : List Nat} {n i d : Nat} (hi : l[i]? = some d) (h : ¬ d ∈ l.take i) : stepsBy b l n (i + 1) = stepsBy b l n i ++ stepsOf b l n d := by
  unfold stepsBy
  rw [List.take_add_one, hi]
  show ((l.take i ++ [d]).eraseDups).flatMap _ = _
  rw [dups_snoc, if_neg h, List.flatMap_append]
  simp
theorem stepsBy_all {b : Board} {l : List Nat} {n : Nat} : stepsBy b l n l.length = steps b l n := by
  unfold stepsBy
  rw [List.take_length]
  rfl
/-! ### pips -/
theorem pips_sum {s : Side} (hl : s.length = 26) : (s.zipIdx.map fun x => x.2 * x.1).sum = pips s := by
  unfold pips
  congr 1
  refine List.ext_getElem? fun i => ?_
  rw [List.getElem?_map, List.getElem?_map, List.getElem?_zipIdx]
  by_cases h : i < 26
  · rw [List.getElem?_range h, List.getElem?_eq_getElem (by omega)]
    show some (((0 + i) * s[i]'(by omega))) = some (i * at_ s i)
    unfold at_
    rw [List.getD_eq_getElem?_getD, List.getElem?_eq_getElem (by omega), Nat.zero_add]
    rfl
  · rw [List.getElem?_eq_none (by omega), List.getElem?_eq_none (by rw [List.length_range]; omega)]
    rfl
end BG
namespace BG
open PySem PySem.Spec PyProof.Rows L2
/-! ### rules of my own: xs[i] op= e of a list; d[k] of a written dict with whole numbers for keys -/
/-- what xs[j] op= e reads, j not below 0 -/
def rGet (K : PySem.W.Frag) : R2 := fun x y H Q => ∃ (l : Addr) (xs : List V) (j : Nat) (z : V), x = .ref l ∧ y = .int (j : Int) ∧ SqL K H l xs ∧ xs[j]? = some z ∧ Q z H
theorem get_list {X : Cx} : PGet X (rGet X.K) := fun pins s σ H x y u v Q I rx ry h => by
  obtain ⟨l, xs, j, z, ex, ey, hs, hj, q⟩ := h
  subst ex ey
  obtain rfl : u = Value.ref l := rx
  obtain ⟨t, rfl⟩ := ry
  obtain ⟨vals, rel, at_, few⟩ := I.list hs
  obtain ⟨w, hw, rw'⟩ := Vals.get rel hj
  have hlt : j < xs.length := (List.getElem?_eq_some_iff.mp hj).1
  have hlen := Vals.length rel
  refine wpAny_getItem_list at_.isList (Int.natCast_nonneg j) ?_ (by simpa using hw) ⟨z, H, I, rw', q⟩
  have := line63
  omega
/-- a dict of the module, whole numbers for keys: what stands at k -/
def KInt (K : PySem.W.Frag) (a : Addr) (k : Int) (v : V) : Prop :=
  ∃ es n u, K.lookup a = some ⟨.type "dict", none, .dict es n, #[]⟩ ∧ IntKeys es ∧ findBy Value.isInt es k = some u ∧ RelV v u
def rIxI (K : PySem.W.Frag) : R2 := fun x y H Q => ∃ p k v, x = .ref p ∧ y = .int k ∧ KInt K p k v ∧ Q v H
theorem ix_kint {X : Cx} : IxR X (rIxI X.K) := by
  intro value slice pins s σ H x y v u Q I rx ry h hs
  obtain ⟨p, k, r, rfl, rfl, ⟨es, n, u0, hl, hk, e, ru⟩, q⟩ := h
  obtain rfl : v = Value.ref p := rx
  obtain ⟨t, rfl⟩ := ry
  have hm : s.heap.IntMap p (fun k => findBy Value.isInt es k) := ⟨_, es, n, I.kIn _ _ hl, rfl, rfl, hk, fun _ => rfl⟩
  exact tail_any hm.typeIs slot_dict_getitem.lookup (wpAny_getItem_intMap hm e ⟨r, H, I.tok _, ru, q⟩) hs
/-! ### short words -/
theorem same_upd {H : Hp} {p : Addr} {o : HO} (h : H p = none) : Same H (upd H p o) := fun b x e => by
  rw [upd_ne (ne_of_none e h)]
  exact e
/-- a def of the program that keeps its promise -/
def DOk (P : Program) (w : World) (K : PySem.W.Frag) (mg : Str → Option Value) (base : Heap) (k : Nat) (x : Str) (ps : List Str) (sp : Sp) : Prop :=
  ∃ f fd, FnOk P w K mg base CX0 k f fd ps sp ∧ mg x = some (.ref f) ∧ PySem.W.keepIn K (.ref f) = true ∧ Binds K fd ps []
/-- a def as the top has written it -/
def Dw0 (K : PySem.W.Frag) (mg : Str → Option Value) (x : Str) (st : Stmt) (ps : List Str) : Prop :=
  ∃ f fd, Fun K x x st f fd ∧ mg x = some (.ref f) ∧ Binds K fd ps []
theorem Dw0.ok {P : Program} {w : World} {K : PySem.W.Frag} {mg : Str → Option Value} {base : Heap} {k : Nat} {x : Str} {st : Stmt} {ps : List Str} {sp : Sp} (D : Dw0 K mg x st ps)
    (h : ∀ f fd, Fun K x x st f fd → FnOk P w K mg base CX0 k f fd ps sp) : DOk P w K mg base k x ps sp := by
  obtain ⟨f, fd, F, m, b⟩ := D
  exact ⟨f, fd, h f fd F, m, F.kp, b⟩
/-- a constant of the module: a whole number -/
def KI (mg : Str → Option Value) (x : Str) (i : Int) : Prop := ∃ t, mg x = some (.int i t)
def topS (i : Nat) : Stmt := PySem.Challenge.pw_cubematch_s01_answers.main.body.getD i (.Pass ⟨0, 0, 0, 0⟩)
/-- numbers in a list -/
def cs (s : List Nat) : List V := s.map fun (n : Nat) => V.int (n : Int)
theorem cs_len (s : List Nat) : (cs s).length = s.length := List.length_map _
theorem cs_get {s : List Nat} {i : Nat} (h : i < s.length) : (cs s)[i]? = some (.int ((Kg61.at_ s i : Nat) : Int)) := by
  unfold cs Kg61.at_
  rw [List.getElem?_map, List.getElem?_eq_getElem h, List.getD_eq_getElem?_getD, List.getElem?_eq_getElem h]
  rfl
theorem cs_set (s : List Nat) (i n : Nat) : (cs s).set i (.int (n : Int)) = cs (s.set i n) := by
  unfold cs
  rw [List.map_set]
end BG
namespace BG
open PySem PySem.Spec PyProof.Rows L2
theorem pe_ki {X : Cx} {x : Str} {i : Int} {pos : Pos} (h : KI X.mg x i) (hg : Gl X x) (hd : (x == ("__debug__" : Str)) = false := by decide) : PE X (.Name x pos) (tC (.int i)) := by
  obtain ⟨t, e⟩ := h
  exact pe_glob hg e ⟨t, rfl⟩ hd
theorem pe_gref {X : Cx} {x : Str} {a : Addr} {pos : Pos} (h : X.mg x = some (.ref a)) (hg : Gl X x) (hd : (x == ("__debug__" : Str)) = false := by decide) : PE X (.Name x pos) (tC (.ref a)) := pe_glob (v := .ref a) hg h rfl hd
/-- a class that makes objects, its __init__ that keeps its promise -/
def MOk (P : Program) (w : World) (K : PySem.W.Frag) (mg : Str → Option Value) (base : Heap) (C : Addr) (k : Nat) (x : Str) (ps : List Str) (sp : Sp) : Prop :=
  ∃ f fd, Mk K C f ∧ FnOk P w K mg base CX0 k f fd ps sp ∧ mg x = some (.ref C) ∧ Binds K fd ps []
theorem cut_from (xs : List V) (k : Nat) : cutV xs (some (k : Int)) none = xs.drop k := by
  unfold cutV
  rw [HT.sIx_nat, HT.sIx_none]
  by_cases h : k ≤ xs.length
  · rw [Nat.min_eq_left h]
    exact List.take_of_length_le (by rw [List.length_drop]; exact Nat.le_refl _)
  · rw [Nat.min_eq_right (by omega), List.drop_length, List.drop_eq_nil_of_le (by omega), List.take_nil]
theorem cut_to (xs : List V) (k : Nat) : cutV xs none (some (k : Int)) = xs.take k := by
  unfold cutV
  rw [HT.sIx_nat, HT.sIx_none, List.drop_zero, Nat.sub_zero]
  by_cases h : k ≤ xs.length
  · rw [Nat.min_eq_left h]
  · rw [Nat.min_eq_right (by omega), List.take_length, List.take_of_length_le (by omega)]
theorem cs_drop (s : List Nat) (k : Nat) : (cs s).drop k = cs (s.drop k) := by
  unfold cs
  rw [List.map_drop]
theorem cs_take (s : List Nat) (k : Nat) : (cs s).take k = cs (s.take k) := by
  unfold cs
  rw [List.map_take]
theorem cs_append (s t : List Nat) : cs s ++ cs t = cs (s ++ t) := by
  unfold cs
  rw [List.map_append]
theorem cs_flat : ∀ s : List Nat, (cs s).all flatV = true
  | [] => rfl
  | x :: r => by
    show (flatV (.int x) && (cs r).all flatV) = true
    rw [cs_flat r]
    rfl
theorem cs_in : ∀ (s : List Nat) (d : Nat), inV (.int (d : Int)) (cs s) = decide (d ∈ s)
  | [], d => by simp [inV, cs]
  | x :: r, d => by
    have ih := cs_in r d
    show (eqV (.int (x : Int)) (.int (d : Int)) || inV (.int (d : Int)) (cs r)) = decide (d ∈ x :: r)
    rw [ih]
    have e : eqV (.int (x : Int)) (.int (d : Int)) = decide (x = d) := by
      show decide ((x : Int) = (d : Int)) = decide (x = d)
      by_cases h : x = d
      · subst h; simp
      · rw [decide_eq_false h, decide_eq_false (by omega)]
    rw [e]
    by_cases h : d ∈ r
    · simp [h]
    · by_cases h2 : x = d
      · simp [h2]
      · have : ¬ d = x := fun q => h2 q.symm
        simp [h, h2, this]
theorem nat_sum : ∀ l : List Nat, (l.map fun (n : Nat) => (n : Int)).sum = ((l.sum : Nat) : Int)
  | [] => rfl
  | x :: r => by
    rw [List.map_cons, List.sum_cons, List.sum_cons, nat_sum r]
    omega
theorem cs_ints (s : List Nat) : cs s = (s.map fun (n : Nat) => (n : Int)).map V.int := by
  unfold cs
  rw [List.map_map]
  rfl
end BG
namespace BG
open PySem PySem.Spec PyProof.Rows L2
/-! ### the board: what the top holds -/
structure Txt (K : PySem.W.Frag) (mg : Str → Option Value) : Prop where
  c_OFF : KI mg "OFF" 0
  c_BAR : KI mg "BAR" 25
  c_LAST_HOME_POINT : KI mg "LAST_HOME_POINT" 6
  c_CHECKERS : KI mg "CHECKERS" 15
  z_sum : mg "sum" = none
  z_max : mg "max" = none
  z_min : mg "min" = none
  z_len : mg "len" = none
  z_list : mg "list" = none
  z_range : mg "range" = none
  z_enumerate : mg "enumerate" = none
/-! ### the board in the heap, as w sees it -/
def BdAt (H : Hp) (B : Addr) (b : Kg61.Board) (w : Nat) : Prop := ∃ a0 a1, H B = some (.lst [.ref a0, .ref a1]) ∧ H a0 = some (.lst (cs (side0 b w))) ∧ H a1 = some (.lst (cs (side1 b w)))
theorem BdAt.same {H H' : Hp} {B : Addr} {b : Kg61.Board} {w : Nat} (h : BdAt H B b w) (e : Same H H') : BdAt H' B b w := by
  obtain ⟨a0, a1, h1, h2, h3⟩ := h
  exact ⟨a0, a1, e _ _ h1, e _ _ h2, e _ _ h3⟩
theorem BdAt.sides {H : Hp} {B : Addr} {b : Kg61.Board} {w : Nat} (h : BdAt H B b w) (hw : w < 2) : ∃ xs ao at', H B = some (.lst xs) ∧ atI xs (w : Int) = some (.ref ao) ∧ atI xs (1 - (w : Int)) = some (.ref at') ∧
    H ao = some (.lst (cs b.own)) ∧ H at' = some (.lst (cs b.other)) := by
  obtain ⟨a0, a1, h1, h2, h3⟩ := h
  match w, hw with
  | 0, _ => exact ⟨_, a0, a1, h1, rfl, rfl, h2, h3⟩
  | 1, _ => exact ⟨_, a1, a0, h1, rfl, rfl, h3, h2⟩
section
variable {P : Program} {w : World} {K : PySem.W.Frag} {mg : Str → Option Value} {base : Heap}
abbrev s_others_place : Stmt := topS 8
theorem sc_others_place : FnScope ["point"] ["point"] (defScope s_others_place) := ⟨rfl, rfl, rfl, by decide +kernel, rfl, by decide +kernel, by decide +kernel⟩
def sp_others_place : Sp := fun vs H Q _ => ∃ p : Int, vs = [.int p] ∧ Q (.int (25 - p)) H
theorem ok_others_place (D : Dw0 K mg "others_place" s_others_place ["point"]) : DOk P w K mg base 1 "others_place" ["point"] (sp_others_place) := by
  refine D.ok fun f fd F => F.ok sc_others_place (fun vs H Q E h => ?_) (fun cdv A outer s H vs Q E hr h => ?_)
  · obtain ⟨p, rfl, _⟩ := h
    rfl
  · obtain ⟨p, rfl, q⟩ := h
    refine ⟨_, (pss_one (ps_ret (pe_op op_sub pe_int (pv 0)))), ?_⟩
    exact ⟨_, rfl, _, _, rfl, rfl, q⟩
abbrev s_has_none_beyond : Stmt := topS 10
theorem sc_has_none_beyond : FnScope ["side", "place"] ["side", "place"] (defScope s_has_none_beyond) := ⟨rfl, rfl, rfl, by decide +kernel, rfl, by decide +kernel, by decide +kernel⟩
def sp_has_none_beyond : Sp := fun vs H Q _ => ∃ (a : Addr) (s : List Nat) (p : Nat), vs = [.ref a, .int (p : Int)] ∧ H a = some (.lst (cs s)) ∧ s.length = 26 ∧ ∀ H', Same H H' → Q (.bl (Kg61.above s p == 0)) H'
theorem ok_has_none_beyond (T : Txt K mg) (D : Dw0 K mg "has_none_beyond" s_has_none_beyond ["side", "place"]) : DOk P w K mg base 1 "has_none_beyond" ["side", "place"] (sp_has_none_beyond) := by
  refine D.ok fun f fd F => F.ok sc_has_none_beyond (fun vs H Q E h => ?_) (fun cdv A outer s H vs Q E hr h => ?_)
  · obtain ⟨a, s, p, rfl, _⟩ := h
    rfl
  · obtain ⟨a, s, p, rfl, hs, hl, q⟩ := h
    refine ⟨_, (pss_one (ps_ret (pe_cmpR op_eq (pe_callB (cr_sum rfl) (by rfl) T.z_sum (by decide +kernel) (pa_cons (pe_slice sl_list (pv 0) (po_some (pe_op op_add (pv 1) pe_int)) po_none) pa_nil)) pe_int (nomark _)))), ?_⟩
    refine ⟨_, rfl, _, rfl, _, _, rfl, rfl, _, rfl, a, _, rfl, SqL.of hs, fun n hn => ?_⟩
    rw [show (p : Int) + 1 = ((p + 1 : Nat) : Int) from rfl]
    refine ⟨n, (s.drop (p + 1)).map fun (n : Nat) => (n : Int), rfl, SqL.of ?_, rfl, ?_⟩
    · rw [upd_same, cut_from, cs_drop, cs_ints]
    · have e : decide (V.int ((s.drop (p + 1)).map fun (n : Nat) => (n : Int)).sum = V.int 0) = (Kg61.above s p == 0) := by
        rw [nat_sum]
        have z := above_zero (p := p) hl
        by_cases c : Kg61.above s p = 0
        · rw [z.mp c, c]; rfl
        · have c2 : ¬ (s.drop (p + 1)).sum = 0 := fun x => c (z.mpr x)
          rw [beq_eq_false_iff_ne.mpr c, decide_eq_false]
          intro x
          have := V.int.inj x
          omega
      rw [e]
      exact q _ (same_upd hn)
abbrev s_may_go_off : Stmt := topS 11
theorem sc_may_go_off : FnScope ["side", "place", "die"] ["side", "place", "die"] (defScope s_may_go_off) := ⟨rfl, rfl, rfl, by decide +kernel, rfl, by decide +kernel, by decide +kernel⟩
def sp_may_go_off : Sp := fun vs H Q _ => ∃ (a : Addr) (s : List Nat) (p d : Nat), vs = [.ref a, .int (p : Int), .int (d : Int)] ∧ H a = some (.lst (cs s)) ∧ s.length = 26 ∧
  ∀ H', Same H H' → Q (.bl (Kg61.above s 6 == 0 && (d == p || Kg61.above s p == 0))) H'
theorem ok_may_go_off (T : Txt K mg) (d_has_none_beyond : DOk P w K mg base 1 "has_none_beyond" ["side", "place"] (sp_has_none_beyond)) (D : Dw0 K mg "may_go_off" s_may_go_off ["side", "place", "die"]) : DOk P w K mg base 2 "may_go_off" ["side", "place", "die"] (sp_may_go_off) := by
  obtain ⟨f_has_none_beyond, fd_has_none_beyond, G_has_none_beyond, m_has_none_beyond, k_has_none_beyond, b_has_none_beyond⟩ := d_has_none_beyond
  refine D.ok fun f fd F => F.ok sc_may_go_off (fun vs H Q E h => ?_) (fun cdv A outer s H vs Q E hr h => ?_)
  · obtain ⟨a, s, p, d, rfl, _⟩ := h
    rfl
  · obtain ⟨a, s, p, d, rfl, hs, hl, q⟩ := h
    refine ⟨_, (pss_cons (ps_if (pt_not (pt_val (pe_call G_has_none_beyond (hr.mono (by first | decide | omega)) (by rfl) m_has_none_beyond k_has_none_beyond b_has_none_beyond .nil pass0 (pa_cons (pv 0) (pa_cons (pe_ki T.c_LAST_HOME_POINT (by rfl)) pa_nil)))))
      (pss_one (ps_ret pe_bl))
      pss_nil)
    (pss_one (ps_ret (pe_or (pe_cmpR op_eq (pv 2) (pv 1) (nomark _)) (pe_one (pe_call G_has_none_beyond (hr.mono (by first | decide | omega)) (by rfl) m_has_none_beyond k_has_none_beyond b_has_none_beyond .nil pass0 (pa_cons (pv 0) (pa_cons (pv 1) pa_nil)))))))), ?_⟩
    refine ⟨_, rfl, a, s, 6, rfl, hs, hl, fun H1 e1 => ⟨_, rfl, ?_⟩⟩
    cases c : (Kg61.above s 6 == 0) with
    | false =>
      rw [c, Bool.false_and] at q
      exact iteT (q _ e1)
    | true =>
      rw [c, Bool.true_and] at q
      refine iteF ?_
      refine ⟨_, rfl, _, rfl, rfl, _, rfl, ?_⟩
      have ed : decide (V.int (d : Int) = V.int (p : Int)) = (d == p) := by
        by_cases e : d = p
        · subst e; simp
        · rw [beq_eq_false_iff_ne.mpr e, decide_eq_false]
          intro x
          have := V.int.inj x
          omega
      rw [ed]
      cases c2 : (d == p) with
      | true =>
        rw [c2, Bool.true_or] at q
        exact iteT (q _ e1)
      | false =>
        rw [c2, Bool.false_or] at q
        refine iteF ?_
        exact ⟨_, rfl, _, rfl, a, s, p, rfl, e1 _ _ hs, hl, fun H2 e2 => q _ (e1.trans e2)⟩
abbrev s_may_step : Stmt := topS 12
theorem sc_may_step : FnScope ["board", "player", "place", "die", "side"] ["board", "player", "place", "die"] (defScope s_may_step) := ⟨rfl, rfl, rfl, by decide +kernel, rfl, by decide +kernel, by decide +kernel⟩
def sp_may_step : Sp := fun vs H Q _ => ∃ (B : Addr) (b : Kg61.Board) (w p d : Nat), vs = [.ref B, .int (w : Int), .int (p : Int), .int (d : Int)] ∧ BdAt H B b w ∧ WFB b ∧ w < 2 ∧ 1 ≤ p ∧ p ≤ 25 ∧ 1 ≤ d ∧
  ∀ H', Same H H' → Q (.bl (Kg61.may b p d)) H'
theorem int_eq (a b : Nat) : decide (V.int (a : Int) = V.int (b : Int)) = (a == b) := by
  by_cases e : a = b
  · subst e; simp
  · rw [beq_eq_false_iff_ne.mpr e, decide_eq_false]
    intro x
    have := V.int.inj x
    omega
theorem ok_may_step (T : Txt K mg) (d_others_place : DOk P w K mg base 1 "others_place" ["point"] (sp_others_place)) (d_may_go_off : DOk P w K mg base 2 "may_go_off" ["side", "place", "die"] (sp_may_go_off)) (D : Dw0 K mg "may_step" s_may_step ["board", "player", "place", "die"]) : DOk P w K mg base 3 "may_step" ["board", "player", "place", "die"] (sp_may_step) := by
  obtain ⟨f_others_place, fd_others_place, G_others_place, m_others_place, k_others_place, b_others_place⟩ := d_others_place
  obtain ⟨f_may_go_off, fd_may_go_off, G_may_go_off, m_may_go_off, k_may_go_off, b_may_go_off⟩ := d_may_go_off
  refine D.ok fun f fd F => F.ok sc_may_step (fun vs H Q E h => ?_) (fun cdv A outer s H vs Q E hr h => ?_)
  · obtain ⟨B, b, w, p, d, rfl, _⟩ := h
    rfl
  · obtain ⟨B, b, w, p, d, rfl, hB, W, hw, hp1, hp2, hd1, q⟩ := h
    obtain ⟨xs, ao, at', hx, x1, x2, ho, ht⟩ := hB.sides hw
    refine ⟨_, (pss_cons (ps_set (i := 4) sc_may_step.nd rfl (.inl rfl) (pe_ix ix_list (pv 0) (pv 1) (fun _ _ => rfl)))
    (pss_cons (ps_if (pt_cmpR op_eq (pe_ix ix_list (pv 4) (pv 2) (fun _ _ => rfl)) pe_int (nomark _))
      (pss_one (ps_ret pe_bl))
      pss_nil)
    (pss_cons (ps_if (PW.pt (pw_and (pt_cmpR op_gt (pe_ix ix_list (pv 4) (pe_ki T.c_BAR (by rfl)) (fun _ _ => rfl)) pe_int (nomark _)) (pw_and1 (pt_cmpR op_ne (pv 2) (pe_ki T.c_BAR (by rfl)) (nomark _)))))
      (pss_one (ps_ret pe_bl))
      pss_nil)
    (pss_cons (ps_if (pt_cmpR op_lt (pv 3) (pv 2) (nomark _))
      (pss_one (ps_ret (pe_cmpR op_lt (pe_ix ix_list (pe_ix ix_list (pv 0) (pe_op op_sub pe_int (pv 1)) (fun _ _ => rfl)) (pe_call G_others_place (hr.mono (by first | decide | omega)) (by rfl) m_others_place k_others_place b_others_place .nil pass0 (pa_cons (pe_op op_sub (pv 2) (pv 3)) pa_nil)) (fun _ _ => rfl)) pe_int (nomark _))))
      pss_nil)
    (pss_one (ps_ret (pe_call G_may_go_off (hr.mono (by first | decide | omega)) (by rfl) m_may_go_off k_may_go_off b_may_go_off .nil pass0 (pa_cons (pv 4) (pa_cons (pv 2) (pa_cons (pv 3) pa_nil)))))))))), ?_⟩
    have em : Kg61.may b p d = (decide (0 < Kg61.at_ b.own p) && ((p == 25 || Kg61.at_ b.own 25 == 0) && (if d < p then decide (Kg61.at_ b.other (25 - (p - d)) < 2) else Kg61.above b.own 6 == 0 && (d == p || Kg61.above b.own p == 0)))) := by
      unfold Kg61.may
      rw [decide_eq_true hp1, decide_eq_true (show p ≤ Kg61.BAR from hp2), Bool.true_and, Bool.true_and]
      rfl
    have gp : (cs b.own)[p]? = some (.int ((Kg61.at_ b.own p : Nat) : Int)) := cs_get (by rw [W.own]; omega)
    have g25 : (cs b.own)[25]? = some (.int ((Kg61.at_ b.own 25 : Nat) : Int)) := cs_get (by rw [W.own]; omega)
    refine ⟨_, rfl, _, rfl, B, xs, _, _, rfl, rfl, SqL.of hx, x1, ?_⟩
    refine ⟨_, rfl, _, rfl, ao, _, _, _, rfl, rfl, SqL.of ho, atI_nat gp, rfl, _, rfl, ?_⟩
    have e0 := int_eq (Kg61.at_ b.own p) 0
    rw [show ((0 : Nat) : Int) = 0 from rfl] at e0
    rw [e0]
    refine ite2 (fun c => ?_) (fun c => ?_)
    · have c := eq_of_beq c
      rw [em, c] at q
      exact q _ (Same.refl _)
    have c : ¬ Kg61.at_ b.own p = 0 := fun x => c (by rw [x]; rfl)
    rw [decide_eq_true (show 0 < Kg61.at_ b.own p by omega), Bool.true_and] at em
    refine ⟨_, rfl, ao, _, 25, _, rfl, rfl, SqL.of ho, atI_nat (j := 25) g25, _, _, rfl, rfl, _, rfl, ?_⟩
    have rest : (p == 25 || Kg61.at_ b.own 25 == 0) = true → (tSeq (tIfS (tTest (tOp (rI0 fun i j => .bl (decide (i < j))) (tVar 3) (tVar 2))) (tRet (tOp (rI0 fun i j => .bl (decide (i < j))) (tOp (rIxL K) (tOp (rIxL K) (tVar 0) (tOp (rI0 fun i j => .int (i - j)) (tC (.int 1)) (tVar 1))) (tCall sp_others_place [] E0 (tCons (tOp (rI0 fun i j => .int (i - j)) (tVar 2) (tVar 3)) tNil))) (tC (.int 2)))) tNext)
        (tRet (tCall sp_may_go_off [] E0 (tCons (tVar 4) (tCons (tVar 2) (tCons (tVar 3) tNil)))))) { nx := fun _ H' => Q .non H', rt := Q } [some (.ref B), some (.int (w : Int)), some (.int (p : Int)), some (.int (d : Int)), some (.ref ao)] H := fun z => by
      rw [z, Bool.true_and] at em
      refine ⟨_, rfl, _, rfl, _, _, rfl, rfl, _, rfl, ?_⟩
      refine ite2 (fun c2 => ?_) (fun c2 => ?_)
      · have c2 : d < p := by
          have := of_decide_eq_true c2
          omega
        rw [if_pos c2] at em
        refine ⟨_, rfl, _, rfl, _, _, rfl, rfl, B, xs, _, _, rfl, rfl, SqL.of hx, x2, _, rfl, _, rfl, _, _, rfl, rfl, _, rfl, ?_⟩
        have gq : (cs b.other)[25 - (p - d)]? = some (.int ((Kg61.at_ b.other (25 - (p - d)) : Nat) : Int)) := cs_get (by rw [W.other]; omega)
        refine ⟨at', _, _, _, rfl, rfl, SqL.of ht, at_of (j := 25 - (p - d)) (by omega) gq, _, _, rfl, rfl, ?_⟩
        have e1 : decide (((Kg61.at_ b.other (25 - (p - d)) : Nat) : Int) < 2) = Kg61.may b p d := by
          rw [em]
          exact decide_eq_decide.mpr (by omega)
        have q1 := q _ (Same.refl _)
        rw [← e1] at q1
        exact q1
      · have c2 : ¬ d < p := fun x => c2 (decide_eq_true (by omega))
        rw [if_neg c2] at em
        refine ⟨_, rfl, _, rfl, _, rfl, ao, _, p, d, rfl, ho, W.own, fun H' e => ?_⟩
        rw [← em]
        exact q _ e
    by_cases c25 : Kg61.at_ b.own 25 = 0
    · rw [decide_eq_false (show ¬ (0 : Int) < ((Kg61.at_ b.own 25 : Nat) : Int) by omega)]
      refine iteF (iteF ?_)
      exact rest (by rw [c25]; simp)
    · rw [decide_eq_true (show (0 : Int) < ((Kg61.at_ b.own 25 : Nat) : Int) by omega)]
      refine iteT ?_
      refine ⟨_, rfl, rfl, _, rfl, ?_⟩
      have e2 := int_eq p 25
      rw [show ((25 : Nat) : Int) = 25 from rfl] at e2
      rw [e2]
      cases c3 : (p == 25) with
      | true => exact iteF (rest (by rw [c3]; rfl))
      | false =>
        refine iteT ?_
        rw [c3, beq_eq_false_iff_ne.mpr c25] at em
        rw [em] at q
        exact q _ (Same.refl _)
end
end BG
namespace BG
open PySem PySem.Spec PyProof.Rows L2
theorem ixn {n j : Nat} (hj : j < n) : ixN n (j : Int) = some j := by
  unfold ixN
  rw [if_pos (by omega), if_pos (by omega)]
  simp
/-- two new lists, one of which is w's -/
theorem two_new {w : Nat} (hw : w < 2) (l0 l1 : Addr) (ne : l0 ≠ l1) : ∃ lo lt, atI [V.ref l0, V.ref l1] (w : Int) = some (.ref lo) ∧ atI [V.ref l0, V.ref l1] (1 - (w : Int)) = some (.ref lt) ∧ lo ≠ lt ∧
    (lo = l0 ∧ lt = l1 ∨ lo = l1 ∧ lt = l0) ∧
    (∀ (H : Hp) (b : Kg61.Board), H l0 = some (.lst (cs (side0 b w))) → H l1 = some (.lst (cs (side1 b w))) → H lo = some (.lst (cs b.own)) ∧ H lt = some (.lst (cs b.other))) ∧
    (∀ (H : Hp) (b : Kg61.Board) (B : Addr), H B = some (.lst [.ref l0, .ref l1]) → H lo = some (.lst (cs b.own)) → H lt = some (.lst (cs b.other)) → BdAt H B b w) := by
  match w, hw with
  | 0, _ => exact ⟨l0, l1, rfl, rfl, ne, .inl ⟨rfl, rfl⟩, fun H b h1 h2 => ⟨h1, h2⟩, fun H b B h h1 h2 => ⟨l0, l1, h, h1, h2⟩⟩
  | 1, _ => exact ⟨l1, l0, rfl, rfl, fun e => ne e.symm, .inr ⟨rfl, rfl⟩, fun H b h1 h2 => ⟨h2, h1⟩, fun H b B h h1 h2 => ⟨l0, l1, h, h2, h1⟩⟩
/-- the board on the way to a new one -/
structure Bh (H Hk : Hp) (B lo lt : Addr) (Z X Y : List V) : Prop where
  same : Same H Hk
  b : Hk B = some (.lst Z)
  o : Hk lo = some (.lst X)
  t : Hk lt = some (.lst Y)
theorem Bh.setO {H Hk : Hp} {B lo lt : Addr} {Z X Y X' : List V} (h : Bh H Hk B lo lt Z X Y) (n : H lo = none) (n1 : B ≠ lo) (n2 : lt ≠ lo) : Bh H (upd Hk lo (.lst X')) B lo lt Z X' Y :=
  ⟨fun b o e => by rw [upd_ne (ne_of_none e n)]; exact h.same _ _ e, by rw [upd_ne n1]; exact h.b, upd_same, by rw [upd_ne n2]; exact h.t⟩
theorem Bh.setT {H Hk : Hp} {B lo lt : Addr} {Z X Y Y' : List V} (h : Bh H Hk B lo lt Z X Y) (n : H lt = none) (n1 : B ≠ lt) (n2 : lo ≠ lt) : Bh H (upd Hk lt (.lst Y')) B lo lt Z X Y' :=
  ⟨fun b o e => by rw [upd_ne (ne_of_none e n)]; exact h.same _ _ e, by rw [upd_ne n1]; exact h.b, by rw [upd_ne n2]; exact h.o, upd_same⟩
section
variable {P : Program} {w : World} {K : PySem.W.Frag} {mg : Str → Option Value} {base : Heap}
abbrev s_board_behind : Stmt := topS 13
theorem sc_board_behind : FnScope ["board", "player", "place", "die", "behind", "side", "other_side", "target"] ["board", "player", "place", "die"] (defScope s_board_behind) := ⟨rfl, rfl, rfl, by decide +kernel, rfl, by decide +kernel, by decide +kernel⟩
def sp_board_behind : Sp := fun vs H Q _ => ∃ (B : Addr) (b : Kg61.Board) (w p d : Nat), vs = [.ref B, .int (w : Int), .int (p : Int), .int (d : Int)] ∧ BdAt H B b w ∧ WFB b ∧ w < 2 ∧ p ≤ 25 ∧ 1 ≤ d ∧ 0 < Kg61.at_ b.own p ∧
  ∀ H' B', Same H H' → H B' = none → BdAt H' B' (Kg61.step b p d) w → Q (.ref B') H'
theorem ok_board_behind (T : Txt K mg) (d_others_place : DOk P w K mg base 1 "others_place" ["point"] (sp_others_place)) (D : Dw0 K mg "board_behind" s_board_behind ["board", "player", "place", "die"]) : DOk P w K mg base 2 "board_behind" ["board", "player", "place", "die"] (sp_board_behind) := by
  obtain ⟨f_others_place, fd_others_place, G_others_place, m_others_place, k_others_place, b_others_place⟩ := d_others_place
  refine D.ok fun f fd F => F.ok sc_board_behind (fun vs H Q E h => ?_) (fun cdv A outer s H vs Q E hr h => ?_)
  · obtain ⟨B, b, w, p, d, rfl, _⟩ := h
    rfl
  · obtain ⟨B, b, w, p, d, rfl, ⟨a0, a1, hB, ha0, ha1⟩, W, hw, hp2, hd1, hpos, q⟩ := h
    refine ⟨_, (pss_cons (ps_set (i := 4) sc_board_behind.nd rfl (.inl rfl) (pe_lst (pa_cons (pe_callTy call_list_of (by rfl) T.z_list (by decide +kernel) (pa_cons (pe_ix ix_list (pv 0) pe_int (fun _ _ => rfl)) pa_nil)) (pa_cons (pe_callTy call_list_of (by rfl) T.z_list (by decide +kernel) (pa_cons (pe_ix ix_list (pv 0) pe_int (fun _ _ => rfl)) pa_nil)) pa_nil))))
    (pss_cons (ps_set (i := 5) sc_board_behind.nd rfl (.inl rfl) (pe_ix ix_list (pv 4) (pv 1) (fun _ _ => rfl)))
    (pss_cons (ps_set (i := 6) sc_board_behind.nd rfl (.inl rfl) (pe_ix ix_list (pv 4) (pe_op op_sub pe_int (pv 1)) (fun _ _ => rfl)))
    (pss_cons (ps_set (i := 7) sc_board_behind.nd rfl (.inl rfl) (pe_callB (call_max2 rfl) (by rfl) T.z_max (by decide +kernel) (pa_cons (pe_op op_sub (pv 2) (pv 3)) (pa_cons (pe_ki T.c_OFF (by rfl)) pa_nil))))
    (pss_cons (ps_augS (pv 5) (pv 2) get_list pe_int ip_sub set_list)
    (pss_cons (ps_augS (pv 5) (pv 7) get_list pe_int ip_add set_list)
    (pss_cons (ps_if (PW.pt (pw_and (pt_cmpR op_ne (pv 7) (pe_ki T.c_OFF (by rfl)) (nomark _)) (pw_and1 (pt_cmpR op_eq (pe_ix ix_list (pv 6) (pe_call G_others_place (hr.mono (by first | decide | omega)) (by rfl) m_others_place k_others_place b_others_place .nil pass0 (pa_cons (pv 7) pa_nil)) (fun _ _ => rfl)) pe_int (nomark _)))))
      (pss_cons (ps_asg pe_int (pg_sub (pv 6) (pe_call G_others_place (hr.mono (by first | decide | omega)) (by rfl) m_others_place k_others_place b_others_place .nil pass0 (pa_cons (pv 7) pa_nil)) set_list))
    (pss_one (ps_augS (pv 6) (pe_ki T.c_BAR (by rfl)) get_list pe_int ip_add set_list)))
      pss_nil)
    (pss_one (ps_ret (pv 4)))))))))), ?_⟩
    -- behind = [list(board[0]), list(board[1])]
    refine ⟨_, rfl, B, _, 0, _, rfl, rfl, SqL.of hB, rfl, a0, _, rfl, .inl (SqL.of ha0), fun l0 n0 => ?_⟩
    have s0 : Same H (upd H l0 (.lst (cs (side0 b w)))) := same_upd n0
    refine ⟨_, rfl, B, _, 1, _, rfl, rfl, SqL.of (s0 _ _ hB), rfl, a1, _, rfl, .inl (SqL.of (s0 _ _ ha1)), fun l1 n1 => ?_⟩
    have s1 := s0.trans (same_upd n1 (o := .lst (cs (side1 b w))))
    have h01 : l0 ≠ l1 := ne_of_none upd_same n1
    refine ⟨(by show 2 ≤ sizeLine; decide), fun B' nB => ?_⟩
    have s2 := s1.trans (same_upd nB (o := .lst [.ref l0, .ref l1]))
    have nl1 : H l1 = none := s0.free n1
    have nB' : H B' = none := s1.free nB
    obtain ⟨lo, lt, i1, i2, hne, hor, hget, hmk⟩ := two_new hw l0 l1 h01
    have bl0 : (upd (upd H l0 (.lst (cs (side0 b w)))) l1 (.lst (cs (side1 b w)))) l0 = some (.lst (cs (side0 b w))) := by rw [upd_ne h01]; exact upd_same
    have bl1 : (upd (upd H l0 (.lst (cs (side0 b w)))) l1 (.lst (cs (side1 b w)))) l1 = some (.lst (cs (side1 b w))) := upd_same
    have nb0 : l0 ≠ B' := ne_of_none bl0 nB
    have nb1 : l1 ≠ B' := ne_of_none bl1 nB
    obtain ⟨g1, g2⟩ := hget (upd (upd (upd H l0 (.lst (cs (side0 b w)))) l1 (.lst (cs (side1 b w)))) B' (.lst [.ref l0, .ref l1])) b (by rw [upd_ne nb0]; exact bl0) (by rw [upd_ne nb1]; exact bl1)
    have nlo : H lo = none := by rcases hor with ⟨e, _⟩ | ⟨e, _⟩ <;> rw [e] <;> assumption
    have nlt : H lt = none := by rcases hor with ⟨_, e⟩ | ⟨_, e⟩ <;> rw [e] <;> assumption
    have nBo : B' ≠ lo := by rcases hor with ⟨e, _⟩ | ⟨e, _⟩ <;> rw [e] <;> (intro x; first | exact nb0 x.symm | exact nb1 x.symm)
    have nBt : B' ≠ lt := by rcases hor with ⟨_, e⟩ | ⟨_, e⟩ <;> rw [e] <;> (intro x; first | exact nb0 x.symm | exact nb1 x.symm)
    have h0 : Bh H _ B' lo lt [.ref l0, .ref l1] (cs b.own) (cs b.other) := ⟨s2, upd_same, g1, g2⟩
    generalize upd (upd (upd H l0 (.lst (cs (side0 b w)))) l1 (.lst (cs (side1 b w)))) B' (.lst [.ref l0, .ref l1]) = Hk at h0
    -- side, other_side, target
    refine ⟨_, rfl, _, rfl, B', _, _, _, rfl, rfl, SqL.of h0.b, i1, ?_⟩
    refine ⟨_, rfl, _, rfl, _, _, rfl, rfl, B', _, _, _, rfl, rfl, SqL.of h0.b, i2, ?_⟩
    refine ⟨_, rfl, _, rfl, _, _, rfl, rfl, _, _, rfl, ?_⟩
    have et : (if (0 : Int) > (p : Int) - (d : Int) then (0 : Int) else (p : Int) - (d : Int)) = ((p - d : Nat) : Int) := by
      split <;> omega
    rw [et]
    -- side[place] -= 1
    have gp : (cs b.own)[p]? = some (.int ((Kg61.at_ b.own p : Nat) : Int)) := cs_get (by rw [W.own]; omega)
    refine ⟨_, rfl, _, rfl, lo, _, _, _, rfl, rfl, SqL.of h0.o, gp, _, _, rfl, rfl, lo, _, _, p, rfl, rfl, h0.o, ixn (by rw [cs_len, W.own]; omega), ?_⟩
    dsimp only
    rw [show ((Kg61.at_ b.own p : Nat) : Int) - 1 = ((Kg61.at_ b.own p - 1 : Nat) : Int) by omega, cs_set]
    have h1 := h0.setO (X' := cs (b.own.set p (Kg61.at_ b.own p - 1))) nlo nBo hne.symm
    generalize upd Hk lo (.lst (cs (b.own.set p (Kg61.at_ b.own p - 1)))) = Hk1 at h1
    -- side[target] += 1
    have lq : p - d < (b.own.set p (Kg61.at_ b.own p - 1)).length := by rw [List.length_set, W.own]; omega
    refine ⟨_, rfl, _, rfl, lo, _, _, _, rfl, rfl, SqL.of h1.o, cs_get lq, _, _, rfl, rfl, lo, _, _, p - d, rfl, rfl, h1.o, ixn (by rw [cs_len]; exact lq), ?_⟩
    dsimp only
    rw [show ((Kg61.at_ (b.own.set p (Kg61.at_ b.own p - 1)) (p - d) : Nat) : Int) + 1 = ((Kg61.at_ (b.own.set p (Kg61.at_ b.own p - 1)) (p - d) + 1 : Nat) : Int) by omega, cs_set]
    have h2 := h1.setO (X' := cs (Kg61.fromTo b.own p (p - d))) nlo nBo hne.symm
    show tSeq _ _ _ _ (upd Hk1 lo (.lst (cs (Kg61.fromTo b.own p (p - d)))))
    generalize upd Hk1 lo (.lst (cs (Kg61.fromTo b.own p (p - d)))) = Hk2 at h2
    have eown : (Kg61.step b p d).own = Kg61.fromTo b.own p (p - d) := rfl
    have eoth : (Kg61.step b p d).other = if (decide (0 < p - d) && Kg61.at_ b.other (25 - (p - d)) == 1) = true then Kg61.fromTo b.other (25 - (p - d)) 25 else b.other := rfl
    -- if target != OFF and ..
    refine ⟨_, rfl, rfl, _, rfl, ?_⟩
    have e1 := int_eq (p - d) 0
    rw [show ((0 : Nat) : Int) = 0 from rfl] at e1
    rw [e1]
    by_cases c1 : p - d = 0
    · rw [c1]
      refine iteF (iteF ?_)
      refine ⟨_, rfl, q _ B' h2.same nB' (hmk _ _ _ h2.b ?_ ?_)⟩
      · rw [eown]; exact h2.o
      · rw [eoth, c1]; exact h2.t
    · rw [beq_eq_false_iff_ne.mpr c1]
      refine iteT ?_
      have gq : (cs b.other)[25 - (p - d)]? = some (.int ((Kg61.at_ b.other (25 - (p - d)) : Nat) : Int)) := cs_get (by rw [W.other]; omega)
      refine ⟨_, rfl, _, rfl, _, rfl, lt, _, _, _, rfl, rfl, SqL.of h2.t, at_of (j := 25 - (p - d)) (by omega) gq, rfl, _, rfl, ?_⟩
      have e2 := int_eq (Kg61.at_ b.other (25 - (p - d))) 1
      rw [show ((1 : Nat) : Int) = 1 from rfl] at e2
      rw [e2]
      by_cases c2 : Kg61.at_ b.other (25 - (p - d)) = 1
      · rw [c2]
        refine iteT ?_
        -- other_side[others_place(target)] = 0
        refine ⟨_, rfl, _, rfl, _, rfl, lt, _, _, 25 - (p - d), rfl, rfl, h2.t, ?_, ?_⟩
        · rw [show (25 : Int) - ((p - d : Nat) : Int) = ((25 - (p - d) : Nat) : Int) by omega]
          exact ixn (by rw [cs_len, W.other]; omega)
        rw [show (V.int 0) = V.int ((0 : Nat) : Int) from rfl, cs_set]
        have h3 := h2.setT (Y' := cs (b.other.set (25 - (p - d)) 0)) nlt nBt hne
        generalize upd Hk2 lt (.lst (cs (b.other.set (25 - (p - d)) 0))) = Hk3 at h3
        -- other_side[BAR] += 1
        have l25 : 25 < (b.other.set (25 - (p - d)) 0).length := by rw [List.length_set, W.other]; omega
        refine ⟨_, rfl, lt, _, 25, _, rfl, rfl, SqL.of h3.t, cs_get l25, _, _, rfl, rfl, lt, _, 25, 25, rfl, rfl, h3.t, ixn (j := 25) (by rw [cs_len]; exact l25), ?_⟩
        dsimp only
        rw [show ((Kg61.at_ (b.other.set (25 - (p - d)) 0) 25 : Nat) : Int) + 1 = ((Kg61.at_ (b.other.set (25 - (p - d)) 0) 25 + 1 : Nat) : Int) by omega, cs_set]
        have eft : (b.other.set (25 - (p - d)) 0).set 25 (Kg61.at_ (b.other.set (25 - (p - d)) 0) 25 + 1) = Kg61.fromTo b.other (25 - (p - d)) 25 := by
          unfold Kg61.fromTo
          rw [c2]
        rw [eft]
        have h4 := h3.setT (Y' := cs (Kg61.fromTo b.other (25 - (p - d)) 25)) nlt nBt hne
        refine ⟨_, rfl, q _ B' h4.same nB' (hmk _ _ _ h4.b ?_ ?_)⟩
        · rw [eown]; exact h4.o
        · rw [eoth, if_pos (by rw [c2, decide_eq_true (show 0 < p - d by omega)]; rfl)]; exact h4.t
      · rw [beq_eq_false_iff_ne.mpr c2]
        refine iteF ?_
        refine ⟨_, rfl, q _ B' h2.same nB' (hmk _ _ _ h2.b ?_ ?_)⟩
        · rw [eown]; exact h2.o
        · rw [eoth, if_neg (by rw [beq_eq_false_iff_ne.mpr c2, Bool.and_false]; exact Bool.false_ne_true)]; exact h2.t
end
end BG
namespace BG
open PySem PySem.Spec PyProof.Rows L2
section
variable {P : Program} {w : World} {K : PySem.W.Frag} {mg : Str → Option Value} {base : Heap}
abbrev s_most_with_first : Stmt := topS 14
theorem sc_most_with_first : FnScope ["board", "player", "die", "rest", "most", "place", "behind"] ["board", "player", "die", "rest"] (defScope s_most_with_first) := ⟨rfl, rfl, rfl, by decide +kernel, rfl, by decide +kernel, by decide +kernel⟩
abbrev s_most_usable : Stmt := topS 15
theorem sc_most_usable : FnScope ["board", "player", "dice", "most", "index", "die", "rest"] ["board", "player", "dice"] (defScope s_most_usable) := ⟨rfl, rfl, rfl, by decide +kernel, rfl, by decide +kernel, by decide +kernel⟩
def sp_most_with_first (n : Nat) : Sp := fun vs H Q _ => ∃ (B R : Addr) (b : Kg61.Board) (w d : Nat) (rest : List Nat), vs = [.ref B, .int (w : Int), .int (d : Int), .ref R] ∧ BdAt H B b w ∧ WFB b ∧ w < 2 ∧ 1 ≤ d ∧
  H R = some (.lst (cs rest)) ∧ Dice rest ∧ rest.length + 1 ≤ n ∧ rest.length ≤ 4 ∧
  ∀ H' (v : Nat), Same H H' → (∀ p, Kg61.may b p d = true → 1 + Kg61.most (Kg61.step b p d) rest ≤ v) → (v = 0 ∨ ∃ p, Kg61.may b p d = true ∧ v = 1 + Kg61.most (Kg61.step b p d) rest) → Q (.int (v : Int)) H'
def sp_most_usable (n : Nat) : Sp := fun vs H Q _ => ∃ (B D : Addr) (b : Kg61.Board) (w : Nat) (l : List Nat), vs = [.ref B, .int (w : Int), .ref D] ∧ BdAt H B b w ∧ WFB b ∧ w < 2 ∧
  H D = some (.lst (cs l)) ∧ Dice l ∧ l.length + 1 ≤ n ∧ l.length ≤ 4 ∧ ∀ H', Same H H' → Q (.int ((Kg61.most b l : Nat) : Int)) H'
theorem max_nat (a b : Nat) : (if (b : Int) > (a : Int) then (b : Int) else (a : Int)) = ((max a b : Nat) : Int) := by
  split <;> omega
theorem ok_most_with_first (T : Txt K mg) (d_may_step : DOk P w K mg base 3 "may_step" ["board", "player", "place", "die"] (sp_may_step)) (d_board_behind : DOk P w K mg base 2 "board_behind" ["board", "player", "place", "die"] (sp_board_behind)) {n : Nat} {f f_most_usable : Addr} {fd fd_most_usable : FuncData} (F : Fun K "most_with_first" "most_with_first" s_most_with_first f fd)
    (G_most_usable : FnOk P w K mg base CX0 (2 * n + 4) f_most_usable fd_most_usable ["board", "player", "dice"] (sp_most_usable n)) (m_most_usable : mg "most_usable" = some (.ref f_most_usable)) (k_most_usable : PySem.W.keepIn K (.ref f_most_usable) = true) (b_most_usable : Binds K fd_most_usable ["board", "player", "dice"] []) :
    FnOk P w K mg base CX0 (2 * n + 5) f fd ["board", "player", "die", "rest"] (sp_most_with_first n) := by
  obtain ⟨f_may_step, fd_may_step, G_may_step, m_may_step, k_may_step, b_may_step⟩ := d_may_step
  obtain ⟨f_board_behind, fd_board_behind, G_board_behind, m_board_behind, k_board_behind, b_board_behind⟩ := d_board_behind
  refine F.ok sc_most_with_first (fun vs H Q E h => ?_) (fun cdv A outer s H vs Q E hr h => ?_)
  · obtain ⟨B, R, b, w, d, rest, rfl, _⟩ := h
    rfl
  · obtain ⟨B, R, b, w, d, rest, rfl, hB, W, hw, hd1, hR, hD, hn, h4, q⟩ := h
    refine ⟨_, (pss_cons (ps_set (i := 4) sc_most_with_first.nd rfl (.inl rfl) pe_int)
    (pss_cons (ps_for PassesOwn.never rfl (pi_range2 (by rfl) T.z_range (pa_cons pe_int (pa_cons (pe_op op_add (pe_ki T.c_BAR (by rfl)) pe_int) pa_nil))) (pg_name (i := 5) sc_most_with_first.nd rfl (.inl rfl))
      (pss_one (ps_if (pt_val (pe_call G_may_step (hr.mono (by first | decide | omega)) (by rfl) m_may_step k_may_step b_may_step .nil pass0 (pa_cons (pv 0) (pa_cons (pv 1) (pa_cons (pv 5) (pa_cons (pv 2) pa_nil))))))
      (pss_cons (ps_set (i := 6) sc_most_with_first.nd rfl (.inl rfl) (pe_call G_board_behind (hr.mono (by first | decide | omega)) (by rfl) m_board_behind k_board_behind b_board_behind .nil pass0 (pa_cons (pv 0) (pa_cons (pv 1) (pa_cons (pv 5) (pa_cons (pv 2) pa_nil))))))
    (pss_cons (ps_set (i := 4) sc_most_with_first.nd rfl (.inl rfl) (pe_callB (call_max2 rfl) (by rfl) T.z_max (by decide +kernel) (pa_cons (pv 4) (pa_cons (pe_op op_add pe_int (pe_call G_most_usable (hr.mono (by first | decide | omega)) (by rfl) m_most_usable k_most_usable b_most_usable .nil pass0 (pa_cons (pv 6) (pa_cons (pv 1) (pa_cons (pv 3) pa_nil))))) pa_nil))))
    (pss_one (ps_if (pt_cmpR op_eq (pv 4) (pe_op op_add pe_int (pe_callB call_len_seq (by rfl) T.z_len PySem.boot_len (pa_cons (pv 3) pa_nil))) (nomark _))
      (pss_one (ps_ret (pv 4)))
      pss_nil))))
      pss_nil)))
    (pss_one (ps_ret (pv 4))))), ?_⟩
    refine ⟨_, _, rfl, rfl, 1, 26, rfl, ⟨by decide, by decide, by decide, by decide⟩, ?_⟩
    refine for_range (lo := 1) (n := 25) (fun i σ H' => ∃ (v : Nat) (x5 x6 : Option V), σ = [some (.ref B), some (.int (w : Int)), some (.int (d : Int)), some (.ref R), some (.int (v : Int)), x5, x6] ∧ Same H H' ∧
      (∀ p, p ≤ i → Kg61.may b p d = true → 1 + Kg61.most (Kg61.step b p d) rest ≤ v) ∧ (v = 0 ∨ ∃ p, Kg61.may b p d = true ∧ v = 1 + Kg61.most (Kg61.step b p d) rest))
      ⟨0, none, none, rfl, Same.refl _, fun p hp m => by have := (may_ge m).1; omega, .inl rfl⟩ ?_ ?_
    · rintro i σ H1 hi ⟨v, x5, x6, rfl, e1, hall, hex⟩
      have ep : (1 : Int) + ((i : Nat) : Int) = ((i + 1 : Nat) : Int) := by omega
      rw [ep]
      -- if may_step(board, player, place, die)
      refine ⟨_, rfl, _, rfl, _, rfl, _, rfl, B, b, w, i + 1, d, rfl, hB.same e1, W, hw, by omega, by omega, hd1, fun H2 e2 => ⟨_, rfl, ?_⟩⟩
      refine ite2 (fun cm => ?_) (fun cm => ?_)
      · -- behind = board_behind(..)
        refine ⟨_, rfl, _, rfl, _, rfl, _, rfl, B, b, w, i + 1, d, rfl, (hB.same e1).same e2, W, hw, by omega, hd1, (may_ge cm).2.2, fun H3 B' e3 n3 hB' => ?_⟩
        -- most = max(most, 1 + most_usable(..))
        refine ⟨_, rfl, _, rfl, _, rfl, _, rfl, B', R, Kg61.step b (i + 1) d, w, rest, rfl, hB', step_wf W, hw, e3 _ _ (e2 _ _ (e1 _ _ hR)), hD, hn, h4, fun H4 e4 => ?_⟩
        refine ⟨_, _, rfl, rfl, _, _, rfl, ?_⟩
        have es : Same H H4 := e1.trans (e2.trans (e3.trans e4))
        dsimp only
        rw [show (1 : Int) + ((Kg61.most (Kg61.step b (i + 1) d) rest : Nat) : Int) = ((1 + Kg61.most (Kg61.step b (i + 1) d) rest : Nat) : Int) by omega, max_nat]
        have hall' : ∀ p, p ≤ i + 1 → Kg61.may b p d = true → 1 + Kg61.most (Kg61.step b p d) rest ≤ max v (1 + Kg61.most (Kg61.step b (i + 1) d) rest) := fun p hp m => by
          by_cases e : p = i + 1
          · subst e; exact Nat.le_max_right _ _
          · exact Nat.le_trans (hall p (by omega) m) (Nat.le_max_left _ _)
        have hex' : max v (1 + Kg61.most (Kg61.step b (i + 1) d) rest) = 0 ∨ ∃ p, Kg61.may b p d = true ∧ max v (1 + Kg61.most (Kg61.step b (i + 1) d) rest) = 1 + Kg61.most (Kg61.step b p d) rest := by
          by_cases e : v ≤ 1 + Kg61.most (Kg61.step b (i + 1) d) rest
          · exact .inr ⟨i + 1, cm, Nat.max_eq_right e⟩
          · rw [Nat.max_eq_left (by omega)]
            exact hex
        generalize max v (1 + Kg61.most (Kg61.step b (i + 1) d) rest) = v' at hall' hex'
        -- if most == 1 + len(rest): return most
        refine ⟨_, rfl, _, rfl, R, _, rfl, .inl (SqL.of (es _ _ hR)), _, _, rfl, rfl, rfl, _, rfl, ?_⟩
        refine ite2 (fun c => ?_) (fun c => ?_)
        · have c : V.int (v' : Int) = V.int (1 + ((cs rest).length : Int)) := of_decide_eq_true c
          have c := V.int.inj c
          rw [cs_len] at c
          refine ⟨_, rfl, q H4 v' es (fun p m => ?_) hex'⟩
          have := most_len (b := Kg61.step b p d) (l := rest)
          omega
        · exact ⟨v', _, _, rfl, es, hall', hex'⟩
      · have cm : Kg61.may b (i + 1) d = false := by simpa using cm
        refine ⟨v, _, _, rfl, e1.trans e2, fun p hp m => ?_, hex⟩
        by_cases e : p = i + 1
        · subst e; rw [cm] at m; cases m
        · exact hall p (by omega) m
    · rintro σ H1 ⟨v, x5, x6, rfl, e1, hall, hex⟩
      exact ⟨_, rfl, q H1 v e1 (fun p m => hall p (may_ge m).2.1 m) hex⟩
theorem ok_most_usable (T : Txt K mg) {n : Nat} {f f_most_with_first : Addr} {fd fd_most_with_first : FuncData} (F : Fun K "most_usable" "most_usable" s_most_usable f fd)
    (G_most_with_first : FnOk P w K mg base CX0 (2 * n + 5) f_most_with_first fd_most_with_first ["board", "player", "die", "rest"] (sp_most_with_first n)) (m_most_with_first : mg "most_with_first" = some (.ref f_most_with_first)) (k_most_with_first : PySem.W.keepIn K (.ref f_most_with_first) = true) (b_most_with_first : Binds K fd_most_with_first ["board", "player", "die", "rest"] []) :
    FnOk P w K mg base CX0 (2 * n + 6) f fd ["board", "player", "dice"] (sp_most_usable (n + 1)) := by
  refine F.ok sc_most_usable (fun vs H Q E h => ?_) (fun cdv A outer s H vs Q E hr h => ?_)
  · obtain ⟨B, D, b, w, l, rfl, _⟩ := h
    rfl
  · obtain ⟨B, D, b, w, l, rfl, hB, W, hw, hD, hdice, hn, h4, q⟩ := h
    refine ⟨_, (pss_cons (ps_set (i := 3) sc_most_usable.nd rfl (.inl rfl) pe_int)
    (pss_cons (ps_for PassesOwn.never rfl (pi_enum (by rfl) T.z_enumerate (pa_cons (pv 2) pa_nil)) (pg_tup rfl (pgs_cons (pg_name (i := 4) sc_most_usable.nd rfl (.inl rfl)) (pgs_cons (pg_name (i := 5) sc_most_usable.nd rfl (.inl rfl)) pgs_nil)))
      (pss_one (ps_if (pt_cmpR op_notIn_seq (pv 5) (pe_slice sl_list (pv 2) po_none (po_some (pv 4))) (by rfl))
      (pss_cons (ps_set (i := 6) sc_most_usable.nd rfl (.inl rfl) (pe_op op_cat (pe_slice sl_list (pv 2) po_none (po_some (pv 4))) (pe_slice sl_list (pv 2) (po_some (pe_op op_add (pv 4) pe_int)) po_none)))
    (pss_one (ps_set (i := 3) sc_most_usable.nd rfl (.inl rfl) (pe_callB (call_max2 rfl) (by rfl) T.z_max (by decide +kernel) (pa_cons (pv 3) (pa_cons (pe_call G_most_with_first (hr.mono (by first | decide | omega)) (by rfl) m_most_with_first k_most_with_first b_most_with_first .nil pass0 (pa_cons (pv 0) (pa_cons (pv 1) (pa_cons (pv 5) (pa_cons (pv 6) pa_nil))))) pa_nil))))))
      pss_nil)))
    (pss_one (ps_ret (pv 3))))), ?_⟩
    refine ⟨_, rfl, D, cs l, rfl, SqL.of hD, ?_⟩
    refine for_it walk_enum (fun i σ H' => ∃ (v : Nat) (x4 x5 x6 : Option V), σ = [some (.ref B), some (.int (w : Int)), some (.ref D), some (.int (v : Int)), x4, x5, x6] ∧ Same H H' ∧
      (∀ d p, d ∈ l.take i → Kg61.may b p d = true → 1 + Kg61.most (Kg61.step b p d) (Kg61.less l d) ≤ v) ∧ (v = 0 ∨ ∃ d p, d ∈ l ∧ Kg61.may b p d = true ∧ v = 1 + Kg61.most (Kg61.step b p d) (Kg61.less l d)))
      ⟨0, none, none, none, rfl, Same.refl _, fun d p hd => by simp at hd, .inl rfl⟩ (fun i σ H' _ ⟨_, _, _, _, _, e, _⟩ => SqL.of (e _ _ hD)) ?_ ?_
    · rintro i x σ H1 H2 hi ⟨v, x4, x5, x6, rfl, e1, hall, hex⟩ ⟨Tp, x, y, rfl, nT, rfl, hx, hy⟩
      rw [cs_len] at hi
      have hx : x = .int (i : Int) := (Option.some.inj hx).symm
      have hli : l[i]? = some (l[i]) := List.getElem?_eq_getElem hi
      have hy : y = .int ((l[i] : Nat) : Int) := by
        have hy1 : (cs l)[i]? = some y := hy
        unfold cs at hy1
        rw [List.getElem?_map, hli] at hy1
        exact (Option.some.inj hy1).symm
      subst hx hy
      have hmem : l[i] ∈ l := List.getElem_mem hi
      generalize hd : l[i] = d at hli hmem
      have eT : Same H (upd H1 Tp (.tup [.int (i : Int), .int (d : Int)])) := e1.trans (same_upd nT)
      have etup : (upd H1 Tp (.tup [.int (i : Int), .int (d : Int)])) Tp = some (.tup [.int (i : Int), .int (d : Int)]) := upd_same
      generalize upd H1 Tp (.tup [.int (i : Int), .int (d : Int)]) = H2 at eT etup
      refine ⟨Tp, _, rfl, SqT.of etup, rfl, _, _, rfl, _, _, rfl, rfl, ?_⟩
      -- if die not in dice[:index]
      refine ⟨_, rfl, _, rfl, _, rfl, _, rfl, D, _, rfl, SqL.of (eT _ _ hD), fun n1 hn1 => ?_⟩
      have e3 := eT.trans (same_upd hn1 (o := .lst (cutV (cs l) none (some (i : Int)))))
      refine ⟨n1, cs (l.take i), rfl, .inl (SqL.of (by rw [upd_same, cut_to, cs_take])), rfl, cs_flat _, _, rfl, ?_⟩
      generalize upd H2 n1 (.lst (cutV (cs l) none (some (i : Int)))) = H3 at e3
      rw [cs_in]
      have tk : l.take (i + 1) = l.take i ++ [d] := by rw [List.take_add_one, hli]; rfl
      by_cases hin : d ∈ l.take i
      · rw [decide_eq_true hin]
        refine iteF ?_
        refine ⟨v, _, _, _, rfl, e3, fun d' p hd' m => ?_, hex⟩
        rw [tk] at hd'
        rcases List.mem_append.mp hd' with z | z
        · exact hall d' p z m
        · have : d' = d := by simpa using z
          subst this
          exact hall d' p hin m
      · rw [decide_eq_false hin]
        refine iteT ?_
        -- rest = dice[:index] + dice[index + 1:]
        refine ⟨_, rfl, _, rfl, _, rfl, D, _, rfl, SqL.of (e3 _ _ hD), fun n2 hn2 => ?_⟩
        have e4 := e3.trans (same_upd hn2 (o := .lst (cutV (cs l) none (some (i : Int)))))
        have g2 : (upd H3 n2 (.lst (cutV (cs l) none (some (i : Int))))) n2 = some (.lst (cs (l.take i))) := by rw [upd_same, cut_to, cs_take]
        generalize upd H3 n2 (.lst (cutV (cs l) none (some (i : Int)))) = H4 at e4 g2
        refine ⟨_, rfl, _, rfl, _, _, rfl, rfl, _, rfl, D, _, rfl, SqL.of (e4 _ _ hD), fun n3 hn3 => ?_⟩
        dsimp only at hn3 ⊢
        rw [show (i : Int) + 1 = ((i + 1 : Nat) : Int) from rfl]
        have s5 := same_upd hn3 (o := .lst (cutV (cs l) (some ((i + 1 : Nat) : Int)) none))
        have e5 := e4.trans s5
        have g3 : (upd H4 n3 (.lst (cutV (cs l) (some ((i + 1 : Nat) : Int)) none))) n3 = some (.lst (cs (l.drop (i + 1)))) := by rw [upd_same, cut_from, cs_drop]
        have g2' := s5 _ _ g2
        generalize upd H4 n3 (.lst (cutV (cs l) (some ((i + 1 : Nat) : Int)) none)) = H5 at e5 g3 g2'
        refine ⟨n2, n3, _, _, rfl, rfl, g2', g3, ?_, fun n4 hn4 => ?_⟩
        · rw [cs_len, cs_len, List.length_take, List.length_drop]
          exact Nat.le_of_lt (small1000 (by omega))
        rw [cs_append, less_at hli hin]
        have e6 := e5.trans (same_upd hn4 (o := .lst (cs (Kg61.less l d))))
        have g4 : (upd H5 n4 (.lst (cs (Kg61.less l d)))) n4 = some (.lst (cs (Kg61.less l d))) := upd_same
        generalize upd H5 n4 (.lst (cs (Kg61.less l d))) = H6 at e6 g4
        -- most = max(most, most_with_first(..))
        have hll := less_len hmem
        refine ⟨_, rfl, _, rfl, _, rfl, _, rfl, _, rfl, B, n4, b, w, d, Kg61.less l d, rfl, hB.same e6, W, hw, (hdice d hmem).1, g4, fun x hx => hdice x (less_sub hx), by omega, by omega, fun H7 m7 e7 a7 x7 => ?_⟩
        refine ⟨_, _, rfl, ?_⟩
        rw [max_nat]
        refine ⟨max v m7, _, _, _, rfl, e6.trans e7, fun d' p hd' m => ?_, ?_⟩
        · rw [tk] at hd'
          rcases List.mem_append.mp hd' with z | z
          · exact Nat.le_trans (hall d' p z m) (Nat.le_max_left _ _)
          · have : d' = d := by simpa using z
            subst this
            exact Nat.le_trans (a7 p m) (Nat.le_max_right _ _)
        · by_cases e : v ≤ m7
          · rw [Nat.max_eq_right e]
            rcases x7 with z | ⟨p, m, z⟩
            · exact .inl z
            · exact .inr ⟨d, p, hmem, m, z⟩
          · rw [Nat.max_eq_left (by omega)]
            exact hex
    · rintro σ H1 ⟨v, x4, x5, x6, rfl, e1, hall, hex⟩
      rw [cs_len] at hall
      have e := most_is (fun d p hd m => hall d p (by rw [List.take_length]; exact hd) m) hex
      refine ⟨_, rfl, ?_⟩
      rw [← e]
      exact q _ e1
/-! the two by the number of dice -/
theorem none_left {f : Addr} {fd : FuncData} : FnOk P w K mg base CX0 4 f fd ["board", "player", "dice"] (sp_most_usable 0) := by
  have no : ∀ vs H Q E, ¬ sp_most_usable 0 vs H Q E := fun vs H Q E h => by
    obtain ⟨B, D, b, w, l, _, _, _, _, _, _, h1, _⟩ := h
    omega
  exact ⟨fun vs H Q E h => absurd h (no vs H Q E), fun A outer s H args us vs Q E _ _ _ _ h => absurd h (no vs H Q E)⟩
theorem search (T : Txt K mg) (d_may_step : DOk P w K mg base 3 "may_step" ["board", "player", "place", "die"] (sp_may_step)) (d_board_behind : DOk P w K mg base 2 "board_behind" ["board", "player", "place", "die"] (sp_board_behind)) {f g : Addr} {fd gd : FuncData} (F : Fun K "most_with_first" "most_with_first" s_most_with_first f fd) (mF : mg "most_with_first" = some (.ref f)) (bF : Binds K fd ["board", "player", "die", "rest"] [])
    (G : Fun K "most_usable" "most_usable" s_most_usable g gd) (mG : mg "most_usable" = some (.ref g)) (bG : Binds K gd ["board", "player", "dice"] []) : ∀ n, FnOk P w K mg base CX0 (2 * n + 4) g gd ["board", "player", "dice"] (sp_most_usable n)
  | 0 => none_left
  | n + 1 => ok_most_usable T G (ok_most_with_first T d_may_step d_board_behind F (search T d_may_step d_board_behind F mF bF G mG bG n) mG G.kp bG) mF F.kp bF
theorem ok_search (T : Txt K mg) (d_may_step : DOk P w K mg base 3 "may_step" ["board", "player", "place", "die"] (sp_may_step)) (d_board_behind : DOk P w K mg base 2 "board_behind" ["board", "player", "place", "die"] (sp_board_behind)) (DF : Dw0 K mg "most_with_first" s_most_with_first ["board", "player", "die", "rest"]) (DG : Dw0 K mg "most_usable" s_most_usable ["board", "player", "dice"]) : DOk P w K mg base 14 "most_usable" ["board", "player", "dice"] (sp_most_usable 5) := by
  obtain ⟨f, fd, F, mF, bF⟩ := DF
  obtain ⟨g, gd, G, mG, bG⟩ := DG
  exact ⟨g, gd, search T d_may_step d_board_behind F mF bF G mG bG 5, mG, G.kp, bG⟩
end
end BG
namespace BG
open PySem PySem.Spec PyProof.Rows L2
/-! ### the objects -/
theorem lk_here {k : Str} {v : V} {r : List (Str × V)} : List.lookup k ((k, v) :: r) = some v := by
  have e : (k == k) = true := beq_self_eq_true k
  simp only [List.lookup, e]
theorem lk_past {k g : Str} {v : V} {r : List (Str × V)} (h : (k == g) = false) : List.lookup k ((g, v) :: r) = List.lookup k r := by
  simp only [List.lookup, h]
theorem put_here {f : Str} {v x : V} {r : List (Str × V)} : putF f v ((f, x) :: r) = (f, v) :: r := if_pos rfl
theorem put_past {f g : Str} {v x : V} {r : List (Str × V)} (h : ¬ g = f) : putF f v ((g, x) :: r) = (g, x) :: putF f v r := if_neg h
def gF (x_board x_turn x_phase x_cube x_holder x_doubles_let x_dice x_must_use : V) : List (Str × V) := [("board", x_board), ("turn", x_turn), ("phase", x_phase), ("cube", x_cube), ("holder", x_holder), ("doubles_let", x_doubles_let), ("dice", x_dice), ("must_use", x_must_use)]
theorem gF_get_board {x_board x_turn x_phase x_cube x_holder x_doubles_let x_dice x_must_use : V} : (gF x_board x_turn x_phase x_cube x_holder x_doubles_let x_dice x_must_use).lookup ("board" : Str) = some x_board := lk_here
theorem gF_put_board {x_board x_turn x_phase x_cube x_holder x_doubles_let x_dice x_must_use y : V} : putF ("board" : Str) y (gF x_board x_turn x_phase x_cube x_holder x_doubles_let x_dice x_must_use) = gF y x_turn x_phase x_cube x_holder x_doubles_let x_dice x_must_use := put_here
theorem gF_get_turn {x_board x_turn x_phase x_cube x_holder x_doubles_let x_dice x_must_use : V} : (gF x_board x_turn x_phase x_cube x_holder x_doubles_let x_dice x_must_use).lookup ("turn" : Str) = some x_turn := (lk_past (by decide +kernel)).trans lk_here
theorem gF_put_turn {x_board x_turn x_phase x_cube x_holder x_doubles_let x_dice x_must_use y : V} : putF ("turn" : Str) y (gF x_board x_turn x_phase x_cube x_holder x_doubles_let x_dice x_must_use) = gF x_board y x_phase x_cube x_holder x_doubles_let x_dice x_must_use := (put_past (by decide +kernel)).trans (congrArg _ (put_here))
theorem gF_get_phase {x_board x_turn x_phase x_cube x_holder x_doubles_let x_dice x_must_use : V} : (gF x_board x_turn x_phase x_cube x_holder x_doubles_let x_dice x_must_use).lookup ("phase" : Str) = some x_phase := (lk_past (by decide +kernel)).trans ((lk_past (by decide +kernel)).trans lk_here)
theorem gF_put_phase {x_board x_turn x_phase x_cube x_holder x_doubles_let x_dice x_must_use y : V} : putF ("phase" : Str) y (gF x_board x_turn x_phase x_cube x_holder x_doubles_let x_dice x_must_use) = gF x_board x_turn y x_cube x_holder x_doubles_let x_dice x_must_use := (put_past (by decide +kernel)).trans (congrArg _ ((put_past (by decide +kernel)).trans (congrArg _ (put_here))))
theorem gF_get_cube {x_board x_turn x_phase x_cube x_holder x_doubles_let x_dice x_must_use : V} : (gF x_board x_turn x_phase x_cube x_holder x_doubles_let x_dice x_must_use).lookup ("cube" : Str) = some x_cube := (lk_past (by decide +kernel)).trans ((lk_past (by decide +kernel)).trans ((lk_past (by decide +kernel)).trans lk_here))
theorem gF_put_cube {x_board x_turn x_phase x_cube x_holder x_doubles_let x_dice x_must_use y : V} : putF ("cube" : Str) y (gF x_board x_turn x_phase x_cube x_holder x_doubles_let x_dice x_must_use) = gF x_board x_turn x_phase y x_holder x_doubles_let x_dice x_must_use := (put_past (by decide +kernel)).trans (congrArg _ ((put_past (by decide +kernel)).trans (congrArg _ ((put_past (by decide +kernel)).trans (congrArg _ (put_here))))))
theorem gF_get_holder {x_board x_turn x_phase x_cube x_holder x_doubles_let x_dice x_must_use : V} : (gF x_board x_turn x_phase x_cube x_holder x_doubles_let x_dice x_must_use).lookup ("holder" : Str) = some x_holder := (lk_past (by decide +kernel)).trans ((lk_past (by decide +kernel)).trans ((lk_past (by decide +kernel)).trans ((lk_past (by decide +kernel)).trans lk_here)))
theorem gF_put_holder {x_board x_turn x_phase x_cube x_holder x_doubles_let x_dice x_must_use y : V} : putF ("holder" : Str) y (gF x_board x_turn x_phase x_cube x_holder x_doubles_let x_dice x_must_use) = gF x_board x_turn x_phase x_cube y x_doubles_let x_dice x_must_use := (put_past (by decide +kernel)).trans (congrArg _ ((put_past (by decide +kernel)).trans (congrArg _ ((put_past (by decide +kernel)).trans (congrArg _ ((put_past (by decide +kernel)).trans (congrArg _ (put_here))))))))
theorem gF_get_doubles_let {x_board x_turn x_phase x_cube x_holder x_doubles_let x_dice x_must_use : V} : (gF x_board x_turn x_phase x_cube x_holder x_doubles_let x_dice x_must_use).lookup ("doubles_let" : Str) = some x_doubles_let := (lk_past (by decide +kernel)).trans ((lk_past (by decide +kernel)).trans ((lk_past (by decide +kernel)).trans ((lk_past (by decide +kernel)).trans ((lk_past (by decide +kernel)).trans lk_here))))
theorem gF_put_doubles_let {x_board x_turn x_phase x_cube x_holder x_doubles_let x_dice x_must_use y : V} : putF ("doubles_let" : Str) y (gF x_board x_turn x_phase x_cube x_holder x_doubles_let x_dice x_must_use) = gF x_board x_turn x_phase x_cube x_holder y x_dice x_must_use := (put_past (by decide +kernel)).trans (congrArg _ ((put_past (by decide +kernel)).trans (congrArg _ ((put_past (by decide +kernel)).trans (congrArg _ ((put_past (by decide +kernel)).trans (congrArg _ ((put_past (by decide +kernel)).trans (congrArg _ (put_here))))))))))
theorem gF_get_dice {x_board x_turn x_phase x_cube x_holder x_doubles_let x_dice x_must_use : V} : (gF x_board x_turn x_phase x_cube x_holder x_doubles_let x_dice x_must_use).lookup ("dice" : Str) = some x_dice := (lk_past (by decide +kernel)).trans ((lk_past (by decide +kernel)).trans ((lk_past (by decide +kernel)).trans ((lk_past (by decide +kernel)).trans ((lk_past (by decide +kernel)).trans ((lk_past (by decide +kernel)).trans lk_here)))))
theorem gF_put_dice {x_board x_turn x_phase x_cube x_holder x_doubles_let x_dice x_must_use y : V} : putF ("dice" : Str) y (gF x_board x_turn x_phase x_cube x_holder x_doubles_let x_dice x_must_use) = gF x_board x_turn x_phase x_cube x_holder x_doubles_let y x_must_use := (put_past (by decide +kernel)).trans (congrArg _ ((put_past (by decide +kernel)).trans (congrArg _ ((put_past (by decide +kernel)).trans (congrArg _ ((put_past (by decide +kernel)).trans (congrArg _ ((put_past (by decide +kernel)).trans (congrArg _ ((put_past (by decide +kernel)).trans (congrArg _ (put_here))))))))))))
theorem gF_get_must_use {x_board x_turn x_phase x_cube x_holder x_doubles_let x_dice x_must_use : V} : (gF x_board x_turn x_phase x_cube x_holder x_doubles_let x_dice x_must_use).lookup ("must_use" : Str) = some x_must_use := (lk_past (by decide +kernel)).trans ((lk_past (by decide +kernel)).trans ((lk_past (by decide +kernel)).trans ((lk_past (by decide +kernel)).trans ((lk_past (by decide +kernel)).trans ((lk_past (by decide +kernel)).trans ((lk_past (by decide +kernel)).trans lk_here))))))
theorem gF_put_must_use {x_board x_turn x_phase x_cube x_holder x_doubles_let x_dice x_must_use y : V} : putF ("must_use" : Str) y (gF x_board x_turn x_phase x_cube x_holder x_doubles_let x_dice x_must_use) = gF x_board x_turn x_phase x_cube x_holder x_doubles_let x_dice y := (put_past (by decide +kernel)).trans (congrArg _ ((put_past (by decide +kernel)).trans (congrArg _ ((put_past (by decide +kernel)).trans (congrArg _ ((put_past (by decide +kernel)).trans (congrArg _ ((put_past (by decide +kernel)).trans (congrArg _ ((put_past (by decide +kernel)).trans (congrArg _ ((put_past (by decide +kernel)).trans (congrArg _ (put_here))))))))))))))
theorem gF_new_board {x_board : V} : putF ("board" : Str) x_board ([] : List (Str × V)) = ([("board", x_board)] : List (Str × V)) := rfl
theorem gF_new_turn {x_board x_turn : V} : putF ("turn" : Str) x_turn ([("board", x_board)] : List (Str × V)) = ([("board", x_board), ("turn", x_turn)] : List (Str × V)) := (put_past (by decide +kernel)).trans (congrArg _ (rfl))
theorem gF_new_phase {x_board x_turn x_phase : V} : putF ("phase" : Str) x_phase ([("board", x_board), ("turn", x_turn)] : List (Str × V)) = ([("board", x_board), ("turn", x_turn), ("phase", x_phase)] : List (Str × V)) := (put_past (by decide +kernel)).trans (congrArg _ ((put_past (by decide +kernel)).trans (congrArg _ (rfl))))
theorem gF_new_cube {x_board x_turn x_phase x_cube : V} : putF ("cube" : Str) x_cube ([("board", x_board), ("turn", x_turn), ("phase", x_phase)] : List (Str × V)) = ([("board", x_board), ("turn", x_turn), ("phase", x_phase), ("cube", x_cube)] : List (Str × V)) := (put_past (by decide +kernel)).trans (congrArg _ ((put_past (by decide +kernel)).trans (congrArg _ ((put_past (by decide +kernel)).trans (congrArg _ (rfl))))))
theorem gF_new_holder {x_board x_turn x_phase x_cube x_holder : V} : putF ("holder" : Str) x_holder ([("board", x_board), ("turn", x_turn), ("phase", x_phase), ("cube", x_cube)] : List (Str × V)) = ([("board", x_board), ("turn", x_turn), ("phase", x_phase), ("cube", x_cube), ("holder", x_holder)] : List (Str × V)) := (put_past (by decide +kernel)).trans (congrArg _ ((put_past (by decide +kernel)).trans (congrArg _ ((put_past (by decide +kernel)).trans (congrArg _ ((put_past (by decide +kernel)).trans (congrArg _ (rfl))))))))
theorem gF_new_doubles_let {x_board x_turn x_phase x_cube x_holder x_doubles_let : V} : putF ("doubles_let" : Str) x_doubles_let ([("board", x_board), ("turn", x_turn), ("phase", x_phase), ("cube", x_cube), ("holder", x_holder)] : List (Str × V)) = ([("board", x_board), ("turn", x_turn), ("phase", x_phase), ("cube", x_cube), ("holder", x_holder), ("doubles_let", x_doubles_let)] : List (Str × V)) := (put_past (by decide +kernel)).trans (congrArg _ ((put_past (by decide +kernel)).trans (congrArg _ ((put_past (by decide +kernel)).trans (congrArg _ ((put_past (by decide +kernel)).trans (congrArg _ ((put_past (by decide +kernel)).trans (congrArg _ (rfl))))))))))
theorem gF_new_dice {x_board x_turn x_phase x_cube x_holder x_doubles_let x_dice : V} : putF ("dice" : Str) x_dice ([("board", x_board), ("turn", x_turn), ("phase", x_phase), ("cube", x_cube), ("holder", x_holder), ("doubles_let", x_doubles_let)] : List (Str × V)) = ([("board", x_board), ("turn", x_turn), ("phase", x_phase), ("cube", x_cube), ("holder", x_holder), ("doubles_let", x_doubles_let), ("dice", x_dice)] : List (Str × V)) := (put_past (by decide +kernel)).trans (congrArg _ ((put_past (by decide +kernel)).trans (congrArg _ ((put_past (by decide +kernel)).trans (congrArg _ ((put_past (by decide +kernel)).trans (congrArg _ ((put_past (by decide +kernel)).trans (congrArg _ ((put_past (by decide +kernel)).trans (congrArg _ (rfl))))))))))))
theorem gF_new_must_use {x_board x_turn x_phase x_cube x_holder x_doubles_let x_dice x_must_use : V} : putF ("must_use" : Str) x_must_use ([("board", x_board), ("turn", x_turn), ("phase", x_phase), ("cube", x_cube), ("holder", x_holder), ("doubles_let", x_doubles_let), ("dice", x_dice)] : List (Str × V)) = ([("board", x_board), ("turn", x_turn), ("phase", x_phase), ("cube", x_cube), ("holder", x_holder), ("doubles_let", x_doubles_let), ("dice", x_dice), ("must_use", x_must_use)] : List (Str × V)) := (put_past (by decide +kernel)).trans (congrArg _ ((put_past (by decide +kernel)).trans (congrArg _ ((put_past (by decide +kernel)).trans (congrArg _ ((put_past (by decide +kernel)).trans (congrArg _ ((put_past (by decide +kernel)).trans (congrArg _ ((put_past (by decide +kernel)).trans (congrArg _ ((put_past (by decide +kernel)).trans (congrArg _ (rfl))))))))))))))
def sF (x_goal x_points x_doubles_were_off x_game : V) : List (Str × V) := [("goal", x_goal), ("points", x_points), ("doubles_were_off", x_doubles_were_off), ("game", x_game)]
theorem sF_get_goal {x_goal x_points x_doubles_were_off x_game : V} : (sF x_goal x_points x_doubles_were_off x_game).lookup ("goal" : Str) = some x_goal := lk_here
theorem sF_put_goal {x_goal x_points x_doubles_were_off x_game y : V} : putF ("goal" : Str) y (sF x_goal x_points x_doubles_were_off x_game) = sF y x_points x_doubles_were_off x_game := put_here
theorem sF_get_points {x_goal x_points x_doubles_were_off x_game : V} : (sF x_goal x_points x_doubles_were_off x_game).lookup ("points" : Str) = some x_points := (lk_past (by decide +kernel)).trans lk_here
theorem sF_put_points {x_goal x_points x_doubles_were_off x_game y : V} : putF ("points" : Str) y (sF x_goal x_points x_doubles_were_off x_game) = sF x_goal y x_doubles_were_off x_game := (put_past (by decide +kernel)).trans (congrArg _ (put_here))
theorem sF_get_doubles_were_off {x_goal x_points x_doubles_were_off x_game : V} : (sF x_goal x_points x_doubles_were_off x_game).lookup ("doubles_were_off" : Str) = some x_doubles_were_off := (lk_past (by decide +kernel)).trans ((lk_past (by decide +kernel)).trans lk_here)
theorem sF_put_doubles_were_off {x_goal x_points x_doubles_were_off x_game y : V} : putF ("doubles_were_off" : Str) y (sF x_goal x_points x_doubles_were_off x_game) = sF x_goal x_points y x_game := (put_past (by decide +kernel)).trans (congrArg _ ((put_past (by decide +kernel)).trans (congrArg _ (put_here))))
theorem sF_get_game {x_goal x_points x_doubles_were_off x_game : V} : (sF x_goal x_points x_doubles_were_off x_game).lookup ("game" : Str) = some x_game := (lk_past (by decide +kernel)).trans ((lk_past (by decide +kernel)).trans ((lk_past (by decide +kernel)).trans lk_here))
theorem sF_put_game {x_goal x_points x_doubles_were_off x_game y : V} : putF ("game" : Str) y (sF x_goal x_points x_doubles_were_off x_game) = sF x_goal x_points x_doubles_were_off y := (put_past (by decide +kernel)).trans (congrArg _ ((put_past (by decide +kernel)).trans (congrArg _ ((put_past (by decide +kernel)).trans (congrArg _ (put_here))))))
theorem sF_new_goal {x_goal : V} : putF ("goal" : Str) x_goal ([] : List (Str × V)) = ([("goal", x_goal)] : List (Str × V)) := rfl
theorem sF_new_points {x_goal x_points : V} : putF ("points" : Str) x_points ([("goal", x_goal)] : List (Str × V)) = ([("goal", x_goal), ("points", x_points)] : List (Str × V)) := (put_past (by decide +kernel)).trans (congrArg _ (rfl))
theorem sF_new_doubles_were_off {x_goal x_points x_doubles_were_off : V} : putF ("doubles_were_off" : Str) x_doubles_were_off ([("goal", x_goal), ("points", x_points)] : List (Str × V)) = ([("goal", x_goal), ("points", x_points), ("doubles_were_off", x_doubles_were_off)] : List (Str × V)) := (put_past (by decide +kernel)).trans (congrArg _ ((put_past (by decide +kernel)).trans (congrArg _ (rfl))))
theorem sF_new_game {x_goal x_points x_doubles_were_off x_game : V} : putF ("game" : Str) x_game ([("goal", x_goal), ("points", x_points), ("doubles_were_off", x_doubles_were_off)] : List (Str × V)) = ([("goal", x_goal), ("points", x_points), ("doubles_were_off", x_doubles_were_off), ("game", x_game)] : List (Str × V)) := (put_past (by decide +kernel)).trans (congrArg _ ((put_past (by decide +kernel)).trans (congrArg _ ((put_past (by decide +kernel)).trans (congrArg _ (rfl))))))
structure TxtS (K : PySem.W.Frag) (mg : Str → Option Value) (CG CS : Addr) : Prop where
  clG : Cls K CG
  clS : Cls K CS
  n_board : NoAttr K CG "board"
  n_turn : NoAttr K CG "turn"
  n_phase : NoAttr K CG "phase"
  n_cube : NoAttr K CG "cube"
  n_holder : NoAttr K CG "holder"
  n_doubles_let : NoAttr K CG "doubles_let"
  n_dice : NoAttr K CG "dice"
  n_must_use : NoAttr K CG "must_use"
  n_goal : NoAttr K CS "goal"
  n_points : NoAttr K CS "points"
  n_doubles_were_off : NoAttr K CS "doubles_were_off"
  n_game : NoAttr K CS "game"
  c_OPENING : KI mg "OPENING" 0
  c_TURN : KI mg "TURN" 1
  c_DOUBLED : KI mg "DOUBLED" 2
  c_STEPS : KI mg "STEPS" 3
  c_HIGHEST_CUBE : KI mg "HIGHEST_CUBE" 1024
  z_max : mg "max" = none
  z_min : mg "min" = none
  z_list : mg "list" = none
def hold : Option Nat → V
  | none => .non
  | some w => .int (w : Int)
/-- a game stands at g -/
def GmAt (CG : Addr) (H : Hp) (g : Addr) (G : Kg61.Game) : Prop := ∃ dx B D, H g = some (.ins CG dx (gF (.ref B) (.int (G.who : Int)) (.int (G.phase : Int)) (.int (G.cube : Int)) (hold G.holder) (.bl G.free) (.ref D) (.int (G.left : Int)))) ∧
  BdAt H B G.board G.who ∧ H D = some (.lst (cs G.dice))
/-- a tuple of the module -/
def TupK (K : PySem.W.Frag) (a : Addr) (xs : List V) : Prop := ∃ (o : Obj) (its : Array Value) (n : Nat), K.lookup a = some o ∧ o.cls = .type "tuple" ∧ o.data = .seq its n ∧ its.size ≤ sizeLine ∧ Vals xs its.toList
structure Begin (K : PySem.W.Frag) (aB : Addr) : Prop where
  at_ : ∃ p1 p2 p3 p4, TupK K aB [.ref p1, .ref p2, .ref p3, .ref p4] ∧ TupK K p1 [.int 24, .int 2] ∧ TupK K p2 [.int 13, .int 5] ∧ TupK K p3 [.int 8, .int 3] ∧ TupK K p4 [.int 6, .int 5]
section
variable {P : Program} {w : World} {K : PySem.W.Frag} {mg : Str → Option Value} {base : Heap}
abbrev s_new_side : Stmt := topS 6
theorem sc_new_side : FnScope ["side", "place", "checkers"] [] (defScope s_new_side) := ⟨rfl, rfl, rfl, by decide +kernel, rfl, by decide +kernel, by decide +kernel⟩
def sp_new_side : Sp := fun vs H Q _ => vs = [] ∧ ∀ H' p, Same H H' → H p = none → H' p = some (.lst (cs Kg61.start)) → Q (.ref p) H'
def setup (i : Nat) : List Nat := (([(24, 2), (13, 5), (8, 3), (6, 5)] : List (Nat × Nat)).take i).foldl (fun s x => s.set x.1 x.2) (List.replicate 26 0)
theorem setup_len (i : Nat) : (setup i).length = 26 := by
  unfold setup
  have : ∀ (l : List (Nat × Nat)) (s : List Nat), (l.foldl (fun s x => s.set x.1 x.2) s).length = s.length := by
    intro l
    induction l with
    | nil => intro s; rfl
    | cons x r ih => intro s; rw [List.foldl_cons, ih, List.length_set]
  rw [this, List.length_replicate]
theorem ok_new_side {aB : Addr} (m_BEGINNING : mg "BEGINNING" = some (.ref aB)) (hB : Begin K aB) (D : Dw0 K mg "new_side" s_new_side []) : DOk P w K mg base 1 "new_side" [] (sp_new_side) := by
  refine D.ok fun f fd F => F.ok sc_new_side (fun vs H Q E h => ?_) (fun cdv A outer s H vs Q E hr h => ?_)
  · obtain ⟨rfl, _⟩ := h
    rfl
  · obtain ⟨rfl, q⟩ := h
    obtain ⟨p1, p2, p3, p4, t0, t1, t2, t3, t4⟩ := hB.at_
    refine ⟨_, (pss_cons (ps_set (i := 0) sc_new_side.nd rfl (.inl rfl) (pe_op op_rep (pe_lst (pa_cons pe_int pa_nil)) pe_int))
    (pss_cons (ps_for PassesOwn.never rfl (pi_tup (pe_gref m_BEGINNING (by rfl))) (pg_tup rfl (pgs_cons (pg_name (i := 1) sc_new_side.nd rfl (.inl rfl)) (pgs_cons (pg_name (i := 2) sc_new_side.nd rfl (.inl rfl)) pgs_nil)))
      (pss_one (ps_asg (pv 2) (pg_sub (pv 0) (pv 1) set_list))))
    (pss_one (ps_ret (pv 0))))), ?_⟩
    refine ⟨(by show 1 ≤ sizeLine; decide), fun p0 n0 => ?_⟩
    refine ⟨p0, 26, _, rfl, rfl, upd_same, by decide, by decide, (by show 1 * 26 ≤ sizeLine; decide), fun l nl => ?_⟩
    have s0 := (same_upd n0 (o := .lst [V.int 0])).trans (same_upd nl (o := .lst (List.replicate (26 : Int).toNat [V.int 0]).flatten))
    have nl0 : H l = none := (same_upd n0 (o := .lst [V.int 0])).free nl
    refine ⟨_, rfl, ⟨_, .inr t0⟩, for_tup (K := K) (a := aB) (xs := [.ref p1, .ref p2, .ref p3, .ref p4]) (fun i σ H' => ∃ x1 x2 : Option V, σ = [some (.ref l), x1, x2] ∧ Same H H' ∧ H' l = some (.lst (cs (setup i))))
      ⟨none, none, rfl, s0, upd_same⟩ (fun _ _ _ _ _ => .inr t0) ?_ ?_⟩
    · have one : ∀ (i : Nat) (tp : Addr) (a b : Nat) (σ : L2.St) (H1 : Hp) (D : Ends), TupK K tp [.int (a : Int), .int (b : Int)] → a < 26 → (setup i).set a b = setup (i + 1) →
          (∃ x1 x2 : Option V, σ = [some (.ref l), x1, x2] ∧ Same H H1 ∧ H1 l = some (.lst (cs (setup i)))) →
          (∀ σ' H', (∃ x1 x2 : Option V, σ' = [some (.ref l), x1, x2] ∧ Same H H' ∧ H' l = some (.lst (cs (setup (i + 1))))) → D.nx σ' H') →
          gTup K 2 (gCons (gName 1) (gCons (gName 2) gNil)) (.ref tp) σ H1 fun σ2 H2 => tAsg (tVar 2) (gSub (tVar 0) (tVar 1) rSetL) D σ2 H2 := by
        rintro i tp a b σ H1 D ht ha he ⟨x1, x2, rfl, s1, h1⟩ hD
        refine ⟨tp, _, rfl, .inr ht, rfl, _, _, rfl, _, _, rfl, rfl, ?_⟩
        refine ⟨_, rfl, _, rfl, _, rfl, l, _, _, a, rfl, rfl, h1, ixn (by rw [cs_len, setup_len]; exact ha), ?_⟩
        refine hD _ _ ⟨_, _, rfl, fun z o e => by rw [upd_ne (ne_of_none e nl0)]; exact s1 _ _ e, ?_⟩
        rw [upd_same, cs_set, he]
      rintro i x σ H1 hi hp
      match i, hi with
      | 0, hi => cases hi; exact one 0 p1 24 2 σ H1 _ t1 (by decide) rfl hp fun _ _ z => z
      | 1, hi => cases hi; exact one 1 p2 13 5 σ H1 _ t2 (by decide) rfl hp fun _ _ z => z
      | 2, hi => cases hi; exact one 2 p3 8 3 σ H1 _ t3 (by decide) rfl hp fun _ _ z => z
      | 3, hi => cases hi; exact one 3 p4 6 5 σ H1 _ t4 (by decide) rfl hp fun _ _ z => z
      | i + 4, hi => simp at hi
    · rintro σ H1 ⟨x1, x2, rfl, s1, h1⟩
      exact ⟨_, rfl, q H1 l s1 nl0 h1⟩
abbrev s_new_board : Stmt := topS 7
theorem sc_new_board : FnScope [] [] (defScope s_new_board) := ⟨rfl, rfl, rfl, by decide +kernel, rfl, by decide +kernel, by decide +kernel⟩
def board0 : Kg61.Board := ⟨Kg61.start, Kg61.start⟩
def sp_new_board : Sp := fun vs H Q _ => vs = [] ∧ ∀ H' B, Same H H' → H B = none → BdAt H' B board0 0 → Q (.ref B) H'
theorem ok_new_board (d_new_side : DOk P w K mg base 1 "new_side" [] (sp_new_side)) (D : Dw0 K mg "new_board" s_new_board []) : DOk P w K mg base 2 "new_board" [] (sp_new_board) := by
  obtain ⟨f_new_side, fd_new_side, G_new_side, m_new_side, k_new_side, b_new_side⟩ := d_new_side
  refine D.ok fun f fd F => F.ok sc_new_board (fun vs H Q E h => ?_) (fun cdv A outer s H vs Q E hr h => ?_)
  · obtain ⟨rfl, _⟩ := h
    rfl
  · obtain ⟨rfl, q⟩ := h
    refine ⟨_, (pss_one (ps_ret (pe_lst (pa_cons (pe_call0 G_new_side (hr.mono (by first | decide | omega)) (by rfl) m_new_side k_new_side b_new_side .nil pass0) (pa_cons (pe_call0 G_new_side (hr.mono (by first | decide | omega)) (by rfl) m_new_side k_new_side b_new_side .nil pass0) pa_nil))))), ?_⟩
    refine ⟨rfl, fun H1 p1 e1 n1 h1 => ⟨rfl, fun H2 p2 e2 n2 h2 => ⟨(by show 2 ≤ sizeLine; decide), fun B nB => ?_⟩⟩⟩
    have e3 := same_upd nB (o := .lst [V.ref p1, V.ref p2])
    exact q _ B (e1.trans (e2.trans e3)) (e1.free (e2.free nB)) ⟨p1, p2, upd_same, e3 _ _ (e2 _ _ h1), e3 _ _ h2⟩
end
end BG
namespace BG
open PySem PySem.Spec PyProof.Rows L2
theorem if_and {c y : Bool} {A : Prop} {Q : VK} {H : Hp} (h : Q (.bl (c && y)) H) (k : Q (.bl y) H → A) : if c = true then A else Q (.bl false) H := by
  cases c
  · exact iteF h
  · exact iteT (k h)
theorem if_or {c y : Bool} {A : Prop} {Q : VK} {H : Hp} (h : Q (.bl (c || y)) H) (k : Q (.bl y) H → A) : if c = true then Q (.bl true) H else A := by
  cases c
  · exact iteF (k h)
  · exact iteT h
/-- all but what stands at one address is as it was -/
def But (a : Addr) (H H' : Hp) : Prop := ∀ b o, H b = some o → b ≠ a → H' b = some o
theorem But.upd {a : Addr} {H H' : Hp} {o : HO} (h : But a H H') : But a H (upd H' a o) := fun b x e n => by rw [upd_ne n]; exact h b x e n
theorem But.refl (a : Addr) (H : Hp) : But a H H := fun _ _ e _ => e
theorem But.of {a : Addr} {H H' : Hp} (h : Same H H') : But a H H' := fun _ _ e _ => h _ _ e
theorem But.trans {a : Addr} {H H1 H2 : Hp} (h : But a H H1) (k : But a H1 H2) : But a H H2 := fun b o e n => k b o (h b o e n) n
theorem BdAt.but {a : Addr} {H H' : Hp} {B : Addr} {b : Kg61.Board} {w : Nat} (h : BdAt H B b w) (e : But a H H') {o : HO} (ha : H a = some o) (ho : ∀ xs, o ≠ .lst xs) : BdAt H' B b w := by
  obtain ⟨a0, a1, h1, h2, h3⟩ := h
  have n : ∀ {c : Addr} {xs : List V}, H c = some (.lst xs) → c ≠ a := fun hc => ne_of hc ha fun q => ho _ q.symm
  exact ⟨a0, a1, e _ _ h1 (n h1), e _ _ h2 (n h2), e _ _ h3 (n h3)⟩
/-- what the state's game holds -/
def GvAt (CG : Addr) (H : Hp) (gv : V) : Option Kg61.Game → Prop
  | none => gv = .non
  | some G => ∃ g, gv = .ref g ∧ GmAt CG H g G
/-- the state's object without its game -/
def StA (CS : Addr) (H : Hp) (s : Addr) (to a b : Nat) (cr : Bool) (gv : V) : Prop := ∃ dx pt, H s = some (.ins CS dx (sF (.int (to : Int)) (.ref pt) (.bl cr) gv)) ∧ H pt = some (.lst [.int (a : Int), .int (b : Int)])
def StAt (CG CS : Addr) (H : Hp) (s : Addr) (st : Kg61.State) : Prop := ∃ gv, StA CS H s st.to st.a st.b st.crawford gv ∧ GvAt CG H gv st.game
theorem gF_sF {a b c d e f g h i j k l : V} : ∀ {r : List (Str × V)}, r = sF a b c d → gF e f g h i j k l ≠ r := by
  intro r hr q
  rw [hr] at q
  injection q with q1 _
  have := congrArg Prod.fst q1
  exact absurd this (by show ¬ ("board" : Str) = "goal"; decide +kernel)
/-- a game's object is not the state's -/
theorem g_ne_s {H : Hp} {CG CS g s dx dx' : Addr} {a b c d e f x h i j k l : V} (h1 : H g = some (.ins CG dx (gF a b c d e f x h))) (h2 : H s = some (.ins CS dx' (sF i j k l))) : g ≠ s :=
  ne_of h1 h2 fun q => by
    injection q with _ _ q3
    exact gF_sF rfl q3
theorem GmAt.but {CG a : Addr} {H H' : Hp} {g : Addr} {G : Kg61.Game} (h : GmAt CG H g G) (e : But a H H') (n : g ≠ a) {o : HO} (ha : H a = some o) (ho : ∀ xs, o ≠ .lst xs) : GmAt CG H' g G := by
  obtain ⟨dx, B, D, h1, h2, h3⟩ := h
  exact ⟨dx, B, D, e _ _ h1 n, h2.but e ha ho, e _ _ h3 (ne_of h3 ha fun q => ho _ q.symm)⟩
theorem GmAt.same {CG : Addr} {H H' : Hp} {g : Addr} {G : Kg61.Game} (h : GmAt CG H g G) (e : Same H H') : GmAt CG H' g G := by
  obtain ⟨dx, B, D, h1, h2, h3⟩ := h
  exact ⟨dx, B, D, e _ _ h1, h2.same e, e _ _ h3⟩
theorem StA.same {CS : Addr} {H H' : Hp} {s : Addr} {to a b : Nat} {cr : Bool} {gv : V} (h : StA CS H s to a b cr gv) (e : Same H H') : StA CS H' s to a b cr gv := by
  obtain ⟨dx, pt, h1, h2⟩ := h
  exact ⟨dx, pt, e _ _ h1, e _ _ h2⟩
theorem GvAt.same {CG : Addr} {H H' : Hp} {gv : V} {o : Option Kg61.Game} (h : GvAt CG H gv o) (e : Same H H') : GvAt CG H' gv o := by
  match o, h with
  | none, h => exact h
  | some G, ⟨g, e1, hg⟩ => exact ⟨g, e1, hg.same e⟩
theorem StAt.same {CG CS : Addr} {H H' : Hp} {s : Addr} {st : Kg61.State} (h : StAt CG CS H s st) (e : Same H H') : StAt CG CS H' s st := by
  obtain ⟨gv, h1, h2⟩ := h
  exact ⟨gv, h1.same e, h2.same e⟩
theorem val_not {ta : TE} {σ : L2.St} {H : Hp} {c : Bool} (h : Val ta σ H (.bl c)) : Val (tNotV ta) σ H (.bl (!c)) := fun _ q => h _ ⟨c, rfl, q⟩
theorem val_and {ta tb : TE} {σ : L2.St} {H : Hp} {a b : Bool} (h : Val ta σ H (.bl a)) (k : Val tb σ H (.bl b)) : Val (tAndV ta tb) σ H (.bl (a && b)) := fun Q q => h _ ⟨a, rfl, by
  cases a
  · exact iteF q
  · exact iteT (k Q q)⟩
theorem val_or {ta tb : TE} {σ : L2.St} {H : Hp} {a b : Bool} (h : Val ta σ H (.bl a)) (k : Val tb σ H (.bl b)) : Val (tOrV ta tb) σ H (.bl (a || b)) := fun Q q => h _ ⟨a, rfl, by
  cases a
  · exact iteF (k Q q)
  · exact iteT q⟩
theorem val_i0 {ta tb : TE} {σ : L2.St} {H : Hp} {g : Int → Int → V} {i j : Int} (h : Val ta σ H (.int i)) (k : Val tb σ H (.int j)) : Val (tOp (rI0 g) ta tb) σ H (g i j) := val_op h k fun _ q => ⟨i, j, rfl, rfl, q⟩
theorem val_add {ta tb : TE} {σ : L2.St} {H : Hp} {i j : Int} (h : Val ta σ H (.int i)) (k : Val tb σ H (.int j)) : Val (tOp (rI0 fun i j => .int (i + j)) ta tb) σ H (.int (i + j)) := val_i0 h k
theorem val_sub {ta tb : TE} {σ : L2.St} {H : Hp} {i j : Int} (h : Val ta σ H (.int i)) (k : Val tb σ H (.int j)) : Val (tOp (rI0 fun i j => .int (i - j)) ta tb) σ H (.int (i - j)) := val_i0 h k
theorem val_mul {ta tb : TE} {σ : L2.St} {H : Hp} {i j : Int} (h : Val ta σ H (.int i)) (k : Val tb σ H (.int j)) (c : CMul i j) : Val (tOp (rI CMul fun i j => .int (i * j)) ta tb) σ H (.int (i * j)) := val_op h k fun _ q => ⟨i, j, rfl, rfl, c, q⟩
theorem val_lt {ta tb : TE} {σ : L2.St} {H : Hp} {i j : Int} (h : Val ta σ H (.int i)) (k : Val tb σ H (.int j)) : Val (tOp (rI0 fun i j => .bl (decide (i < j))) ta tb) σ H (.bl (decide (i < j))) := val_i0 h k
theorem val_le {ta tb : TE} {σ : L2.St} {H : Hp} {i j : Int} (h : Val ta σ H (.int i)) (k : Val tb σ H (.int j)) : Val (tOp (rI0 fun i j => .bl (decide (i ≤ j))) ta tb) σ H (.bl (decide (i ≤ j))) := val_i0 h k
theorem val_gt {ta tb : TE} {σ : L2.St} {H : Hp} {i j : Int} (h : Val ta σ H (.int i)) (k : Val tb σ H (.int j)) : Val (tOp (rI0 fun i j => .bl (decide (j < i))) ta tb) σ H (.bl (decide (j < i))) := val_i0 h k
theorem val_ge {ta tb : TE} {σ : L2.St} {H : Hp} {i j : Int} (h : Val ta σ H (.int i)) (k : Val tb σ H (.int j)) : Val (tOp (rI0 fun i j => .bl (decide (j ≤ i))) ta tb) σ H (.bl (decide (j ≤ i))) := val_i0 h k
theorem val_ix {K : PySem.W.Frag} {ta tb : TE} {σ : L2.St} {H : Hp} {p : Addr} {xs : List V} {i : Int} {v : V} (h : Val ta σ H (.ref p)) (k : Val tb σ H (.int i)) (hs : SqL K H p xs) (ha : atI xs i = some v) : Val (tOp (rIxL K) ta tb) σ H v := val_op h k fun _ q => ⟨p, xs, i, v, rfl, rfl, hs, ha, q⟩
theorem val_is {ta : TE} {σ : L2.St} {H : Hp} {x : V} (h : Val ta σ H x) : Val (tOp (fun x y H Q => y = .non ∧ Q (.bl (decide (x = .non))) H) ta (tC .non)) σ H (.bl (decide (x = .non))) := val_op h val_c fun _ q => ⟨rfl, q⟩
theorem val_isNot {ta : TE} {σ : L2.St} {H : Hp} {x : V} (h : Val ta σ H x) : Val (tOp (fun x y H Q => y = .non ∧ Q (.bl (!decide (x = .non))) H) ta (tC .non)) σ H (.bl (!decide (x = .non))) := val_op h val_c fun _ q => ⟨rfl, q⟩
theorem val_ne {ta tb : TE} {σ : L2.St} {H : Hp} {x y : V} (h : Val ta σ H x) (k : Val tb σ H y) (hs : scal x y = true) : Val (tOp rNe ta tb) σ H (.bl (!decide (x = y))) := val_op h k fun _ q => ⟨hs, q⟩
theorem ans_test {te : TE} {σ : L2.St} {H : Hp} {b : Bool} (h : Val te σ H (.bl b)) : Ans (tTest te) σ H b := fun _ q => h _ ⟨b, rfl, q⟩
theorem ans_or2 {t u : TT} {σ : L2.St} {H : Hp} {a b : Bool} (h : Ans t σ H a) (k : Ans u σ H b) : Ans (tOr t u) σ H (a || b) := by
  cases a
  · exact ans_or h k
  · exact ans_or1 h
/-- an if, both ways -/
theorem st_if {c : TT} {t1 t2 : TS} {D : Ends} {σ : L2.St} {H : Hp} {b : Bool} (h : Ans c σ H b) (h1 : b = true → t1 D σ H) (h2 : b = false → t2 D σ H) : tIfS c t1 t2 D σ H := by
  cases b
  · exact st_no h (h2 rfl)
  · exact st_yes h (h1 rfl)
theorem val_to {te : TE} {σ : L2.St} {H : Hp} {v u : V} (h : L2.Val te σ H v) (e : v = u) : L2.Val te σ H u := e ▸ h
theorem val_eq {ta tb : TE} {σ : L2.St} {H : Hp} {x y : V} (h : Val ta σ H x) (k : Val tb σ H y) (hs : scal x y = true := by rfl) : Val (tOp rEq ta tb) σ H (.bl (decide (x = y))) := val_op h k fun _ q => ⟨hs, q⟩
/-- a store to an attribute, of a value that makes nothing new -/
theorem fld_to {K : PySem.W.Frag} {ta tv : TE} {f : Str} {D : Ends} {σ : L2.St} {H : Hp} {v : V} {p C dx : Addr} {fs fs' : List (Str × V)} (hv : ∀ Q : VK, Q v H → tv σ H Q) (ha : ∀ Q : VK, Q (.ref p) H → ta σ H Q) (hp : H p = some (.ins C dx fs))
    (c : Cls K C) (n : NoAttr K C f) (hl : fs.length < 1000) (hput : putF f v fs = fs') (k : ∀ H', H' p = some (.ins C dx fs') → But p H H' → D.nx σ H') : sFld K ta tv f D σ H :=
  hv _ (ha _ ⟨p, C, dx, fs, rfl, hp, c, n, hl, by
    rw [hput]
    exact k _ upd_same (But.refl p H).upd⟩)
theorem fld_seq {K : PySem.W.Frag} {ta tv : TE} {f : Str} {u : TS} {D : Ends} {σ : L2.St} {H : Hp} {v : V} {p C dx : Addr} {fs fs' : List (Str × V)} (hv : ∀ Q : VK, Q v H → tv σ H Q) (ha : ∀ Q : VK, Q (.ref p) H → ta σ H Q) (hp : H p = some (.ins C dx fs))
    (c : Cls K C) (n : NoAttr K C f) (hl : fs.length < 1000) (hput : putF f v fs = fs') (k : ∀ H', H' p = some (.ins C dx fs') → But p H H' → u D σ H') : tSeq (sFld K ta tv f) u D σ H :=
  fld_to (D := { D with nx := u D }) hv ha hp c n hl hput k
/-- .. of a new list -/
theorem fldL_to {K : PySem.W.Frag} {ta tv : TE} {f : Str} {D : Ends} {σ : L2.St} {H : Hp} {xs : List V} {p C dx : Addr} {fs : List (Str × V)} {fs' : Addr → List (Str × V)}
    (hv : ∀ Q : VK, (∀ L H1, H L = none → Same H H1 → H1 L = some (.lst xs) → Q (.ref L) H1) → tv σ H Q) (ha : ∀ (H1 : Hp) (Q : VK), Q (.ref p) H1 → ta σ H1 Q) (hp : H p = some (.ins C dx fs))
    (c : Cls K C) (n : NoAttr K C f) (hl : fs.length < 1000) (hput : ∀ L, putF f (.ref L) fs = fs' L) (k : ∀ L H', H L = none → H' p = some (.ins C dx (fs' L)) → But p H H' → H' L = some (.lst xs) → D.nx σ H') : sFld K ta tv f D σ H :=
  hv _ fun L H1 nL e1 hL => ha H1 _ ⟨p, C, dx, fs, rfl, e1 _ _ hp, c, n, hl, by
    rw [hput]
    exact k L _ nL upd_same (But.of e1).upd (by rw [upd_ne (ne_of hL (e1 _ _ hp) fun q => nomatch q)]; exact hL)⟩
theorem fldL_seq {K : PySem.W.Frag} {ta tv : TE} {f : Str} {u : TS} {D : Ends} {σ : L2.St} {H : Hp} {xs : List V} {p C dx : Addr} {fs : List (Str × V)} {fs' : Addr → List (Str × V)}
    (hv : ∀ Q : VK, (∀ L H1, H L = none → Same H H1 → H1 L = some (.lst xs) → Q (.ref L) H1) → tv σ H Q) (ha : ∀ (H1 : Hp) (Q : VK), Q (.ref p) H1 → ta σ H1 Q) (hp : H p = some (.ins C dx fs))
    (c : Cls K C) (n : NoAttr K C f) (hl : fs.length < 1000) (hput : ∀ L, putF f (.ref L) fs = fs' L) (k : ∀ L H', H L = none → H' p = some (.ins C dx (fs' L)) → But p H H' → H' L = some (.lst xs) → u D σ H') : tSeq (sFld K ta tv f) u D σ H :=
  fldL_to (D := { D with nx := u D }) hv ha hp c n hl hput k
theorem nil_new {H : Hp} {σ : L2.St} (Q : VK) (k : ∀ L H1, H L = none → Same H H1 → H1 L = some (.lst []) → Q (.ref L) H1) : tLst tNil σ H Q := ⟨Nat.zero_le _, fun L nL => k L _ nL (same_upd nL) upd_same⟩
section
variable {P : Program} {w : World} {K : PySem.W.Frag} {mg : Str → Option Value} {base : Heap} {CG CS : Addr}
/-- a class as the top has written it -/
def Dm0 (K : PySem.W.Frag) (mg : Str → Option Value) (C : Addr) (x qual : Str) (st : Stmt) (ps : List Str) : Prop :=
  ∃ f fd, Mk K C f ∧ Fun K "__init__" qual st f fd ∧ mg x = some (.ref C) ∧ Binds K fd ps []
theorem Dm0.ok {C : Addr} {k : Nat} {x qual : Str} {st : Stmt} {ps : List Str} {sp : Sp} (D : Dm0 K mg C x qual st ps)
    (h : ∀ f fd, Fun K "__init__" qual st f fd → FnOk P w K mg base CX0 k f fd ps sp) : MOk P w K mg base C k x ps sp := by
  obtain ⟨f, fd, M, F, m, b⟩ := D
  exact ⟨f, fd, M, h f fd F, m, b⟩
abbrev s_Game_init : Stmt := inClass (topS 24) 0
theorem sc_Game_init : FnScope ["self", "doubles_let"] ["self", "doubles_let"] (defScope s_Game_init) := ⟨rfl, rfl, rfl, by decide +kernel, rfl, by decide +kernel, by decide +kernel⟩
def sp_Game_init (CG : Addr) : Sp := fun vs H Q _ => ∃ (p dx : Addr) (fr : Bool), vs = [.ref p, .bl fr] ∧ H p = some (.ins CG dx []) ∧ ∀ H', GmAt CG H' p (Kg61.fresh fr) → But p H H' → Q .non H'
theorem ok_Game_init (T : TxtS K mg CG CS) (d_new_board : DOk P w K mg base 2 "new_board" [] (sp_new_board)) (D : Dm0 K mg CG "Game" "Game.__init__" s_Game_init ["self", "doubles_let"]) : MOk P w K mg base CG 3 "Game" ["self", "doubles_let"] (sp_Game_init CG) := by
  obtain ⟨f_new_board, fd_new_board, G_new_board, m_new_board, k_new_board, b_new_board⟩ := d_new_board
  refine D.ok fun f fd F => F.ok sc_Game_init (fun vs H Q E h => ?_) (fun cdv A outer s H vs Q E hr h => ?_)
  · obtain ⟨p, dx, fr, rfl, _⟩ := h
    rfl
  · obtain ⟨p, dx, fr, rfl, hp, q⟩ := h
    refine ⟨_, (pss_cons (ps_fld (pv 0) (pe_call0 G_new_board (hr.mono (by first | decide | omega)) (by rfl) m_new_board k_new_board b_new_board .nil pass0) rfl)
    (pss_cons (ps_fld (pv 0) pe_int rfl)
    (pss_cons (ps_fld (pv 0) (pe_ki T.c_OPENING (by rfl)) rfl)
    (pss_cons (ps_fld (pv 0) pe_int rfl)
    (pss_cons (ps_fld (pv 0) pe_non rfl)
    (pss_cons (ps_fld (pv 0) (pv 1) rfl)
    (pss_cons (ps_fld (pv 0) (pe_lst pa_nil) rfl)
    (pss_one (ps_fld (pv 0) pe_int rfl))))))))), ?_⟩
    refine ⟨rfl, fun H1 B e1 nB hB => ?_⟩
    have h1 := e1 _ _ hp
    refine ⟨_, rfl, p, CG, dx, _, rfl, h1, T.clG, T.n_board, (by simp), ?_⟩
    rw [gF_new_board]
    have b2 : But p H _ := (But.of e1).upd (o := .ins CG dx [("board", .ref B)])
    have hB2 : BdAt _ B board0 0 := hB.but ((But.refl p H1).upd (o := .ins CG dx [("board", .ref B)])) h1 (fun _ q => nomatch q)
    have h2 : (upd H1 p (.ins CG dx [("board", .ref B)])) p = _ := upd_same
    generalize upd H1 p (.ins CG dx [("board", .ref B)]) = H2 at b2 hB2 h2
    try dsimp only
    refine fld_seq (fun _ q => q) (fun _ q => ⟨_, rfl, q⟩) h2 T.clG T.n_turn (by simp) gF_new_turn fun H3 h3 b3 => ?_
    try dsimp only
    refine fld_seq (fun _ q => q) (fun _ q => ⟨_, rfl, q⟩) h3 T.clG T.n_phase (by simp) gF_new_phase fun H4 h4 b4 => ?_
    try dsimp only
    refine fld_seq (fun _ q => q) (fun _ q => ⟨_, rfl, q⟩) h4 T.clG T.n_cube (by simp) gF_new_cube fun H5 h5 b5 => ?_
    try dsimp only
    refine fld_seq (fun _ q => q) (fun _ q => ⟨_, rfl, q⟩) h5 T.clG T.n_holder (by simp) gF_new_holder fun H6 h6 b6 => ?_
    try dsimp only
    refine fld_seq (fun _ q => ⟨_, rfl, q⟩) (fun _ q => ⟨_, rfl, q⟩) h6 T.clG T.n_doubles_let (by simp) gF_new_doubles_let fun H7 h7 b7 => ?_
    refine fldL_seq (fun Q k => nil_new Q k) (fun _ _ q => ⟨_, rfl, q⟩) h7 T.clG T.n_dice (by simp) (fun _ => gF_new_dice) fun D H8 nD h8 b8 hD => ?_
    refine fld_to (fun _ q => q) (fun _ q => ⟨_, rfl, q⟩) h8 T.clG T.n_must_use (by simp) gF_new_must_use fun H9 h9 b9 => ?_
    have b29 := b3.trans (b4.trans (b5.trans (b6.trans (b7.trans (b8.trans b9)))))
    exact q H9 ⟨dx, B, D, h9, hB2.but b29 h2 (fun _ q => nomatch q), b9 _ _ hD (ne_of hD h8 fun q => nomatch q)⟩ (b2.trans b29)
end
end BG
namespace BG
open PySem PySem.Spec PyProof.Rows L2
theorem two_new_lst {H : Hp} {σ : L2.St} {x y : V} (Q : VK) (k : ∀ L H1, H L = none → Same H H1 → H1 L = some (.lst [x, y]) → Q (.ref L) H1) : tLst (tCons (tC x) (tCons (tC y) tNil)) σ H Q :=
  ⟨(by show 2 ≤ sizeLine; decide), fun L nL => k L _ nL (same_upd nL) upd_same⟩
/-- a field read -/
theorem fld_val {K : PySem.W.Frag} {ta : TE} {f : Str} {σ : L2.St} {H : Hp} {v : V} {p C dx : Addr} {fs : List (Str × V)} {Q : VK} (ha : ∀ Q : VK, Q (.ref p) H → ta σ H Q) (hp : H p = some (.ins C dx fs)) (c : Cls K C) (n : NoAttr K C f) (hl : fs.lookup f = some v) (q : Q v H) : tFld K ta f σ H Q :=
  ha _ ⟨p, C, dx, fs, v, rfl, hp, c, n, hl, q⟩
def beginG (st : Kg61.State) : Kg61.State :=
  { st with crawford := st.crawford || (decide (max st.a st.b + 1 = st.to) && !st.crawford), game := some (Kg61.fresh (!(decide (max st.a st.b + 1 = st.to) && !st.crawford))) }
section
variable {P : Program} {w : World} {K : PySem.W.Frag} {mg : Str → Option Value} {base : Heap} {CG CS : Addr}
abbrev s_State_init : Stmt := inClass (topS 25) 0
theorem sc_State_init : FnScope ["self"] ["self"] (defScope s_State_init) := ⟨rfl, rfl, rfl, by decide +kernel, rfl, by decide +kernel, by decide +kernel⟩
def sp_State_init (CG CS : Addr) : Sp := fun vs H Q _ => ∃ (p dx : Addr), vs = [.ref p] ∧ H p = some (.ins CS dx []) ∧ ∀ H', StAt CG CS H' p Kg61.init → But p H H' → Q .non H'
theorem ok_State_init (T : TxtS K mg CG CS) (D : Dm0 K mg CS "State" "State.__init__" s_State_init ["self"]) : MOk P w K mg base CS 1 "State" ["self"] (sp_State_init CG CS) := by
  refine D.ok fun f fd F => F.ok sc_State_init (fun vs H Q E h => ?_) (fun cdv A outer s H vs Q E hr h => ?_)
  · obtain ⟨p, dx, rfl, _⟩ := h
    rfl
  · obtain ⟨p, dx, rfl, h1, q⟩ := h
    refine ⟨_, (pss_cons (ps_fld (pv 0) pe_int rfl)
    (pss_cons (ps_fld (pv 0) (pe_lst (pa_cons pe_int (pa_cons pe_int pa_nil))) rfl)
    (pss_cons (ps_fld (pv 0) pe_bl rfl)
    (pss_one (ps_fld (pv 0) pe_non rfl))))), ?_⟩
    refine fld_seq (fun _ q => q) (fun _ q => ⟨_, rfl, q⟩) h1 T.clS T.n_goal (by simp) sF_new_goal fun H2 h2 b2 => ?_
    refine fldL_seq (fun Q k => two_new_lst Q k) (fun _ _ q => ⟨_, rfl, q⟩) h2 T.clS T.n_points (by simp) (fun _ => sF_new_points) fun pt H3 n3 h3 b3 hpt => ?_
    refine fld_seq (fun _ q => q) (fun _ q => ⟨_, rfl, q⟩) h3 T.clS T.n_doubles_were_off (by simp) sF_new_doubles_were_off fun H4 h4 b4 => ?_
    refine fld_to (fun _ q => q) (fun _ q => ⟨_, rfl, q⟩) h4 T.clS T.n_game (by simp) sF_new_game fun H5 h5 b5 => ?_
    exact q H5 ⟨_, ⟨dx, pt, h5, b5 _ _ (b4 _ _ hpt (ne_of hpt h3 fun q => nomatch q)) (ne_of hpt h3 fun q => nomatch q)⟩, rfl⟩ (b2.trans (b3.trans (b4.trans b5)))
abbrev s_begin_game : Stmt := topS 27
theorem sc_begin_game : FnScope ["state", "needs_one", "doubles_off"] ["state"] (defScope s_begin_game) := ⟨rfl, rfl, rfl, by decide +kernel, rfl, by decide +kernel, by decide +kernel⟩
def sp_begin_game (CG CS : Addr) : Sp := fun vs H Q _ => ∃ (s : Addr) (st : Kg61.State) (gv : V), vs = [.ref s] ∧ StA CS H s st.to st.a st.b st.crawford gv ∧ ∀ H', StAt CG CS H' s (beginG st) → But s H H' → Q .non H'
theorem ok_begin_game (T : TxtS K mg CG CS) (d_Game : MOk P w K mg base CG 3 "Game" ["self", "doubles_let"] (sp_Game_init CG)) (D : Dw0 K mg "begin_game" s_begin_game ["state"]) : DOk P w K mg base 5 "begin_game" ["state"] (sp_begin_game CG CS) := by
  obtain ⟨f_Game, fd_Game, M_Game, G_Game, m_Game, b_Game⟩ := d_Game
  refine D.ok fun f fd F => F.ok sc_begin_game (fun vs H Q E h => ?_) (fun cdv A outer s H vs Q E hr h => ?_)
  · obtain ⟨p, st, gv, rfl, _⟩ := h
    rfl
  · obtain ⟨p, st, gv, rfl, ⟨dx, pt, h1, hpt⟩, q⟩ := h
    refine ⟨_, (pss_cons (ps_set (i := 1) sc_begin_game.nd rfl (.inl rfl) (pe_cmpR op_eq (pe_callB (cr_max rfl) (by rfl) T.z_max (by decide +kernel) (pa_cons (pe_fld (pv 0) rfl) pa_nil)) (pe_op op_sub (pe_fld (pv 0) rfl) pe_int) (nomark _)))
    (pss_cons (ps_set (i := 2) sc_begin_game.nd rfl (.inl rfl) (pe_and (pv 1) (pe_one (pe_not (pe_fld (pv 0) rfl)))))
    (pss_cons (ps_fld (pv 0) (pe_or (pe_fld (pv 0) rfl) (pe_one (pv 2))) rfl)
    (pss_one (ps_fld (pv 0) (pe_make M_Game G_Game (hr.mono (by first | decide | omega)) (by rfl) m_Game b_Game .nil pass0 (pa_cons (pe_not (pv 2)) pa_nil)) rfl))))), ?_⟩
    -- needs_one = max(state.points) == state.goal - 1
    have vmax : Val (tCB (rMax K) (tCons (tFld K (tVar 0) "points") tNil)) (start ["state"] [V.ref p] ++ [none, none]) H (.int ((max st.a st.b : Nat) : Int)) := fun Q q => by
      refine fld_val (fun _ q => ⟨_, rfl, q⟩) h1 T.clS T.n_points sF_get_points ?_
      refine ⟨pt, [(st.a : Int), (st.b : Int)], rfl, SqL.of hpt, by simp, fun m hm hle => ?_⟩
      have em : m = ((max st.a st.b : Nat) : Int) := by
        have z1 := hle _ (List.mem_cons_self ..)
        have z2 := hle (st.b : Int) (by simp)
        rcases List.mem_cons.mp hm with e | e
        · omega
        · have : m = st.b := by simpa using e
          omega
      subst em
      exact q
    have e1 : V.bl (decide (V.int ((max st.a st.b : Nat) : Int) = V.int ((st.to : Int) - 1))) = .bl (decide (max st.a st.b + 1 = st.to)) := by
      refine congrArg V.bl (decide_eq_decide.mpr ⟨fun x => ?_, fun x => congrArg V.int (by omega)⟩)
      have := V.int.inj x
      omega
    refine st_set (val_to (val_eq vmax (val_sub (val_fld (val_var rfl) h1 T.clS T.n_goal sF_get_goal) val_c)) e1) ?_
    -- doubles_off = needs_one and not state.doubles_were_off
    refine st_set (val_and (val_var rfl) (val_not (val_fld (val_var rfl) h1 T.clS T.n_doubles_were_off sF_get_doubles_were_off))) ?_
    -- state.doubles_were_off = state.doubles_were_off or doubles_off
    refine fld_seq (val_or (val_fld (val_var rfl) h1 T.clS T.n_doubles_were_off sF_get_doubles_were_off) (val_var rfl)) (val_var rfl) h1 T.clS T.n_doubles_were_off (by simp [sF]) sF_put_doubles_were_off fun H2 h2 b2 => ?_
    -- state.game = Game(not doubles_off)
    refine ⟨_, rfl, _, rfl, fun g dg ng nd hne => ?_⟩
    refine ⟨g, dg, !(decide (max st.a st.b + 1 = st.to) && !st.crawford), rfl, upd_same, fun H3 hG b3 => ⟨rfl, ?_⟩⟩
    have e3 : Same H2 H3 := Same.made ng nd b3
    have h3 := e3 _ _ h2
    refine ⟨_, rfl, p, CS, dx, _, rfl, h3, T.clS, T.n_game, (by simp [sF]), ?_⟩
    rw [sF_put_game]
    have ngp : g ≠ p := fun e => by rw [e, h2] at ng; cases ng
    have bb : But p H3 (upd H3 p (.ins CS dx (sF (.int (st.to : Int)) (.ref pt) (.bl (st.crawford || (decide (max st.a st.b + 1 = st.to) && !st.crawford))) (.ref g)))) := (But.refl p H3).upd
    have npt : pt ≠ p := ne_of hpt h1 fun q => nomatch q
    exact q _ ⟨_, ⟨dx, pt, upd_same, bb _ _ (e3 _ _ (b2 _ _ hpt npt)) npt⟩, g, rfl, hG.but bb ngp h3 fun _ q => nomatch q⟩ (b2.trans ((But.of e3).trans bb))
end
end BG
namespace BG
open PySem PySem.Spec PyProof.Rows L2
/-- a game won: the points, then the next game or none -/
theorem wins_over {st : Kg61.State} {w n : Nat} (h : st.to ≤ (addP st w n).points w) : st.wins w n = { addP st w n with game := none } := by
  unfold Kg61.State.wins
  show (if st.to ≤ (addP st w n).points w then _ else _) = _
  rw [if_pos h]
  rfl
theorem wins_on {st : Kg61.State} {w n : Nat} (h : ¬ st.to ≤ (addP st w n).points w) (ha : st.a < st.to) (hb : st.b < st.to) : st.wins w n = beginG (addP st w n) := by
  obtain ⟨e1, e2⟩ := addP_to st w n
  have hm : (max (addP st w n).a (addP st w n).b + 1 = (addP st w n).to) ↔ ((addP st w n).a + 1 = (addP st w n).to ∨ (addP st w n).b + 1 = (addP st w n).to) := by
    unfold addP at h ⊢
    unfold Kg61.State.points at h
    by_cases c : w = 0
    · rw [if_pos c, if_pos c] at h
      rw [if_pos c]
      dsimp only at h ⊢
      omega
    · rw [if_neg c, if_neg c] at h
      rw [if_neg c]
      dsimp only at h ⊢
      omega
  have key : st.wins w n = (if st.to ≤ (addP st w n).points w then { addP st w n with game := none } else if (addP st w n).crawford = false ∧ ((addP st w n).a + 1 = (addP st w n).to ∨ (addP st w n).b + 1 = (addP st w n).to) then
      { addP st w n with crawford := true, game := some (Kg61.fresh false) } else { addP st w n with game := some (Kg61.fresh true) }) := by
    rfl
  rw [key, if_neg h]
  clear key e1 e2 h
  generalize addP st w n = t at hm
  unfold beginG
  cases c1 : t.crawford with
  | true => simp [c1]
  | false =>
    by_cases c2 : t.a + 1 = t.to ∨ t.b + 1 = t.to
    · rw [if_pos ⟨rfl, c2⟩, decide_eq_true (hm.mpr c2)]
      rfl
    · rw [if_neg (fun x => c2 x.2), decide_eq_false (fun x => c2 (hm.mp x))]
      simp [c1]
theorem BdAt.flip {H : Hp} {B : Addr} {b : Kg61.Board} {w : Nat} (hw : w < 2) (h : BdAt H B b w) : BdAt H B (Kg61.flip b) (1 - w) := by
  match w, hw with
  | 0, _ => exact h
  | 1, _ => exact h
theorem BdAt.any {H : Hp} {B : Addr} {b : Kg61.Board} {w v : Nat} (e : w = v ∨ b.own = b.other) (h : BdAt H B b v) : BdAt H B b w := by
  rcases e with rfl | e
  · exact h
  · obtain ⟨a0, a1, h1, h2, h3⟩ := h
    have z : ∀ w, side0 b w = b.own ∧ side1 b w = b.own := fun w => by
      unfold side0 side1
      rw [← e]
      constructor <;> split <;> rfl
    refine ⟨a0, a1, h1, ?_, ?_⟩
    · rw [(z w).1, ← (z v).1]; exact h2
    · rw [(z w).2, ← (z v).2]; exact h3
section
variable {P : Program} {w : World} {K : PySem.W.Frag} {mg : Str → Option Value} {base : Heap} {CG CS : Addr}
abbrev s_begin_match : Stmt := topS 26
theorem sc_begin_match : FnScope ["state", "goal"] ["state", "goal"] (defScope s_begin_match) := ⟨rfl, rfl, rfl, by decide +kernel, rfl, by decide +kernel, by decide +kernel⟩
def sp_begin_match (CG CS : Addr) : Sp := fun vs H Q _ => ∃ (s : Addr) (st : Kg61.State) (n : Nat), vs = [.ref s, .int (n : Int)] ∧ StAt CG CS H s st ∧ 1 ≤ n ∧
  ∀ H', StAt CG CS H' s ⟨n, 0, 0, n == 1, some (Kg61.fresh (n != 1))⟩ → But s H H' → Q .non H'
theorem ok_begin_match (T : TxtS K mg CG CS) (d_begin_game : DOk P w K mg base 5 "begin_game" ["state"] (sp_begin_game CG CS)) (D : Dw0 K mg "begin_match" s_begin_match ["state", "goal"]) : DOk P w K mg base 6 "begin_match" ["state", "goal"] (sp_begin_match CG CS) := by
  obtain ⟨f_begin_game, fd_begin_game, G_begin_game, m_begin_game, k_begin_game, b_begin_game⟩ := d_begin_game
  refine D.ok fun f fd F => F.ok sc_begin_match (fun vs H Q E h => ?_) (fun cdv A outer s H vs Q E hr h => ?_)
  · obtain ⟨p, st, n, rfl, _⟩ := h
    rfl
  · obtain ⟨p, st, n, rfl, ⟨gv, ⟨dx, pt, h1, hpt⟩, hg⟩, hn, q⟩ := h
    refine ⟨_, (pss_cons (ps_fld (pv 0) (pv 1) rfl)
    (pss_cons (ps_fld (pv 0) (pe_lst (pa_cons pe_int (pa_cons pe_int pa_nil))) rfl)
    (pss_cons (ps_fld (pv 0) pe_bl rfl)
    (pss_one (ps_expr (pe_call G_begin_game (hr.mono (by first | decide | omega)) (by rfl) m_begin_game k_begin_game b_begin_game .nil pass0 (pa_cons (pv 0) pa_nil))))))), ?_⟩
    refine fld_seq (val_var rfl) (val_var rfl) h1 T.clS T.n_goal (by simp [sF]) sF_put_goal fun H2 h2 b2 => ?_
    refine fldL_seq (fun Q k => two_new_lst Q k) (fun _ _ q => ⟨_, rfl, q⟩) h2 T.clS T.n_points (by simp [sF]) (fun _ => sF_put_points) fun pt' H3 n3 h3 b3 hpt' => ?_
    refine fld_seq (val_c) (val_var rfl) h3 T.clS T.n_doubles_were_off (by simp [sF]) sF_put_doubles_were_off fun H4 h4 b4 => ?_
    have hpt4 := b4 _ _ hpt' (ne_of hpt' h3 fun q => nomatch q)
    refine ⟨_, rfl, p, ⟨n, 0, 0, false, none⟩, gv, rfl, ⟨dx, pt', h4, hpt4⟩, fun H5 h5 b5 => ?_⟩
    have e : beginG ⟨n, 0, 0, false, none⟩ = ⟨n, 0, 0, n == 1, some (Kg61.fresh (n != 1))⟩ := by
      unfold beginG
      have e1 : decide (max 0 0 + 1 = n) = (n == 1) := by
        by_cases c : n = 1
        · subst c; rfl
        · rw [beq_eq_false_iff_ne.mpr c, decide_eq_false (by omega)]
      simp only [e1, Bool.false_or, Bool.not_false, Bool.and_true]
      rfl
    rw [e] at h5
    exact q H5 h5 (b2.trans (b3.trans (b4.trans b5)))
abbrev s_end_game : Stmt := topS 28
theorem sc_end_game : FnScope ["state", "winner", "won", "points"] ["state", "winner", "won"] (defScope s_end_game) := ⟨rfl, rfl, rfl, by decide +kernel, rfl, by decide +kernel, by decide +kernel⟩
def sp_end_game (CG CS : Addr) : Sp := fun vs H Q _ => ∃ (s : Addr) (st : Kg61.State) (w n : Nat), vs = [.ref s, .int (w : Int), .int (n : Int)] ∧ StAt CG CS H s st ∧ w < 2 ∧ st.a < st.to ∧ st.b < st.to ∧
  ∀ H', StAt CG CS H' s (st.wins w n) → But s H H' → Q .non H'
theorem ok_end_game (T : TxtS K mg CG CS) (d_begin_game : DOk P w K mg base 5 "begin_game" ["state"] (sp_begin_game CG CS)) (D : Dw0 K mg "end_game" s_end_game ["state", "winner", "won"]) : DOk P w K mg base 6 "end_game" ["state", "winner", "won"] (sp_end_game CG CS) := by
  obtain ⟨f_begin_game, fd_begin_game, G_begin_game, m_begin_game, k_begin_game, b_begin_game⟩ := d_begin_game
  refine D.ok fun f fd F => F.ok sc_end_game (fun vs H Q E h => ?_) (fun cdv A outer s H vs Q E hr h => ?_)
  · obtain ⟨p, st, w, n, rfl, _⟩ := h
    rfl
  · obtain ⟨p, st, w, n, rfl, ⟨gv, ⟨dx, pt, h1, hpt⟩, hg⟩, hw, hal, hbl, q⟩ := h
    refine ⟨_, (pss_cons (ps_set (i := 3) sc_end_game.nd rfl (.inl rfl) (pe_callTy call_list_of (by rfl) T.z_list (by decide +kernel) (pa_cons (pe_fld (pv 0) rfl) pa_nil)))
    (pss_cons (ps_augS (pv 3) (pv 1) get_list (pv 2) ip_add set_list)
    (pss_cons (ps_fld (pv 0) (pv 3) rfl)
    (pss_one (ps_if (pt_cmpR op_ge (pe_ix ix_list (pv 3) (pv 1) (fun _ _ => rfl)) (pe_fld (pv 0) rfl) (nomark _))
      (pss_one (ps_fld (pv 0) pe_non rfl))
      (pss_one (ps_expr (pe_call G_begin_game (hr.mono (by first | decide | omega)) (by rfl) m_begin_game k_begin_game b_begin_game .nil pass0 (pa_cons (pv 0) pa_nil))))))))), ?_⟩
    have ix : ∃ (j : Nat) (pv : Nat), w = j ∧ j < 2 ∧ ([.int (st.a : Int), .int (st.b : Int)] : List V)[j]? = some (.int (pv : Int)) ∧
        ([.int (st.a : Int), .int (st.b : Int)] : List V).set j (.int ((pv + n : Nat) : Int)) = [.int ((addP st w n).a : Int), .int ((addP st w n).b : Int)] ∧ pv + n = (addP st w n).points w := by
      match w, hw with
      | 0, _ => exact ⟨0, st.a, rfl, by decide, rfl, rfl, rfl⟩
      | 1, _ => exact ⟨1, st.b, rfl, by decide, rfl, rfl, rfl⟩
    obtain ⟨j, pv, rfl, hj, hpv, hset, hpts⟩ := ix
    obtain ⟨et, ec⟩ := addP_to st w n
    -- points = list(state.points)
    refine fld_val (val_var rfl) h1 T.clS T.n_points sF_get_points ?_
    refine ⟨pt, _, rfl, .inl (SqL.of hpt), fun L nL => ?_⟩
    have e2 := same_upd nL (o := .lst [.int (st.a : Int), .int (st.b : Int)])
    have hL : (upd H L (.lst [.int (st.a : Int), .int (st.b : Int)])) L = some (.lst [.int (st.a : Int), .int (st.b : Int)]) := upd_same
    generalize upd H L (.lst [.int (st.a : Int), .int (st.b : Int)]) = H2 at e2 hL
    -- points[winner] += won
    refine ⟨_, rfl, _, rfl, L, _, _, _, rfl, rfl, SqL.of hL, hpv, _, rfl, _, _, rfl, rfl, L, _, _, w, rfl, rfl, hL, ixn hj, ?_⟩
    dsimp only
    rw [show (pv : Int) + (n : Int) = ((pv + n : Nat) : Int) by omega, hset]
    have nLp : L ≠ p := fun e => by rw [e, h1] at nL; cases nL
    have e3 : Same H (upd H2 L (.lst [.int ((addP st w n).a : Int), .int ((addP st w n).b : Int)])) := fun b o e => by rw [upd_ne (ne_of_none e nL)]; exact e2 _ _ e
    have hL3 : (upd H2 L (.lst [.int ((addP st w n).a : Int), .int ((addP st w n).b : Int)])) L = some (.lst [.int ((addP st w n).a : Int), .int ((addP st w n).b : Int)]) := upd_same
    generalize upd H2 L (.lst [.int ((addP st w n).a : Int), .int ((addP st w n).b : Int)]) = H3 at e3 hL3
    -- state.points = points
    refine fld_seq (val_var rfl) (val_var rfl) (e3 _ _ h1) T.clS T.n_points (by simp [sF]) sF_put_points fun H4 h4 b4 => ?_
    have hL4 := b4 _ _ hL3 nLp
    have b04 : But p H H4 := (But.of e3).trans b4
    -- if points[winner] >= state.goal
    have hix : ([.int ((addP st w n).a : Int), .int ((addP st w n).b : Int)] : List V)[w]? = some (.int (((addP st w n).points w : Nat) : Int)) := by
      match w, hw with
      | 0, _ => rfl
      | 1, _ => rfl
    refine st_if (ans_test (val_ge (val_ix (val_var rfl) (val_var rfl) (SqL.of hL4) (atI_nat hix)) (val_fld (val_var rfl) h4 T.clS T.n_goal sF_get_goal))) (fun c => ?_) (fun c => ?_)
    · have c : st.to ≤ (addP st w n).points w := by
        have := of_decide_eq_true c
        omega
      refine fld_to (val_c) (val_var rfl) h4 T.clS T.n_game (by simp [sF]) sF_put_game fun H5 h5 b5 => ?_
      rw [wins_over c] at q
      refine q H5 ⟨.non, ⟨dx, L, ?_, b5 _ _ hL4 nLp⟩, rfl⟩ (b04.trans b5)
      rw [et, ec]
      exact h5
    · have c : ¬ st.to ≤ (addP st w n).points w := fun x => by
        have := of_decide_eq_false c
        omega
      rw [wins_on c hal hbl] at q
      refine ⟨_, rfl, p, addP st w n, gv, rfl, ⟨dx, L, ?_, hL4⟩, fun H5 h5 b5 => q H5 h5 (b04.trans b5)⟩
      rw [et, ec]
      exact h4
end
end BG
namespace BG
open PySem PySem.Spec PyProof.Rows L2
theorem min_nat (a b : Nat) : (if (b : Int) < (a : Int) then (b : Int) else (a : Int)) = ((min a b : Nat) : Int) := by
  split <;> omega
theorem val_call {sp : Sp} {t : TA} {σ : L2.St} {H : Hp} {vs : List V} {v : V} (h : ∀ Q : List V → Hp → Prop, Q vs H → t σ H Q) (k : ∀ Q : VK, Q v H → sp vs H Q E0) : Val (tCall sp [] E0 t) σ H v := fun Q q => h _ (by
  rw [List.append_nil]
  exact k Q q)
theorem args1 {ta : TE} {σ : L2.St} {H : Hp} {a : V} (h : Val ta σ H a) : ∀ Q : List V → Hp → Prop, Q [a] H → tCons ta tNil σ H Q := fun _ q => h _ q
theorem args2 {ta tb : TE} {σ : L2.St} {H : Hp} {a b : V} (h : Val ta σ H a) (k : Val tb σ H b) : ∀ Q : List V → Hp → Prop, Q [a, b] H → tCons ta (tCons tb tNil) σ H Q := fun _ q => h _ (k _ q)
theorem args3 {ta tb tc : TE} {σ : L2.St} {H : Hp} {a b c : V} (h : Val ta σ H a) (k : Val tb σ H b) (l : Val tc σ H c) : ∀ Q : List V → Hp → Prop, Q [a, b, c] H → tCons ta (tCons tb (tCons tc tNil)) σ H Q := fun _ q => h _ (k _ (l _ q))
section
variable {P : Program} {w : World} {K : PySem.W.Frag} {mg : Str → Option Value} {base : Heap} {CG CS : Addr}
abbrev s_begin_turn : Stmt := topS 29
theorem sc_begin_turn : FnScope ["game", "player"] ["game", "player"] (defScope s_begin_turn) := ⟨rfl, rfl, rfl, by decide +kernel, rfl, by decide +kernel, by decide +kernel⟩
def sp_begin_turn (CG : Addr) : Sp := fun vs H Q _ => ∃ (g dx : Addr) (v vB vT vP vC vH vL vD vM : V), vs = [.ref g, v] ∧ H g = some (.ins CG dx (gF vB vT vP vC vH vL vD vM)) ∧
  ∀ H' D, H' g = some (.ins CG dx (gF vB v (.int 1) vC vH vL (.ref D) (.int 0))) → But g H H' → H' D = some (.lst []) → Q .non H'
theorem ok_begin_turn (T : TxtS K mg CG CS) (D : Dw0 K mg "begin_turn" s_begin_turn ["game", "player"]) : DOk P w K mg base 1 "begin_turn" ["game", "player"] (sp_begin_turn CG) := by
  refine D.ok fun f fd F => F.ok sc_begin_turn (fun vs H Q E h => ?_) (fun cdv A outer s H vs Q E hr h => ?_)
  · obtain ⟨g, dx, v, vB, vT, vP, vC, vH, vL, vD, vM, rfl, _⟩ := h
    rfl
  · obtain ⟨g, dx, v, vB, vT, vP, vC, vH, vL, vD, vM, rfl, h1, q⟩ := h
    refine ⟨_, (pss_cons (ps_fld (pv 0) (pv 1) rfl)
    (pss_cons (ps_fld (pv 0) (pe_ki T.c_TURN (by rfl)) rfl)
    (pss_cons (ps_fld (pv 0) (pe_lst pa_nil) rfl)
    (pss_one (ps_fld (pv 0) pe_int rfl))))), ?_⟩
    refine fld_seq (val_var rfl) (val_var rfl) h1 T.clG T.n_turn (by simp [gF]) gF_put_turn fun H2 h2 b2 => ?_
    refine fld_seq (val_c) (val_var rfl) h2 T.clG T.n_phase (by simp [gF]) gF_put_phase fun H3 h3 b3 => ?_
    refine fldL_seq (fun Q k => nil_new Q k) (fun _ _ q => ⟨_, rfl, q⟩) h3 T.clG T.n_dice (by simp [gF]) (fun _ => gF_put_dice) fun D H4 n4 h4 b4 hD => ?_
    refine fld_to (val_c) (val_var rfl) h4 T.clG T.n_must_use (by simp [gF]) gF_put_must_use fun H5 h5 b5 => ?_
    exact q H5 D h5 (b2.trans (b3.trans (b4.trans b5))) (b5 _ _ hD (ne_of hD h4 fun q => nomatch q))
abbrev s_thrown_dice : Stmt := topS 30
theorem sc_thrown_dice : FnScope ["one", "other"] ["one", "other"] (defScope s_thrown_dice) := ⟨rfl, rfl, rfl, by decide +kernel, rfl, by decide +kernel, by decide +kernel⟩
def sp_thrown_dice : Sp := fun vs H Q _ => ∃ x y : Nat, vs = [.int (x : Int), .int (y : Int)] ∧ ∀ H' D, Same H H' → H D = none → H' D = some (.lst (cs (dl x y))) → Q (.ref D) H'
theorem ok_thrown_dice (T : TxtS K mg CG CS) (D : Dw0 K mg "thrown_dice" s_thrown_dice ["one", "other"]) : DOk P w K mg base 1 "thrown_dice" ["one", "other"] (sp_thrown_dice) := by
  refine D.ok fun f fd F => F.ok sc_thrown_dice (fun vs H Q E h => ?_) (fun cdv A outer s H vs Q E hr h => ?_)
  · obtain ⟨x, y, rfl, _⟩ := h
    rfl
  · obtain ⟨x, y, rfl, q⟩ := h
    refine ⟨_, (pss_cons (ps_if (pt_cmpR op_eq (pv 0) (pv 1) (nomark _))
      (pss_one (ps_ret (pe_op op_rep (pe_lst (pa_cons (pv 0) pa_nil)) pe_int)))
      pss_nil)
    (pss_one (ps_ret (pe_lst (pa_cons (pe_callB (call_max2 rfl) (by rfl) T.z_max (by decide +kernel) (pa_cons (pv 0) (pa_cons (pv 1) pa_nil))) (pa_cons (pe_callB (call_min2 rfl) (by rfl) T.z_min (by decide +kernel) (pa_cons (pv 0) (pa_cons (pv 1) pa_nil))) pa_nil)))))), ?_⟩
    refine st_if (ans_test (val_to (val_eq (val_var rfl) (val_var rfl)) (congrArg V.bl (int_eq x y)))) (fun c => ?_) (fun c => ?_)
    · have c := eq_of_beq c
      subst c
      refine ⟨_, rfl, (by show 1 ≤ sizeLine; decide), fun p np => ?_⟩
      refine ⟨p, 4, _, rfl, rfl, upd_same, by decide, by decide, (by show 1 * 4 ≤ sizeLine; decide), fun l nl => ?_⟩
      refine q _ l ((same_upd np).trans (same_upd nl)) ((same_upd np).free nl) ?_
      rw [upd_same]
      unfold dl
      rw [if_pos rfl]
      rfl
    · have c := beq_eq_false_iff_ne.mp c
      refine ⟨_, rfl, _, rfl, _, _, rfl, ?_⟩
      refine ⟨_, rfl, _, rfl, _, _, rfl, (by show 2 ≤ sizeLine; decide), fun l nl => ?_⟩
      rw [max_nat, min_nat]
      refine q _ l (same_upd nl) nl ?_
      rw [upd_same]
      unfold dl
      rw [if_neg c]
      rfl
abbrev s_play_throw : Stmt := topS 31
theorem sc_play_throw : FnScope ["game", "player", "one", "other", "dice", "must_use"] ["game", "player", "one", "other"] (defScope s_play_throw) := ⟨rfl, rfl, rfl, by decide +kernel, rfl, by decide +kernel, by decide +kernel⟩
def sp_play_throw (CG : Addr) : Sp := fun vs H Q _ => ∃ (g : Addr) (G : Kg61.Game) (w x y : Nat), vs = [.ref g, .int (w : Int), .int (x : Int), .int (y : Int)] ∧ GmAt CG H g G ∧ WFB G.board ∧ w < 2 ∧ (w = G.who ∨ G.board.own = G.board.other) ∧ (1 ≤ x ∧ x ≤ 6) ∧ (1 ≤ y ∧ y ≤ 6) ∧
  ∀ H', GmAt CG H' g (({ G with who := w } : Kg61.Game).throws (max x y) (min x y)) → But g H H' → Q (.int ((Kg61.most G.board (dl x y) : Nat) : Int)) H'
theorem ok_play_throw (T : TxtS K mg CG CS) (d_thrown_dice : DOk P w K mg base 1 "thrown_dice" ["one", "other"] (sp_thrown_dice)) (d_begin_turn : DOk P w K mg base 1 "begin_turn" ["game", "player"] (sp_begin_turn CG)) (d_most_usable : DOk P w K mg base 14 "most_usable" ["board", "player", "dice"] (sp_most_usable 5)) (D : Dw0 K mg "play_throw" s_play_throw ["game", "player", "one", "other"]) : DOk P w K mg base 15 "play_throw" ["game", "player", "one", "other"] (sp_play_throw CG) := by
  obtain ⟨f_thrown_dice, fd_thrown_dice, G_thrown_dice, m_thrown_dice, k_thrown_dice, b_thrown_dice⟩ := d_thrown_dice
  obtain ⟨f_begin_turn, fd_begin_turn, G_begin_turn, m_begin_turn, k_begin_turn, b_begin_turn⟩ := d_begin_turn
  obtain ⟨f_most_usable, fd_most_usable, G_most_usable, m_most_usable, k_most_usable, b_most_usable⟩ := d_most_usable
  refine D.ok fun f fd F => F.ok sc_play_throw (fun vs H Q E h => ?_) (fun cdv A outer s H vs Q E hr h => ?_)
  · obtain ⟨g, G, w, x, y, rfl, _⟩ := h
    rfl
  · obtain ⟨g, G, w, x, y, rfl, ⟨dx, B, D0, h1, hB, hD0⟩, W, hw, hor, hx, hy, q⟩ := h
    rw [throws_eq] at q
    refine ⟨_, (pss_cons (ps_set (i := 4) sc_play_throw.nd rfl (.inl rfl) (pe_call G_thrown_dice (hr.mono (by first | decide | omega)) (by rfl) m_thrown_dice k_thrown_dice b_thrown_dice .nil pass0 (pa_cons (pv 2) (pa_cons (pv 3) pa_nil))))
    (pss_cons (ps_set (i := 5) sc_play_throw.nd rfl (.inl rfl) (pe_call G_most_usable (hr.mono (by first | decide | omega)) (by rfl) m_most_usable k_most_usable b_most_usable .nil pass0 (pa_cons (pe_fld (pv 0) rfl) (pa_cons (pv 1) (pa_cons (pv 4) pa_nil)))))
    (pss_cons (ps_if (pt_cmpR op_eq (pv 5) pe_int (nomark _))
      (pss_cons (ps_expr (pe_call G_begin_turn (hr.mono (by first | decide | omega)) (by rfl) m_begin_turn k_begin_turn b_begin_turn .nil pass0 (pa_cons (pv 0) (pa_cons (pe_op op_sub pe_int (pv 1)) pa_nil))))
    (pss_one (ps_ret pe_int)))
      pss_nil)
    (pss_cons (ps_fld (pv 0) (pv 1) rfl)
    (pss_cons (ps_fld (pv 0) (pe_ki T.c_STEPS (by rfl)) rfl)
    (pss_cons (ps_fld (pv 0) (pv 4) rfl)
    (pss_cons (ps_fld (pv 0) (pv 5) rfl)
    (pss_one (ps_ret (pv 5)))))))))), ?_⟩
    -- dice = thrown_dice(one, other)
    refine ⟨_, rfl, _, rfl, x, y, rfl, fun H2 D2 e2 n2 h2 => ?_⟩
    have hg2 := e2 _ _ h1
    have hBw : BdAt H2 B G.board w := (hB.any hor).same e2
    -- must_use = most_usable(game.board, player, dice)
    refine ⟨_, rfl, g, CG, dx, _, _, rfl, hg2, T.clG, T.n_board, gF_get_board, ?_⟩
    refine ⟨_, rfl, _, rfl, B, D2, G.board, w, dl x y, rfl, hBw, W, hw, h2, dl_dice hx hy, (by have := dl_four x y; omega), dl_four x y, fun H3 e3 => ?_⟩
    have e03 := e2.trans e3
    have h3 := e03 _ _ h1
    have hB3 := hBw.same e3
    have hD3 := e3 _ _ h2
    have n0 := int_eq (Kg61.most G.board (dl x y)) 0
    refine st_if (ans_test (val_to (val_eq (val_var rfl) val_c) (congrArg V.bl n0))) (fun c => ?_) (fun c => ?_)
    · have c := eq_of_beq c
      rw [if_pos c] at q
      -- begin_turn(game, 1 - player); return 0
      refine ⟨_, rfl, _, rfl, _, _, rfl, rfl, g, dx, _, _, _, _, _, _, _, _, _, rfl, h3, fun H4 D4 h4 b4 hD4 => ?_⟩
      have eq : Q (.int 0) H4 := by
        rw [c] at q
        refine q H4 ⟨dx, B, D4, ?_, (hB3.flip hw).but b4 h3 (fun _ q => nomatch q), hD4⟩ ((But.of e03).trans b4)
        show H4 g = some (.ins CG dx (gF (.ref B) (.int ((1 - w : Nat) : Int)) (.int 1) (.int (G.cube : Int)) (hold G.holder) (.bl G.free) (.ref D4) (.int 0)))
        rw [h4, show ((1 - w : Nat) : Int) = 1 - (w : Int) by omega]
      exact eq
    · have c := beq_eq_false_iff_ne.mp c
      rw [if_neg c] at q
      refine fld_seq (val_var rfl) (val_var rfl) h3 T.clG T.n_turn (by simp [gF]) gF_put_turn fun H4 h4 b4 => ?_
      refine fld_seq (val_c) (val_var rfl) h4 T.clG T.n_phase (by simp [gF]) gF_put_phase fun H5 h5 b5 => ?_
      refine fld_seq (val_var rfl) (val_var rfl) h5 T.clG T.n_dice (by simp [gF]) gF_put_dice fun H6 h6 b6 => ?_
      refine fld_seq (val_var rfl) (val_var rfl) h6 T.clG T.n_must_use (by simp [gF]) gF_put_must_use fun H7 h7 b7 => ?_
      have b := b4.trans (b5.trans (b6.trans b7))
      exact ⟨_, rfl, q H7 ⟨dx, B, D2, h7, hB3.but b h3 (fun _ q => nomatch q), b _ _ hD3 (ne_of hD3 h3 fun q => nomatch q)⟩ ((But.of e03).trans b)⟩
abbrev s_may_double : Stmt := topS 32
theorem sc_may_double : FnScope ["game"] ["game"] (defScope s_may_double) := ⟨rfl, rfl, rfl, by decide +kernel, rfl, by decide +kernel, by decide +kernel⟩
def sp_may_double (CG : Addr) : Sp := fun vs H Q _ => ∃ (g : Addr) (G : Kg61.Game), vs = [.ref g] ∧ GmAt CG H g G ∧ Q (.bl (!decide (G.free = false ∨ (G.holder ≠ none ∧ G.holder ≠ some G.who) ∨ 1024 ≤ G.cube))) H
theorem ok_may_double (T : TxtS K mg CG CS) (D : Dw0 K mg "may_double" s_may_double ["game"]) : DOk P w K mg base 1 "may_double" ["game"] (sp_may_double CG) := by
  refine D.ok fun f fd F => F.ok sc_may_double (fun vs H Q E h => ?_) (fun cdv A outer s H vs Q E hr h => ?_)
  · obtain ⟨g, G, rfl, _⟩ := h
    rfl
  · obtain ⟨g, G, rfl, ⟨dx, B, D0, h1, hB, hD0⟩, q⟩ := h
    refine ⟨_, (pss_cons (ps_if (PW.pt (pw_or (pt_not (pt_val (pe_fld (pv 0) rfl))) (pw_or1 (pt_cmpR op_ge (pe_fld (pv 0) rfl) (pe_ki T.c_HIGHEST_CUBE (by rfl)) (nomark _)))))
      (pss_one (ps_ret pe_bl))
      pss_nil)
    (pss_one (ps_ret (pe_or (pe_cmpR op_isN (pe_fld (pv 0) rfl) pe_non (nomark _)) (pe_one (pe_cmpR op_eq (pe_fld (pv 0) rfl) (pe_fld (pv 0) rfl) (nomark _))))))), ?_⟩
    refine st_if (ans_or2 (ans_not (ans_val (val_fld (val_var rfl) h1 T.clG T.n_doubles_let gF_get_doubles_let))) (ans_test (val_ge (val_fld (val_var rfl) h1 T.clG T.n_cube gF_get_cube) val_c))) (fun c => ?_) (fun c => ?_)
    · have e : (!decide (G.free = false ∨ (G.holder ≠ none ∧ G.holder ≠ some G.who) ∨ 1024 ≤ G.cube)) = false := by
        rw [Bool.or_eq_true] at c
        rw [Bool.not_eq_false', decide_eq_true_iff]
        rcases c with c | c
        · exact .inl (by simpa using c)
        · exact .inr (.inr (by have := of_decide_eq_true c; omega))
      rw [e] at q
      exact q
    · have c : G.free = true ∧ ¬ 1024 ≤ G.cube := by
        rw [Bool.or_eq_false_iff] at c
        refine ⟨by simpa using c.1, fun x => ?_⟩
        have := of_decide_eq_false c.2
        omega
      refine val_or (a := decide (hold G.holder = .non)) (b := decide (hold G.holder = .int (G.who : Int))) (val_is (val_fld (val_var rfl) h1 T.clG T.n_holder gF_get_holder)) (val_eq (val_fld (val_var rfl) h1 T.clG T.n_holder gF_get_holder) (val_fld (val_var rfl) h1 T.clG T.n_turn gF_get_turn) ?_) _ ?_
      · cases G.holder <;> rfl
      · have e : (decide (hold G.holder = .non) || decide (hold G.holder = .int (G.who : Int))) = (!decide (G.free = false ∨ (G.holder ≠ none ∧ G.holder ≠ some G.who) ∨ 1024 ≤ G.cube)) := by
          rw [c.1]
          cases e : G.holder with
          | none => simp [hold, c.2]
          | some v =>
            have e3 : (V.int (v : Int) = V.int (G.who : Int)) ↔ v = G.who := ⟨fun x => by have := V.int.inj x; omega, fun x => by rw [x]⟩
            simp [hold, c.2, e3]
        rw [e]
        exact q
end
end BG
namespace BG
open PySem PySem.Spec PyProof.Rows L2
/-- all but the objects of the program is as it was -/
def NI (H H' : Hp) : Prop := ∀ b o, H b = some o → (∀ C dx fs, o ≠ .ins C dx fs) → H' b = some o
theorem NI.of {H H' : Hp} (h : Same H H') : NI H H' := fun _ _ e _ => h _ _ e
theorem NI.trans {H H1 H2 : Hp} (h : NI H H1) (k : NI H1 H2) : NI H H2 := fun b o e n => k b o (h b o e n) n
theorem But.ni {a : Addr} {H H' : Hp} (h : But a H H') {C dx : Addr} {fs : List (Str × V)} (e : H a = some (.ins C dx fs)) : NI H H' := fun b o eb n => h b o eb fun q => by
  rw [q, e] at eb
  exact n _ _ _ (Option.some.inj eb).symm
theorem StA.but {CS a : Addr} {H H' : Hp} {s : Addr} {to x y : Nat} {cr : Bool} {gv : V} (h : StA CS H s to x y cr gv) (e : But a H H') (n : s ≠ a) {o : HO} (ha : H a = some o) (ho : ∀ xs, o ≠ .lst xs) : StA CS H' s to x y cr gv := by
  obtain ⟨dx, pt, h1, h2⟩ := h
  exact ⟨dx, pt, e _ _ h1 n, e _ _ h2 (ne_of h2 ha fun q => ho _ q.symm)⟩
/-- the state's game, and what becomes of the state when the game's object changes -/
theorem StAt.game {CG CS : Addr} {H : Hp} {s : Addr} {st : Kg61.State} {G : Kg61.Game} (h : StAt CG CS H s st) (hg : st.game = some G) : ∃ g dx pt, H s = some (.ins CS dx (sF (.int (st.to : Int)) (.ref pt) (.bl st.crawford) (.ref g))) ∧ GmAt CG H g G ∧
    (∀ H' G', But g H H' → GmAt CG H' g G' → StAt CG CS H' s { st with game := some G' }) := by
  obtain ⟨gv, ⟨dx, pt, h1, h2⟩, h3⟩ := h
  rw [hg] at h3
  obtain ⟨g, rfl, hG⟩ := h3
  refine ⟨g, dx, pt, h1, hG, fun H' G' hb hG' => ?_⟩
  obtain ⟨dg, B, D, e1, _⟩ := hG
  have n : s ≠ g := fun q => g_ne_s e1 h1 q.symm
  exact ⟨.ref g, StA.but ⟨dx, pt, h1, h2⟩ hb n e1 (fun _ q => nomatch q), g, rfl, hG'⟩
theorem StAt.none {CG CS : Addr} {H : Hp} {s : Addr} {st : Kg61.State} (h : StAt CG CS H s st) (hg : st.game = none) : ∃ dx pt, H s = some (.ins CS dx (sF (.int (st.to : Int)) (.ref pt) (.bl st.crawford) .non)) := by
  obtain ⟨gv, ⟨dx, pt, h1, h2⟩, h3⟩ := h
  rw [hg] at h3
  have h3 : gv = .non := h3
  subst h3
  exact ⟨dx, pt, h1⟩
theorem StAt.obj {CG CS : Addr} {H : Hp} {s : Addr} {st : Kg61.State} (h : StAt CG CS H s st) : ∃ dx fs, H s = some (.ins CS dx fs) := by
  obtain ⟨gv, ⟨dx, pt, h1, h2⟩, h3⟩ := h
  exact ⟨dx, _, h1⟩
theorem GmAt.obj {CG : Addr} {H : Hp} {g : Addr} {G : Kg61.Game} (h : GmAt CG H g G) : ∃ dx fs, H g = some (.ins CG dx fs) := by
  obtain ⟨dx, B, D, e1, _⟩ := h
  exact ⟨dx, _, e1⟩
/-! ### values -/
theorem val_isY {ta : TE} {σ : L2.St} {H : Hp} (h : Val ta σ H .non) : Val (tOp (fun x y H Q => y = .non ∧ Q (.bl (decide (x = .non))) H) ta (tC .non)) σ H (.bl true) := val_is h
theorem val_isF {ta : TE} {σ : L2.St} {H : Hp} {a : Addr} (h : Val ta σ H (.ref a)) : Val (tOp (fun x y H Q => y = .non ∧ Q (.bl (decide (x = .non))) H) ta (tC .non)) σ H (.bl false) := val_is h
theorem val_neg {ta : TE} {σ : L2.St} {H : Hp} {i : Int} (h : Val ta σ H (.int i)) : Val (tUn (rU fun i => .int (-i)) ta) σ H (.int (-i)) := fun _ q => h _ ⟨i, rfl, q⟩
theorem val_chain {ta tb tc : TE} {σ : L2.St} {H : Hp} {i j k : Int} (h : Val ta σ H (.int i)) (h2 : Val tb σ H (.int j)) (h3 : Val tc σ H (.int k)) :
    Val (tChain (rI0 fun i j => .bl (decide (i ≤ j))) (rI0 fun i j => .bl (decide (i ≤ j))) ta tb tc) σ H (.bl (decide (i ≤ j) && decide (j ≤ k))) := fun Q q => h _ (h2 _ ⟨i, j, rfl, rfl, decide (i ≤ j), rfl, by
  cases e : decide (i ≤ j) with
  | true =>
    rw [e] at q
    exact iteT (h3 _ ⟨j, k, rfl, rfl, q⟩)
  | false =>
    rw [e] at q
    exact iteF q⟩)
/-- return [x] -/
theorem ret1 {ta : TE} {D : Ends} {σ : L2.St} {H : Hp} {x : V} (h : Val ta σ H x) (k : ∀ p H', H p = none → Same H H' → H' p = some (.lst [x]) → D.rt (.ref p) H') : tRet (tLst (tCons ta tNil)) D σ H :=
  h _ ⟨(by show 1 ≤ sizeLine; decide), fun p np => k p _ np (same_upd np) upd_same⟩
theorem ret0 {D : Ends} {σ : L2.St} {H : Hp} (k : ∀ p H', H p = none → Same H H' → H' p = some (.lst []) → D.rt (.ref p) H') : tRet (tLst tNil) D σ H :=
  ⟨(by show 0 ≤ sizeLine; decide), fun p np => k p _ np (same_upd np) upd_same⟩
theorem ret3 {ta tb tc : TE} {D : Ends} {σ : L2.St} {H : Hp} {x y z : V} (h : Val ta σ H x) (h2 : Val tb σ H y) (h3 : Val tc σ H z) (k : ∀ p H', H p = none → Same H H' → H' p = some (.lst [x, y, z]) → D.rt (.ref p) H') : tRet (tLst (tCons ta (tCons tb (tCons tc tNil)))) D σ H :=
  h _ (h2 _ (h3 _ ⟨(by show 3 ≤ sizeLine; decide), fun p np => k p _ np (same_upd np) upd_same⟩))
/-- return [x] + a list -/
theorem retcat {ta tb : TE} {D : Ends} {σ : L2.St} {H : Hp} {x : V} {ys : List V} (h : Val ta σ H x) (hl : ys.length < 1000) (hb : ∀ H1, Same H H1 → ∀ Q : VK, (∀ b H2, Same H1 H2 → H2 b = some (.lst ys) → Q (.ref b) H2) → tb σ H1 Q)
    (k : ∀ p H', H p = none → Same H H' → H' p = some (.lst (x :: ys)) → D.rt (.ref p) H') : tRet (tOp rCat (tLst (tCons ta tNil)) tb) D σ H :=
  h _ ⟨(by show 1 ≤ sizeLine; decide), fun p np => hb _ (same_upd np) _ fun b H2 e2 h2 => ⟨p, b, [x], ys, rfl, rfl, e2 _ _ upd_same, h2, (by
    show 1 + ys.length ≤ sizeLine
    exact Nat.le_of_lt (small1000 (by omega))), fun q nq => k q _ (((same_upd np).trans e2).free nq) (((same_upd np).trans e2).trans (same_upd nq)) upd_same⟩⟩
def ansV (a : Kg61.Ans) : List V := (a.value :: a.out).map V.int
/-- a call of the document's on the state at s -/
def Did (CG CS : Addr) (H : Hp) (s : Addr) (st : Kg61.State) (c : Kg61.Call) (Q : VK) : Prop := StAt CG CS H s st ∧ WFS st ∧
  ∀ H' p, StAt CG CS H' s (Kg61.spec st c).1 → NI H H' → H p = none → H' p = some (.lst (ansV (Kg61.spec st c).2)) → Q (.ref p) H'
/-- a refusal -/
theorem Did.no {CG CS : Addr} {H : Hp} {s : Addr} {st : Kg61.State} {c : Kg61.Call} {Q : VK} (h : Did CG CS H s st c Q) {z : Int} (e : Kg61.spec st c = (st, Kg61.num z)) {p : Addr} {H' : Hp} (np : H p = none) (hs : Same H H') (hp : H' p = some (.lst [.int z])) : Q (.ref p) H' := by
  obtain ⟨h1, _, k⟩ := h
  rw [e] at k
  exact k H' p (h1.same hs) (.of hs) np hp
/-- what is refused by the phase -/
def refu (st : Kg61.State) (ph : Nat) : Int := match st.game with
  | none => -2
  | some G => if G.phase = ph then 0 else -3
section
variable {P : Program} {w : World} {K : PySem.W.Frag} {mg : Str → Option Value} {base : Heap} {CG CS : Addr}
abbrev s_is_die : Stmt := topS 42
theorem sc_is_die : FnScope ["number"] ["number"] (defScope s_is_die) := ⟨rfl, rfl, rfl, by decide +kernel, rfl, by decide +kernel, by decide +kernel⟩
def sp_is_die : Sp := fun vs H Q _ => ∃ n : Int, vs = [.int n] ∧ Q (.bl (Kg61.within n 1 6)) H
theorem ok_is_die (D : Dw0 K mg "is_die" s_is_die ["number"]) : DOk P w K mg base 1 "is_die" ["number"] (sp_is_die) := by
  refine D.ok fun f fd F => F.ok sc_is_die (fun vs H Q E h => ?_) (fun cdv A outer s H vs Q E hr h => ?_)
  · obtain ⟨n, rfl, _⟩ := h
    rfl
  · obtain ⟨n, rfl, q⟩ := h
    refine ⟨_, (pss_one (ps_ret (pe_chain op_le op_le pe_int (pv 0) pe_int))), ?_⟩
    exact st_ret (val_chain val_c (val_var rfl) val_c) q
abbrev s_refusal_in : Stmt := topS 44
theorem sc_refusal_in : FnScope ["state", "phase"] ["state", "phase"] (defScope s_refusal_in) := ⟨rfl, rfl, rfl, by decide +kernel, rfl, by decide +kernel, by decide +kernel⟩
def sp_refusal_in (CG CS : Addr) : Sp := fun vs H Q _ => ∃ (s : Addr) (st : Kg61.State) (ph : Nat), vs = [.ref s, .int (ph : Int)] ∧ StAt CG CS H s st ∧ Q (.int (refu st ph)) H
theorem ok_refusal_in (T : TxtS K mg CG CS) (D : Dw0 K mg "refusal_in" s_refusal_in ["state", "phase"]) : DOk P w K mg base 1 "refusal_in" ["state", "phase"] (sp_refusal_in CG CS) := by
  refine D.ok fun f fd F => F.ok sc_refusal_in (fun vs H Q E h => ?_) (fun cdv A outer s H vs Q E hr h => ?_)
  · obtain ⟨s, st, ph, rfl, _⟩ := h
    rfl
  · obtain ⟨s, st, ph, rfl, hS, q⟩ := h
    refine ⟨_, (pss_cons (ps_if (pt_cmpR op_isN (pe_fld (pv 0) rfl) pe_non (nomark _))
      (pss_one (ps_ret (pe_un un_neg pe_int)))
      pss_nil)
    (pss_cons (ps_if (pt_cmpR op_ne (pe_fld (pe_fld (pv 0) rfl) rfl) (pv 1) (nomark _))
      (pss_one (ps_ret (pe_un un_neg pe_int)))
      pss_nil)
    (pss_one (ps_ret pe_int)))), ?_⟩
    unfold refu at q
    cases hg : st.game with
    | none =>
      rw [hg] at q
      obtain ⟨dx, pt, h1⟩ := hS.none hg
      refine st_yes (ans_test (val_is (val_fld (val_var rfl) h1 T.clS T.n_game sF_get_game))) ?_
      exact st_ret (val_neg val_c) q
    | some G =>
      rw [hg] at q
      obtain ⟨g, dx, pt, h1, ⟨dg, B, D, hG, _⟩, _⟩ := hS.game hg
      refine st_no (ans_test (val_is (val_fld (val_var rfl) h1 T.clS T.n_game sF_get_game))) ?_
      refine st_if (ans_test (val_ne (val_fld (val_fld (val_var rfl) h1 T.clS T.n_game sF_get_game) hG T.clG T.n_phase gF_get_phase) (val_var rfl) rfl)) (fun c => ?_) (fun c => ?_)
      · have c : ¬ G.phase = ph := fun e => by
          rw [e] at c
          simp at c
        dsimp only at q
        rw [if_neg c] at q
        exact st_ret (val_neg val_c) q
      · have c : G.phase = ph := by
          have c : decide (V.int (G.phase : Int) = V.int (ph : Int)) = true := by simpa using c
          have := V.int.inj (of_decide_eq_true c)
          omega
        dsimp only at q
        rw [if_pos c] at q
        exact q
abbrev s_how_it_stands : Stmt := topS 45
theorem sc_how_it_stands : FnScope ["state", "game"] ["state"] (defScope s_how_it_stands) := ⟨rfl, rfl, rfl, by decide +kernel, rfl, by decide +kernel, by decide +kernel⟩
def sp_how_it_stands (CG CS : Addr) : Sp := fun vs H Q _ => ∃ (s : Addr) (st : Kg61.State), vs = [.ref s] ∧ StAt CG CS H s st ∧ ∀ H' p, Same H H' → H p = none → H' p = some (.lst ((Kg61.told st).map V.int)) → Q (.ref p) H'
theorem ok_how_it_stands (T : TxtS K mg CG CS) (D : Dw0 K mg "how_it_stands" s_how_it_stands ["state"]) : DOk P w K mg base 1 "how_it_stands" ["state"] (sp_how_it_stands CG CS) := by
  refine D.ok fun f fd F => F.ok sc_how_it_stands (fun vs H Q E h => ?_) (fun cdv A outer s H vs Q E hr h => ?_)
  · obtain ⟨s, st, rfl, _⟩ := h
    rfl
  · obtain ⟨s, st, rfl, hS, q⟩ := h
    refine ⟨_, (pss_cons (ps_set (i := 1) sc_how_it_stands.nd rfl (.inl rfl) (pe_fld (pv 0) rfl))
    (pss_cons (ps_if (pt_cmpR op_isN (pv 1) pe_non (nomark _))
      (pss_one (ps_ret (pe_lst pa_nil)))
      pss_nil)
    (pss_one (ps_ret (pe_lst (pa_cons (pe_fld (pv 1) rfl) (pa_cons (pe_fld (pv 1) rfl) (pa_cons (pe_fld (pv 1) rfl) pa_nil)))))))), ?_⟩
    unfold Kg61.told at q
    cases hg : st.game with
    | none =>
      rw [hg] at q
      obtain ⟨dx, pt, h1⟩ := hS.none hg
      refine st_set (val_fld (val_var rfl) h1 T.clS T.n_game sF_get_game) ?_
      refine st_yes (ans_test (val_isY (val_var rfl))) ?_
      exact ret0 fun p H' np hs hp => q H' p hs np hp
    | some G =>
      rw [hg] at q
      obtain ⟨g, dx, pt, h1, ⟨dg, B, D, hG, _⟩, _⟩ := hS.game hg
      refine st_set (val_fld (val_var rfl) h1 T.clS T.n_game sF_get_game) ?_
      refine st_no (ans_test (val_isF (val_var rfl))) ?_
      exact ret3 (val_fld (val_var rfl) hG T.clG T.n_turn gF_get_turn) (val_fld (val_var rfl) hG T.clG T.n_phase gF_get_phase) (val_fld (val_var rfl) hG T.clG T.n_must_use gF_get_must_use) fun p H' np hs hp => q H' p hs np hp
theorem told_len (st : Kg61.State) : ((Kg61.told st).map V.int).length < 1000 := by
  rw [List.length_map]
  unfold Kg61.told
  split <;> simp [Kg61.whole]
theorem how {t : TA} {σ : L2.St} {H : Hp} {s : Addr} {st : Kg61.State} (ht : ∀ H1, Same H H1 → ∀ Q : List V → Hp → Prop, Q [.ref s] H1 → t σ H1 Q) (h : StAt CG CS H s st) :
    ∀ H1, Same H H1 → ∀ Q : VK, (∀ b H2, Same H1 H2 → H2 b = some (.lst ((Kg61.told st).map V.int)) → Q (.ref b) H2) → tCall (sp_how_it_stands CG CS) [] E0 t σ H1 Q := fun H1 e Q k => ht H1 e _ ⟨s, st, rfl, h.same e, fun H2 p e2 _ hp => k p H2 e2 hp⟩
end
end BG
namespace BG
open PySem PySem.Spec PyProof.Rows L2
structure TxtC (K : PySem.W.Frag) (mg : Str → Option Value) (CG CS : Addr) : Prop extends TxtS K mg CG CS where
  c_HIGHEST_GOAL : KI mg "HIGHEST_GOAL" 25
theorem refu_none {st : Kg61.State} {ph : Nat} (h : st.game = none) : refu st ph = -2 := by
  unfold refu
  rw [h]
theorem refu_other {st : Kg61.State} {ph : Nat} {G : Kg61.Game} (h : st.game = some G) (n : ¬ G.phase = ph) : refu st ph = -3 := by
  unfold refu
  rw [h]
  exact if_neg n
theorem refu_ok {st : Kg61.State} {ph : Nat} {G : Kg61.Game} (h : st.game = some G) (n : G.phase = ph) : refu st ph = 0 := by
  unfold refu
  rw [h]
  exact if_pos n
/-- refused or not: by the phase -/
theorem refu_cases (st : Kg61.State) (ph : Nat) : (st.game = none ∧ refu st ph = -2) ∨ (∃ G, st.game = some G ∧ ¬ G.phase = ph ∧ refu st ph = -3) ∨ ∃ G, st.game = some G ∧ G.phase = ph ∧ refu st ph = 0 := by
  cases h : st.game with
  | none => exact .inl ⟨rfl, refu_none h⟩
  | some G =>
    by_cases n : G.phase = ph
    · exact .inr (.inr ⟨G, rfl, n, refu_ok h n⟩)
    · exact .inr (.inl ⟨G, rfl, n, refu_other h n⟩)
theorem on_none {st : Kg61.State} {f : Kg61.Game → Kg61.State × Kg61.Ans} (h : st.game = none) : Kg61.onGame st f = (st, Kg61.num (-2)) := by
  unfold Kg61.onGame
  rw [h]
theorem on_some {st : Kg61.State} {f : Kg61.Game → Kg61.State × Kg61.Ans} {G : Kg61.Game} (h : st.game = some G) : Kg61.onGame st f = f G := by
  unfold Kg61.onGame
  rw [h]
/-- refusal = refusal_in(state, PHASE); if refusal != 0: return [refusal] -/
theorem refuse {CG CS : Addr} {i : Nat} {t : TA} {rest : TS} {D : Ends} {σ : L2.St} {H : Hp} {s : Addr} {st : Kg61.State} {ph : Nat} {Q : VK} {c : Kg61.Call}
    (hd : Did CG CS H s st c Q) (hrt : D.rt = Q) (ht : ∀ Q : List V → Hp → Prop, Q [.ref s, .int (ph : Int)] H → t σ H Q) (hi : (σ.set i (some (.int (refu st ph))))[i]? = some (some (.int (refu st ph))))
    (h2 : st.game = none → Kg61.spec st c = (st, Kg61.num (-2))) (h3 : ∀ G, st.game = some G → ¬ G.phase = ph → Kg61.spec st c = (st, Kg61.num (-3)))
    (hgo : ∀ G, st.game = some G → G.phase = ph → rest D (σ.set i (some (.int 0))) H) :
    tSeq (tAsg (tCall (sp_refusal_in CG CS) [] E0 t) (gName i)) (tSeq (tIfS (tTest (tOp rNe (tVar i) (tC (.int 0)))) (tRet (tLst (tCons (tVar i) tNil))) tNext) rest) D σ H := by
  refine ht _ ⟨s, st, ph, rfl, hd.1, ?_⟩
  have back : ∀ z : Int, refu st ph = z → ¬ z = 0 → Kg61.spec st c = (st, Kg61.num z) → tSeq (tIfS (tTest (tOp rNe (tVar i) (tC (.int 0)))) (tRet (tLst (tCons (tVar i) tNil))) tNext) rest D (σ.set i (some (.int (refu st ph)))) H := fun z hz h0 hs => by
    refine st_yes (ans_test (val_to (val_ne (val_var hi) val_c rfl) ?_)) ?_
    · refine congrArg V.bl ?_
      rw [decide_eq_false fun q => h0 (hz.symm.trans (V.int.inj q))]
      rfl
    · refine ret1 (val_var hi) fun p H' np hs' hp => ?_
      show D.rt (.ref p) H'
      rw [hrt]
      rw [hz] at hp
      exact hd.no hs np hs' hp
  rcases refu_cases st ph with ⟨hg, hr⟩ | ⟨G, hg, hp, hr⟩ | ⟨G, hg, hp, hr⟩
  · exact back _ hr (by decide) (h2 hg)
  · exact back _ hr (by decide) (h3 G hg hp)
  · show tSeq (tIfS (tTest (tOp rNe (tVar i) (tC (.int 0)))) (tRet (tLst (tCons (tVar i) tNil))) tNext) rest D (σ.set i (some (.int (refu st ph)))) H
    rw [hr] at hi ⊢
    refine st_no (ans_test (val_to (val_ne (val_var hi) val_c rfl) ?_)) (hgo G hg hp)
    rfl
theorem But.free {a p : Addr} {H H' : Hp} (h : But a H H') {C : Addr} (e : ∃ dx fs, H' a = some (.ins C dx fs)) (np : H' p = none) : H p = none := by
  obtain ⟨_, _, e⟩ := e
  cases q : H p with
  | none => rfl
  | some o =>
    exfalso
    by_cases hp : p = a
    · rw [hp, e] at np
      cases np
    · rw [h p o q hp] at np
      cases np
section
variable {P : Program} {w : World} {K : PySem.W.Frag} {mg : Str → Option Value} {base : Heap} {CG CS : Addr}
abbrev s_call_begin : Stmt := topS 47
theorem sc_call_begin : FnScope ["state", "goal"] ["state", "goal"] (defScope s_call_begin) := ⟨rfl, rfl, rfl, by decide +kernel, rfl, by decide +kernel, by decide +kernel⟩
def sp_call_begin (CG CS : Addr) : Sp := fun vs H Q _ => ∃ (s : Addr) (st : Kg61.State) (z : Int), vs = [.ref s, .int z] ∧ Did CG CS H s st (.begin_ z) Q
theorem ok_call_begin (T : TxtC K mg CG CS) (d_begin_match : DOk P w K mg base 6 "begin_match" ["state", "goal"] (sp_begin_match CG CS)) (D : Dw0 K mg "call_begin" s_call_begin ["state", "goal"]) : DOk P w K mg base 7 "call_begin" ["state", "goal"] (sp_call_begin CG CS) := by
  obtain ⟨f_begin_match, fd_begin_match, G_begin_match, m_begin_match, k_begin_match, b_begin_match⟩ := d_begin_match
  refine D.ok fun f fd F => F.ok sc_call_begin (fun vs H Q E h => ?_) (fun cdv A outer s H vs Q E hr h => ?_)
  · obtain ⟨s, st, z, rfl, _⟩ := h
    rfl
  · obtain ⟨s, st, z, rfl, hd⟩ := h
    refine ⟨_, (pss_cons (ps_if (pt_not (pt_chain op_le op_le pe_int (pv 1) (pe_ki T.c_HIGHEST_GOAL (by rfl))))
      (pss_one (ps_ret (pe_lst (pa_cons (pe_un un_neg pe_int) pa_nil))))
      pss_nil)
    (pss_cons (ps_expr (pe_call G_begin_match (hr.mono (by first | decide | omega)) (by rfl) m_begin_match k_begin_match b_begin_match .nil pass0 (pa_cons (pv 0) (pa_cons (pv 1) pa_nil))))
    (pss_one (ps_ret (pe_lst (pa_cons pe_int pa_nil)))))), ?_⟩
    refine st_if (ans_not (ans_test (val_chain val_c (val_var rfl) val_c))) (fun c => ?_) (fun c => ?_)
    · refine ret1 (val_neg val_c) fun p H' np hs hp => hd.no ?_ np hs hp
      have c : Kg61.within z 1 25 = false := (Bool.not_eq_true' _).mp c
      show (if Kg61.within z 1 25 = false then _ else _) = _
      rw [if_pos c]
    · have c : Kg61.within z 1 25 = true := (Bool.not_eq_false' _).mp c
      have c2 : 1 ≤ z ∧ z ≤ 25 := by simpa [Kg61.within] using c
      obtain ⟨h1, h2, k⟩ := hd
      obtain ⟨dx, fs, hobj⟩ := h1.obj
      have ez : z = ((z.toNat : Nat) : Int) := by omega
      have e : Kg61.spec st (.begin_ z) = (⟨z.toNat, 0, 0, z == 1, some (Kg61.fresh (z != 1))⟩, Kg61.num 0) := by
        show (if Kg61.within z 1 25 = false then _ else _) = _
        rw [if_neg (by rw [c]; exact Bool.noConfusion)]
      have e1 : (z == 1) = (z.toNat == 1) := by
        by_cases q : z = 1
        · subst q; rfl
        · rw [beq_eq_false_iff_ne.mpr q, beq_eq_false_iff_ne.mpr (by omega)]
      have e2 : (z != 1) = (z.toNat != 1) := by
        show (!(z == 1)) = !(z.toNat == 1)
        rw [e1]
      rw [e, e1, e2] at k
      refine ⟨_, rfl, _, rfl, s, st, z.toNat, by rw [← ez]; rfl, h1, by omega, fun H1 hS1 b1 => ?_⟩
      dsimp only
      refine ret1 val_c fun p H' np hs hp => k H' p (hS1.same hs) ((b1.ni hobj).trans (.of hs)) ?_ hp
      exact b1.free hS1.obj np
end
end BG
namespace BG
open PySem PySem.Spec PyProof.Rows L2
/-- an if with the test's answer in hand, behind which a call refuses by -1 -/
theorem bad_dice {x y : Int} (h : ((!Kg61.within x 1 6) || (!Kg61.within y 1 6)) = true) : (Kg61.within x 1 6 && Kg61.within y 1 6) = false := by
  cases h1 : Kg61.within x 1 6 <;> cases h2 : Kg61.within y 1 6 <;> simp_all
theorem good_dice {x y : Int} (h : ((!Kg61.within x 1 6) || (!Kg61.within y 1 6)) = false) : (Kg61.within x 1 6 && Kg61.within y 1 6) = true ∧ (1 ≤ x ∧ x ≤ 6) ∧ (1 ≤ y ∧ y ≤ 6) := by
  have h1 : Kg61.within x 1 6 = true ∧ Kg61.within y 1 6 = true := by
    cases h1 : Kg61.within x 1 6 <;> cases h2 : Kg61.within y 1 6 <;> simp_all
  refine ⟨by rw [h1.1, h1.2]; rfl, ?_, ?_⟩
  · simpa [Kg61.within] using h1.1
  · simpa [Kg61.within] using h1.2
theorem toNat_die {x : Int} (h : 1 ≤ x ∧ x ≤ 6) : x = ((x.toNat : Nat) : Int) ∧ 1 ≤ x.toNat ∧ x.toNat ≤ 6 := by omega
/-- the answer of a call that goes on with the game -/
theorem Did.go {CG CS : Addr} {H : Hp} {s : Addr} {st : Kg61.State} {c : Kg61.Call} {Q : VK} {z : Int} {G G' : Kg61.Game} (h : Did CG CS H s st c Q) (hg : st.game = some G) (e : Kg61.spec st c = Kg61.goesOn st G' z)
    {H1 : Hp} (hS : StAt CG CS H1 s { st with game := some G' }) (b : NI H H1) (fr : ∀ p, H1 p = none → H p = none)
    {p : Addr} {H' : Hp} (np : H1 p = none) (hs : Same H1 H') (hp : H' p = some (.lst (.int z :: (Kg61.told { st with game := some G' }).map V.int))) : Q (.ref p) H' := by
  obtain ⟨h1, _, k⟩ := h
  rw [e] at k
  exact k H' p (hS.same hs) (b.trans (.of hs)) (fr p np) hp
section
variable {P : Program} {w : World} {K : PySem.W.Frag} {mg : Str → Option Value} {base : Heap} {CG CS : Addr}
abbrev s_call_open : Stmt := topS 48
theorem sc_call_open : FnScope ["state", "x", "y", "refusal", "first"] ["state", "x", "y"] (defScope s_call_open) := ⟨rfl, rfl, rfl, by decide +kernel, rfl, by decide +kernel, by decide +kernel⟩
def sp_call_open (CG CS : Addr) : Sp := fun vs H Q _ => ∃ (s : Addr) (st : Kg61.State) (x y : Int), vs = [.ref s, .int x, .int y] ∧ Did CG CS H s st (.open_ x y) Q
theorem ok_call_open (T : TxtC K mg CG CS) (d_is_die : DOk P w K mg base 1 "is_die" ["number"] (sp_is_die)) (d_refusal_in : DOk P w K mg base 1 "refusal_in" ["state", "phase"] (sp_refusal_in CG CS)) (d_play_throw : DOk P w K mg base 15 "play_throw" ["game", "player", "one", "other"] (sp_play_throw CG)) (d_how_it_stands : DOk P w K mg base 1 "how_it_stands" ["state"] (sp_how_it_stands CG CS)) (D : Dw0 K mg "call_open" s_call_open ["state", "x", "y"]) : DOk P w K mg base 16 "call_open" ["state", "x", "y"] (sp_call_open CG CS) := by
  obtain ⟨f_is_die, fd_is_die, G_is_die, m_is_die, k_is_die, b_is_die⟩ := d_is_die
  obtain ⟨f_refusal_in, fd_refusal_in, G_refusal_in, m_refusal_in, k_refusal_in, b_refusal_in⟩ := d_refusal_in
  obtain ⟨f_play_throw, fd_play_throw, G_play_throw, m_play_throw, k_play_throw, b_play_throw⟩ := d_play_throw
  obtain ⟨f_how_it_stands, fd_how_it_stands, G_how_it_stands, m_how_it_stands, k_how_it_stands, b_how_it_stands⟩ := d_how_it_stands
  refine D.ok fun f fd F => F.ok sc_call_open (fun vs H Q E h => ?_) (fun cdv A outer s H vs Q E hr h => ?_)
  · obtain ⟨s, st, x, y, rfl, _⟩ := h
    rfl
  · obtain ⟨s, st, x, y, rfl, hd⟩ := h
    refine ⟨_, (pss_cons (ps_if (PW.pt (pw_or (pt_not (pt_val (pe_call G_is_die (hr.mono (by first | decide | omega)) (by rfl) m_is_die k_is_die b_is_die .nil pass0 (pa_cons (pv 1) pa_nil)))) (pw_or1 (pt_not (pt_val (pe_call G_is_die (hr.mono (by first | decide | omega)) (by rfl) m_is_die k_is_die b_is_die .nil pass0 (pa_cons (pv 2) pa_nil)))))))
      (pss_one (ps_ret (pe_lst (pa_cons (pe_un un_neg pe_int) pa_nil))))
      pss_nil)
    (pss_cons (ps_set (i := 3) sc_call_open.nd rfl (.inl rfl) (pe_call G_refusal_in (hr.mono (by first | decide | omega)) (by rfl) m_refusal_in k_refusal_in b_refusal_in .nil pass0 (pa_cons (pv 0) (pa_cons (pe_ki T.c_OPENING (by rfl)) pa_nil))))
    (pss_cons (ps_if (pt_cmpR op_ne (pv 3) pe_int (nomark _))
      (pss_one (ps_ret (pe_lst (pa_cons (pv 3) pa_nil))))
      pss_nil)
    (pss_cons (ps_if (pt_cmpR op_eq (pv 1) (pv 2) (nomark _))
      (pss_one (ps_ret (pe_lst (pa_cons (pe_un un_neg pe_int) pa_nil))))
      pss_nil)
    (pss_cons (ps_set (i := 4) sc_call_open.nd rfl (.inl rfl) (pe_ifExp (pt_cmpR op_gt (pv 1) (pv 2) (nomark _)) pe_int pe_int))
    (pss_cons (ps_expr (pe_call G_play_throw (hr.mono (by first | decide | omega)) (by rfl) m_play_throw k_play_throw b_play_throw .nil pass0 (pa_cons (pe_fld (pv 0) rfl) (pa_cons (pv 4) (pa_cons (pv 1) (pa_cons (pv 2) pa_nil))))))
    (pss_one (ps_ret (pe_op op_cat (pe_lst (pa_cons (pv 4) pa_nil)) (pe_call G_how_it_stands (hr.mono (by first | decide | omega)) (by rfl) m_how_it_stands k_how_it_stands b_how_it_stands .nil pass0 (pa_cons (pv 0) pa_nil))))))))))), ?_⟩
    refine st_if (ans_or2 (ans_not (ans_val (val_call (args1 (val_var rfl)) fun Q q => ⟨x, rfl, q⟩))) (ans_not (ans_val (val_call (args1 (val_var rfl)) fun Q q => ⟨y, rfl, q⟩)))) (fun c => ?_) (fun c => ?_)
    · refine ret1 (val_neg val_c) fun p H' np hs hp => hd.no ?_ np hs hp
      show (if (Kg61.within x 1 6 && Kg61.within y 1 6) = false then _ else _) = _
      rw [if_pos (bad_dice c)]
    obtain ⟨hw, hx, hy⟩ := good_dice c
    have e0 : ∀ f, (if (Kg61.within x 1 6 && Kg61.within y 1 6) = false then (st, Kg61.num (-1)) else Kg61.onGame st f) = Kg61.onGame st f := fun f => by
      rw [if_neg (by rw [hw]; exact Bool.noConfusion)]
    have es : Kg61.spec st (.open_ x y) = Kg61.onGame st fun g => if g.phase ≠ 0 then (st, Kg61.num (-3)) else if x = y then (st, Kg61.num (-4)) else
        Kg61.goesOn st (({ g with who := if y < x then 0 else 1 } : Kg61.Game).throws (max x.toNat y.toNat) (min x.toNat y.toNat)) ((if y < x then 0 else 1 : Nat) : Int) := e0 _
    refine refuse (ph := 0) hd rfl (args2 (val_var rfl) val_c) rfl (fun hg => by rw [es, on_none hg]) (fun G hg hp => by rw [es, on_some hg, if_pos hp]) (fun G hg hp => ?_)
    rw [on_some hg, if_neg (fun n => n hp)] at es
    refine st_if (ans_test (val_eq (val_var rfl) (val_var rfl))) (fun c => ?_) (fun c => ?_)
    · have c : x = y := V.int.inj (of_decide_eq_true c)
      rw [if_pos c] at es
      exact ret1 (val_neg val_c) fun p H' np hs hp => hd.no es np hs hp
    · have c : ¬ x = y := fun e => of_decide_eq_false c (congrArg V.int e)
      rw [if_neg c] at es
      obtain ⟨g, dx, pt, h1, hG, hmk⟩ := hd.1.game hg
      obtain ⟨WG, _, _⟩ := hd.2.1.game G hg
      obtain ⟨dg, fg, hgo⟩ := hG.obj
      obtain ⟨ex, hx'⟩ := toNat_die hx
      obtain ⟨ey, hy'⟩ := toNat_die hy
      -- first = 0 if x > y else 1
      have vf : Val (tIf (tTest (tOp (rI0 fun i j => .bl (decide (j < i))) (tVar 1) (tVar 2))) (tC (.int 0)) (tC (.int 1))) [some (.ref s), some (.int x), some (.int y), some (.int 0), none] H (.int (((if y < x then 0 else 1 : Nat) : Nat) : Int)) := fun Q q => by
        refine ⟨_, rfl, _, rfl, _, _, rfl, rfl, _, rfl, ?_⟩
        by_cases q2 : y < x
        · rw [if_pos q2] at q
          rw [decide_eq_true q2]
          exact iteT q
        · rw [if_neg q2] at q
          rw [decide_eq_false q2]
          exact iteF q
      refine st_set vf ?_
      have hfw : (if y < x then 0 else 1 : Nat) < 2 := by split <;> decide
      generalize (if y < x then 0 else 1 : Nat) = w' at es hfw
      -- play_throw(state.game, first, x, y)
      refine ⟨_, rfl, s, CS, dx, _, _, rfl, h1, T.clS, T.n_game, sF_get_game, _, rfl, _, rfl, _, rfl, ?_⟩
      refine ⟨g, G, w', x.toNat, y.toNat, by rw [← ex, ← ey]; rfl, hG, WG.bd, hfw, .inr (WG.open_ hp), hx', hy', fun H1 hG1 b1 => ?_⟩
      have hS1 := hmk H1 _ b1 hG1
      dsimp only
      refine retcat (val_var rfl) (told_len _) (how (fun H1 e Q q => ⟨_, rfl, q⟩) hS1) fun p H' np hs hp => ?_
      exact hd.go hg es hS1 (b1.ni hgo) (fun p np => b1.free hG1.obj np) np hs hp
abbrev s_call_throw : Stmt := topS 49
theorem sc_call_throw : FnScope ["state", "one", "other", "refusal", "game", "must_use"] ["state", "one", "other"] (defScope s_call_throw) := ⟨rfl, rfl, rfl, by decide +kernel, rfl, by decide +kernel, by decide +kernel⟩
def sp_call_throw (CG CS : Addr) : Sp := fun vs H Q _ => ∃ (s : Addr) (st : Kg61.State) (x y : Int), vs = [.ref s, .int x, .int y] ∧ Did CG CS H s st (.throw_ x y) Q
theorem ok_call_throw (T : TxtC K mg CG CS) (d_is_die : DOk P w K mg base 1 "is_die" ["number"] (sp_is_die)) (d_refusal_in : DOk P w K mg base 1 "refusal_in" ["state", "phase"] (sp_refusal_in CG CS)) (d_play_throw : DOk P w K mg base 15 "play_throw" ["game", "player", "one", "other"] (sp_play_throw CG)) (d_how_it_stands : DOk P w K mg base 1 "how_it_stands" ["state"] (sp_how_it_stands CG CS)) (D : Dw0 K mg "call_throw" s_call_throw ["state", "one", "other"]) : DOk P w K mg base 16 "call_throw" ["state", "one", "other"] (sp_call_throw CG CS) := by
  obtain ⟨f_is_die, fd_is_die, G_is_die, m_is_die, k_is_die, b_is_die⟩ := d_is_die
  obtain ⟨f_refusal_in, fd_refusal_in, G_refusal_in, m_refusal_in, k_refusal_in, b_refusal_in⟩ := d_refusal_in
  obtain ⟨f_play_throw, fd_play_throw, G_play_throw, m_play_throw, k_play_throw, b_play_throw⟩ := d_play_throw
  obtain ⟨f_how_it_stands, fd_how_it_stands, G_how_it_stands, m_how_it_stands, k_how_it_stands, b_how_it_stands⟩ := d_how_it_stands
  refine D.ok fun f fd F => F.ok sc_call_throw (fun vs H Q E h => ?_) (fun cdv A outer s H vs Q E hr h => ?_)
  · obtain ⟨s, st, x, y, rfl, _⟩ := h
    rfl
  · obtain ⟨s, st, x, y, rfl, hd⟩ := h
    refine ⟨_, (pss_cons (ps_if (PW.pt (pw_or (pt_not (pt_val (pe_call G_is_die (hr.mono (by first | decide | omega)) (by rfl) m_is_die k_is_die b_is_die .nil pass0 (pa_cons (pv 1) pa_nil)))) (pw_or1 (pt_not (pt_val (pe_call G_is_die (hr.mono (by first | decide | omega)) (by rfl) m_is_die k_is_die b_is_die .nil pass0 (pa_cons (pv 2) pa_nil)))))))
      (pss_one (ps_ret (pe_lst (pa_cons (pe_un un_neg pe_int) pa_nil))))
      pss_nil)
    (pss_cons (ps_set (i := 3) sc_call_throw.nd rfl (.inl rfl) (pe_call G_refusal_in (hr.mono (by first | decide | omega)) (by rfl) m_refusal_in k_refusal_in b_refusal_in .nil pass0 (pa_cons (pv 0) (pa_cons (pe_ki T.c_TURN (by rfl)) pa_nil))))
    (pss_cons (ps_if (pt_cmpR op_ne (pv 3) pe_int (nomark _))
      (pss_one (ps_ret (pe_lst (pa_cons (pv 3) pa_nil))))
      pss_nil)
    (pss_cons (ps_set (i := 4) sc_call_throw.nd rfl (.inl rfl) (pe_fld (pv 0) rfl))
    (pss_cons (ps_set (i := 5) sc_call_throw.nd rfl (.inl rfl) (pe_call G_play_throw (hr.mono (by first | decide | omega)) (by rfl) m_play_throw k_play_throw b_play_throw .nil pass0 (pa_cons (pv 4) (pa_cons (pe_fld (pv 4) rfl) (pa_cons (pv 1) (pa_cons (pv 2) pa_nil))))))
    (pss_one (ps_ret (pe_op op_cat (pe_lst (pa_cons (pv 5) pa_nil)) (pe_call G_how_it_stands (hr.mono (by first | decide | omega)) (by rfl) m_how_it_stands k_how_it_stands b_how_it_stands .nil pass0 (pa_cons (pv 0) pa_nil)))))))))), ?_⟩
    refine st_if (ans_or2 (ans_not (ans_val (val_call (args1 (val_var rfl)) fun Q q => ⟨x, rfl, q⟩))) (ans_not (ans_val (val_call (args1 (val_var rfl)) fun Q q => ⟨y, rfl, q⟩)))) (fun c => ?_) (fun c => ?_)
    · refine ret1 (val_neg val_c) fun p H' np hs hp => hd.no ?_ np hs hp
      show (if (Kg61.within x 1 6 && Kg61.within y 1 6) = false then _ else _) = _
      rw [if_pos (bad_dice c)]
    obtain ⟨hw, hx, hy⟩ := good_dice c
    obtain ⟨ex, hx'⟩ := toNat_die hx
    obtain ⟨ey, hy'⟩ := toNat_die hy
    have e0 : ∀ f, (if (Kg61.within x 1 6 && Kg61.within y 1 6) = false then (st, Kg61.num (-1)) else Kg61.onGame st f) = Kg61.onGame st f := fun f => by
      rw [if_neg (by rw [hw]; exact Bool.noConfusion)]
    have exy : (x = y) ↔ (x.toNat = y.toNat) := by omega
    have es : Kg61.spec st (.throw_ x y) = Kg61.onGame st fun g => if g.phase ≠ 1 then (st, Kg61.num (-3)) else
        Kg61.goesOn st (g.throws (max x.toNat y.toNat) (min x.toNat y.toNat)) ((Kg61.most g.board (dl x.toNat y.toNat) : Nat) : Int) := by
      refine (e0 _).trans ?_
      unfold dl
      simp only [exy]
    refine refuse (ph := 1) hd rfl (args2 (val_var rfl) val_c) rfl (fun hg => by rw [es, on_none hg]) (fun G hg hp => by rw [es, on_some hg, if_pos hp]) (fun G hg hp => ?_)
    rw [on_some hg, if_neg (fun n => n hp)] at es
    obtain ⟨g, dx, pt, h1, hG, hmk⟩ := hd.1.game hg
    obtain ⟨WG, _, _⟩ := hd.2.1.game G hg
    obtain ⟨dg, fg, hgo⟩ := hG.obj
    obtain ⟨dg', B, D0, hgf, _⟩ := id hG
    refine st_set (val_fld (val_var rfl) h1 T.clS T.n_game sF_get_game) ?_
    -- must_use = play_throw(game, game.turn, one, other)
    refine ⟨_, rfl, _, rfl, g, CG, dg', _, _, rfl, hgf, T.clG, T.n_turn, gF_get_turn, _, rfl, _, rfl, ?_⟩
    refine ⟨g, G, G.who, x.toNat, y.toNat, by rw [← ex, ← ey]; rfl, hG, WG.bd, WG.who, .inl rfl, hx', hy', fun H1 hG1 b1 => ?_⟩
    have hS1 := hmk H1 _ b1 hG1
    dsimp only
    refine retcat (val_var rfl) (told_len _) (how (fun H1 e Q q => ⟨_, rfl, q⟩) hS1) fun p H' np hs hp => ?_
    exact hd.go hg es hS1 (b1.ni hgo) (fun p np => b1.free hG1.obj np) np hs hp
abbrev s_call_double : Stmt := topS 50
theorem sc_call_double : FnScope ["state", "refusal", "game"] ["state"] (defScope s_call_double) := ⟨rfl, rfl, rfl, by decide +kernel, rfl, by decide +kernel, by decide +kernel⟩
def sp_call_double (CG CS : Addr) : Sp := fun vs H Q _ => ∃ (s : Addr) (st : Kg61.State), vs = [.ref s] ∧ Did CG CS H s st .double Q
theorem ok_call_double (T : TxtC K mg CG CS) (d_refusal_in : DOk P w K mg base 1 "refusal_in" ["state", "phase"] (sp_refusal_in CG CS)) (d_may_double : DOk P w K mg base 1 "may_double" ["game"] (sp_may_double CG)) (d_how_it_stands : DOk P w K mg base 1 "how_it_stands" ["state"] (sp_how_it_stands CG CS)) (D : Dw0 K mg "call_double" s_call_double ["state"]) : DOk P w K mg base 2 "call_double" ["state"] (sp_call_double CG CS) := by
  obtain ⟨f_refusal_in, fd_refusal_in, G_refusal_in, m_refusal_in, k_refusal_in, b_refusal_in⟩ := d_refusal_in
  obtain ⟨f_may_double, fd_may_double, G_may_double, m_may_double, k_may_double, b_may_double⟩ := d_may_double
  obtain ⟨f_how_it_stands, fd_how_it_stands, G_how_it_stands, m_how_it_stands, k_how_it_stands, b_how_it_stands⟩ := d_how_it_stands
  refine D.ok fun f fd F => F.ok sc_call_double (fun vs H Q E h => ?_) (fun cdv A outer s H vs Q E hr h => ?_)
  · obtain ⟨s, st, rfl, _⟩ := h
    rfl
  · obtain ⟨s, st, rfl, hd⟩ := h
    refine ⟨_, (pss_cons (ps_set (i := 1) sc_call_double.nd rfl (.inl rfl) (pe_call G_refusal_in (hr.mono (by first | decide | omega)) (by rfl) m_refusal_in k_refusal_in b_refusal_in .nil pass0 (pa_cons (pv 0) (pa_cons (pe_ki T.c_TURN (by rfl)) pa_nil))))
    (pss_cons (ps_if (pt_cmpR op_ne (pv 1) pe_int (nomark _))
      (pss_one (ps_ret (pe_lst (pa_cons (pv 1) pa_nil))))
      pss_nil)
    (pss_cons (ps_set (i := 2) sc_call_double.nd rfl (.inl rfl) (pe_fld (pv 0) rfl))
    (pss_cons (ps_if (pt_not (pt_val (pe_call G_may_double (hr.mono (by first | decide | omega)) (by rfl) m_may_double k_may_double b_may_double .nil pass0 (pa_cons (pv 2) pa_nil))))
      (pss_one (ps_ret (pe_lst (pa_cons (pe_un un_neg pe_int) pa_nil))))
      pss_nil)
    (pss_cons (ps_fld (pv 2) (pe_ki T.c_DOUBLED (by rfl)) rfl)
    (pss_one (ps_ret (pe_op op_cat (pe_lst (pa_cons (pe_op op_mul (pe_fld (pv 2) rfl) pe_int) pa_nil)) (pe_call G_how_it_stands (hr.mono (by first | decide | omega)) (by rfl) m_how_it_stands k_how_it_stands b_how_it_stands .nil pass0 (pa_cons (pv 0) pa_nil)))))))))), ?_⟩
    have es : Kg61.spec st .double = Kg61.onGame st fun g => if g.phase ≠ 1 then (st, Kg61.num (-3)) else if g.free = false ∨ (g.holder ≠ none ∧ g.holder ≠ some g.who) ∨ 1024 ≤ g.cube then (st, Kg61.num (-4)) else
        Kg61.goesOn st { g with phase := 2 } ((2 * g.cube : Nat) : Int) := rfl
    refine refuse (ph := 1) hd rfl (args2 (val_var rfl) val_c) rfl (fun hg => by rw [es, on_none hg]) (fun G hg hp => by rw [es, on_some hg, if_pos hp]) (fun G hg hp => ?_)
    rw [on_some hg, if_neg (fun n => n hp)] at es
    obtain ⟨g, dx, pt, h1, hG, hmk⟩ := hd.1.game hg
    obtain ⟨dg, B, D0, hgf, hB, hD⟩ := id hG
    refine st_set (val_fld (val_var rfl) h1 T.clS T.n_game sF_get_game) ?_
    refine st_if (ans_not (ans_val (val_call (args1 (val_var rfl)) fun Q q => ⟨g, G, rfl, hG, q⟩))) (fun c => ?_) (fun c => ?_)
    · have c := of_decide_eq_true ((Bool.not_not _).symm.trans c)
      rw [if_pos c] at es
      exact ret1 (val_neg val_c) fun p H' np hs hp => hd.no es np hs hp
    · have c := of_decide_eq_false ((Bool.not_not _).symm.trans c)
      rw [if_neg c] at es
      refine fld_seq (val_c) (val_var rfl) hgf T.clG T.n_phase (by simp [gF]) gF_put_phase fun H1 hg1 b1 => ?_
      have hG1 : GmAt CG H1 g { G with phase := 2 } := ⟨dg, B, D0, hg1, hB.but b1 hgf (fun _ q => nomatch q), b1 _ _ hD (ne_of hD hgf fun q => nomatch q)⟩
      have hS1 := hmk H1 _ b1 hG1
      refine retcat (x := .int ((2 * G.cube : Nat) : Int)) (val_to (val_mul (val_fld (val_var rfl) hg1 T.clG T.n_cube gF_get_cube) val_c (.inr ⟨by decide, by decide⟩)) (congrArg V.int (by omega))) (told_len _) (how (fun H1 e Q q => ⟨_, rfl, q⟩) hS1) fun p H' np hs hp => ?_
      exact hd.go hg es hS1 (b1.ni hgf) (fun p np => b1.free hG1.obj np) np hs hp
abbrev s_call_take : Stmt := topS 51
theorem sc_call_take : FnScope ["state", "refusal", "game"] ["state"] (defScope s_call_take) := ⟨rfl, rfl, rfl, by decide +kernel, rfl, by decide +kernel, by decide +kernel⟩
def sp_call_take (CG CS : Addr) : Sp := fun vs H Q _ => ∃ (s : Addr) (st : Kg61.State), vs = [.ref s] ∧ Did CG CS H s st .take Q
theorem ok_call_take (T : TxtC K mg CG CS) (d_refusal_in : DOk P w K mg base 1 "refusal_in" ["state", "phase"] (sp_refusal_in CG CS)) (d_begin_turn : DOk P w K mg base 1 "begin_turn" ["game", "player"] (sp_begin_turn CG)) (d_how_it_stands : DOk P w K mg base 1 "how_it_stands" ["state"] (sp_how_it_stands CG CS)) (D : Dw0 K mg "call_take" s_call_take ["state"]) : DOk P w K mg base 2 "call_take" ["state"] (sp_call_take CG CS) := by
  obtain ⟨f_refusal_in, fd_refusal_in, G_refusal_in, m_refusal_in, k_refusal_in, b_refusal_in⟩ := d_refusal_in
  obtain ⟨f_begin_turn, fd_begin_turn, G_begin_turn, m_begin_turn, k_begin_turn, b_begin_turn⟩ := d_begin_turn
  obtain ⟨f_how_it_stands, fd_how_it_stands, G_how_it_stands, m_how_it_stands, k_how_it_stands, b_how_it_stands⟩ := d_how_it_stands
  refine D.ok fun f fd F => F.ok sc_call_take (fun vs H Q E h => ?_) (fun cdv A outer s H vs Q E hr h => ?_)
  · obtain ⟨s, st, rfl, _⟩ := h
    rfl
  · obtain ⟨s, st, rfl, hd⟩ := h
    refine ⟨_, (pss_cons (ps_set (i := 1) sc_call_take.nd rfl (.inl rfl) (pe_call G_refusal_in (hr.mono (by first | decide | omega)) (by rfl) m_refusal_in k_refusal_in b_refusal_in .nil pass0 (pa_cons (pv 0) (pa_cons (pe_ki T.c_DOUBLED (by rfl)) pa_nil))))
    (pss_cons (ps_if (pt_cmpR op_ne (pv 1) pe_int (nomark _))
      (pss_one (ps_ret (pe_lst (pa_cons (pv 1) pa_nil))))
      pss_nil)
    (pss_cons (ps_set (i := 2) sc_call_take.nd rfl (.inl rfl) (pe_fld (pv 0) rfl))
    (pss_cons (ps_fld (pv 2) (pe_op op_mul (pe_fld (pv 2) rfl) pe_int) rfl)
    (pss_cons (ps_fld (pv 2) (pe_op op_sub pe_int (pe_fld (pv 2) rfl)) rfl)
    (pss_cons (ps_expr (pe_call G_begin_turn (hr.mono (by first | decide | omega)) (by rfl) m_begin_turn k_begin_turn b_begin_turn .nil pass0 (pa_cons (pv 2) (pa_cons (pe_fld (pv 2) rfl) pa_nil))))
    (pss_one (ps_ret (pe_op op_cat (pe_lst (pa_cons (pe_fld (pv 2) rfl) pa_nil)) (pe_call G_how_it_stands (hr.mono (by first | decide | omega)) (by rfl) m_how_it_stands k_how_it_stands b_how_it_stands .nil pass0 (pa_cons (pv 0) pa_nil))))))))))), ?_⟩
    have es : Kg61.spec st .take = Kg61.onGame st fun g => if g.phase ≠ 2 then (st, Kg61.num (-3)) else Kg61.goesOn st { g with phase := 1, cube := 2 * g.cube, holder := some (1 - g.who) } ((2 * g.cube : Nat) : Int) := rfl
    refine refuse (ph := 2) hd rfl (args2 (val_var rfl) val_c) rfl (fun hg => by rw [es, on_none hg]) (fun G hg hp => by rw [es, on_some hg, if_pos hp]) (fun G hg hp => ?_)
    rw [on_some hg, if_neg (fun n => n hp)] at es
    obtain ⟨g, dx, pt, h1, hG, hmk⟩ := hd.1.game hg
    obtain ⟨WG, _, _⟩ := hd.2.1.game G hg
    obtain ⟨dg, B, D0, hgf, hB, hD⟩ := id hG
    refine st_set (val_fld (val_var rfl) h1 T.clS T.n_game sF_get_game) ?_
    refine fld_seq (val_mul (val_fld (val_var rfl) hgf T.clG T.n_cube gF_get_cube) val_c (.inr ⟨by decide, by decide⟩)) (val_var rfl) hgf T.clG T.n_cube (by simp [gF]) gF_put_cube fun H1 hg1 b1 => ?_
    refine fld_seq (val_sub val_c (val_fld (val_var rfl) hg1 T.clG T.n_turn gF_get_turn)) (val_var rfl) hg1 T.clG T.n_holder (by simp [gF]) gF_put_holder fun H2 hg2 b2 => ?_
    -- begin_turn(game, game.turn)
    refine ⟨_, rfl, _, rfl, g, CG, dg, _, _, rfl, hg2, T.clG, T.n_turn, gF_get_turn, ?_⟩
    refine ⟨g, dg, _, _, _, _, _, _, _, _, _, rfl, hg2, fun H3 D3 hg3 b3 hD3 => ?_⟩
    have b := b1.trans (b2.trans b3)
    have WGi := WG.idle (by rw [hp]; decide)
    have hG3 : GmAt CG H3 g { G with phase := 1, cube := 2 * G.cube, holder := some (1 - G.who) } := by
      refine ⟨dg, B, D3, ?_, hB.but b hgf (fun _ q => nomatch q), ?_⟩
      · rw [hg3]
        dsimp only
        rw [WGi.2, show ((2 * G.cube : Nat) : Int) = (G.cube : Int) * 2 by omega]
        show _ = some (HO.ins CG dg (gF (.ref B) (.int (G.who : Int)) (.int 1) (.int ((G.cube : Int) * 2)) (.int ((1 - G.who : Nat) : Int)) (.bl G.free) (.ref D3) (.int 0)))
        rw [show ((1 - G.who : Nat) : Int) = 1 - (G.who : Int) by have := WG.who; omega]
      · dsimp only
        rw [WGi.1]
        exact hD3
    have hS3 := hmk H3 _ b hG3
    dsimp only
    refine retcat (x := .int ((2 * G.cube : Nat) : Int)) (val_to (val_fld (val_var rfl) hg3 T.clG T.n_cube gF_get_cube) (congrArg V.int (by omega))) (told_len _) (how (fun H1 e Q q => ⟨_, rfl, q⟩) hS3) fun p H' np hs hp => ?_
    exact hd.go hg es hS3 (b.ni hgf) (fun p np => b.free hG3.obj np) np hs hp
abbrev s_points_won : Stmt := topS 46
theorem sc_points_won : FnScope ["state", "winner", "won"] ["state", "winner", "won"] (defScope s_points_won) := ⟨rfl, rfl, rfl, by decide +kernel, rfl, by decide +kernel, by decide +kernel⟩
def sp_points_won (CG CS : Addr) : Sp := fun vs H Q _ => ∃ (s : Addr) (st : Kg61.State) (w n : Nat), vs = [.ref s, .int (w : Int), .int (n : Int)] ∧ StAt CG CS H s st ∧ w < 2 ∧ st.a < st.to ∧ st.b < st.to ∧
  ∀ H' p, StAt CG CS H' s (st.wins w n) → NI H H' → (∀ q, H' q = none → H q = none) → H p = none → H' p = some (.lst [.int (n : Int), .int ((st.wins w n).a : Int), .int ((st.wins w n).b : Int)]) → Q (.ref p) H'
theorem ok_points_won (T : TxtC K mg CG CS) (d_end_game : DOk P w K mg base 6 "end_game" ["state", "winner", "won"] (sp_end_game CG CS)) (D : Dw0 K mg "points_won" s_points_won ["state", "winner", "won"]) : DOk P w K mg base 7 "points_won" ["state", "winner", "won"] (sp_points_won CG CS) := by
  obtain ⟨f_end_game, fd_end_game, G_end_game, m_end_game, k_end_game, b_end_game⟩ := d_end_game
  refine D.ok fun f fd F => F.ok sc_points_won (fun vs H Q E h => ?_) (fun cdv A outer s H vs Q E hr h => ?_)
  · obtain ⟨s, st, w, n, rfl, _⟩ := h
    rfl
  · obtain ⟨s, st, w, n, rfl, hS, hw, ha, hb, k⟩ := h
    obtain ⟨dx, fs, h1⟩ := hS.obj
    refine ⟨_, (pss_cons (ps_expr (pe_call G_end_game (hr.mono (by first | decide | omega)) (by rfl) m_end_game k_end_game b_end_game .nil pass0 (pa_cons (pv 0) (pa_cons (pv 1) (pa_cons (pv 2) pa_nil)))))
    (pss_one (ps_ret (pe_op op_cat (pe_lst (pa_cons (pv 2) pa_nil)) (pe_fld (pv 0) rfl))))), ?_⟩
    refine ⟨_, rfl, _, rfl, _, rfl, s, st, w, n, rfl, hS, hw, ha, hb, fun H1 hS1 b1 => ?_⟩
    obtain ⟨gv1, ⟨dx1, pt1, hs1, hpt1⟩, _⟩ := id hS1
    dsimp only
    refine retcat (ys := [.int ((st.wins w n).a : Int), .int ((st.wins w n).b : Int)]) (val_var rfl) (by simp) (fun H2 e Q k => ⟨_, rfl, s, CS, dx1, _, _, rfl, e _ _ hs1, T.clS, T.n_points, sF_get_points, k pt1 H2 (Same.refl _) (e _ _ hpt1)⟩) fun p H' np hs hp => ?_
    exact k H' p (hS1.same hs) ((b1.ni h1).trans (.of hs)) (fun q nq => b1.free hS1.obj (hs.free nq)) (b1.free hS1.obj np) hp
abbrev s_call_drop : Stmt := topS 52
theorem sc_call_drop : FnScope ["state", "refusal", "game"] ["state"] (defScope s_call_drop) := ⟨rfl, rfl, rfl, by decide +kernel, rfl, by decide +kernel, by decide +kernel⟩
def sp_call_drop (CG CS : Addr) : Sp := fun vs H Q _ => ∃ (s : Addr) (st : Kg61.State), vs = [.ref s] ∧ Did CG CS H s st .drop Q
theorem ok_call_drop (T : TxtC K mg CG CS) (d_refusal_in : DOk P w K mg base 1 "refusal_in" ["state", "phase"] (sp_refusal_in CG CS)) (d_points_won : DOk P w K mg base 7 "points_won" ["state", "winner", "won"] (sp_points_won CG CS)) (D : Dw0 K mg "call_drop" s_call_drop ["state"]) : DOk P w K mg base 8 "call_drop" ["state"] (sp_call_drop CG CS) := by
  obtain ⟨f_refusal_in, fd_refusal_in, G_refusal_in, m_refusal_in, k_refusal_in, b_refusal_in⟩ := d_refusal_in
  obtain ⟨f_points_won, fd_points_won, G_points_won, m_points_won, k_points_won, b_points_won⟩ := d_points_won
  refine D.ok fun f fd F => F.ok sc_call_drop (fun vs H Q E h => ?_) (fun cdv A outer s H vs Q E hr h => ?_)
  · obtain ⟨s, st, rfl, _⟩ := h
    rfl
  · obtain ⟨s, st, rfl, hd⟩ := h
    refine ⟨_, (pss_cons (ps_set (i := 1) sc_call_drop.nd rfl (.inl rfl) (pe_call G_refusal_in (hr.mono (by first | decide | omega)) (by rfl) m_refusal_in k_refusal_in b_refusal_in .nil pass0 (pa_cons (pv 0) (pa_cons (pe_ki T.c_DOUBLED (by rfl)) pa_nil))))
    (pss_cons (ps_if (pt_cmpR op_ne (pv 1) pe_int (nomark _))
      (pss_one (ps_ret (pe_lst (pa_cons (pv 1) pa_nil))))
      pss_nil)
    (pss_cons (ps_set (i := 2) sc_call_drop.nd rfl (.inl rfl) (pe_fld (pv 0) rfl))
    (pss_one (ps_ret (pe_call G_points_won (hr.mono (by first | decide | omega)) (by rfl) m_points_won k_points_won b_points_won .nil pass0 (pa_cons (pv 0) (pa_cons (pe_fld (pv 2) rfl) (pa_cons (pe_fld (pv 2) rfl) pa_nil))))))))), ?_⟩
    have es : Kg61.spec st .drop = Kg61.onGame st fun g => if g.phase ≠ 2 then (st, Kg61.num (-3)) else (st.wins g.who g.cube, ⟨(g.cube : Int), Kg61.whole [(st.wins g.who g.cube).a, (st.wins g.who g.cube).b]⟩) := rfl
    refine refuse (ph := 2) hd rfl (args2 (val_var rfl) val_c) rfl (fun hg => by rw [es, on_none hg]) (fun G hg hp => by rw [es, on_some hg, if_pos hp]) (fun G hg hp => ?_)
    rw [on_some hg, if_neg (fun n => n hp)] at es
    obtain ⟨g, dx, pt, h1, hG, hmk⟩ := hd.1.game hg
    obtain ⟨WG, ha, hb⟩ := hd.2.1.game G hg
    obtain ⟨dg, B, D0, hgf, hB, hD⟩ := id hG
    obtain ⟨hS, _, k⟩ := hd
    rw [es] at k
    refine st_set (val_fld (val_var rfl) h1 T.clS T.n_game sF_get_game) ?_
    -- return points_won(state, game.turn, game.cube)
    refine ⟨_, rfl, _, rfl, g, CG, dg, _, _, rfl, hgf, T.clG, T.n_turn, gF_get_turn, _, rfl, g, CG, dg, _, _, rfl, hgf, T.clG, T.n_cube, gF_get_cube, ?_⟩
    exact ⟨s, st, G.who, G.cube, rfl, hS, WG.who, ha, hb, fun H1 p hS1 ni _ np hp => k H1 p hS1 ni np hp⟩
end
end BG
namespace BG
open PySem PySem.Spec PyProof.Rows L2
section
variable {P : Program} {w : World} {K : PySem.W.Frag} {mg : Str → Option Value} {base : Heap}
/-- place by place, what is added -/
def wt (s : List Nat) : List Int := s.zipIdx.map fun x => ((x.2 * x.1 : Nat) : Int)
theorem wt_len (s : List Nat) : (wt s).length = s.length := by
  unfold wt
  rw [List.length_map, List.length_zipIdx]
theorem wt_at {s : List Nat} {i : Nat} (h : i < s.length) : (wt s)[i]? = some (((i * s[i] : Nat) : Int)) := by
  unfold wt
  rw [List.getElem?_map, List.getElem?_zipIdx, List.getElem?_eq_getElem h]
  show some ((((0 + i) * s[i] : Nat) : Int)) = _
  rw [Nat.zero_add]
theorem wt_sum {s : List Nat} (h : s.length = 26) : (wt s).sum = ((Kg61.pips s : Nat) : Int) := by
  rw [← pips_sum h, ← nat_sum, List.map_map]
  rfl
abbrev s_pips : Stmt := topS 9
theorem sc_pips : FnScope ["side", "place", "checkers"] ["side"] (defScope s_pips) := ⟨rfl, rfl, rfl, by decide +kernel, rfl, by decide +kernel, by decide +kernel⟩
def sp_pips : Sp := fun vs H Q _ => ∃ (a : Addr) (s : List Nat), vs = [.ref a] ∧ H a = some (.lst (cs s)) ∧ s.length = 26 ∧ ∀ H', Same H H' → Q (.int ((Kg61.pips s : Nat) : Int)) H'
theorem ok_pips (T : Txt K mg) (D : Dw0 K mg "pips" s_pips ["side"]) : DOk P w K mg base 1 "pips" ["side"] (sp_pips) := by
  refine D.ok fun f fd F => F.ok sc_pips (fun vs H Q E h => ?_) (fun cdv A outer s H vs Q E hr h => ?_)
  · obtain ⟨a, s, rfl, _⟩ := h
    rfl
  · obtain ⟨a, s, rfl, hs, hl, q⟩ := h
    refine ⟨_, (pss_one (ps_ret (pe_callB (cr_sum rfl) (by rfl) T.z_sum (by decide +kernel) (pa_cons (pe_lc (own := [("place", 1), ("checkers", 2)]) (g := (gTup K 2 (gCons (gName 1) (gCons (gName 2) gNil)))) (tt := tYes) rfl sc_pips.nd (pi_enum (by rfl) T.z_enumerate (pa_cons (pv 0) pa_nil)) (blkOk_by (own := [("place", 1), ("checkers", 2)]) (N := ["side", "place", "checkers"]) (sc := defScope s_pips) (by decide +kernel)) (fun _ _ _ _ _ => (pg_tup rfl (pgs_cons (pg_name (i := 1) sc_pips.nd rfl (.inl rfl)) (pgs_cons (pg_name (i := 2) sc_pips.nd rfl (.inl rfl)) pgs_nil)))) (fun _ _ _ _ _ => pts_nil) (fun _ _ _ _ _ => (pe_op op_mul (pv 1) (pv 2)))) pa_nil)))), ?_⟩
    refine ⟨_, rfl, a, cs s, rfl, SqL.of hs, fun D nD => ?_⟩
    refine lc_it walk_enum (fun i H' => Same H H' ∧ H' D = some (.lst (((wt s).take i).map V.int))) ⟨same_upd nD, upd_same⟩ (fun i H' _ h => SqL.of (h.1 _ _ hs)) ?_ ?_
    · rintro i x H1 H2 hi ⟨e1, hD⟩ ⟨Tp, x, y, rfl, nT, rfl, hx, hy⟩
      rw [cs_len] at hi
      have hx : x = .int (i : Int) := (Option.some.inj hx).symm
      have hli : s[i]? = some (s[i]) := List.getElem?_eq_getElem hi
      have hy : y = .int ((s[i] : Nat) : Int) := by
        have hy1 : (cs s)[i]? = some y := hy
        unfold cs at hy1
        rw [List.getElem?_map, hli] at hy1
        exact (Option.some.inj hy1).symm
      subst hx hy
      have hw := wt_at hi
      generalize s[i] = c at hli hw
      have eT : Same H (upd H1 Tp (.tup [.int (i : Int), .int (c : Int)])) := e1.trans (same_upd nT)
      have etup : (upd H1 Tp (.tup [.int (i : Int), .int (c : Int)])) Tp = some (.tup [.int (i : Int), .int (c : Int)]) := upd_same
      have hD2 : (upd H1 Tp (.tup [.int (i : Int), .int (c : Int)])) D = some (.lst (((wt s).take i).map V.int)) := by rw [upd_ne (ne_of_none hD nT)]; exact hD
      generalize upd H1 Tp (.tup [.int (i : Int), .int (c : Int)]) = H2 at eT etup hD2
      refine ⟨Tp, _, rfl, SqT.of etup, rfl, _, _, rfl, _, _, rfl, rfl, ?_⟩
      refine ⟨rfl, ?_⟩
      refine ⟨_, rfl, _, rfl, _, _, rfl, rfl, .inl ⟨by omega, by omega⟩, _, hD2, ?_, ?_, ?_⟩
      · rw [List.length_map, List.length_take, wt_len]
        exact small1000 (by omega)
      · exact fun b o e => by rw [upd_ne (ne_of_none e nD)]; exact eT _ _ e
      · rw [upd_same, List.take_add_one, hw, List.map_append]
        rfl
    · rintro H1 ⟨e1, hD⟩
      rw [cs_len, ← wt_len s, List.take_length] at hD
      refine ⟨D, wt s, rfl, SqL.of hD, ?_⟩
      rw [wt_sum hl]
      exact q _ e1
abbrev s_has_won : Stmt := topS 16
theorem sc_has_won : FnScope ["board", "player"] ["board", "player"] (defScope s_has_won) := ⟨rfl, rfl, rfl, by decide +kernel, rfl, by decide +kernel, by decide +kernel⟩
def sp_has_won : Sp := fun vs H Q _ => ∃ (B : Addr) (b : Kg61.Board) (w : Nat), vs = [.ref B, .int (w : Int)] ∧ BdAt H B b w ∧ WFB b ∧ w < 2 ∧ Q (.bl (Kg61.at_ b.own 0 == 15)) H
theorem ok_has_won (T : Txt K mg) (D : Dw0 K mg "has_won" s_has_won ["board", "player"]) : DOk P w K mg base 1 "has_won" ["board", "player"] (sp_has_won) := by
  refine D.ok fun f fd F => F.ok sc_has_won (fun vs H Q E h => ?_) (fun cdv A outer s H vs Q E hr h => ?_)
  · obtain ⟨B, b, w, rfl, _⟩ := h
    rfl
  · obtain ⟨B, b, w, rfl, hB, W, hw, q⟩ := h
    obtain ⟨xs, ao, at', hx, x1, x2, ho, ht⟩ := hB.sides hw
    refine ⟨_, (pss_one (ps_ret (pe_cmpR op_eq (pe_ix ix_list (pe_ix ix_list (pv 0) (pv 1) (fun _ _ => rfl)) (pe_ki T.c_OFF (by rfl)) (fun _ _ => rfl)) (pe_ki T.c_CHECKERS (by rfl)) (nomark _)))), ?_⟩
    have g0 : (cs b.own)[0]? = some (.int ((Kg61.at_ b.own 0 : Nat) : Int)) := cs_get (by rw [W.own]; omega)
    rw [← int_eq] at q
    exact st_ret (val_eq (val_ix (val_ix (val_var rfl) (val_var rfl) (SqL.of hx) x1) val_c (SqL.of ho) (atI_nat (j := 0) g0)) val_c) q
abbrev s_times_won : Stmt := topS 17
theorem sc_times_won : FnScope ["board", "winner", "loser_side"] ["board", "winner"] (defScope s_times_won) := ⟨rfl, rfl, rfl, by decide +kernel, rfl, by decide +kernel, by decide +kernel⟩
def sp_times_won : Sp := fun vs H Q _ => ∃ (B : Addr) (b : Kg61.Board) (w : Nat), vs = [.ref B, .int (w : Int)] ∧ BdAt H B b w ∧ WFB b ∧ w < 2 ∧ ∀ H', Same H H' → Q (.int ((Kg61.worth b : Nat) : Int)) H'
theorem ok_times_won (T : Txt K mg) (d_has_none_beyond : DOk P w K mg base 1 "has_none_beyond" ["side", "place"] (sp_has_none_beyond)) (d_others_place : DOk P w K mg base 1 "others_place" ["point"] (sp_others_place)) (D : Dw0 K mg "times_won" s_times_won ["board", "winner"]) : DOk P w K mg base 2 "times_won" ["board", "winner"] (sp_times_won) := by
  obtain ⟨f_has_none_beyond, fd_has_none_beyond, G_has_none_beyond, m_has_none_beyond, k_has_none_beyond, b_has_none_beyond⟩ := d_has_none_beyond
  obtain ⟨f_others_place, fd_others_place, G_others_place, m_others_place, k_others_place, b_others_place⟩ := d_others_place
  refine D.ok fun f fd F => F.ok sc_times_won (fun vs H Q E h => ?_) (fun cdv A outer s H vs Q E hr h => ?_)
  · obtain ⟨B, b, w, rfl, _⟩ := h
    rfl
  · obtain ⟨B, b, w, rfl, hB, W, hw, q⟩ := h
    obtain ⟨xs, ao, at', hx, x1, x2, ho, ht⟩ := hB.sides hw
    refine ⟨_, (pss_cons (ps_set (i := 2) sc_times_won.nd rfl (.inl rfl) (pe_ix ix_list (pv 0) (pe_op op_sub pe_int (pv 1)) (fun _ _ => rfl)))
    (pss_cons (ps_if (pt_cmpR op_gt (pe_ix ix_list (pv 2) (pe_ki T.c_OFF (by rfl)) (fun _ _ => rfl)) pe_int (nomark _))
      (pss_one (ps_ret pe_int))
      pss_nil)
    (pss_cons (ps_if (pt_val (pe_call G_has_none_beyond (hr.mono (by first | decide | omega)) (by rfl) m_has_none_beyond k_has_none_beyond b_has_none_beyond .nil pass0 (pa_cons (pv 2) (pa_cons (pe_call G_others_place (hr.mono (by first | decide | omega)) (by rfl) m_others_place k_others_place b_others_place .nil pass0 (pa_cons (pe_op op_add (pe_ki T.c_LAST_HOME_POINT (by rfl)) pe_int) pa_nil)) pa_nil))))
      (pss_one (ps_ret pe_int))
      pss_nil)
    (pss_one (ps_ret pe_int))))), ?_⟩
    have g0 : (cs b.other)[0]? = some (.int ((Kg61.at_ b.other 0 : Nat) : Int)) := cs_get (by rw [W.other]; omega)
    refine st_set (val_ix (val_var rfl) (val_sub val_c (val_var rfl)) (SqL.of hx) x2) ?_
    unfold Kg61.worth at q
    refine st_if (ans_test (val_gt (val_ix (val_var rfl) val_c (SqL.of ht) (atI_nat (j := 0) g0)) val_c)) (fun c => ?_) (fun c => ?_)
    · have c : 0 < Kg61.at_ b.other 0 := by
        have := of_decide_eq_true c
        omega
      rw [if_pos c] at q
      exact st_ret val_c (q _ (Same.refl _))
    · have c : ¬ 0 < Kg61.at_ b.other 0 := fun x => by
        have := of_decide_eq_false c
        omega
      rw [if_neg c] at q
      refine ⟨_, rfl, _, _, rfl, rfl, _, rfl, at', _, 18, rfl, ht, W.other, fun H1 e1 => ⟨_, rfl, ?_⟩⟩
      refine ite2 (fun c2 => ?_) (fun c2 => ?_)
      · have c2 := eq_of_beq c2
        rw [if_pos c2] at q
        exact q _ e1
      · have c2 : ¬ Kg61.above b.other 18 = 0 := fun x => c2 (by rw [x]; rfl)
        rw [if_neg c2] at q
        exact q _ e1
end
end BG
namespace BG
open PySem PySem.Spec PyProof.Rows L2
structure TxtU (K : PySem.W.Frag) (mg : Str → Option Value) (CG CS : Addr) : Prop extends TxtC K mg CG CS where
  c_BAR : KI mg "BAR" 25
  c_HIGHEST_TIMES : KI mg "HIGHEST_TIMES" 3
  z_len : mg "len" = none
  z_range : mg "range" = none
  z_enumerate : mg "enumerate" = none
theorem val_notIn {K : PySem.W.Frag} {ta tb : TE} {σ : L2.St} {H : Hp} {x : V} {p : Addr} {ys : List V} (h : Val ta σ H x) (k : Val tb σ H (.ref p)) (hs : SqL K H p ys) (hx : flatV x = true) (hf : ys.all flatV = true) : Val (tOp (rIn K true) ta tb) σ H (.bl (!inV x ys)) :=
  val_op h k fun _ q => ⟨p, ys, rfl, .inl hs, hx, hf, q⟩
theorem valH_call {sp : Sp} {t : TA} {σ : L2.St} {H : Hp} {vs : List V} {PV : V → Hp → Prop} (h : ∀ Q : List V → Hp → Prop, Q vs H → t σ H Q) (k : ∀ Q : VK, (∀ v H', PV v H' → Q v H') → sp vs H Q E0) : ValH (tCall sp [] E0 t) σ H PV := fun Q q => h _ (by
  rw [List.append_nil]
  exact k Q q)
theorem ansH_val {te : TE} {σ : L2.St} {H : Hp} {b : Bool} {R : Hp → Prop} (h : ValH te σ H fun v H' => v = .bl b ∧ R H') : AnsH (tB te) σ H b R := fun Q q => h _ fun v H' ⟨e, r⟩ => ⟨b, e, q H' r⟩
theorem ansH_not {t : TT} {σ : L2.St} {H : Hp} {b : Bool} {R : Hp → Prop} (h : AnsH t σ H b R) : AnsH (tNot t) σ H (!b) R := fun Q q => h _ q
theorem ansH_and {t u : TT} {σ : L2.St} {H : Hp} {a b : Bool} {R : Hp → Prop} (h : Ans t σ H a) (r : R H) (k : AnsH u σ H b R) : AnsH (tAnd t u) σ H (a && b) R := fun Q q => h _ (by
  cases a
  · exact iteF (q H r)
  · exact iteT (k Q q))
theorem st_ifH {c : TT} {t1 t2 : TS} {D : Ends} {σ : L2.St} {H : Hp} {b : Bool} {R : Hp → Prop} (h : AnsH c σ H b R) (h1 : b = true → ∀ H', R H' → t1 D σ H') (h2 : b = false → ∀ H', R H' → t2 D σ H') : tIfS c t1 t2 D σ H := by
  cases b
  · exact st_noH h (h2 rfl)
  · exact st_yesH h (h1 rfl)
theorem erase_map : ∀ (l : List Nat) (j : Nat), (l.map fun (n : Nat) => (n : Int)).eraseIdx j = (l.eraseIdx j).map fun (n : Nat) => (n : Int)
  | [], j => by simp
  | a :: r, 0 => by simp
  | a :: r, j + 1 => by
    have ih := erase_map r j
    simp [ih]
section
variable {P : Program} {w : World} {K : PySem.W.Frag} {mg : Str → Option Value} {base : Heap} {CG CS : Addr}
abbrev s_without_die : Stmt := topS 34
theorem sc_without_die : FnScope ["dice", "die", "rest"] ["dice", "die"] (defScope s_without_die) := ⟨rfl, rfl, rfl, by decide +kernel, rfl, by decide +kernel, by decide +kernel⟩
def sp_without_die : Sp := fun vs H Q _ => ∃ (D : Addr) (l : List Nat) (d : Nat), vs = [.ref D, .int (d : Int)] ∧ H D = some (.lst (cs l)) ∧ d ∈ l ∧ ∀ H' R, Same H H' → H R = none → H' R = some (.lst (cs (Kg61.less l d))) → Q (.ref R) H'
theorem ok_without_die (T : TxtU K mg CG CS) (D : Dw0 K mg "without_die" s_without_die ["dice", "die"]) : DOk P w K mg base 1 "without_die" ["dice", "die"] (sp_without_die) := by
  refine D.ok fun f fd F => F.ok sc_without_die (fun vs H Q E h => ?_) (fun cdv A outer s H vs Q E hr h => ?_)
  · obtain ⟨D, l, d, rfl, _⟩ := h
    rfl
  · obtain ⟨D, l, d, rfl, hD, hd, q⟩ := h
    refine ⟨_, (pss_cons (ps_set (i := 2) sc_without_die.nd rfl (.inl rfl) (pe_callTy call_list_of (by rfl) T.z_list (by decide +kernel) (pa_cons (pv 0) pa_nil)))
    (pss_cons (ps_expr (pe_bm PySem.F.plainAttrs_list PySem.F.slot_list_remove PySem.F.type_list_remove mt_remove (pv 2) (pa_cons (pv 1) pa_nil)))
    (pss_one (ps_ret (pv 2))))), ?_⟩
    obtain ⟨j, j1, j2, j3⟩ := less_erase hd
    refine ⟨_, rfl, D, _, rfl, .inl (SqL.of hD), fun R nR => ?_⟩
    have e1 := same_upd nR (o := .lst (cs l))
    have hR : (upd H R (.lst (cs l))) R = some (.lst ((l.map fun (n : Nat) => (n : Int)).map V.int)) := by rw [upd_same, cs_ints]
    refine ⟨_, rfl, .inl ⟨rfl, _, SqL.of hR⟩, _, rfl, R, l.map fun (n : Nat) => (n : Int), (d : Int), j, rfl, rfl, hR, ?_, ?_, ?_⟩
    · rw [List.getElem?_map, j1]
      rfl
    · intro m hm e
      rw [List.getElem?_map] at e
      cases z : l[m]? with
      | none => rw [z] at e; cases e
      | some y =>
        rw [z] at e
        have e : (y : Int) = (d : Int) := Option.some.inj e
        exact j2 m hm (by rw [z]; exact congrArg some (by omega))
    · refine ⟨_, rfl, q _ R ?_ nR ?_⟩
      · exact fun b o e => by rw [upd_ne (ne_of_none e nR)]; exact e1 _ _ e
      · rw [upd_same, ← j3, cs_ints, erase_map]
abbrev s_must_be_first_die : Stmt := topS 35
theorem sc_must_be_first_die : FnScope ["game"] ["game"] (defScope s_must_be_first_die) := ⟨rfl, rfl, rfl, by decide +kernel, rfl, by decide +kernel, by decide +kernel⟩
def sp_must_be_first_die (CG : Addr) : Sp := fun vs H Q _ => ∃ (g : Addr) (G : Kg61.Game), vs = [.ref g] ∧ GmAt CG H g G ∧ WFG G ∧ ∀ H', Same H H' → Q (.bl (G.left == 1 && decide (Kg61.most G.board (G.dice.take 1) = 1))) H'
theorem ok_must_be_first_die (T : TxtU K mg CG CS) (d_most_usable : DOk P w K mg base 14 "most_usable" ["board", "player", "dice"] (sp_most_usable 5)) (D : Dw0 K mg "must_be_first_die" s_must_be_first_die ["game"]) : DOk P w K mg base 15 "must_be_first_die" ["game"] (sp_must_be_first_die CG) := by
  obtain ⟨f_most_usable, fd_most_usable, G_most_usable, m_most_usable, k_most_usable, b_most_usable⟩ := d_most_usable
  refine D.ok fun f fd F => F.ok sc_must_be_first_die (fun vs H Q E h => ?_) (fun cdv A outer s H vs Q E hr h => ?_)
  · obtain ⟨g, G, rfl, _⟩ := h
    rfl
  · obtain ⟨g, G, rfl, ⟨dx, B, D0, h1, hB, hD0⟩, W, q⟩ := h
    refine ⟨_, (pss_one (ps_ret (pe_and (pe_cmpR op_eq (pe_fld (pv 0) rfl) pe_int (nomark _)) (pe_one (pe_cmpR op_eq (pe_call G_most_usable (hr.mono (by first | decide | omega)) (by rfl) m_most_usable k_most_usable b_most_usable .nil pass0 (pa_cons (pe_fld (pv 0) rfl) (pa_cons (pe_fld (pv 0) rfl) (pa_cons (pe_slice sl_list (pe_fld (pv 0) rfl) po_none (po_some pe_int)) pa_nil)))) pe_int (nomark _)))))), ?_⟩
    refine (val_to (val_eq (val_fld (val_var rfl) h1 T.clG T.n_must_use gF_get_must_use) val_c) (congrArg V.bl (int_eq G.left 1))) _ ⟨_, rfl, ?_⟩
    cases c : (G.left == 1) with
    | false =>
      rw [c, Bool.false_and] at q
      exact iteF (q _ (Same.refl _))
    | true =>
      rw [c, Bool.true_and] at q
      refine iteT ?_
      refine ⟨_, rfl, g, CG, dx, _, _, rfl, h1, T.clG, T.n_board, gF_get_board, ?_⟩
      refine ⟨_, rfl, g, CG, dx, _, _, rfl, h1, T.clG, T.n_turn, gF_get_turn, ?_⟩
      refine ⟨_, rfl, g, CG, dx, _, _, rfl, h1, T.clG, T.n_dice, gF_get_dice, ?_⟩
      refine ⟨_, rfl, D0, _, rfl, SqL.of hD0, fun n1 hn1 => ?_⟩
      have e1 := same_upd hn1 (o := .lst (cutV (cs G.dice) none (some 1)))
      have g1 : (upd H n1 (.lst (cutV (cs G.dice) none (some 1)))) n1 = some (.lst (cs (G.dice.take 1))) := by rw [upd_same, show (1 : Int) = ((1 : Nat) : Int) from rfl, cut_to, cs_take]
      generalize upd H n1 (.lst (cutV (cs G.dice) none (some 1))) = H1 at e1 g1
      have l1 : (G.dice.take 1).length ≤ 1 := by rw [List.length_take]; omega
      refine ⟨B, n1, G.board, G.who, G.dice.take 1, rfl, hB.same e1, W.bd, W.who, g1, fun x hx => W.dice x (List.mem_of_mem_take hx), by omega, by omega, fun H2 e2 => ?_⟩
      refine ⟨rfl, ?_⟩
      have e : decide (V.int ((Kg61.most G.board (G.dice.take 1) : Nat) : Int) = V.int 1) = decide (Kg61.most G.board (G.dice.take 1) = 1) := (int_eq _ 1).trans rfl
      rw [e]
      exact q _ (e1.trans e2)
abbrev s_may_be_made : Stmt := topS 36
theorem sc_may_be_made : FnScope ["game", "place", "die", "behind", "rest"] ["game", "place", "die"] (defScope s_may_be_made) := ⟨rfl, rfl, rfl, by decide +kernel, rfl, by decide +kernel, by decide +kernel⟩
def sp_may_be_made (CG : Addr) : Sp := fun vs H Q _ => ∃ (g : Addr) (G : Kg61.Game) (p d : Nat), vs = [.ref g, .int (p : Int), .int (d : Int)] ∧ GmAt CG H g G ∧ WFG G ∧ G.phase = 3 ∧ 1 ≤ p ∧ p ≤ 25 ∧ 1 ≤ d ∧
  ∀ H', Same H H' → Q (.bl (Kg61.good G.board G.dice G.left p d)) H'
theorem ok_may_be_made (T : TxtU K mg CG CS) (d_may_step : DOk P w K mg base 3 "may_step" ["board", "player", "place", "die"] (sp_may_step)) (d_must_be_first_die : DOk P w K mg base 15 "must_be_first_die" ["game"] (sp_must_be_first_die CG)) (d_board_behind : DOk P w K mg base 2 "board_behind" ["board", "player", "place", "die"] (sp_board_behind)) (d_without_die : DOk P w K mg base 1 "without_die" ["dice", "die"] (sp_without_die)) (d_most_usable : DOk P w K mg base 14 "most_usable" ["board", "player", "dice"] (sp_most_usable 5)) (D : Dw0 K mg "may_be_made" s_may_be_made ["game", "place", "die"]) : DOk P w K mg base 16 "may_be_made" ["game", "place", "die"] (sp_may_be_made CG) := by
  obtain ⟨f_may_step, fd_may_step, G_may_step, m_may_step, k_may_step, b_may_step⟩ := d_may_step
  obtain ⟨f_must_be_first_die, fd_must_be_first_die, G_must_be_first_die, m_must_be_first_die, k_must_be_first_die, b_must_be_first_die⟩ := d_must_be_first_die
  obtain ⟨f_board_behind, fd_board_behind, G_board_behind, m_board_behind, k_board_behind, b_board_behind⟩ := d_board_behind
  obtain ⟨f_without_die, fd_without_die, G_without_die, m_without_die, k_without_die, b_without_die⟩ := d_without_die
  obtain ⟨f_most_usable, fd_most_usable, G_most_usable, m_most_usable, k_most_usable, b_most_usable⟩ := d_most_usable
  refine D.ok fun f fd F => F.ok sc_may_be_made (fun vs H Q E h => ?_) (fun cdv A outer s H vs Q E hr h => ?_)
  · obtain ⟨g, G, p, d, rfl, _⟩ := h
    rfl
  · obtain ⟨g, G, p, d, rfl, hG, W, h3, hp1, hp2, hd1, q⟩ := h
    obtain ⟨dx, B, D0, h1, hB, hD0⟩ := id hG
    refine ⟨_, (pss_cons (ps_if (PW.pt (pw_or (pt_cmpR op_notIn_seq (pv 2) (pe_fld (pv 0) rfl) (by rfl)) (pw_or1 (pt_not (pt_val (pe_call G_may_step (hr.mono (by first | decide | omega)) (by rfl) m_may_step k_may_step b_may_step .nil pass0 (pa_cons (pe_fld (pv 0) rfl) (pa_cons (pe_fld (pv 0) rfl) (pa_cons (pv 1) (pa_cons (pv 2) pa_nil))))))))))
      (pss_one (ps_ret pe_bl))
      pss_nil)
    (pss_cons (ps_if (PW.pt (pw_and (pt_cmpR op_ne (pv 2) (pe_ix ix_list (pe_fld (pv 0) rfl) pe_int (fun _ _ => rfl)) (nomark _)) (pw_and1 (pt_val (pe_call G_must_be_first_die (hr.mono (by first | decide | omega)) (by rfl) m_must_be_first_die k_must_be_first_die b_must_be_first_die .nil pass0 (pa_cons (pv 0) pa_nil))))))
      (pss_one (ps_ret pe_bl))
      pss_nil)
    (pss_cons (ps_set (i := 3) sc_may_be_made.nd rfl (.inl rfl) (pe_call G_board_behind (hr.mono (by first | decide | omega)) (by rfl) m_board_behind k_board_behind b_board_behind .nil pass0 (pa_cons (pe_fld (pv 0) rfl) (pa_cons (pe_fld (pv 0) rfl) (pa_cons (pv 1) (pa_cons (pv 2) pa_nil))))))
    (pss_cons (ps_set (i := 4) sc_may_be_made.nd rfl (.inl rfl) (pe_call G_without_die (hr.mono (by first | decide | omega)) (by rfl) m_without_die k_without_die b_without_die .nil pass0 (pa_cons (pe_fld (pv 0) rfl) (pa_cons (pv 2) pa_nil))))
    (pss_one (ps_ret (pe_cmpR op_ge (pe_call G_most_usable (hr.mono (by first | decide | omega)) (by rfl) m_most_usable k_most_usable b_most_usable .nil pass0 (pa_cons (pv 3) (pa_cons (pe_fld (pv 0) rfl) (pa_cons (pv 4) pa_nil)))) (pe_op op_sub (pe_fld (pv 0) rfl) pe_int) (nomark _)))))))), ?_⟩
    obtain ⟨hl0, hlm⟩ := W.left_ h3
    -- if die not in game.dice or not may_step(..)
    refine (ans_test (val_notIn (val_var rfl) (val_fld (val_var rfl) h1 T.clG T.n_dice gF_get_dice) (SqL.of hD0) rfl (cs_flat _))) _ ?_
    rw [cs_in]
    have no : ∀ H', Same H H' → (decide (d ∈ G.dice) && Kg61.may G.board p d) = false → Q (.bl false) H' := fun H' e z => by
      rw [good_no z] at q
      exact q _ e
    by_cases hd : d ∈ G.dice
    · rw [decide_eq_true hd] at no ⊢
      refine iteF ?_
      refine ⟨_, rfl, g, CG, dx, _, _, rfl, h1, T.clG, T.n_board, gF_get_board, ?_⟩
      refine ⟨_, rfl, g, CG, dx, _, _, rfl, h1, T.clG, T.n_turn, gF_get_turn, _, rfl, _, rfl, ?_⟩
      refine ⟨B, G.board, G.who, p, d, rfl, hB, W.bd, W.who, hp1, hp2, hd1, fun H1 e1 => ⟨_, rfl, ?_⟩⟩
      cases hm : Kg61.may G.board p d with
      | false =>
        rw [hm] at no
        exact iteT (no _ e1 rfl)
      | true =>
        refine iteF ?_
        -- the greater die
        obtain ⟨x, r, hl⟩ : ∃ x r, G.dice = x :: r := by
          cases e : G.dice with
          | nil => rw [e] at hd; cases hd
          | cons x r => exact ⟨x, r, rfl⟩
        have hgood : Kg61.good G.board G.dice G.left p d = ((d == x || !(G.left == 1 && decide (Kg61.most G.board [x] = 1))) && decide (G.left - 1 ≤ Kg61.most (Kg61.step G.board p d) (Kg61.less G.dice d))) := by
          rw [hl]
          exact good_is hl0 (by rw [← hl]; exact hd) hm (by rw [← hl]; exact W.down)
        rw [hgood] at q
        have h11 := e1 _ _ h1
        have hD1 := e1 _ _ hD0
        have hx0 : (cs G.dice)[0]? = some (.int (x : Int)) := by rw [hl]; rfl
        have tk1 : G.dice.take 1 = [x] := by rw [hl]; rfl
        refine st_ifH (R := fun H' => Same H1 H') (ansH_and (ans_test (val_to (val_ne (val_var rfl) (val_ix (val_fld (val_var rfl) h11 T.clG T.n_dice gF_get_dice) val_c (SqL.of hD1) (atI_nat (j := 0) hx0)) rfl) (congrArg (fun z => V.bl (!z)) (int_eq d x)))) (Same.refl _)
          (ansH_val (valH_call (args1 (val_var rfl)) fun Q k => ⟨g, G, rfl, hG.same e1, W, fun H' e => k _ _ ⟨rfl, e⟩⟩))) (fun c H2 e2 => ?_) (fun c H2 e2 => ?_)
        · rw [tk1] at c
          have z : (d == x || !(G.left == 1 && decide (Kg61.most G.board [x] = 1))) = false := by
            rw [Bool.and_eq_true] at c
            rw [c.2]
            simpa using c.1
          rw [z, Bool.false_and] at q
          exact q _ (e1.trans e2)
        · rw [tk1] at c
          have z : (d == x || !(G.left == 1 && decide (Kg61.most G.board [x] = 1))) = true := by
            cases y : (d == x) with
            | true => rfl
            | false =>
              rw [y, Bool.not_false, Bool.true_and] at c
              rw [c]
              rfl
          rw [z, Bool.true_and] at q
          have e02 := e1.trans e2
          have h12 := e02 _ _ h1
          -- behind = board_behind(..)
          refine ⟨_, rfl, g, CG, dx, _, _, rfl, h12, T.clG, T.n_board, gF_get_board, ?_⟩
          refine ⟨_, rfl, g, CG, dx, _, _, rfl, h12, T.clG, T.n_turn, gF_get_turn, _, rfl, _, rfl, ?_⟩
          refine ⟨B, G.board, G.who, p, d, rfl, hB.same e02, W.bd, W.who, hp2, hd1, (may_ge hm).2.2, fun H3 B' e3 n3 hB' => ?_⟩
          have e03 := e02.trans e3
          have h13 := e03 _ _ h1
          -- rest = without_die(..)
          refine ⟨_, rfl, g, CG, dx, _, _, rfl, h13, T.clG, T.n_dice, gF_get_dice, _, rfl, ?_⟩
          refine ⟨D0, G.dice, d, rfl, e03 _ _ hD0, hd, fun H4 R4 e4 n4 h4 => ?_⟩
          have e04 := e03.trans e4
          have h14 := e04 _ _ h1
          -- return most_usable(behind, game.turn, rest) >= game.must_use - 1
          refine ⟨_, rfl, _, rfl, g, CG, dx, _, _, rfl, h14, T.clG, T.n_turn, gF_get_turn, _, rfl, ?_⟩
          have hll := less_len_le G.dice d
          have h44 := W.four
          refine ⟨B', R4, Kg61.step G.board p d, G.who, Kg61.less G.dice d, rfl, hB'.same e4, step_wf W.bd, W.who, h4, fun y hy => W.dice y (less_sub hy), by omega, by omega, fun H5 e5 => ?_⟩
          have h15 := e5 _ _ h14
          refine ⟨_, rfl, g, CG, dx, _, _, rfl, h15, T.clG, T.n_must_use, gF_get_must_use, _, _, rfl, rfl, _, _, rfl, rfl, ?_⟩
          have e : decide (((G.left : Int) - 1) ≤ ((Kg61.most (Kg61.step G.board p d) (Kg61.less G.dice d) : Nat) : Int)) = decide (G.left - 1 ≤ Kg61.most (Kg61.step G.board p d) (Kg61.less G.dice d)) := decide_eq_decide.mpr (by omega)
          have q1 := q _ (e04.trans e5)
          rw [← e] at q1
          exact q1
    · rw [decide_eq_false hd] at no ⊢
      exact iteT (no _ (Same.refl _) rfl)
end
end BG
namespace BG
open PySem PySem.Spec PyProof.Rows L2
/-- a store to an attribute, of a value that the evaluation makes -/
theorem fldH_seq {K : PySem.W.Frag} {ta tv : TE} {f : Str} {u : TS} {D : Ends} {σ : L2.St} {H : Hp} {R : V → Hp → Prop} {p C dx : Addr} {fs : List (Str × V)} {fs' : V → List (Str × V)}
    (hv : ∀ Q : VK, (∀ v H1, Same H H1 → R v H1 → Q v H1) → tv σ H Q) (ha : ∀ (H1 : Hp) (Q : VK), Q (.ref p) H1 → ta σ H1 Q) (hp : H p = some (.ins C dx fs))
    (c : Cls K C) (n : NoAttr K C f) (hl : fs.length < 1000) (hput : ∀ v, putF f v fs = fs' v) (k : ∀ v H1 H', Same H H1 → R v H1 → H' p = some (.ins C dx (fs' v)) → But p H1 H' → u D σ H') : tSeq (sFld K ta tv f) u D σ H :=
  hv _ fun v H1 e1 r => ha H1 _ ⟨p, C, dx, fs, rfl, e1 _ _ hp, c, n, hl, by
    rw [hput]
    exact k v H1 _ e1 r upd_same (But.refl p H1).upd⟩
/-- pairs of whole numbers, each at its address -/
def PairsAt (H : Hp) (as : List Addr) (ps : List (Nat × Nat)) : Prop := as.length = ps.length ∧ ∀ (i : Nat) (a : Addr) (q : Nat × Nat), as[i]? = some a → ps[i]? = some q → H a = some (.tup [.int (q.1 : Int), .int (q.2 : Int)])
theorem PairsAt.same {H H' : Hp} {as : List Addr} {ps : List (Nat × Nat)} (h : PairsAt H as ps) (e : Same H H') : PairsAt H' as ps := ⟨h.1, fun i a q h1 h2 => e _ _ (h.2 i a q h1 h2)⟩
theorem PairsAt.off {H : Hp} {as : List Addr} {ps : List (Nat × Nat)} {L : Addr} {xs : List V} {o : HO} (h : PairsAt H as ps) (hL : H L = some (.lst xs)) : PairsAt (upd H L o) as ps :=
  ⟨h.1, fun i a q h1 h2 => by
    have z := h.2 i a q h1 h2
    rw [upd_ne (ne_of z hL fun e => nomatch e)]
    exact z⟩
theorem PairsAt.snoc {H : Hp} {as : List Addr} {ps : List (Nat × Nat)} {t : Addr} {q : Nat × Nat} (h : PairsAt H as ps) (ht : H t = some (.tup [.int (q.1 : Int), .int (q.2 : Int)])) : PairsAt H (as ++ [t]) (ps ++ [q]) := by
  refine ⟨by rw [List.length_append, List.length_append, h.1]; rfl, fun i a r h1 h2 => ?_⟩
  by_cases c : i < as.length
  · rw [List.getElem?_append_left c] at h1
    rw [List.getElem?_append_left (by rw [← h.1]; exact c)] at h2
    exact h.2 i a r h1 h2
  · rw [List.getElem?_append_right (by omega)] at h1
    rw [List.getElem?_append_right (by rw [← h.1]; omega), ← h.1] at h2
    generalize i - as.length = m at h1 h2
    cases m with
    | zero =>
      have e1 : t = a := by simpa using h1
      have e2 : q = r := by simpa using h2
      subst e1 e2
      exact ht
    | succ m => simp at h1
section
variable {P : Program} {w : World} {K : PySem.W.Frag} {mg : Str → Option Value} {base : Heap} {CG CS : Addr}
abbrev s_make_step : Stmt := topS 38
theorem sc_make_step : FnScope ["game", "place", "die"] ["game", "place", "die"] (defScope s_make_step) := ⟨rfl, rfl, rfl, by decide +kernel, rfl, by decide +kernel, by decide +kernel⟩
def sp_make_step (CG : Addr) : Sp := fun vs H Q _ => ∃ (g : Addr) (G : Kg61.Game) (p d : Nat), vs = [.ref g, .int (p : Int), .int (d : Int)] ∧ GmAt CG H g G ∧ WFG G ∧ 1 ≤ d ∧ Kg61.good G.board G.dice G.left p d = true ∧
  ∀ H', GmAt CG H' g { G with board := Kg61.step G.board p d, dice := Kg61.less G.dice d, left := G.left - 1 } → But g H H' → Q .non H'
theorem ok_make_step (T : TxtU K mg CG CS) (d_board_behind : DOk P w K mg base 2 "board_behind" ["board", "player", "place", "die"] (sp_board_behind)) (d_without_die : DOk P w K mg base 1 "without_die" ["dice", "die"] (sp_without_die)) (D : Dw0 K mg "make_step" s_make_step ["game", "place", "die"]) : DOk P w K mg base 3 "make_step" ["game", "place", "die"] (sp_make_step CG) := by
  obtain ⟨f_board_behind, fd_board_behind, G_board_behind, m_board_behind, k_board_behind, b_board_behind⟩ := d_board_behind
  obtain ⟨f_without_die, fd_without_die, G_without_die, m_without_die, k_without_die, b_without_die⟩ := d_without_die
  refine D.ok fun f fd F => F.ok sc_make_step (fun vs H Q E h => ?_) (fun cdv A outer s H vs Q E hr h => ?_)
  · obtain ⟨g, G, p, d, rfl, _⟩ := h
    rfl
  · obtain ⟨g, G, p, d, rfl, ⟨dx, B, D0, h1, hB, hD0⟩, W, hd1, hgood, q⟩ := h
    obtain ⟨h0, hd, hm, _⟩ := good_parts hgood
    obtain ⟨hp1, hp2, hpos⟩ := may_ge hm
    refine ⟨_, (pss_cons (ps_fld (pv 0) (pe_call G_board_behind (hr.mono (by first | decide | omega)) (by rfl) m_board_behind k_board_behind b_board_behind .nil pass0 (pa_cons (pe_fld (pv 0) rfl) (pa_cons (pe_fld (pv 0) rfl) (pa_cons (pv 1) (pa_cons (pv 2) pa_nil))))) rfl)
    (pss_cons (ps_fld (pv 0) (pe_call G_without_die (hr.mono (by first | decide | omega)) (by rfl) m_without_die k_without_die b_without_die .nil pass0 (pa_cons (pe_fld (pv 0) rfl) (pa_cons (pv 2) pa_nil))) rfl)
    (pss_one (ps_fldaug (pv 0) pe_int in_sub)))), ?_⟩
    -- game.board = board_behind(..)
    refine fldH_seq (R := fun v H1 => ∃ B', v = .ref B' ∧ BdAt H1 B' (Kg61.step G.board p d) G.who) (fun Q k => ?_) (fun _ _ q => ⟨_, rfl, q⟩) h1 T.clG T.n_board (by simp [gF]) (fun _ => gF_put_board) fun v H1 H2 e1 hv h2 b2 => ?_
    · refine ⟨_, rfl, g, CG, dx, _, _, rfl, h1, T.clG, T.n_board, gF_get_board, ?_⟩
      refine ⟨_, rfl, g, CG, dx, _, _, rfl, h1, T.clG, T.n_turn, gF_get_turn, _, rfl, _, rfl, ?_⟩
      exact ⟨B, G.board, G.who, p, d, rfl, hB, W.bd, W.who, hp2, hd1, hpos, fun H3 B' e3 n3 hB' => k _ _ e3 ⟨B', rfl, hB'⟩⟩
    obtain ⟨B', rfl, hB'⟩ := hv
    have h11 := e1 _ _ h1
    have hB2 := hB'.but b2 h11 (fun _ q => nomatch q)
    have hD2 := b2 _ _ (e1 _ _ hD0) (ne_of hD0 h1 fun q => nomatch q)
    -- game.dice = without_die(game.dice, die)
    refine fldH_seq (R := fun v H1 => ∃ R, v = .ref R ∧ H1 R = some (.lst (cs (Kg61.less G.dice d)))) (fun Q k => ?_) (fun _ _ q => ⟨_, rfl, q⟩) h2 T.clG T.n_dice (by simp [gF]) (fun _ => gF_put_dice) fun v H3 H4 e3 hv h4 b4 => ?_
    · refine ⟨_, rfl, g, CG, dx, _, _, rfl, h2, T.clG, T.n_dice, gF_get_dice, _, rfl, ?_⟩
      exact ⟨D0, G.dice, d, rfl, hD2, hd, fun H3 R e3 n3 hR => k _ _ e3 ⟨R, rfl, hR⟩⟩
    obtain ⟨R, rfl, hR⟩ := hv
    have h13 := e3 _ _ h2
    have hB4 := (hB2.same e3).but b4 h13 (fun _ q => nomatch q)
    have hR4 := b4 _ _ hR (ne_of hR h13 fun q => nomatch q)
    -- game.must_use -= 1
    refine st_aug (val_var rfl) h4 T.clG T.n_must_use gF_get_must_use val_c (fun Q q => ⟨_, _, rfl, rfl, q⟩) (by simp [gF]) ?_
    rw [gF_put_must_use]
    have b5 : But g H4 (upd H4 g (.ins CG dx (gF (.ref B') (.int (G.who : Int)) (.int (G.phase : Int)) (.int (G.cube : Int)) (hold G.holder) (.bl G.free) (.ref R) (.int ((G.left : Int) - 1))))) := (But.refl g H4).upd
    refine q _ ⟨dx, B', R, ?_, hB4.but b5 h4 (fun _ q => nomatch q), b5 _ _ hR4 (ne_of hR4 h4 fun q => nomatch q)⟩ ((But.of e1).trans (b2.trans ((But.of e3).trans (b4.trans b5))))
    rw [upd_same]
    dsimp only
    rw [show ((G.left - 1 : Nat) : Int) = (G.left : Int) - 1 by omega]
abbrev s_steps_that_may_be_made : Stmt := topS 37
theorem sc_steps_that_may_be_made : FnScope ["game", "found", "index", "die", "place"] ["game"] (defScope s_steps_that_may_be_made) := ⟨rfl, rfl, rfl, by decide +kernel, rfl, by decide +kernel, by decide +kernel⟩
def sp_steps_that_may_be_made (CG : Addr) : Sp := fun vs H Q _ => ∃ (g : Addr) (G : Kg61.Game), vs = [.ref g] ∧ GmAt CG H g G ∧ WFG G ∧ G.phase = 3 ∧
  ∀ H' L as, Same H H' → H L = none → H' L = some (.lst (as.map V.ref)) → PairsAt H' as (Kg61.steps G.board G.dice G.left) → as.length ≤ 100 → Q (.ref L) H'
theorem ok_steps_that_may_be_made (T : TxtU K mg CG CS) (d_may_be_made : DOk P w K mg base 16 "may_be_made" ["game", "place", "die"] (sp_may_be_made CG)) (D : Dw0 K mg "steps_that_may_be_made" s_steps_that_may_be_made ["game"]) : DOk P w K mg base 17 "steps_that_may_be_made" ["game"] (sp_steps_that_may_be_made CG) := by
  obtain ⟨f_may_be_made, fd_may_be_made, G_may_be_made, m_may_be_made, k_may_be_made, b_may_be_made⟩ := d_may_be_made
  refine D.ok fun f fd F => F.ok sc_steps_that_may_be_made (fun vs H Q E h => ?_) (fun cdv A outer s H vs Q E hr h => ?_)
  · obtain ⟨g, G, rfl, _⟩ := h
    rfl
  · obtain ⟨g, G, rfl, hG, W, h3, q⟩ := h
    obtain ⟨dx, B, D0, h1, hB, hD0⟩ := id hG
    refine ⟨_, (pss_cons (ps_set (i := 1) sc_steps_that_may_be_made.nd rfl (.inl rfl) (pe_lst pa_nil))
    (pss_cons (ps_for PassesOwn.never rfl (pi_enum (by rfl) T.z_enumerate (pa_cons (pe_fld (pv 0) rfl) pa_nil)) (pg_tup rfl (pgs_cons (pg_name (i := 2) sc_steps_that_may_be_made.nd rfl (.inl rfl)) (pgs_cons (pg_name (i := 3) sc_steps_that_may_be_made.nd rfl (.inl rfl)) pgs_nil)))
      (pss_one (ps_if (pt_cmpR op_notIn_seq (pv 3) (pe_slice sl_list (pe_fld (pv 0) rfl) po_none (po_some (pv 2))) (by rfl))
      (pss_one (ps_for PassesOwn.never rfl (pi_range3 (by rfl) T.z_range (pa_cons (pe_ki T.c_BAR (by rfl)) (pa_cons pe_int (pa_cons (pe_un un_neg pe_int) pa_nil)))) (pg_name (i := 4) sc_steps_that_may_be_made.nd rfl (.inl rfl))
      (pss_one (ps_if (pt_val (pe_call G_may_be_made (hr.mono (by first | decide | omega)) (by rfl) m_may_be_made k_may_be_made b_may_be_made .nil pass0 (pa_cons (pv 0) (pa_cons (pv 4) (pa_cons (pv 3) pa_nil)))))
      (pss_one (ps_expr (pe_bm PySem.F.plainAttrs_list PySem.F.slot_list_append PySem.F.type_list_append mt_append (pv 1) (pa_cons (pe_tup (pa_cons (pv 4) (pa_cons (pv 3) pa_nil))) pa_nil))))
      pss_nil))))
      pss_nil)))
    (pss_one (ps_ret (pv 1))))), ?_⟩
    have h44 := W.four
    -- found = []
    refine ⟨Nat.zero_le _, fun L nL => ?_⟩
    have eL := same_upd nL (o := .lst [])
    have hL : (upd H L (.lst [])) L = some (.lst ((([] : List Addr)).map V.ref)) := upd_same
    generalize upd H L (.lst []) = H0 at eL hL
    refine ⟨_, rfl, g, CG, dx, _, _, rfl, eL _ _ h1, T.clG, T.n_dice, gF_get_dice, ?_⟩
    refine ⟨D0, cs G.dice, rfl, SqL.of (eL _ _ hD0), ?_⟩
    refine for_it walk_enum (fun i σ H' => ∃ (as : List Addr) (x2 x3 x4 : Option V), σ = [some (.ref g), some (.ref L), x2, x3, x4] ∧ Same H H' ∧ H' L = some (.lst (as.map V.ref)) ∧ PairsAt H' as (stepsBy G.board G.dice G.left i) ∧ as.length ≤ 25 * i)
      ⟨[], none, none, none, rfl, eL, hL, by rw [stepsBy_zero]; exact ⟨rfl, fun i a q h => by simp at h⟩, Nat.zero_le _⟩ (fun i σ H' _ ⟨_, _, _, _, _, e, _⟩ => SqL.of (e _ _ hD0)) ?_ ?_
    · rintro i x σ H1 H2 hi ⟨as, x2, x3, x4, rfl, e1, hL1, hP1, hlen⟩ ⟨Tp, x, y, rfl, nT, rfl, hx, hy⟩
      rw [cs_len] at hi
      have hx : x = .int (i : Int) := (Option.some.inj hx).symm
      have hli : G.dice[i]? = some (G.dice[i]) := List.getElem?_eq_getElem hi
      have hy : y = .int ((G.dice[i] : Nat) : Int) := by
        have hy1 : (cs G.dice)[i]? = some y := hy
        unfold cs at hy1
        rw [List.getElem?_map, hli] at hy1
        exact (Option.some.inj hy1).symm
      subst hx hy
      have hmem : G.dice[i] ∈ G.dice := List.getElem_mem hi
      generalize hd : G.dice[i] = d at hli hmem
      have sT := same_upd nT (o := .tup [.int (i : Int), .int (d : Int)])
      have eT : Same H (upd H1 Tp (.tup [.int (i : Int), .int (d : Int)])) := e1.trans sT
      have etup : (upd H1 Tp (.tup [.int (i : Int), .int (d : Int)])) Tp = some (.tup [.int (i : Int), .int (d : Int)]) := upd_same
      have hL2 := sT _ _ hL1
      have hP2 := hP1.same sT
      generalize upd H1 Tp (.tup [.int (i : Int), .int (d : Int)]) = H2 at eT etup hL2 hP2
      refine ⟨Tp, _, rfl, SqT.of etup, rfl, _, _, rfl, _, _, rfl, rfl, ?_⟩
      -- if die not in game.dice[:index]
      refine ⟨_, rfl, _, rfl, g, CG, dx, _, _, rfl, eT _ _ h1, T.clG, T.n_dice, gF_get_dice, ?_⟩
      refine ⟨_, rfl, _, rfl, D0, _, rfl, SqL.of (eT _ _ hD0), fun n1 hn1 => ?_⟩
      have s3 := same_upd hn1 (o := .lst (cutV (cs G.dice) none (some (i : Int))))
      have e3 := eT.trans s3
      have hL3 := s3 _ _ hL2
      have hP3 := hP2.same s3
      refine ⟨n1, cs (G.dice.take i), rfl, .inl (SqL.of (by rw [upd_same, cut_to, cs_take])), rfl, cs_flat _, _, rfl, ?_⟩
      generalize upd H2 n1 (.lst (cutV (cs G.dice) none (some (i : Int)))) = H3 at e3 hL3 hP3
      rw [cs_in]
      by_cases hin : d ∈ G.dice.take i
      · rw [decide_eq_true hin]
        refine iteF ?_
        exact ⟨as, _, _, _, rfl, e3, hL3, by rw [stepsBy_again hli hin]; exact hP3, by omega⟩
      · rw [decide_eq_false hin]
        refine iteT ?_
        -- for place in range(BAR, 0, -1)
        refine ⟨1, rfl, 25, 0, -1, 25, rfl, RgC.neg (by decide) (by decide) (by decide) (by decide), ?_⟩
        refine for_rangeC (lo := 25) (c := -1) (n := 25) (fun j σ H' => ∃ (bs : List Addr) (x4 : Option V), σ = [some (.ref g), some (.ref L), some (.int (i : Int)), some (.int (d : Int)), x4] ∧ Same H H' ∧ H' L = some (.lst (bs.map V.ref)) ∧ PairsAt H' bs (stepsBy G.board G.dice G.left i ++ stepsTo G.board G.dice G.left d j) ∧ bs.length ≤ 25 * i + j)
          ⟨as, x4, rfl, e3, hL3, by rw [stepsTo_zero, List.append_nil]; exact hP3, hlen⟩ ?_ ?_
        · rintro j σ H4 hj ⟨bs, x4, rfl, e4, hL4, hP4, hlen4⟩
          have ep : (25 : Int) + ((j : Nat) : Int) * (-1) = ((25 - j : Nat) : Int) := by omega
          rw [ep]
          -- if may_be_made(game, place, die)
          refine st_ifH (R := fun H' => Same H4 H') (ansH_val (valH_call (args3 (val_var rfl) (val_var rfl) (val_var rfl)) fun Q k => ⟨g, G, 25 - j, d, rfl, hG.same e4, W, h3, by omega, by omega, (W.dice d hmem).1, fun H' e => k _ _ ⟨rfl, e⟩⟩)) (fun c H5 e5 => ?_) (fun c H5 e5 => ?_)
          · have hL5 := e5 _ _ hL4
            have hP5 := hP4.same e5
            -- found.append((place, die))
            refine ⟨_, rfl, .inl ⟨rfl, _, SqL.of hL5⟩, _, rfl, _, rfl, (by show 2 ≤ sizeLine; decide), fun t nt => ?_⟩
            have s6 := same_upd nt (o := .tup [.int ((25 - j : Nat) : Int), .int (d : Int)])
            have hL6 := s6 _ _ hL5
            have hP6 := hP5.same s6
            have ht6 : (upd H5 t (.tup [.int ((25 - j : Nat) : Int), .int (d : Int)])) t = some (.tup [.int ((25 - j : Nat) : Int), .int (d : Int)]) := upd_same
            have e6 := (e4.trans e5).trans s6
            generalize upd H5 t (.tup [.int ((25 - j : Nat) : Int), .int (d : Int)]) = H6 at s6 hL6 hP6 ht6 e6
            refine ⟨L, _, _, rfl, rfl, hL6, ?_, ?_⟩
            · rw [List.length_map]
              exact small1000 (by omega)
            refine ⟨bs ++ [t], _, rfl, fun b o e => by rw [upd_ne (ne_of_none e nL)]; exact e6 _ _ e, ?_, ?_, ?_⟩
            · rw [upd_same, List.map_append]
              rfl
            · rw [stepsTo_succ (by omega), if_pos c, ← List.append_assoc]
              exact (hP6.snoc (q := (25 - j, d)) ht6).off hL6
            · rw [List.length_append]
              show bs.length + 1 ≤ _
              omega
          · refine ⟨bs, _, rfl, e4.trans e5, e5 _ _ hL4, ?_, by omega⟩
            rw [stepsTo_succ (by omega), if_neg (by rw [c]; exact Bool.false_ne_true), List.append_nil]
            exact hP4.same e5
        · rintro σ H4 ⟨bs, x4, rfl, e4, hL4, hP4, hlen4⟩
          rw [stepsTo_all] at hP4
          exact ⟨bs, _, _, _, rfl, e4, hL4, by rw [stepsBy_new hli hin]; exact hP4, by omega⟩
    · rintro σ H1 ⟨as, x2, x3, x4, rfl, e1, hL1, hP1, hlen⟩
      rw [cs_len] at hP1 hlen
      rw [stepsBy_all] at hP1
      exact ⟨_, rfl, q H1 L as e1 nL hL1 hP1 (by omega)⟩
end
end BG
namespace BG
open PySem PySem.Spec PyProof.Rows L2
theorem wins_game (st : Kg61.State) (g : Option Kg61.Game) (w n : Nat) : ({ st with game := g } : Kg61.State).wins w n = st.wins w n := by
  unfold Kg61.State.wins
  by_cases c : w = 0
  · simp only [if_pos c]
    rfl
  · simp only [if_neg c]
    rfl
section
variable {P : Program} {w : World} {K : PySem.W.Frag} {mg : Str → Option Value} {base : Heap} {CG CS : Addr}
abbrev s_is_step : Stmt := topS 43
theorem sc_is_step : FnScope ["place", "die"] ["place", "die"] (defScope s_is_step) := ⟨rfl, rfl, rfl, by decide +kernel, rfl, by decide +kernel, by decide +kernel⟩
def sp_is_step : Sp := fun vs H Q _ => ∃ p d : Int, vs = [.int p, .int d] ∧ Q (.bl (Kg61.within p 1 25 && Kg61.within d 1 6)) H
theorem ok_is_step (T : TxtU K mg CG CS) (d_is_die : DOk P w K mg base 1 "is_die" ["number"] (sp_is_die)) (D : Dw0 K mg "is_step" s_is_step ["place", "die"]) : DOk P w K mg base 2 "is_step" ["place", "die"] (sp_is_step) := by
  obtain ⟨f_is_die, fd_is_die, G_is_die, m_is_die, k_is_die, b_is_die⟩ := d_is_die
  refine D.ok fun f fd F => F.ok sc_is_step (fun vs H Q E h => ?_) (fun cdv A outer s H vs Q E hr h => ?_)
  · obtain ⟨p, d, rfl, _⟩ := h
    rfl
  · obtain ⟨p, d, rfl, q⟩ := h
    refine ⟨_, (pss_one (ps_ret (pe_and (pe_chain op_le op_le pe_int (pv 0) (pe_ki T.c_BAR (by rfl))) (pe_one (pe_call G_is_die (hr.mono (by first | decide | omega)) (by rfl) m_is_die k_is_die b_is_die .nil pass0 (pa_cons (pv 1) pa_nil)))))), ?_⟩
    exact st_ret (val_and (val_chain val_c (val_var rfl) val_c) (val_call (args1 (val_var rfl)) fun Q q => ⟨d, rfl, q⟩)) q
theorem worth_le (b : Kg61.Board) : Kg61.worth b ≤ 3 := by
  unfold Kg61.worth
  split
  · decide
  · split <;> decide
theorem step_nums {p d : Int} (h : (Kg61.within p 1 25 && Kg61.within d 1 6) = true) : p = ((p.toNat : Nat) : Int) ∧ d = ((d.toNat : Nat) : Int) ∧ 1 ≤ p.toNat ∧ p.toNat ≤ 25 ∧ 1 ≤ d.toNat ∧ d.toNat ≤ 6 := by
  simp only [Kg61.within, Bool.and_eq_true, decide_eq_true_eq] at h
  omega
abbrev s_call_give : Stmt := topS 54
theorem sc_call_give : FnScope ["state", "times", "refusal", "game"] ["state", "times"] (defScope s_call_give) := ⟨rfl, rfl, rfl, by decide +kernel, rfl, by decide +kernel, by decide +kernel⟩
def sp_call_give (CG CS : Addr) : Sp := fun vs H Q _ => ∃ (s : Addr) (st : Kg61.State) (z : Int), vs = [.ref s, .int z] ∧ Did CG CS H s st (.give z) Q
theorem ok_call_give (T : TxtU K mg CG CS) (d_refusal_in : DOk P w K mg base 1 "refusal_in" ["state", "phase"] (sp_refusal_in CG CS)) (d_points_won : DOk P w K mg base 7 "points_won" ["state", "winner", "won"] (sp_points_won CG CS)) (D : Dw0 K mg "call_give" s_call_give ["state", "times"]) : DOk P w K mg base 8 "call_give" ["state", "times"] (sp_call_give CG CS) := by
  obtain ⟨f_refusal_in, fd_refusal_in, G_refusal_in, m_refusal_in, k_refusal_in, b_refusal_in⟩ := d_refusal_in
  obtain ⟨f_points_won, fd_points_won, G_points_won, m_points_won, k_points_won, b_points_won⟩ := d_points_won
  refine D.ok fun f fd F => F.ok sc_call_give (fun vs H Q E h => ?_) (fun cdv A outer s H vs Q E hr h => ?_)
  · obtain ⟨s, st, z, rfl, _⟩ := h
    rfl
  · obtain ⟨s, st, z, rfl, hd⟩ := h
    refine ⟨_, (pss_cons (ps_if (pt_not (pt_chain op_le op_le pe_int (pv 1) (pe_ki T.c_HIGHEST_TIMES (by rfl))))
      (pss_one (ps_ret (pe_lst (pa_cons (pe_un un_neg pe_int) pa_nil))))
      pss_nil)
    (pss_cons (ps_set (i := 2) sc_call_give.nd rfl (.inl rfl) (pe_call G_refusal_in (hr.mono (by first | decide | omega)) (by rfl) m_refusal_in k_refusal_in b_refusal_in .nil pass0 (pa_cons (pv 0) (pa_cons (pe_ki T.c_TURN (by rfl)) pa_nil))))
    (pss_cons (ps_if (pt_cmpR op_ne (pv 2) pe_int (nomark _))
      (pss_one (ps_ret (pe_lst (pa_cons (pv 2) pa_nil))))
      pss_nil)
    (pss_cons (ps_set (i := 3) sc_call_give.nd rfl (.inl rfl) (pe_fld (pv 0) rfl))
    (pss_one (ps_ret (pe_call G_points_won (hr.mono (by first | decide | omega)) (by rfl) m_points_won k_points_won b_points_won .nil pass0 (pa_cons (pv 0) (pa_cons (pe_op op_sub pe_int (pe_fld (pv 3) rfl)) (pa_cons (pe_op op_mul (pv 1) (pe_fld (pv 3) rfl)) pa_nil)))))))))), ?_⟩
    refine st_if (ans_not (ans_test (val_chain val_c (val_var rfl) val_c))) (fun c => ?_) (fun c => ?_)
    · refine ret1 (val_neg val_c) fun p H' np hs hp => hd.no ?_ np hs hp
      have c : Kg61.within z 1 3 = false := (Bool.not_eq_true' _).mp c
      show (if Kg61.within z 1 3 = false then _ else _) = _
      rw [if_pos c]
    have c : Kg61.within z 1 3 = true := (Bool.not_eq_false' _).mp c
    have c2 : 1 ≤ z ∧ z ≤ 3 := by simpa [Kg61.within] using c
    have ez : z = ((z.toNat : Nat) : Int) := by omega
    have es : Kg61.spec st (.give z) = Kg61.onGame st fun g => if g.phase ≠ 1 then (st, Kg61.num (-3)) else (st.wins (1 - g.who) (z.toNat * g.cube), ⟨z * (g.cube : Int), Kg61.whole [(st.wins (1 - g.who) (z.toNat * g.cube)).a, (st.wins (1 - g.who) (z.toNat * g.cube)).b]⟩) := by
      show (if Kg61.within z 1 3 = false then _ else _) = _
      rw [if_neg (by rw [c]; exact Bool.noConfusion)]
    refine refuse (ph := 1) hd rfl (args2 (val_var rfl) val_c) rfl (fun hg => by rw [es, on_none hg]) (fun G hg hp => by rw [es, on_some hg, if_pos hp]) (fun G hg hp => ?_)
    rw [on_some hg, if_neg (fun n => n hp)] at es
    obtain ⟨g, dx, pt, h1, hG, hmk⟩ := hd.1.game hg
    obtain ⟨WG, ha, hb⟩ := hd.2.1.game G hg
    obtain ⟨dg, B, D0, hgf, hB, hD⟩ := id hG
    obtain ⟨hS, _, k⟩ := hd
    have ec : z * (G.cube : Int) = ((z.toNat * G.cube : Nat) : Int) := by
      rw [Int.natCast_mul, ← ez]
    rw [es, ec] at k
    refine st_set (val_fld (val_var rfl) h1 T.clS T.n_game sF_get_game) ?_
    -- return points_won(state, 1 - game.turn, times * game.cube)
    have hz : CMul z (G.cube : Int) := .inl ⟨by omega, by omega⟩
    refine ⟨_, rfl, _, rfl, g, CG, dg, _, _, rfl, hgf, T.clG, T.n_turn, gF_get_turn, _, _, rfl, rfl, _, rfl, _, rfl, g, CG, dg, _, _, rfl, hgf, T.clG, T.n_cube, gF_get_cube, _, _, rfl, rfl, hz, ?_⟩
    dsimp only
    rw [ec, show (1 : Int) - (G.who : Int) = ((1 - G.who : Nat) : Int) by have := WG.who; omega]
    exact ⟨s, st, 1 - G.who, z.toNat * G.cube, rfl, hS, by omega, ha, hb, fun H1 p hS1 ni _ np hp => k H1 p hS1 ni np hp⟩
abbrev s_call_step : Stmt := topS 53
theorem sc_call_step : FnScope ["state", "place", "die", "refusal", "game", "won"] ["state", "place", "die"] (defScope s_call_step) := ⟨rfl, rfl, rfl, by decide +kernel, rfl, by decide +kernel, by decide +kernel⟩
def sp_call_step (CG CS : Addr) : Sp := fun vs H Q _ => ∃ (s : Addr) (st : Kg61.State) (p d : Int), vs = [.ref s, .int p, .int d] ∧ Did CG CS H s st (.step p d) Q
theorem ok_call_step (T : TxtU K mg CG CS) (d_is_step : DOk P w K mg base 2 "is_step" ["place", "die"] (sp_is_step)) (d_refusal_in : DOk P w K mg base 1 "refusal_in" ["state", "phase"] (sp_refusal_in CG CS)) (d_may_be_made : DOk P w K mg base 16 "may_be_made" ["game", "place", "die"] (sp_may_be_made CG)) (d_make_step : DOk P w K mg base 3 "make_step" ["game", "place", "die"] (sp_make_step CG)) (d_has_won : DOk P w K mg base 1 "has_won" ["board", "player"] (sp_has_won)) (d_times_won : DOk P w K mg base 2 "times_won" ["board", "winner"] (sp_times_won)) (d_points_won : DOk P w K mg base 7 "points_won" ["state", "winner", "won"] (sp_points_won CG CS)) (d_how_it_stands : DOk P w K mg base 1 "how_it_stands" ["state"] (sp_how_it_stands CG CS)) (d_begin_turn : DOk P w K mg base 1 "begin_turn" ["game", "player"] (sp_begin_turn CG)) (D : Dw0 K mg "call_step" s_call_step ["state", "place", "die"]) : DOk P w K mg base 17 "call_step" ["state", "place", "die"] (sp_call_step CG CS) := by
  obtain ⟨f_is_step, fd_is_step, G_is_step, m_is_step, k_is_step, b_is_step⟩ := d_is_step
  obtain ⟨f_refusal_in, fd_refusal_in, G_refusal_in, m_refusal_in, k_refusal_in, b_refusal_in⟩ := d_refusal_in
  obtain ⟨f_may_be_made, fd_may_be_made, G_may_be_made, m_may_be_made, k_may_be_made, b_may_be_made⟩ := d_may_be_made
  obtain ⟨f_make_step, fd_make_step, G_make_step, m_make_step, k_make_step, b_make_step⟩ := d_make_step
  obtain ⟨f_has_won, fd_has_won, G_has_won, m_has_won, k_has_won, b_has_won⟩ := d_has_won
  obtain ⟨f_times_won, fd_times_won, G_times_won, m_times_won, k_times_won, b_times_won⟩ := d_times_won
  obtain ⟨f_points_won, fd_points_won, G_points_won, m_points_won, k_points_won, b_points_won⟩ := d_points_won
  obtain ⟨f_how_it_stands, fd_how_it_stands, G_how_it_stands, m_how_it_stands, k_how_it_stands, b_how_it_stands⟩ := d_how_it_stands
  obtain ⟨f_begin_turn, fd_begin_turn, G_begin_turn, m_begin_turn, k_begin_turn, b_begin_turn⟩ := d_begin_turn
  refine D.ok fun f fd F => F.ok sc_call_step (fun vs H Q E h => ?_) (fun cdv A outer s H vs Q E hr h => ?_)
  · obtain ⟨s, st, p, d, rfl, _⟩ := h
    rfl
  · obtain ⟨s, st, p, d, rfl, hd⟩ := h
    refine ⟨_, (pss_cons (ps_if (pt_not (pt_val (pe_call G_is_step (hr.mono (by first | decide | omega)) (by rfl) m_is_step k_is_step b_is_step .nil pass0 (pa_cons (pv 1) (pa_cons (pv 2) pa_nil)))))
      (pss_one (ps_ret (pe_lst (pa_cons (pe_un un_neg pe_int) pa_nil))))
      pss_nil)
    (pss_cons (ps_set (i := 3) sc_call_step.nd rfl (.inl rfl) (pe_call G_refusal_in (hr.mono (by first | decide | omega)) (by rfl) m_refusal_in k_refusal_in b_refusal_in .nil pass0 (pa_cons (pv 0) (pa_cons (pe_ki T.c_STEPS (by rfl)) pa_nil))))
    (pss_cons (ps_if (pt_cmpR op_ne (pv 3) pe_int (nomark _))
      (pss_one (ps_ret (pe_lst (pa_cons (pv 3) pa_nil))))
      pss_nil)
    (pss_cons (ps_set (i := 4) sc_call_step.nd rfl (.inl rfl) (pe_fld (pv 0) rfl))
    (pss_cons (ps_if (pt_not (pt_val (pe_call G_may_be_made (hr.mono (by first | decide | omega)) (by rfl) m_may_be_made k_may_be_made b_may_be_made .nil pass0 (pa_cons (pv 4) (pa_cons (pv 1) (pa_cons (pv 2) pa_nil))))))
      (pss_one (ps_ret (pe_lst (pa_cons (pe_un un_neg pe_int) pa_nil))))
      pss_nil)
    (pss_cons (ps_expr (pe_call G_make_step (hr.mono (by first | decide | omega)) (by rfl) m_make_step k_make_step b_make_step .nil pass0 (pa_cons (pv 4) (pa_cons (pv 1) (pa_cons (pv 2) pa_nil)))))
    (pss_cons (ps_if (pt_val (pe_call G_has_won (hr.mono (by first | decide | omega)) (by rfl) m_has_won k_has_won b_has_won .nil pass0 (pa_cons (pe_fld (pv 4) rfl) (pa_cons (pe_fld (pv 4) rfl) pa_nil))))
      (pss_cons (ps_set (i := 5) sc_call_step.nd rfl (.inl rfl) (pe_op op_mul (pe_call G_times_won (hr.mono (by first | decide | omega)) (by rfl) m_times_won k_times_won b_times_won .nil pass0 (pa_cons (pe_fld (pv 4) rfl) (pa_cons (pe_fld (pv 4) rfl) pa_nil))) (pe_fld (pv 4) rfl)))
    (pss_one (ps_ret (pe_op op_cat (pe_lst (pa_cons pe_int pa_nil)) (pe_call G_points_won (hr.mono (by first | decide | omega)) (by rfl) m_points_won k_points_won b_points_won .nil pass0 (pa_cons (pv 0) (pa_cons (pe_fld (pv 4) rfl) (pa_cons (pv 5) pa_nil))))))))
      pss_nil)
    (pss_cons (ps_if (pt_cmpR op_gt (pe_fld (pv 4) rfl) pe_int (nomark _))
      (pss_one (ps_ret (pe_op op_cat (pe_lst (pa_cons pe_int pa_nil)) (pe_call G_how_it_stands (hr.mono (by first | decide | omega)) (by rfl) m_how_it_stands k_how_it_stands b_how_it_stands .nil pass0 (pa_cons (pv 0) pa_nil)))))
      pss_nil)
    (pss_cons (ps_expr (pe_call G_begin_turn (hr.mono (by first | decide | omega)) (by rfl) m_begin_turn k_begin_turn b_begin_turn .nil pass0 (pa_cons (pv 4) (pa_cons (pe_op op_sub pe_int (pe_fld (pv 4) rfl)) pa_nil))))
    (pss_one (ps_ret (pe_op op_cat (pe_lst (pa_cons pe_int pa_nil)) (pe_call G_how_it_stands (hr.mono (by first | decide | omega)) (by rfl) m_how_it_stands k_how_it_stands b_how_it_stands .nil pass0 (pa_cons (pv 0) pa_nil)))))))))))))), ?_⟩
    refine st_if (ans_not (ans_val (val_call (args2 (val_var rfl) (val_var rfl)) fun Q q => ⟨p, d, rfl, q⟩))) (fun c => ?_) (fun c => ?_)
    · refine ret1 (val_neg val_c) fun p' H' np hs hp => hd.no ?_ np hs hp
      have c : (Kg61.within p 1 25 && Kg61.within d 1 6) = false := (Bool.not_eq_true' _).mp c
      show (if (Kg61.within p 1 25 && Kg61.within d 1 6) = false then _ else _) = _
      rw [if_pos c]
    have c : (Kg61.within p 1 25 && Kg61.within d 1 6) = true := (Bool.not_eq_false' _).mp c
    obtain ⟨ep, ed, hp1, hp2, hd1, hd2⟩ := step_nums c
    have es : Kg61.spec st (.step p d) = Kg61.onGame st fun g => if g.phase ≠ 3 then (st, Kg61.num (-3)) else if Kg61.good g.board g.dice g.left p.toNat d.toNat = false then (st, Kg61.num (-4)) else
        if Kg61.at_ (Kg61.step g.board p.toNat d.toNat).own 0 = 15 then (st.wins g.who (Kg61.worth (Kg61.step g.board p.toNat d.toNat) * g.cube), ⟨2, Kg61.whole [Kg61.worth (Kg61.step g.board p.toNat d.toNat) * g.cube, (st.wins g.who (Kg61.worth (Kg61.step g.board p.toNat d.toNat) * g.cube)).a, (st.wins g.who (Kg61.worth (Kg61.step g.board p.toNat d.toNat) * g.cube)).b]⟩)
        else if g.left - 1 = 0 then Kg61.goesOn st ({ g with board := Kg61.step g.board p.toNat d.toNat, dice := Kg61.less g.dice d.toNat, left := g.left - 1 } : Kg61.Game).passes 1
        else Kg61.goesOn st { g with board := Kg61.step g.board p.toNat d.toNat, dice := Kg61.less g.dice d.toNat, left := g.left - 1 } 0 := by
      show (if (Kg61.within p 1 25 && Kg61.within d 1 6) = false then _ else _) = _
      rw [if_neg (by rw [c]; exact Bool.noConfusion)]
    refine refuse (ph := 3) hd rfl (args2 (val_var rfl) val_c) rfl (fun hg => by rw [es, on_none hg]) (fun G hg hp => by rw [es, on_some hg, if_pos hp]) (fun G hg hp => ?_)
    rw [on_some hg, if_neg (fun n => n hp)] at es
    obtain ⟨g, dx, pt, h1, hG, hmk⟩ := hd.1.game hg
    obtain ⟨WG, ha, hb⟩ := hd.2.1.game G hg
    obtain ⟨dg, B, D0, hgf, hB, hD⟩ := id hG
    generalize hpn : p.toNat = pn at es ep hp1 hp2
    generalize hdn : d.toNat = dn at es ed hd1 hd2
    subst ep ed
    refine st_set (val_fld (val_var rfl) h1 T.clS T.n_game sF_get_game) ?_
    -- if not may_be_made(game, place, die)
    refine st_ifH (R := fun H' => Same H H') (ansH_not (ansH_val (valH_call (args3 (val_var rfl) (val_var rfl) (val_var rfl)) fun Q k => ⟨g, G, pn, dn, rfl, hG, WG, hp, hp1, hp2, hd1, fun H' e => k _ _ ⟨rfl, e⟩⟩))) (fun c2 H1 e1 => ?_) (fun c2 H1 e1 => ?_)
    · have c2 : Kg61.good G.board G.dice G.left pn dn = false := (Bool.not_eq_true' _).mp c2
      rw [if_pos c2] at es
      exact ret1 (val_neg val_c) fun p H' np hs hp => hd.no es (e1.free np) (e1.trans hs) hp
    have c2 : Kg61.good G.board G.dice G.left pn dn = true := (Bool.not_eq_false' _).mp c2
    rw [if_neg (by rw [c2]; exact Bool.noConfusion)] at es
    have hgf1 := e1 _ _ hgf
    -- make_step(game, place, die)
    refine ⟨_, rfl, _, rfl, _, rfl, g, G, pn, dn, rfl, hG.same e1, WG, hd1, c2, fun H2 hG2 b2 => ?_⟩
    obtain ⟨dg2, B2, D2, hgf2, hB2, hD2⟩ := id hG2
    have b02 : But g H H2 := (But.of e1).trans b2
    have hS2 := hmk H2 _ b02 hG2
    have W2 := step_wf (p := pn) (d := dn) WG.bd
    have ni2 : NI H H2 := b02.ni hgf
    dsimp only at hgf2 hB2 hD2 ⊢
    -- if has_won(game.board, game.turn)
    refine st_if (ans_val (val_call (args2 (val_fld (val_var rfl) hgf2 T.clG T.n_board gF_get_board) (val_fld (val_var rfl) hgf2 T.clG T.n_turn gF_get_turn)) fun Q q => ⟨B2, _, G.who, rfl, hB2, W2, WG.who, q⟩)) (fun c3 => ?_) (fun c3 => ?_)
    · have c3 := eq_of_beq c3
      rw [if_pos c3] at es
      obtain ⟨_, _, k⟩ := hd
      rw [es] at k
      have hwl := worth_le (Kg61.step G.board pn dn)
      -- won = times_won(game.board, game.turn) * game.cube
      refine ⟨_, rfl, g, CG, dg2, _, _, rfl, hgf2, T.clG, T.n_board, gF_get_board, _, rfl, g, CG, dg2, _, _, rfl, hgf2, T.clG, T.n_turn, gF_get_turn, ?_⟩
      refine ⟨B2, _, G.who, rfl, hB2, W2, WG.who, fun H3 e3 => ?_⟩
      have hgf3 := e3 _ _ hgf2
      have hS3 := hS2.same e3
      refine ⟨_, rfl, g, CG, dg2, _, _, rfl, hgf3, T.clG, T.n_cube, gF_get_cube, _, _, rfl, rfl, .inl ⟨by omega, by omega⟩, ?_⟩
      dsimp only
      rw [← Int.natCast_mul]
      generalize Kg61.worth (Kg61.step G.board pn dn) * G.cube = won at k
      -- return [2] + points_won(state, game.turn, won)
      refine ⟨(by show 1 ≤ sizeLine; decide), fun q nq => ?_⟩
      have e4 := same_upd nq (o := .lst [V.int 2])
      have hq : (upd H3 q (.lst [V.int 2])) q = some (.lst [V.int 2]) := upd_same
      generalize upd H3 q (.lst [V.int 2]) = H4 at e4 hq
      refine ⟨_, rfl, _, rfl, g, CG, dg2, _, _, rfl, e4 _ _ hgf3, T.clG, T.n_turn, gF_get_turn, _, rfl, ?_⟩
      refine ⟨s, _, G.who, won, rfl, hS3.same e4, WG.who, ha, hb, fun H5 b5 hS5 ni5 fr5 nb5 hb5 => ?_⟩
      rw [wins_game] at hS5 hb5
      refine ⟨q, b5, _, _, rfl, rfl, ni5 _ _ hq (fun _ _ _ z => nomatch z), hb5, (by show 1 + 3 ≤ sizeLine; decide), fun r nr => ?_⟩
      have e34 := e3.trans e4
      refine k _ r (hS5.same (same_upd nr)) (ni2.trans ((NI.of e34).trans (ni5.trans (.of (same_upd nr))))) ?_ upd_same
      exact b02.free hG2.obj (e34.free (fr5 r nr))
    · have c3 := beq_eq_false_iff_ne.mp c3
      rw [if_neg c3] at es
      -- if game.must_use > 0
      refine st_if (ans_test (val_gt (val_fld (val_var rfl) hgf2 T.clG T.n_must_use gF_get_must_use) val_c)) (fun c4 => ?_) (fun c4 => ?_)
      · have c4 : ¬ G.left - 1 = 0 := by
          have := of_decide_eq_true c4
          omega
        rw [if_neg c4] at es
        refine retcat val_c (told_len _) (how (fun H1 e Q q => ⟨_, rfl, q⟩) hS2) fun p H' np hs hp => ?_
        exact hd.go hg es hS2 ni2 (fun p np => b02.free hG2.obj np) np hs hp
      · have c4 : G.left - 1 = 0 := by
          have := of_decide_eq_false c4
          omega
        rw [if_pos c4] at es
        -- begin_turn(game, 1 - game.turn)
        refine ⟨_, rfl, _, rfl, g, CG, dg2, _, _, rfl, hgf2, T.clG, T.n_turn, gF_get_turn, _, _, rfl, rfl, ?_⟩
        refine ⟨g, dg2, _, _, _, _, _, _, _, _, _, rfl, hgf2, fun H3 D3 hg3 b3 hD3 => ?_⟩
        have b03 := b02.trans b3
        have hG3 : GmAt CG H3 g ({ G with board := Kg61.step G.board pn dn, dice := Kg61.less G.dice dn, left := G.left - 1 } : Kg61.Game).passes := by
          refine ⟨dg2, B2, D3, ?_, (hB2.flip WG.who).but b3 hgf2 (fun _ q => nomatch q), hD3⟩
          show H3 g = some (.ins CG dg2 (gF (.ref B2) (.int ((1 - G.who : Nat) : Int)) (.int 1) (.int (G.cube : Int)) (hold G.holder) (.bl G.free) (.ref D3) (.int 0)))
          rw [hg3, show ((1 - G.who : Nat) : Int) = 1 - (G.who : Int) by have := WG.who; omega]
        have hS3 := hmk H3 _ b03 hG3
        dsimp only
        refine retcat val_c (told_len _) (how (fun H1 e Q q => ⟨_, rfl, q⟩) hS3) fun p H' np hs hp => ?_
        exact hd.go hg es hS3 (b03.ni hgf) (fun p np => b03.free hG3.obj np) np hs hp
end
end BG
namespace BG
open PySem PySem.Spec PyProof.Rows L2
/-! ### lists as values, whatever new stands in the heap -/
def ValS (te : TE) (σ : L2.St) (H : Hp) (v : V) : Prop := ∀ H1, Same H H1 → Val te σ H1 v
def ValL (te : TE) (σ : L2.St) (H : Hp) (xs : List V) : Prop := ∀ H1, Same H H1 → ∀ Q : VK, (∀ p H2, Same H1 H2 → H2 p = some (.lst xs) → Q (.ref p) H2) → te σ H1 Q
section
variable {K : PySem.W.Frag} {ta tb te : TE} {σ : L2.St} {H : Hp} {xs ys : List V} {D : Ends}
theorem ValL.of {p : Addr} (h : ValS te σ H (.ref p)) (hp : H p = some (.lst xs)) : ValL te σ H xs := fun H1 e Q k => h H1 e _ (k p H1 (Same.refl _) (e _ _ hp))
theorem ValL.one {x : V} (h : ValS te σ H x) : ValL (tLst (tCons te tNil)) σ H [x] := fun H1 e Q k => h H1 e _ ⟨(by show 1 ≤ sizeLine; decide), fun p np => k p _ (same_upd np) upd_same⟩
theorem ValL.cat (h : ValL ta σ H xs) (k : ValL tb σ H ys) (hl : xs.length + ys.length < 1000) : ValL (tOp rCat ta tb) σ H (xs ++ ys) := fun H1 e Q q => h H1 e _ fun p H2 e2 hp => k H2 (e.trans e2) _ fun b H3 e3 hb =>
  ⟨p, b, xs, ys, rfl, rfl, e3 _ _ hp, hb, Nat.le_of_lt (small1000 (Nat.le_of_lt hl)), fun r nr => q r _ ((e2.trans e3).trans (same_upd nr)) upd_same⟩
theorem ValL.ret (h : ValL ta σ H xs) (k : ValL tb σ H ys) (hl : xs.length + ys.length < 1000) (q : ∀ p H', H p = none → Same H H' → H' p = some (.lst (xs ++ ys)) → D.rt (.ref p) H') : tRet (tOp rCat ta tb) D σ H :=
  h H (Same.refl _) _ fun p H2 e2 hp => k H2 e2 _ fun b H3 e3 hb => ⟨p, b, xs, ys, rfl, rfl, e3 _ _ hp, hb, Nat.le_of_lt (small1000 (Nat.le_of_lt hl)), fun r nr => q r _ ((e2.trans e3).free nr) ((e2.trans e3).trans (same_upd nr)) upd_same⟩
theorem ValL.set {i : Nat} (h : ValL te σ H xs) (k : ∀ p H', Same H H' → H' p = some (.lst xs) → D.nx (σ.set i (some (.ref p))) H') : tAsg te (gName i) D σ H := h H (Same.refl _) _ fun p H2 e2 hp => k p H2 e2 hp
theorem ValL.iff {c : TT} {b : Bool} (h : ∀ H1, Same H H1 → Ans c σ H1 b) (h1 : b = true → ValL ta σ H xs) (h2 : b = false → ValL tb σ H xs) : ValL (tIf c ta tb) σ H xs := fun H1 e Q k => h H1 e _ (by
  cases b
  · exact iteF (h2 rfl H1 e _ k)
  · exact iteT (h1 rfl H1 e _ k))
theorem told_le (st : Kg61.State) : (Kg61.told st).length ≤ 3 := by
  unfold Kg61.told
  split <;> simp [Kg61.whole]
theorem flat_two : ∀ l : List (Nat × Nat), (l.flatMap fun x => [x.1, x.2]).length = 2 * l.length
  | [] => rfl
  | x :: r => by
    rw [List.flatMap_cons, List.length_append, flat_two r]
    show 2 + 2 * r.length = 2 * (r.length + 1)
    omega
theorem ValL.same {H' : Hp} (h : ValL te σ H xs) (e : Same H H') : ValL te σ H' xs := fun H1 e1 => h H1 (e.trans e1)
end
section
variable {P : Program} {w : World} {K : PySem.W.Frag} {mg : Str → Option Value} {base : Heap} {CG CS : Addr}
abbrev s_call_may : Stmt := topS 58
theorem sc_call_may : FnScope ["state", "place", "die", "game"] ["state", "place", "die"] (defScope s_call_may) := ⟨rfl, rfl, rfl, by decide +kernel, rfl, by decide +kernel, by decide +kernel⟩
def sp_call_may (CG CS : Addr) : Sp := fun vs H Q _ => ∃ (s : Addr) (st : Kg61.State) (p d : Int), vs = [.ref s, .int p, .int d] ∧ Did CG CS H s st (.may p d) Q
theorem ok_call_may (T : TxtU K mg CG CS) (d_is_step : DOk P w K mg base 2 "is_step" ["place", "die"] (sp_is_step)) (d_may_step : DOk P w K mg base 3 "may_step" ["board", "player", "place", "die"] (sp_may_step)) (D : Dw0 K mg "call_may" s_call_may ["state", "place", "die"]) : DOk P w K mg base 4 "call_may" ["state", "place", "die"] (sp_call_may CG CS) := by
  obtain ⟨f_is_step, fd_is_step, G_is_step, m_is_step, k_is_step, b_is_step⟩ := d_is_step
  obtain ⟨f_may_step, fd_may_step, G_may_step, m_may_step, k_may_step, b_may_step⟩ := d_may_step
  refine D.ok fun f fd F => F.ok sc_call_may (fun vs H Q E h => ?_) (fun cdv A outer s H vs Q E hr h => ?_)
  · obtain ⟨s, st, p, d, rfl, _⟩ := h
    rfl
  · obtain ⟨s, st, p, d, rfl, hd⟩ := h
    refine ⟨_, (pss_cons (ps_if (pt_not (pt_val (pe_call G_is_step (hr.mono (by first | decide | omega)) (by rfl) m_is_step k_is_step b_is_step .nil pass0 (pa_cons (pv 1) (pa_cons (pv 2) pa_nil)))))
      (pss_one (ps_ret (pe_lst (pa_cons (pe_un un_neg pe_int) pa_nil))))
      pss_nil)
    (pss_cons (ps_set (i := 3) sc_call_may.nd rfl (.inl rfl) (pe_fld (pv 0) rfl))
    (pss_cons (ps_if (pt_cmpR op_isN (pv 3) pe_non (nomark _))
      (pss_one (ps_ret (pe_lst (pa_cons (pe_un un_neg pe_int) pa_nil))))
      pss_nil)
    (pss_one (ps_ret (pe_ifExp (pt_val (pe_call G_may_step (hr.mono (by first | decide | omega)) (by rfl) m_may_step k_may_step b_may_step .nil pass0 (pa_cons (pe_fld (pv 3) rfl) (pa_cons (pe_fld (pv 3) rfl) (pa_cons (pv 1) (pa_cons (pv 2) pa_nil)))))) (pe_lst (pa_cons pe_int pa_nil)) (pe_lst (pa_cons pe_int pa_nil)))))))), ?_⟩
    refine st_if (ans_not (ans_val (val_call (args2 (val_var rfl) (val_var rfl)) fun Q q => ⟨p, d, rfl, q⟩))) (fun c => ?_) (fun c => ?_)
    · refine ret1 (val_neg val_c) fun p' H' np hs hp => hd.no ?_ np hs hp
      have c : (Kg61.within p 1 25 && Kg61.within d 1 6) = false := (Bool.not_eq_true' _).mp c
      show (if (Kg61.within p 1 25 && Kg61.within d 1 6) = false then _ else _) = _
      rw [if_pos c]
    have c : (Kg61.within p 1 25 && Kg61.within d 1 6) = true := (Bool.not_eq_false' _).mp c
    obtain ⟨ep, ed, hp1, hp2, hd1, hd2⟩ := step_nums c
    have es : Kg61.spec st (.may p d) = Kg61.onGame st fun g => (st, Kg61.num (Kg61.truth (Kg61.may g.board p.toNat d.toNat) : Nat)) := by
      show (if (Kg61.within p 1 25 && Kg61.within d 1 6) = false then _ else _) = _
      rw [if_neg (by rw [c]; exact Bool.noConfusion)]
    generalize hpn : p.toNat = pn at es ep hp1 hp2
    generalize hdn : d.toNat = dn at es ed hd1 hd2
    subst ep ed
    cases hg : st.game with
    | none =>
      rw [on_none hg] at es
      obtain ⟨dx, pt, h1⟩ := hd.1.none hg
      refine st_set (val_fld (val_var rfl) h1 T.clS T.n_game sF_get_game) ?_
      refine st_yes (ans_test (val_isY (val_var rfl))) ?_
      exact ret1 (val_neg val_c) fun p H' np hs hp => hd.no es np hs hp
    | some G =>
      rw [on_some hg] at es
      obtain ⟨g, dx, pt, h1, hG, _⟩ := hd.1.game hg
      obtain ⟨WG, _, _⟩ := hd.2.1.game G hg
      obtain ⟨dg, B, D0, hgf, hB, hD⟩ := id hG
      refine st_set (val_fld (val_var rfl) h1 T.clS T.n_game sF_get_game) ?_
      refine st_no (ans_test (val_isF (val_var rfl))) ?_
      refine ⟨_, rfl, g, CG, dg, _, _, rfl, hgf, T.clG, T.n_board, gF_get_board, _, rfl, g, CG, dg, _, _, rfl, hgf, T.clG, T.n_turn, gF_get_turn, _, rfl, _, rfl, ?_⟩
      refine ⟨B, G.board, G.who, pn, dn, rfl, hB, WG.bd, WG.who, hp1, hp2, hd1, fun H1 e1 => ⟨_, rfl, ?_⟩⟩
      cases hm : Kg61.may G.board pn dn with
      | true =>
        rw [hm] at es
        refine iteT ⟨(by show 1 ≤ sizeLine; decide), fun p np => ?_⟩
        exact hd.no es (e1.free np) (e1.trans (same_upd np)) upd_same
      | false =>
        rw [hm] at es
        refine iteF ⟨(by show 1 ≤ sizeLine; decide), fun p np => ?_⟩
        exact hd.no es (e1.free np) (e1.trans (same_upd np)) upd_same
abbrev s_call_board : Stmt := topS 56
theorem sc_call_board : FnScope ["state", "board"] ["state"] (defScope s_call_board) := ⟨rfl, rfl, rfl, by decide +kernel, rfl, by decide +kernel, by decide +kernel⟩
def sp_call_board (CG CS : Addr) : Sp := fun vs H Q _ => ∃ (s : Addr) (st : Kg61.State), vs = [.ref s] ∧ Did CG CS H s st .board Q
theorem ok_call_board (T : TxtU K mg CG CS) (d_pips : DOk P w K mg base 1 "pips" ["side"] (sp_pips)) (D : Dw0 K mg "call_board" s_call_board ["state"]) : DOk P w K mg base 2 "call_board" ["state"] (sp_call_board CG CS) := by
  obtain ⟨f_pips, fd_pips, G_pips, m_pips, k_pips, b_pips⟩ := d_pips
  refine D.ok fun f fd F => F.ok sc_call_board (fun vs H Q E h => ?_) (fun cdv A outer s H vs Q E hr h => ?_)
  · obtain ⟨s, st, rfl, _⟩ := h
    rfl
  · obtain ⟨s, st, rfl, hd⟩ := h
    refine ⟨_, (pss_cons (ps_if (pt_cmpR op_isN (pe_fld (pv 0) rfl) pe_non (nomark _))
      (pss_one (ps_ret (pe_lst (pa_cons (pe_un un_neg pe_int) pa_nil))))
      pss_nil)
    (pss_cons (ps_set (i := 1) sc_call_board.nd rfl (.inl rfl) (pe_fld (pe_fld (pv 0) rfl) rfl))
    (pss_one (ps_ret (pe_op op_cat (pe_op op_cat (pe_lst (pa_cons (pe_call G_pips (hr.mono (by first | decide | omega)) (by rfl) m_pips k_pips b_pips .nil pass0 (pa_cons (pe_ix ix_list (pv 1) pe_int (fun _ _ => rfl)) pa_nil)) (pa_cons (pe_call G_pips (hr.mono (by first | decide | omega)) (by rfl) m_pips k_pips b_pips .nil pass0 (pa_cons (pe_ix ix_list (pv 1) pe_int (fun _ _ => rfl)) pa_nil)) pa_nil))) (pe_ix ix_list (pv 1) pe_int (fun _ _ => rfl))) (pe_ix ix_list (pv 1) pe_int (fun _ _ => rfl))))))), ?_⟩
    have es : Kg61.spec st .board = Kg61.onGame st fun g => (st, ⟨(Kg61.pips (Kg61.sides g).1 : Nat), (Kg61.pips (Kg61.sides g).2 : Int) :: (Kg61.whole (Kg61.sides g).1 ++ Kg61.whole (Kg61.sides g).2)⟩) := rfl
    cases hg : st.game with
    | none =>
      rw [on_none hg] at es
      obtain ⟨dx, pt, h1⟩ := hd.1.none hg
      refine st_yes (ans_test (val_isY (val_fld (val_var rfl) h1 T.clS T.n_game sF_get_game))) ?_
      exact ret1 (val_neg val_c) fun p H' np hs hp => hd.no es np hs hp
    | some G =>
      rw [on_some hg] at es
      obtain ⟨g, dx, pt, h1, hG, _⟩ := hd.1.game hg
      obtain ⟨WG, _, _⟩ := hd.2.1.game G hg
      obtain ⟨dg, B, D0, hgf, ⟨a0, a1, hB, ha0, ha1⟩, hD⟩ := id hG
      refine st_no (ans_test (val_isF (val_fld (val_var rfl) h1 T.clS T.n_game sF_get_game))) ?_
      refine st_set (val_fld (val_fld (val_var rfl) h1 T.clS T.n_game sF_get_game) hgf T.clG T.n_board gF_get_board) ?_
      have e0 : (Kg61.sides G).1 = side0 G.board G.who := by
        unfold Kg61.sides side0
        split <;> rfl
      have e1 : (Kg61.sides G).2 = side1 G.board G.who := by
        unfold Kg61.sides side1
        split <;> rfl
      rw [e0, e1] at es
      have l0 : (side0 G.board G.who).length = 26 := by
        unfold side0
        split
        · exact WG.bd.own
        · exact WG.bd.other
      have l1 : (side1 G.board G.who).length = 26 := by
        unfold side1
        split
        · exact WG.bd.other
        · exact WG.bd.own
      generalize side0 G.board G.who = s0 at es ha0 l0
      generalize side1 G.board G.who = s1 at es ha1 l1
      obtain ⟨hS, _, k⟩ := hd
      rw [es] at k
      dsimp only
      refine ValL.ret (xs := [.int ((Kg61.pips s0 : Nat) : Int), .int ((Kg61.pips s1 : Nat) : Int)] ++ cs s0) (ys := cs s1) (ValL.cat (fun H1 e Q k => ?_) ?v0 ?_) ?v1 ?_ (fun p H' np hs hp => ?_)
      case v0 => exact ValL.of (fun H1 e => val_ix (i := 0) (val_var rfl) val_c (SqL.of (e _ _ hB)) (atI_nat (j := 0) rfl)) ha0
      case v1 => exact ValL.of (fun H1 e => val_ix (i := 1) (val_var rfl) val_c (SqL.of (e _ _ hB)) (atI_nat (j := 1) rfl)) ha1
      · refine ⟨_, rfl, B, _, _, _, rfl, rfl, SqL.of (e _ _ hB), rfl, a0, s0, rfl, e _ _ ha0, l0, fun H2 e2 => ?_⟩
        refine ⟨_, rfl, B, _, _, _, rfl, rfl, SqL.of ((e.trans e2) _ _ hB), rfl, a1, s1, rfl, (e.trans e2) _ _ ha1, l1, fun H3 e3 => ?_⟩
        exact ⟨(by show 2 ≤ sizeLine; decide), fun p np => k p _ ((e2.trans e3).trans (same_upd np)) upd_same⟩
      · rw [cs_len, l0]
        exact (by decide : 2 + 26 < 1000)
      · rw [List.length_append, cs_len, cs_len, l0, l1]
        exact (by decide : 2 + 26 + 26 < 1000)
      · refine k H' p (hS.same hs) (.of hs) np ?_
        rw [hp]
        show some (HO.lst (V.int ((Kg61.pips s0 : Nat) : Int) :: V.int ((Kg61.pips s1 : Nat) : Int) :: (cs s0 ++ cs s1))) = some (HO.lst (V.int ((Kg61.pips s0 : Nat) : Int) :: V.int ((Kg61.pips s1 : Nat) : Int) :: (Kg61.whole s0 ++ Kg61.whole s1).map V.int))
        rw [List.map_append, cs_ints, cs_ints]
        rfl
abbrev s_call_now : Stmt := topS 55
theorem sc_call_now : FnScope ["state", "goal_and_points", "game", "holder", "doubles", "of_cube"] ["state"] (defScope s_call_now) := ⟨rfl, rfl, rfl, by decide +kernel, rfl, by decide +kernel, by decide +kernel⟩
def sp_call_now (CG CS : Addr) : Sp := fun vs H Q _ => ∃ (s : Addr) (st : Kg61.State), vs = [.ref s] ∧ Did CG CS H s st .now Q
theorem ok_call_now (T : TxtU K mg CG CS) (d_how_it_stands : DOk P w K mg base 1 "how_it_stands" ["state"] (sp_how_it_stands CG CS)) (D : Dw0 K mg "call_now" s_call_now ["state"]) : DOk P w K mg base 2 "call_now" ["state"] (sp_call_now CG CS) := by
  obtain ⟨f_how_it_stands, fd_how_it_stands, G_how_it_stands, m_how_it_stands, k_how_it_stands, b_how_it_stands⟩ := d_how_it_stands
  refine D.ok fun f fd F => F.ok sc_call_now (fun vs H Q E h => ?_) (fun cdv A outer s H vs Q E hr h => ?_)
  · obtain ⟨s, st, rfl, _⟩ := h
    rfl
  · obtain ⟨s, st, rfl, hd⟩ := h
    refine ⟨_, (pss_cons (ps_set (i := 1) sc_call_now.nd rfl (.inl rfl) (pe_op op_cat (pe_lst (pa_cons (pe_fld (pv 0) rfl) pa_nil)) (pe_fld (pv 0) rfl)))
    (pss_cons (ps_set (i := 2) sc_call_now.nd rfl (.inl rfl) (pe_fld (pv 0) rfl))
    (pss_cons (ps_if (pt_cmpR op_isN (pv 2) pe_non (nomark _))
      (pss_one (ps_ret (pe_op op_cat (pe_lst (pa_cons pe_int pa_nil)) (pv 1))))
      pss_nil)
    (pss_cons (ps_set (i := 3) sc_call_now.nd rfl (.inl rfl) (pe_ifExp (pt_cmpR op_isN (pe_fld (pv 2) rfl) pe_non (nomark _)) (pe_lst (pa_cons (pe_un un_neg pe_int) pa_nil)) (pe_lst (pa_cons (pe_fld (pv 2) rfl) pa_nil))))
    (pss_cons (ps_set (i := 4) sc_call_now.nd rfl (.inl rfl) (pe_ifExp (pt_val (pe_fld (pv 2) rfl)) (pe_lst (pa_cons pe_int pa_nil)) (pe_lst (pa_cons pe_int pa_nil))))
    (pss_cons (ps_set (i := 5) sc_call_now.nd rfl (.inl rfl) (pe_op op_cat (pe_op op_cat (pe_lst (pa_cons (pe_fld (pv 2) rfl) pa_nil)) (pv 3)) (pv 4)))
    (pss_one (ps_ret (pe_op op_cat (pe_op op_cat (pe_op op_cat (pe_op op_cat (pe_lst (pa_cons pe_int pa_nil)) (pv 1)) (pe_call G_how_it_stands (hr.mono (by first | decide | omega)) (by rfl) m_how_it_stands k_how_it_stands b_how_it_stands .nil pass0 (pa_cons (pv 0) pa_nil))) (pv 5)) (pe_fld (pv 2) rfl)))))))))), ?_⟩
    have es : Kg61.spec st .now = (st, ⟨((Kg61.truth st.game.isSome : Nat) : Int), Kg61.whole [st.to, st.a, st.b] ++ (match st.game with
      | some g => Kg61.told st ++ ([(g.cube : Int), Kg61.holderOf g, (Kg61.truth g.free : Int)] ++ Kg61.whole g.dice)
      | none => [])⟩) := rfl
    obtain ⟨hS, hW, k⟩ := hd
    rw [es] at k
    obtain ⟨gv, ⟨dx, pt, h1, hpt⟩, hgv⟩ := id hS
    -- goal_and_points = [state.goal] + state.points
    refine ValL.set (xs := [.int (st.to : Int)] ++ [.int (st.a : Int), .int (st.b : Int)]) (ValL.cat (ValL.one fun H1 e => ?v0) (ValL.of (fun H1 e => ?v1) hpt) (by simp)) fun L H1 e1 hL => ?_
    case v0 => exact val_fld (val_var rfl) (e _ _ h1) T.clS T.n_goal sF_get_goal
    case v1 => exact val_fld (val_var rfl) (e _ _ h1) T.clS T.n_points sF_get_points
    dsimp only
    have h11 := e1 _ _ h1
    -- game = state.game
    refine st_set (val_fld (val_var rfl) h11 T.clS T.n_game sF_get_game) ?_
    cases hg : st.game with
    | none =>
      rw [hg] at k hgv
      have hgv : gv = .non := hgv
      subst hgv
      refine st_yes (ans_test (val_isY (val_var rfl))) ?_
      refine ValL.ret (xs := [.int 0]) (ys := [.int (st.to : Int)] ++ [.int (st.a : Int), .int (st.b : Int)]) (ValL.one fun H1 e => val_c) (ValL.of (fun H1 e => ?v0) hL) (by simp) fun p H' np hs hp => ?_
      case v0 => exact val_var rfl
      exact k H' p (hS.same (e1.trans hs)) (.of (e1.trans hs)) (e1.free np) hp
    | some G =>
      rw [hg] at k hgv
      obtain ⟨g, rfl, hG⟩ := hgv
      obtain ⟨dg, B, D0, hgf, hB, hD⟩ := id hG
      have hgf1 := e1 _ _ hgf
      refine st_no (ans_test (val_isF (val_var rfl))) (st_next ?_)
      dsimp only
      -- holder
      refine ValL.set (xs := [.int (Kg61.holderOf G)]) ?hh fun L2 H2 e2 hL2 => ?_
      case hh =>
        refine ValL.iff (b := decide (hold G.holder = .non)) (fun H' e => ans_test (val_is (val_fld (val_var rfl) (e _ _ hgf1) T.clG T.n_holder gF_get_holder))) (fun c => ?_) (fun c => ?_)
        · have z : Kg61.holderOf G = -1 := by
            unfold Kg61.holderOf
            cases hh : G.holder with
            | none => rfl
            | some v => rw [hh] at c; cases c
          rw [z]
          exact ValL.one fun H1 e => val_neg val_c
        · have z : hold G.holder = .int (Kg61.holderOf G) := by
            unfold Kg61.holderOf
            cases hh : G.holder with
            | none => rw [hh] at c; cases c
            | some v => rfl
          rw [← z]
          exact ValL.one fun H1 e => val_fld (val_var rfl) (e _ _ hgf1) T.clG T.n_holder gF_get_holder
      dsimp only
      have e02 := e1.trans e2
      have hgf2 := e02 _ _ hgf
      -- doubles
      refine ValL.set (xs := [.int (Kg61.truth G.free : Nat)]) ?hh fun L3 H3 e3 hL3 => ?_
      case hh =>
        refine ValL.iff (b := G.free) (fun H' e => ans_val (val_fld (val_var rfl) (e _ _ hgf2) T.clG T.n_doubles_let gF_get_doubles_let)) (fun c => ?_) (fun c => ?_)
        · rw [c]
          exact ValL.one fun H1 e => val_c
        · rw [c]
          exact ValL.one fun H1 e => val_c
      dsimp only
      have e03 := e02.trans e3
      have hgf3 := e03 _ _ hgf
      -- of_cube
      refine ValL.set (xs := [.int (G.cube : Int)] ++ [.int (Kg61.holderOf G)] ++ [.int (Kg61.truth G.free : Nat)]) ?hh fun L4 H4 e4 hL4 => ?_
      case hh =>
        refine ValL.cat (ValL.cat (ValL.one fun H1 e => ?v0) (ValL.of (fun H1 e => ?v1) (e3 _ _ hL2)) (by simp)) (ValL.of (fun H1 e => ?v2) hL3) (by simp)
        case v0 => exact val_fld (val_var rfl) (e _ _ hgf3) T.clG T.n_cube gF_get_cube
        case v1 => exact val_var rfl
        case v2 => exact val_var rfl
      dsimp only
      have e04 := e03.trans e4
      have hgf4 := e04 _ _ hgf
      have hl4 := (hW.game G hg).1.four
      have htl := told_len st
      -- return ..
      refine ValL.ret (xs := [.int 1] ++ ([.int (st.to : Int)] ++ [.int (st.a : Int), .int (st.b : Int)]) ++ (Kg61.told st).map V.int ++ ([.int (G.cube : Int)] ++ [.int (Kg61.holderOf G)] ++ [.int (Kg61.truth G.free : Nat)])) (ys := cs G.dice)
        (ValL.cat (ValL.cat (ValL.cat (ValL.one fun H1 e => val_c) (ValL.of (fun H1 e => ?v0) (e4 _ _ (e3 _ _ (e2 _ _ hL)))) (by simp)) ?v1 ?_) (ValL.of (fun H1 e => ?v2) hL4) ?_) (ValL.of (fun H1 e => ?v3) (e04 _ _ hD)) ?_ fun p H' np hs hp => ?_
      case v0 => exact val_var rfl
      case v1 => exact how (fun H1 e Q q => ⟨_, rfl, q⟩) (hS.same e04)
      case v2 => exact val_var rfl
      case v3 => exact val_fld (val_var rfl) (e _ _ hgf4) T.clG T.n_dice gF_get_dice
      · have := told_le st
        simp only [List.length_append, List.length_cons, List.length_nil, List.length_map]
        omega
      · have := told_le st
        simp only [List.length_append, List.length_cons, List.length_nil, List.length_map]
        omega
      · have := told_le st
        simp only [List.length_append, List.length_cons, List.length_nil, List.length_map, cs_len]
        omega
      · refine k H' p (hS.same (e04.trans hs)) (.of (e04.trans hs)) (e04.free np) ?_
        rw [hp]
        refine congrArg (fun z => some (HO.lst z)) ?_
        rw [cs_ints]
        simp [ansV, Kg61.whole, Kg61.truth]
abbrev s_call_steps : Stmt := topS 57
theorem sc_call_steps : FnScope ["state", "refusal", "found", "told", "place", "die"] ["state"] (defScope s_call_steps) := ⟨rfl, rfl, rfl, by decide +kernel, rfl, by decide +kernel, by decide +kernel⟩
def sp_call_steps (CG CS : Addr) : Sp := fun vs H Q _ => ∃ (s : Addr) (st : Kg61.State), vs = [.ref s] ∧ Did CG CS H s st .steps Q
theorem ok_call_steps (T : TxtU K mg CG CS) (d_refusal_in : DOk P w K mg base 1 "refusal_in" ["state", "phase"] (sp_refusal_in CG CS)) (d_steps_that_may_be_made : DOk P w K mg base 17 "steps_that_may_be_made" ["game"] (sp_steps_that_may_be_made CG)) (D : Dw0 K mg "call_steps" s_call_steps ["state"]) : DOk P w K mg base 18 "call_steps" ["state"] (sp_call_steps CG CS) := by
  obtain ⟨f_refusal_in, fd_refusal_in, G_refusal_in, m_refusal_in, k_refusal_in, b_refusal_in⟩ := d_refusal_in
  obtain ⟨f_steps_that_may_be_made, fd_steps_that_may_be_made, G_steps_that_may_be_made, m_steps_that_may_be_made, k_steps_that_may_be_made, b_steps_that_may_be_made⟩ := d_steps_that_may_be_made
  refine D.ok fun f fd F => F.ok sc_call_steps (fun vs H Q E h => ?_) (fun cdv A outer s H vs Q E hr h => ?_)
  · obtain ⟨s, st, rfl, _⟩ := h
    rfl
  · obtain ⟨s, st, rfl, hd⟩ := h
    refine ⟨_, (pss_cons (ps_set (i := 1) sc_call_steps.nd rfl (.inl rfl) (pe_call G_refusal_in (hr.mono (by first | decide | omega)) (by rfl) m_refusal_in k_refusal_in b_refusal_in .nil pass0 (pa_cons (pv 0) (pa_cons (pe_ki T.c_STEPS (by rfl)) pa_nil))))
    (pss_cons (ps_if (pt_cmpR op_ne (pv 1) pe_int (nomark _))
      (pss_one (ps_ret (pe_lst (pa_cons (pv 1) pa_nil))))
      pss_nil)
    (pss_cons (ps_set (i := 2) sc_call_steps.nd rfl (.inl rfl) (pe_call G_steps_that_may_be_made (hr.mono (by first | decide | omega)) (by rfl) m_steps_that_may_be_made k_steps_that_may_be_made b_steps_that_may_be_made .nil pass0 (pa_cons (pe_fld (pv 0) rfl) pa_nil)))
    (pss_cons (ps_set (i := 3) sc_call_steps.nd rfl (.inl rfl) (pe_lst (pa_cons (pe_callB call_len_seq (by rfl) T.z_len PySem.boot_len (pa_cons (pv 2) pa_nil)) pa_nil)))
    (pss_cons (ps_for PassesOwn.never rfl (pi_list (pv 2)) (pg_tup rfl (pgs_cons (pg_name (i := 4) sc_call_steps.nd rfl (.inl rfl)) (pgs_cons (pg_name (i := 5) sc_call_steps.nd rfl (.inl rfl)) pgs_nil)))
      (pss_one (ps_expr (pe_bm PySem.F.plainAttrs_list PySem.F.slot_list_extend PySem.F.type_list_extend mt_extend (pv 3) (pa_cons (pe_lst (pa_cons (pv 4) (pa_cons (pv 5) pa_nil))) pa_nil)))))
    (pss_one (ps_ret (pv 3)))))))), ?_⟩
    have es : Kg61.spec st .steps = Kg61.onGame st fun g => if g.phase ≠ 3 then (st, Kg61.num (-3)) else (st, ⟨((Kg61.steps g.board g.dice g.left).length : Nat), Kg61.whole ((Kg61.steps g.board g.dice g.left).flatMap fun x => [x.1, x.2])⟩) := rfl
    refine refuse (ph := 3) hd rfl (args2 (val_var rfl) val_c) rfl (fun hg => by rw [es, on_none hg]) (fun G hg hp => by rw [es, on_some hg, if_pos hp]) (fun G hg hp => ?_)
    rw [on_some hg, if_neg (fun n => n hp)] at es
    obtain ⟨g, dx, pt, h1, hG, _⟩ := hd.1.game hg
    obtain ⟨WG, _, _⟩ := hd.2.1.game G hg
    obtain ⟨hS, _, k⟩ := hd
    rw [es] at k
    -- found = steps_that_may_be_made(state.game)
    refine ⟨_, rfl, s, CS, dx, _, _, rfl, h1, T.clS, T.n_game, sF_get_game, ?_⟩
    refine ⟨g, G, rfl, hG, WG, hp, fun H1 L as e1 nL hL hP hlen => ?_⟩
    generalize Kg61.steps G.board G.dice G.left = ps at k hP
    -- told = [len(found)]
    refine ⟨_, rfl, L, _, rfl, .inl (SqL.of hL), (by show 1 ≤ sizeLine; decide), fun M nM => ?_⟩
    rw [List.length_map, hP.1]
    have s2 := same_upd nM (o := .lst [V.int ((ps.length : Nat) : Int)])
    have hM : (upd H1 M (.lst [V.int ((ps.length : Nat) : Int)])) M = some (.lst (V.int ((ps.length : Nat) : Int) :: (cs ((ps.take 0).flatMap fun x => [x.1, x.2])))) := upd_same
    have hL2 := s2 _ _ hL
    have hP2 := hP.same s2
    have e2 := e1.trans s2
    generalize upd H1 M (.lst [V.int ((ps.length : Nat) : Int)]) = H2 at s2 hM hL2 hP2 e2
    have nM0 : H M = none := e1.free nM
    -- for place, die in found: told.extend([place, die])
    refine ⟨_, rfl, L, rfl, ⟨_, SqL.of hL2⟩, ?_⟩
    refine for_list (xs := as.map V.ref) (fun i σ H' => ∃ x3 x4 : Option V, σ = [some (.ref s), some (.int 0), some (.ref L), some (.ref M), x3, x4] ∧ Same H1 H' ∧ H' M = some (.lst (V.int ((ps.length : Nat) : Int) :: (cs ((ps.take i).flatMap fun x => [x.1, x.2])))))
      ⟨none, none, rfl, s2, hM⟩ (fun i σ H' _ ⟨_, _, _, e, _⟩ => SqL.of (e _ _ hL)) ?_ ?_
    · rintro i x σ H3 hx ⟨x3, x4, rfl, e3, hM3⟩
      rw [List.getElem?_map] at hx
      obtain ⟨a, ha, rfl⟩ : ∃ a, as[i]? = some a ∧ x = .ref a := by
        cases z : as[i]? with
        | none => rw [z] at hx; cases hx
        | some a => rw [z] at hx; exact ⟨a, rfl, (Option.some.inj hx).symm⟩
      have hi : i < as.length := (List.getElem?_eq_some_iff.mp ha).1
      have hi2 : i < ps.length := by rw [← hP.1]; exact hi
      have hq : ps[i]? = some ps[i] := List.getElem?_eq_getElem hi2
      generalize ps[i] = r at hq
      have ht := e3 _ _ (hP.2 i a r ha hq)
      refine ⟨a, _, rfl, SqT.of ht, rfl, _, _, rfl, _, _, rfl, rfl, ?_⟩
      refine ⟨_, rfl, .inl ⟨rfl, _, SqL.of hM3⟩, _, rfl, _, rfl, (by show 2 ≤ sizeLine; decide), fun b nb => ?_⟩
      have s4 := same_upd nb (o := .lst [V.int (r.1 : Int), V.int (r.2 : Int)])
      have hb : (upd H3 b (.lst [V.int (r.1 : Int), V.int (r.2 : Int)])) b = some (.lst (cs [r.1, r.2])) := upd_same
      have hM4 := s4 _ _ hM3
      have e4 := e3.trans s4
      generalize upd H3 b (.lst [V.int (r.1 : Int), V.int (r.2 : Int)]) = H4 at s4 hb hM4 e4
      refine ⟨M, b, _, _, rfl, rfl, hM4, hb, ?_, ?_⟩
      · have := hP.1
        rw [List.length_cons, cs_len, cs_len, flat_two, List.length_take]
        show _ + 2 ≤ sizeLine
        exact Nat.le_of_lt (small1000 (by omega))
      refine ⟨_, _, rfl, fun z o e => by rw [upd_ne (ne_of_none e nM)]; exact e4 _ _ e, ?_⟩
      rw [upd_same, List.take_add_one, hq, List.flatMap_append, ← cs_append]
      rfl
    · rintro σ H3 ⟨x3, x4, rfl, e3, hM3⟩
      rw [List.length_map, hP.1, List.take_length] at hM3
      exact ⟨_, rfl, k H3 M (hS.same (e1.trans e3)) (.of (e1.trans e3)) nM0 (by rw [hM3, cs_ints]; rfl)⟩
end
end BG
namespace BG
open PySem PySem.Spec PyProof.Rows L2
structure TxtA (K : PySem.W.Frag) (mg : Str → Option Value) : Prop where
  c_BEGIN : KI mg "BEGIN" 1
  c_OPEN : KI mg "OPEN" 2
  c_THROW : KI mg "THROW" 3
  c_DOUBLE : KI mg "DOUBLE" 4
  c_TAKE : KI mg "TAKE" 5
  c_DROP : KI mg "DROP" 6
  c_STEP : KI mg "STEP" 7
  c_GIVE : KI mg "GIVE" 8
  c_NOW : KI mg "NOW" 9
  c_BOARD : KI mg "BOARD" 10
  c_MAY : KI mg "MAY" 12
  z_len : mg "len" = none
theorem NI.seq {K : PySem.W.Frag} {H H' : Hp} {a : Addr} {xs : List V} (e : NI H H') (h : SqL K H a xs) : SqL K H' a xs := by
  rcases h with (h | ⟨o, h⟩) | h
  · exact .inl (.inl (e _ _ h fun _ _ _ q => nomatch q))
  · exact .inl (.inr ⟨o, e _ _ h fun _ _ _ q => nomatch q⟩)
  · exact .inr h
theorem val_len {K : PySem.W.Frag} {ta : TE} {σ : L2.St} {H : Hp} {p : Addr} {xs : List V} (h : Val ta σ H (.ref p)) (hs : SqL K H p xs) :
    Val (tCB (fun xs H Q => ∃ p ys, xs = [V.ref p] ∧ (SqL K H p ys ∨ SqT K H p ys) ∧ Q (.int ys.length) H) (tCons ta tNil)) σ H (.int (xs.length : Int)) := fun _ q => h _ ⟨p, xs, rfl, .inl hs, q⟩
theorem cut_mid (xs : List V) (i j : Nat) (h1 : i ≤ j) (h2 : j ≤ xs.length) : cutV xs (some (i : Int)) (some (j : Int)) = (xs.drop i).take (j - i) := by
  unfold cutV
  rw [HT.sIx_nat, HT.sIx_nat, Nat.min_eq_left h2, Nat.min_eq_left (by omega)]
theorem vdec {a b : Int} {c : Bool} (h : decide (a = b) = c) : V.bl (decide (V.int a = V.int b)) = .bl c := by
  refine congrArg V.bl (Eq.trans (decide_eq_decide.mpr ⟨fun x => V.int.inj x, fun x => congrArg V.int x⟩) h)
/-- how many numbers stand behind a call's own -/
def Nums (K : PySem.W.Frag) (aN : Addr) : Prop := ∀ (p : Int) (n : Nat), PyKg61.shape p = some (n, 0) → KInt K aN p (.int (n : Int))
theorem call_is {p : Int} {ns : List Int} {k : Kg61.Call} (h : Kg61Neutral.callOf [p :: ns] = some k) :
    (p = 1 ∧ ∃ x, ns = [x] ∧ k = .begin_ x) ∨
    (p = 2 ∧ ∃ x y, ns = [x, y] ∧ k = .open_ x y) ∨
    (p = 3 ∧ ∃ x y, ns = [x, y] ∧ k = .throw_ x y) ∨
    (p = 4 ∧ ns = [] ∧ k = .double) ∨
    (p = 5 ∧ ns = [] ∧ k = .take) ∨
    (p = 6 ∧ ns = [] ∧ k = .drop) ∨
    (p = 7 ∧ ∃ x y, ns = [x, y] ∧ k = .step x y) ∨
    (p = 8 ∧ ∃ x, ns = [x] ∧ k = .give x) ∨
    (p = 9 ∧ ns = [] ∧ k = .now) ∨
    (p = 10 ∧ ns = [] ∧ k = .board) ∨
    (p = 11 ∧ ns = [] ∧ k = .steps) ∨
    (p = 12 ∧ ∃ x y, ns = [x, y] ∧ k = .may x y) := by
  unfold Kg61Neutral.callOf at h
  split at h
  · rename_i e
    cases e
    cases h
    exact (.inl ⟨rfl, _, rfl, rfl⟩)
  · rename_i e
    cases e
    cases h
    exact (.inr (.inl ⟨rfl, _, _, rfl, rfl⟩))
  · rename_i e
    cases e
    cases h
    exact (.inr (.inr (.inl ⟨rfl, _, _, rfl, rfl⟩)))
  · rename_i e
    cases e
    cases h
    exact (.inr (.inr (.inr (.inl ⟨rfl, rfl, rfl⟩))))
  · rename_i e
    cases e
    cases h
    exact (.inr (.inr (.inr (.inr (.inl ⟨rfl, rfl, rfl⟩)))))
  · rename_i e
    cases e
    cases h
    exact (.inr (.inr (.inr (.inr (.inr (.inl ⟨rfl, rfl, rfl⟩))))))
  · rename_i e
    cases e
    cases h
    exact (.inr (.inr (.inr (.inr (.inr (.inr (.inl ⟨rfl, _, _, rfl, rfl⟩)))))))
  · rename_i e
    cases e
    cases h
    exact (.inr (.inr (.inr (.inr (.inr (.inr (.inr (.inl ⟨rfl, _, rfl, rfl⟩))))))))
  · rename_i e
    cases e
    cases h
    exact (.inr (.inr (.inr (.inr (.inr (.inr (.inr (.inr (.inl ⟨rfl, rfl, rfl⟩)))))))))
  · rename_i e
    cases e
    cases h
    exact (.inr (.inr (.inr (.inr (.inr (.inr (.inr (.inr (.inr (.inl ⟨rfl, rfl, rfl⟩))))))))))
  · rename_i e
    cases e
    cases h
    exact (.inr (.inr (.inr (.inr (.inr (.inr (.inr (.inr (.inr (.inr (.inl ⟨rfl, rfl, rfl⟩)))))))))))
  · rename_i e
    cases e
    cases h
    exact (.inr (.inr (.inr (.inr (.inr (.inr (.inr (.inr (.inr (.inr (.inr ⟨rfl, _, _, rfl, rfl⟩)))))))))))
  · cases h
section
variable {P : Program} {w : World} {K : PySem.W.Frag} {mg : Str → Option Value} {base : Heap} {CG CS : Addr}
theorem not_it {p v : Int} {t u : TS} {σ : L2.St} {H : Hp} {D : Ends} (hs : σ[1]? = some (some (.int p))) (hv : ¬ p = v) (hu : u D σ H) : tSeq (tIfS (tTest (tOp rEq (tVar 1) (tC (.int v)))) t tNext) u D σ H :=
  st_no (ans_test (val_to (val_eq (val_var hs) val_c) (vdec (decide_eq_false hv)))) hu
theorem it_is {p v : Int} {t u : TS} {σ : L2.St} {H : Hp} {D : Ends} (hs : σ[1]? = some (some (.int p))) (hv : p = v) (hu : t { D with nx := u D } σ H) : tSeq (tIfS (tTest (tOp rEq (tVar 1) (tC (.int v)))) t tNext) u D σ H :=
  st_yes (ans_test (val_to (val_eq (val_var hs) val_c) (vdec (decide_eq_true hv)))) hu
/-- a call that has no numbers behind it -/
def Bare (p : Int) (k : Kg61.Call) : Prop := (p = 4 ∧ k = .double) ∨ (p = 5 ∧ k = .take) ∨ (p = 6 ∧ k = .drop) ∨ (p = 9 ∧ k = .now) ∨ (p = 10 ∧ k = .board) ∨ (p = 11 ∧ k = .steps)
abbrev s_answer_with_none : Stmt := topS 72
theorem sc_answer_with_none : FnScope ["state", "call"] ["state", "call"] (defScope s_answer_with_none) := ⟨rfl, rfl, rfl, by decide +kernel, rfl, by decide +kernel, by decide +kernel⟩
def sp_answer_with_none (CG CS : Addr) : Sp := fun vs H Q _ => ∃ (s : Addr) (st : Kg61.State) (p : Int) (k : Kg61.Call), vs = [.ref s, .int p] ∧ Bare p k ∧ Did CG CS H s st k Q
theorem ok_answer_with_none (T : TxtA K mg) (d_call_double : DOk P w K mg base 2 "call_double" ["state"] (sp_call_double CG CS)) (d_call_take : DOk P w K mg base 2 "call_take" ["state"] (sp_call_take CG CS)) (d_call_drop : DOk P w K mg base 8 "call_drop" ["state"] (sp_call_drop CG CS)) (d_call_now : DOk P w K mg base 2 "call_now" ["state"] (sp_call_now CG CS)) (d_call_board : DOk P w K mg base 2 "call_board" ["state"] (sp_call_board CG CS)) (d_call_steps : DOk P w K mg base 18 "call_steps" ["state"] (sp_call_steps CG CS)) (D : Dw0 K mg "answer_with_none" s_answer_with_none ["state", "call"]) : DOk P w K mg base 19 "answer_with_none" ["state", "call"] (sp_answer_with_none CG CS) := by
  obtain ⟨f_call_double, fd_call_double, G_call_double, m_call_double, k_call_double, b_call_double⟩ := d_call_double
  obtain ⟨f_call_take, fd_call_take, G_call_take, m_call_take, k_call_take, b_call_take⟩ := d_call_take
  obtain ⟨f_call_drop, fd_call_drop, G_call_drop, m_call_drop, k_call_drop, b_call_drop⟩ := d_call_drop
  obtain ⟨f_call_now, fd_call_now, G_call_now, m_call_now, k_call_now, b_call_now⟩ := d_call_now
  obtain ⟨f_call_board, fd_call_board, G_call_board, m_call_board, k_call_board, b_call_board⟩ := d_call_board
  obtain ⟨f_call_steps, fd_call_steps, G_call_steps, m_call_steps, k_call_steps, b_call_steps⟩ := d_call_steps
  refine D.ok fun f fd F => F.ok sc_answer_with_none (fun vs H Q E h => ?_) (fun cdv A outer s H vs Q E hr h => ?_)
  · obtain ⟨s, st, p, k, rfl, _⟩ := h
    rfl
  · obtain ⟨s, st, p, k, rfl, hk, hd⟩ := h
    refine ⟨_, (pss_cons (ps_if (pt_cmpR op_eq (pv 1) (pe_ki T.c_DOUBLE (by rfl)) (nomark _))
      (pss_one (ps_ret (pe_call G_call_double (hr.mono (by first | decide | omega)) (by rfl) m_call_double k_call_double b_call_double .nil pass0 (pa_cons (pv 0) pa_nil))))
      pss_nil)
    (pss_cons (ps_if (pt_cmpR op_eq (pv 1) (pe_ki T.c_TAKE (by rfl)) (nomark _))
      (pss_one (ps_ret (pe_call G_call_take (hr.mono (by first | decide | omega)) (by rfl) m_call_take k_call_take b_call_take .nil pass0 (pa_cons (pv 0) pa_nil))))
      pss_nil)
    (pss_cons (ps_if (pt_cmpR op_eq (pv 1) (pe_ki T.c_DROP (by rfl)) (nomark _))
      (pss_one (ps_ret (pe_call G_call_drop (hr.mono (by first | decide | omega)) (by rfl) m_call_drop k_call_drop b_call_drop .nil pass0 (pa_cons (pv 0) pa_nil))))
      pss_nil)
    (pss_cons (ps_if (pt_cmpR op_eq (pv 1) (pe_ki T.c_NOW (by rfl)) (nomark _))
      (pss_one (ps_ret (pe_call G_call_now (hr.mono (by first | decide | omega)) (by rfl) m_call_now k_call_now b_call_now .nil pass0 (pa_cons (pv 0) pa_nil))))
      pss_nil)
    (pss_cons (ps_if (pt_cmpR op_eq (pv 1) (pe_ki T.c_BOARD (by rfl)) (nomark _))
      (pss_one (ps_ret (pe_call G_call_board (hr.mono (by first | decide | omega)) (by rfl) m_call_board k_call_board b_call_board .nil pass0 (pa_cons (pv 0) pa_nil))))
      pss_nil)
    (pss_one (ps_ret (pe_call G_call_steps (hr.mono (by first | decide | omega)) (by rfl) m_call_steps k_call_steps b_call_steps .nil pass0 (pa_cons (pv 0) pa_nil))))))))), ?_⟩
    rcases hk with ⟨rfl, rfl⟩ | ⟨rfl, rfl⟩ | ⟨rfl, rfl⟩ | ⟨rfl, rfl⟩ | ⟨rfl, rfl⟩ | ⟨rfl, rfl⟩
    · exact it_is rfl rfl ⟨_, rfl, s, st, rfl, hd⟩
    · exact not_it rfl (by decide) (it_is rfl rfl ⟨_, rfl, s, st, rfl, hd⟩)
    · exact not_it rfl (by decide) (not_it rfl (by decide) (it_is rfl rfl ⟨_, rfl, s, st, rfl, hd⟩))
    · exact not_it rfl (by decide) (not_it rfl (by decide) (not_it rfl (by decide) (it_is rfl rfl ⟨_, rfl, s, st, rfl, hd⟩)))
    · exact not_it rfl (by decide) (not_it rfl (by decide) (not_it rfl (by decide) (not_it rfl (by decide) (it_is rfl rfl ⟨_, rfl, s, st, rfl, hd⟩))))
    · exact not_it rfl (by decide) (not_it rfl (by decide) (not_it rfl (by decide) (not_it rfl (by decide) (not_it rfl (by decide) ⟨_, rfl, s, st, rfl, hd⟩))))
abbrev s_answer_to : Stmt := topS 73
theorem sc_answer_to : FnScope ["state", "call", "numbers"] ["state", "call", "numbers"] (defScope s_answer_to) := ⟨rfl, rfl, rfl, by decide +kernel, rfl, by decide +kernel, by decide +kernel⟩
def sp_answer_to (CG CS : Addr) : Sp := fun vs H Q _ => ∃ (s N : Addr) (st : Kg61.State) (p : Int) (ns : List Int) (k : Kg61.Call), vs = [.ref s, .int p, .ref N] ∧ H N = some (.lst (ns.map V.int)) ∧ Kg61Neutral.callOf [p :: ns] = some k ∧ Did CG CS H s st k Q
theorem ok_answer_to (T : TxtA K mg) (d_call_begin : DOk P w K mg base 7 "call_begin" ["state", "goal"] (sp_call_begin CG CS)) (d_call_open : DOk P w K mg base 16 "call_open" ["state", "x", "y"] (sp_call_open CG CS)) (d_call_throw : DOk P w K mg base 16 "call_throw" ["state", "one", "other"] (sp_call_throw CG CS)) (d_call_step : DOk P w K mg base 17 "call_step" ["state", "place", "die"] (sp_call_step CG CS)) (d_call_give : DOk P w K mg base 8 "call_give" ["state", "times"] (sp_call_give CG CS)) (d_call_may : DOk P w K mg base 4 "call_may" ["state", "place", "die"] (sp_call_may CG CS)) (d_answer_with_none : DOk P w K mg base 19 "answer_with_none" ["state", "call"] (sp_answer_with_none CG CS)) (D : Dw0 K mg "answer_to" s_answer_to ["state", "call", "numbers"]) : DOk P w K mg base 20 "answer_to" ["state", "call", "numbers"] (sp_answer_to CG CS) := by
  obtain ⟨f_call_begin, fd_call_begin, G_call_begin, m_call_begin, k_call_begin, b_call_begin⟩ := d_call_begin
  obtain ⟨f_call_open, fd_call_open, G_call_open, m_call_open, k_call_open, b_call_open⟩ := d_call_open
  obtain ⟨f_call_throw, fd_call_throw, G_call_throw, m_call_throw, k_call_throw, b_call_throw⟩ := d_call_throw
  obtain ⟨f_call_step, fd_call_step, G_call_step, m_call_step, k_call_step, b_call_step⟩ := d_call_step
  obtain ⟨f_call_give, fd_call_give, G_call_give, m_call_give, k_call_give, b_call_give⟩ := d_call_give
  obtain ⟨f_call_may, fd_call_may, G_call_may, m_call_may, k_call_may, b_call_may⟩ := d_call_may
  obtain ⟨f_answer_with_none, fd_answer_with_none, G_answer_with_none, m_answer_with_none, k_answer_with_none, b_answer_with_none⟩ := d_answer_with_none
  refine D.ok fun f fd F => F.ok sc_answer_to (fun vs H Q E h => ?_) (fun cdv A outer s H vs Q E hr h => ?_)
  · obtain ⟨s, N, st, p, ns, k, rfl, _⟩ := h
    rfl
  · obtain ⟨s, N, st, p, ns, k, rfl, hN, hk, hd⟩ := h
    refine ⟨_, (pss_cons (ps_if (pt_cmpR op_eq (pv 1) (pe_ki T.c_BEGIN (by rfl)) (nomark _))
      (pss_one (ps_ret (pe_call G_call_begin (hr.mono (by first | decide | omega)) (by rfl) m_call_begin k_call_begin b_call_begin .nil pass0 (pa_cons (pv 0) (pa_cons (pe_ix ix_list (pv 2) pe_int (fun _ _ => rfl)) pa_nil)))))
      pss_nil)
    (pss_cons (ps_if (pt_cmpR op_eq (pv 1) (pe_ki T.c_OPEN (by rfl)) (nomark _))
      (pss_one (ps_ret (pe_call G_call_open (hr.mono (by first | decide | omega)) (by rfl) m_call_open k_call_open b_call_open .nil pass0 (pa_cons (pv 0) (pa_cons (pe_ix ix_list (pv 2) pe_int (fun _ _ => rfl)) (pa_cons (pe_ix ix_list (pv 2) pe_int (fun _ _ => rfl)) pa_nil))))))
      pss_nil)
    (pss_cons (ps_if (pt_cmpR op_eq (pv 1) (pe_ki T.c_THROW (by rfl)) (nomark _))
      (pss_one (ps_ret (pe_call G_call_throw (hr.mono (by first | decide | omega)) (by rfl) m_call_throw k_call_throw b_call_throw .nil pass0 (pa_cons (pv 0) (pa_cons (pe_ix ix_list (pv 2) pe_int (fun _ _ => rfl)) (pa_cons (pe_ix ix_list (pv 2) pe_int (fun _ _ => rfl)) pa_nil))))))
      pss_nil)
    (pss_cons (ps_if (pt_cmpR op_eq (pv 1) (pe_ki T.c_STEP (by rfl)) (nomark _))
      (pss_one (ps_ret (pe_call G_call_step (hr.mono (by first | decide | omega)) (by rfl) m_call_step k_call_step b_call_step .nil pass0 (pa_cons (pv 0) (pa_cons (pe_ix ix_list (pv 2) pe_int (fun _ _ => rfl)) (pa_cons (pe_ix ix_list (pv 2) pe_int (fun _ _ => rfl)) pa_nil))))))
      pss_nil)
    (pss_cons (ps_if (pt_cmpR op_eq (pv 1) (pe_ki T.c_GIVE (by rfl)) (nomark _))
      (pss_one (ps_ret (pe_call G_call_give (hr.mono (by first | decide | omega)) (by rfl) m_call_give k_call_give b_call_give .nil pass0 (pa_cons (pv 0) (pa_cons (pe_ix ix_list (pv 2) pe_int (fun _ _ => rfl)) pa_nil)))))
      pss_nil)
    (pss_cons (ps_if (pt_cmpR op_eq (pv 1) (pe_ki T.c_MAY (by rfl)) (nomark _))
      (pss_one (ps_ret (pe_call G_call_may (hr.mono (by first | decide | omega)) (by rfl) m_call_may k_call_may b_call_may .nil pass0 (pa_cons (pv 0) (pa_cons (pe_ix ix_list (pv 2) pe_int (fun _ _ => rfl)) (pa_cons (pe_ix ix_list (pv 2) pe_int (fun _ _ => rfl)) pa_nil))))))
      pss_nil)
    (pss_one (ps_ret (pe_call G_answer_with_none (hr.mono (by first | decide | omega)) (by rfl) m_answer_with_none k_answer_with_none b_answer_with_none .nil pass0 (pa_cons (pv 0) (pa_cons (pv 1) pa_nil))))))))))), ?_⟩
    have g0 : ∀ {x : Int} {r : List Int}, ns = x :: r → atI (ns.map V.int) 0 = some (.int x) := fun e => by rw [e]; exact atI_nat (j := 0) rfl
    have g1 : ∀ {x y : Int} {r : List Int}, ns = x :: y :: r → atI (ns.map V.int) 1 = some (.int y) := fun e => by rw [e]; exact atI_nat (j := 1) rfl
    rcases call_is hk with ⟨rfl, x, rfl, rfl⟩ | ⟨rfl, x, y, rfl, rfl⟩ | ⟨rfl, x, y, rfl, rfl⟩ | ⟨rfl, rfl, rfl⟩ | ⟨rfl, rfl, rfl⟩ | ⟨rfl, rfl, rfl⟩ | ⟨rfl, x, y, rfl, rfl⟩ | ⟨rfl, x, rfl, rfl⟩ | ⟨rfl, rfl, rfl⟩ | ⟨rfl, rfl, rfl⟩ | ⟨rfl, rfl, rfl⟩ | ⟨rfl, x, y, rfl, rfl⟩
    · refine it_is rfl rfl ?_
      exact ⟨_, rfl, _, rfl, N, _, _, _, rfl, rfl, SqL.of hN, g0 rfl, s, st, x, rfl, hd⟩
    · refine not_it rfl (by decide) (it_is rfl rfl ?_)
      exact ⟨_, rfl, _, rfl, N, _, _, _, rfl, rfl, SqL.of hN, g0 rfl, _, rfl, N, _, _, _, rfl, rfl, SqL.of hN, g1 rfl, s, st, x, y, rfl, hd⟩
    · refine not_it rfl (by decide) (not_it rfl (by decide) (it_is rfl rfl ?_))
      exact ⟨_, rfl, _, rfl, N, _, _, _, rfl, rfl, SqL.of hN, g0 rfl, _, rfl, N, _, _, _, rfl, rfl, SqL.of hN, g1 rfl, s, st, x, y, rfl, hd⟩
    · refine not_it rfl (by decide) (not_it rfl (by decide) (not_it rfl (by decide) (not_it rfl (by decide) (not_it rfl (by decide) (not_it rfl (by decide) ?_)))))
      exact ⟨_, rfl, _, rfl, s, st, 4, _, rfl, .inl ⟨rfl, rfl⟩, hd⟩
    · refine not_it rfl (by decide) (not_it rfl (by decide) (not_it rfl (by decide) (not_it rfl (by decide) (not_it rfl (by decide) (not_it rfl (by decide) ?_)))))
      exact ⟨_, rfl, _, rfl, s, st, 5, _, rfl, .inr (.inl ⟨rfl, rfl⟩), hd⟩
    · refine not_it rfl (by decide) (not_it rfl (by decide) (not_it rfl (by decide) (not_it rfl (by decide) (not_it rfl (by decide) (not_it rfl (by decide) ?_)))))
      exact ⟨_, rfl, _, rfl, s, st, 6, _, rfl, .inr (.inr (.inl ⟨rfl, rfl⟩)), hd⟩
    · refine not_it rfl (by decide) (not_it rfl (by decide) (not_it rfl (by decide) (it_is rfl rfl ?_)))
      exact ⟨_, rfl, _, rfl, N, _, _, _, rfl, rfl, SqL.of hN, g0 rfl, _, rfl, N, _, _, _, rfl, rfl, SqL.of hN, g1 rfl, s, st, x, y, rfl, hd⟩
    · refine not_it rfl (by decide) (not_it rfl (by decide) (not_it rfl (by decide) (not_it rfl (by decide) (it_is rfl rfl ?_))))
      exact ⟨_, rfl, _, rfl, N, _, _, _, rfl, rfl, SqL.of hN, g0 rfl, s, st, x, rfl, hd⟩
    · refine not_it rfl (by decide) (not_it rfl (by decide) (not_it rfl (by decide) (not_it rfl (by decide) (not_it rfl (by decide) (not_it rfl (by decide) ?_)))))
      exact ⟨_, rfl, _, rfl, s, st, 9, _, rfl, .inr (.inr (.inr (.inl ⟨rfl, rfl⟩))), hd⟩
    · refine not_it rfl (by decide) (not_it rfl (by decide) (not_it rfl (by decide) (not_it rfl (by decide) (not_it rfl (by decide) (not_it rfl (by decide) ?_)))))
      exact ⟨_, rfl, _, rfl, s, st, 10, _, rfl, .inr (.inr (.inr (.inr (.inl ⟨rfl, rfl⟩)))), hd⟩
    · refine not_it rfl (by decide) (not_it rfl (by decide) (not_it rfl (by decide) (not_it rfl (by decide) (not_it rfl (by decide) (not_it rfl (by decide) ?_)))))
      exact ⟨_, rfl, _, rfl, s, st, 11, _, rfl, .inr (.inr (.inr (.inr (.inr ⟨rfl, rfl⟩)))), hd⟩
    · refine not_it rfl (by decide) (not_it rfl (by decide) (not_it rfl (by decide) (not_it rfl (by decide) (not_it rfl (by decide) (it_is rfl rfl ?_)))))
      exact ⟨_, rfl, _, rfl, N, _, _, _, rfl, rfl, SqL.of hN, g0 rfl, _, rfl, N, _, _, _, rfl, rfl, SqL.of hN, g1 rfl, s, st, x, y, rfl, hd⟩
end
end BG
namespace BG
open PySem PySem.Spec PyProof.Rows L2
theorem GvAt.but {CG a : Addr} {H H' : Hp} {gv : V} {g : Option Kg61.Game} (h : GvAt CG H gv g) (e : But a H H') {o : HO} (ha : H a = some o) (ho : ∀ xs, o ≠ .lst xs) (hi : ∀ C dx fs, o ≠ .ins C dx fs) : GvAt CG H' gv g := by
  match g, h with
  | none, h => exact h
  | some G, ⟨g, e1, hG⟩ =>
    obtain ⟨dg, fg, hgo⟩ := hG.obj
    exact ⟨g, e1, hG.but e (ne_of hgo ha fun q => hi _ _ _ q.symm) ha ho⟩
theorem StAt.but {CG CS a : Addr} {H H' : Hp} {s : Addr} {st : Kg61.State} (h : StAt CG CS H s st) (e : But a H H') {o : HO} (ha : H a = some o) (ho : ∀ xs, o ≠ .lst xs) (hi : ∀ C dx fs, o ≠ .ins C dx fs) : StAt CG CS H' s st := by
  obtain ⟨gv, hs, hg⟩ := h
  obtain ⟨dx, pt, h1, h2⟩ := id hs
  exact ⟨gv, hs.but e (ne_of h1 ha fun q => hi _ _ _ q.symm) ha ho, hg.but e ha ho hi⟩
/-- the state stands, whatever stands at L -/
theorem StAt.off {CG CS L : Addr} {H : Hp} {s : Addr} {st : Kg61.State} {o : HO} (h : StAt CG CS H s st) (ha : H L = some o) (ho : ∀ xs, o ≠ .lst xs) (hi : ∀ C dx fs, o ≠ .ins C dx fs) (x : HO) : StAt CG CS (upd H L x) s st :=
  h.but (But.refl L H).upd ha ho hi
structure LoopAt (CG CS : Addr) (a s0 L : Addr) (ns total : List Int) (H : Hp) (m : Nat) (σ : L2.St) (H' : Hp) : Prop where
  ex : ∃ (i : Nat) (st : Kg61.State) (out : List Int) (fu : Nat) (cs : List (List (List Int))) (x4 x5 : Option V), m = ns.length - i ∧ σ = [some (.ref a), some (.ref s0), some (.ref L), some (.int (i : Int)), x4, x5] ∧ i ≤ ns.length ∧
    StAt CG CS (upd H' L (.own 0)) s0 st ∧ WFS st ∧ H' L = some (.lst (out.map V.int)) ∧ NI H H' ∧ PyFlat.calls PyKg61.shape fu (ns.drop i) = some cs ∧ out ++ from_ st cs = total
section
variable {P : Program} {w : World} {K : PySem.W.Frag} {mg : Str → Option Value} {base : Heap} {CG CS : Addr}
abbrev s_answers : Stmt := topS 74
theorem sc_answers : FnScope ["calls", "state", "told", "at", "behind", "answer"] ["calls"] (defScope s_answers) := ⟨rfl, rfl, rfl, by decide +kernel, rfl, by decide +kernel, by decide +kernel⟩
def sp_answers (K : PySem.W.Frag) : Sp := fun vs H Q _ => ∃ (a : Addr) (ns : List Int), vs = [.ref a] ∧ SqL K H a (ns.map V.int) ∧ ns.length ≤ 1000 ∧ PyKg61.answers_asked ns = true ∧
  ∀ H' p, H' p = some (.lst ((PyKg61.answers ns).map V.int)) → Q (.ref p) H'
theorem ok_answers (T : TxtA K mg) {aN : Addr} (m_NUMBERS_BEHIND : mg "NUMBERS_BEHIND" = some (.ref aN)) (hN : Nums K aN) (d_answer_to : DOk P w K mg base 20 "answer_to" ["state", "call", "numbers"] (sp_answer_to CG CS)) (d_State : MOk P w K mg base CS 1 "State" ["self"] (sp_State_init CG CS)) {f : Addr} {fd : FuncData} (F : Fun K "answers" "answers" s_answers f fd) : FnOk P w K mg base CX0 21 f fd ["calls"] (sp_answers K) := by
  obtain ⟨f_answer_to, fd_answer_to, G_answer_to, m_answer_to, k_answer_to, b_answer_to⟩ := d_answer_to
  obtain ⟨f_State, fd_State, M_State, G_State, m_State, b_State⟩ := d_State
  refine F.ok sc_answers (fun vs H Q E h => ?_) (fun cdv A outer s H vs Q E hr h => ?_)
  · obtain ⟨a, ns, rfl, _⟩ := h
    rfl
  · obtain ⟨a, ns, rfl, hS, hlen, hask, q⟩ := h
    obtain ⟨cs0, hc0, hans, hshort⟩ := asked_calls hask
    rw [hans] at q
    have nl : (ns.map V.int).length = ns.length := List.length_map _
    refine ⟨_, (pss_cons (ps_set (i := 1) sc_answers.nd rfl (.inl rfl) (pe_make0 M_State G_State (hr.mono (by first | decide | omega)) (by rfl) m_State b_State .nil pass0))
    (pss_cons (ps_set (i := 2) sc_answers.nd rfl (.inl rfl) (pe_lst pa_nil))
    (pss_cons (ps_set (i := 3) sc_answers.nd rfl (.inl rfl) pe_int)
    (pss_cons (ps_while PassesOwn.never (pt_cmpR op_lt (pv 3) (pe_callB call_len_seq (by rfl) T.z_len PySem.boot_len (pa_cons (pv 0) pa_nil)) (nomark _))
      (pss_cons (ps_set (i := 4) sc_answers.nd rfl (.inl rfl) (pe_op op_add (pe_op op_add (pv 3) pe_int) (pe_ix ix_kint (pe_gref m_NUMBERS_BEHIND (by rfl)) (pe_ix ix_list (pv 0) (pv 3) (fun _ _ => rfl)) (fun _ _ => rfl))))
    (pss_cons (ps_set (i := 5) sc_answers.nd rfl (.inl rfl) (pe_lock (pe_call G_answer_to (hr.mono (by first | decide | omega)) (by rfl) m_answer_to k_answer_to b_answer_to .nil pass0 (pa_cons (pv 1) (pa_cons (pe_ix ix_list (pv 0) (pv 3) (fun _ _ => rfl)) (pa_cons (pe_slice sl_list (pv 0) (po_some (pe_op op_add (pv 3) pe_int)) (po_some (pv 4))) pa_nil))))))
    (pss_cons (ps_expr (pe_bm PySem.F.plainAttrs_list PySem.F.slot_list_append PySem.F.type_list_append mt_append (pv 2) (pa_cons (pe_callB call_len_seq (by rfl) T.z_len PySem.boot_len (pa_cons (pv 5) pa_nil)) pa_nil)))
    (pss_cons (ps_expr (pe_bm PySem.F.plainAttrs_list PySem.F.slot_list_extend PySem.F.type_list_extend mt_extend (pv 2) (pa_cons (pv 5) pa_nil)))
    (pss_one (ps_set (i := 3) sc_answers.nd rfl (.inl rfl) (pv 4))))))))
    (pss_one (ps_ret (pv 2))))))), ?_⟩
    -- state = State()
    intro s0 ds ns0 nds hne
    refine ⟨s0, ds, rfl, upd_same, fun H1 hS1 b1 => ⟨rfl, ?_⟩⟩
    have e1 : Same H H1 := Same.made ns0 nds b1
    -- told = []
    refine ⟨Nat.zero_le _, fun L nL => ?_⟩
    have e2 := same_upd nL (o := .lst [])
    have hL : (upd H1 L (.lst [])) L = some (.lst (([] : List Int).map V.int)) := upd_same
    have hS2 := hS1.same e2
    have off2 : StAt CG CS (upd (upd H1 L (.lst [])) L (.own 0)) s0 Kg61.init := by
      rw [upd_upd]
      exact hS1.same (same_upd nL)
    generalize upd H1 L (.lst []) = H2 at e2 hL hS2 off2
    have nL0 : H L = none := e1.free nL
    have ni02 : NI H H2 := .of (e1.trans e2)
    -- at = 0; while at < len(calls)
    refine ⟨LoopAt CG CS a s0 L ns (from_ Kg61.init cs0) H, ⟨ns.length, ⟨0, Kg61.init, [], _, cs0, none, none, rfl, rfl, Nat.zero_le _, off2, init_wf, hL, ni02, hc0, rfl⟩⟩, ?_⟩
    rintro m σ H3 ⟨i, st, out, fu, cs, x4, x5, rfl, rfl, hi, hoff, hwf, hL3, ni3, hcalls, htot⟩
    have hA3 := ni3.seq hS
    refine (ans_test (val_lt (val_var rfl) (val_len (val_var rfl) hA3))) _ ?_
    rw [nl]
    by_cases hlt : i < ns.length
    · rw [decide_eq_true (show (i : Int) < ((ns.length : Nat) : Int) by omega)]
      refine iteT ?_
      have hdrop : ns.drop i = ns[i] :: ns.drop (i + 1) := List.drop_eq_getElem_cons hlt
      have hgi : (ns.map V.int)[i]? = some (.int ns[i]) := by rw [List.getElem?_map, List.getElem?_eq_getElem hlt]; rfl
      generalize ns[i] = p at hdrop hgi
      rw [hdrop] at hcalls
      obtain ⟨n, fu', cs', hsh, hn, rfl, hcs'⟩ := calls_cons hcalls
      rw [List.length_drop] at hn
      have hlen2 : ((ns.drop (i + 1)).take n).length = n := by rw [List.length_take, List.length_drop]; omega
      obtain ⟨k, hk⟩ := call_of hsh hlen2
      rw [from_cons hk] at htot
      rw [List.drop_drop] at hcs'
      refine ⟨fun σ' H' => LoopAt CG CS a s0 L ns (from_ Kg61.init cs0) H (ns.length - (i + 1 + n)) σ' H', fun σ' H' hx => ⟨_, by omega, hx⟩, ?_⟩
      -- behind = at + 1 + NUMBERS_BEHIND[calls[at]]
      refine st_set (val_add (val_add (val_var rfl) val_c) (val_op val_c (val_ix (val_var rfl) (val_var rfl) hA3 (atI_nat hgi)) (fun Q q => ⟨aN, p, _, rfl, rfl, hN p n hsh, q⟩))) ?_
      rw [show (i : Int) + 1 + (n : Int) = ((i + 1 + n : Nat) : Int) by omega]
      -- answer = answer_to(state, calls[at], calls[at + 1:behind]), the answers so far locked
      refine ⟨L, _, hL3, trivial, fun od => ?_⟩
      have hF := hoff.off upd_same (fun _ q => nomatch q) (fun _ _ _ q => nomatch q) (.frz od (.lst (out.map V.int)))
      rw [upd_upd] at hF
      have niF : NI H (upd H3 L (.frz od (.lst (out.map V.int)))) := fun b o e x => by rw [upd_ne (ne_of_none e nL0)]; exact ni3 b o e x
      have hFL : (upd H3 L (.frz od (.lst (out.map V.int)))) L = some (.frz od (.lst (out.map V.int))) := upd_same
      generalize upd H3 L (.frz od (.lst (out.map V.int))) = H4 at hF niF hFL
      have hA4 := niF.seq hS
      refine ⟨_, rfl, _, rfl, _, rfl, a, _, _, _, rfl, rfl, hA4, atI_nat hgi, ?_⟩
      refine ⟨_, rfl, _, rfl, _, _, rfl, rfl, _, rfl, _, rfl, _, rfl, a, _, rfl, hA4, fun N nN => ?_⟩
      have e5 := same_upd nN (o := .lst (cutV (ns.map V.int) (some ((i : Int) + 1)) (some ((i + 1 + n : Nat) : Int))))
      have hN5 : (upd H4 N (.lst (cutV (ns.map V.int) (some ((i : Int) + 1)) (some ((i + 1 + n : Nat) : Int))))) N = some (.lst (((ns.drop (i + 1)).take n).map V.int)) := by
        rw [upd_same, show (i : Int) + 1 = ((i + 1 : Nat) : Int) from rfl, cut_mid _ _ _ (by omega) (by rw [nl]; omega), List.map_take, List.map_drop, show i + 1 + n - (i + 1) = n by omega]
      have hF5 := hF.same e5
      have hFL5 := e5 _ _ hFL
      have ni5 := niF.trans (.of e5)
      have fr5 : ∀ p, (upd H4 N (.lst (cutV (ns.map V.int) (some ((i : Int) + 1)) (some ((i + 1 + n : Nat) : Int))))) p = none → H4 p = none := fun p h => e5.free h
      generalize upd H4 N (.lst (cutV (ns.map V.int) (some ((i : Int) + 1)) (some ((i + 1 + n : Nat) : Int)))) = H5 at e5 hN5 hF5 hFL5 ni5 fr5
      refine ⟨s0, N, st, p, (ns.drop (i + 1)).take n, k, rfl, hN5, hk, hF5, hwf, fun H6 pa hS6 ni6 npa hpa => ?_⟩
      have hL6 := ni6 _ _ hFL5 fun _ _ _ q => nomatch q
      refine ⟨hL6, ?_⟩
      have hL7 : (upd H6 L (.lst (out.map V.int))) L = some (.lst (out.map V.int)) := upd_same
      have npL : pa ≠ L := fun e => by rw [e, hFL5] at npa; cases npa
      have hpa7 : (upd H6 L (.lst (out.map V.int))) pa = some (.lst (ansV (Kg61.spec st k).2)) := by rw [upd_ne npL]; exact hpa
      have off7 : StAt CG CS (upd (upd H6 L (.lst (out.map V.int))) L (.own 0)) s0 (Kg61.spec st k).1 := by
        rw [upd_upd]
        exact hS6.off hL6 (fun _ q => nomatch q) (fun _ _ _ q => nomatch q) _
      have ni7 : NI H (upd H6 L (.lst (out.map V.int))) := fun b o e x => by rw [upd_ne (ne_of_none e nL0)]; exact (ni5.trans ni6) b o e x
      generalize upd H6 L (.lst (out.map V.int)) = H7 at hL7 hpa7 off7 ni7
      have lans : (ansV (Kg61.spec st k).2).length = (Kg61.spec st k).2.out.length + 1 := by
        unfold ansV
        rw [List.length_map, List.length_cons]
      have ltot : out.length + (1 + ((Kg61.spec st k).2.out.length + 1)) ≤ 10000000 := by
        have := congrArg List.length htot
        simp only [List.length_append, List.length_cons] at this
        omega
      have lsz : ∀ {x : Nat}, x ≤ 10000000 → x < sizeLine := fun h => Nat.lt_of_le_of_lt h (by decide)
      -- told.append(len(answer))
      refine ⟨_, rfl, .inl ⟨rfl, _, SqL.of hL7⟩, _, rfl, pa, _, rfl, .inl (SqL.of hpa7), L, _, _, rfl, rfl, hL7, ?_, ?_⟩
      · rw [List.length_map]
        exact lsz (by omega)
      rw [lans]
      have hL8 : (upd H7 L (.lst (out.map V.int ++ [.int (((Kg61.spec st k).2.out.length + 1 : Nat) : Int)]))) L = some (.lst (out.map V.int ++ [.int (((Kg61.spec st k).2.out.length + 1 : Nat) : Int)])) := upd_same
      have hpa8 : (upd H7 L (.lst (out.map V.int ++ [.int (((Kg61.spec st k).2.out.length + 1 : Nat) : Int)]))) pa = some (.lst (ansV (Kg61.spec st k).2)) := by rw [upd_ne npL]; exact hpa7
      -- told.extend(answer)
      refine ⟨_, rfl, .inl ⟨rfl, _, SqL.of hL8⟩, _, rfl, L, pa, _, _, rfl, rfl, hL8, hpa8, ?_, ?_⟩
      · rw [List.length_append, List.length_map, lans]
        exact Nat.le_of_lt (lsz (by simp only [List.length_singleton]; omega))
      rw [upd_upd]
      -- at = behind
      refine ⟨_, rfl, i + 1 + n, (Kg61.spec st k).1, out ++ ((((Kg61.spec st k).2.out.length + 1 : Nat) : Int) :: (Kg61.spec st k).2.value :: (Kg61.spec st k).2.out), fu', cs', _, _, rfl, rfl, by omega, ?_, spec_wf hwf k, ?_, ?_, hcs', ?_⟩
      · rw [upd_upd]
        exact off7
      · rw [upd_same, List.map_append, List.append_assoc]
        rfl
      · exact fun b o e x => by rw [upd_ne (ne_of_none e nL0)]; exact ni7 b o e x
      · rw [← htot, List.append_assoc]
        rfl
    · rw [decide_eq_false (show ¬ (i : Int) < ((ns.length : Nat) : Int) by omega)]
      refine iteF ?_
      rw [List.drop_eq_nil_of_le (by omega)] at hcalls
      have e0 := calls_nil hcalls
      subst e0
      rw [from_nil, List.append_nil] at htot
      refine ⟨_, rfl, q H3 L ?_⟩
      rw [← htot]
      exact hL3
end
end BG
namespace BG
open PySem PySem.Spec PyProof.Rows L2
open PySem.W (Codec)
section
variable {K : PySem.W.Frag} {mg : Str → Option Value} {h : Heap}
theorem dw0_mk {x : Str} {st : Stmt} {ps : List Str} {f : Addr} {oc kV doc pm cd ct : Value} {od an : Option Addr} {sl : Array (Option Value)} (X : K.In h) (G : h.Ns mainGlobals mg) (a : PySem.W.nsIn K mainGlobals x = some (some (.ref f)))
    (l : K.lookup f = some ⟨oc, od, .func (PySem.W.fnOf x x (defArgs st) (defBody st) (defScope st) .none kV doc pm an cd ct), sl⟩) (c : PySem.W.codeIn K cd x = true) (k : PySem.W.keepIn K (.ref f) = true)
    (b : ∀ (kV doc pm : Value) (an : Option Addr) (cdv ct : Value) (us : List Value), us.length = ps.length → bindArgs (PySem.W.fnOf x x (defArgs st) (defBody st) (defScope st) .none kV doc pm an cdv ct) ⟨us, []⟩ = pure (ps.zip us)) : Dw0 K mg x st ps := by
  have F := fun_mk (st := st) l c k
  exact ⟨f, _, F, PySem.W.mg_of X G a, F.binds b⟩
theorem dm0_mk {x qual : Str} {st : Stmt} {ps : List Str} {C f : Addr} {oc kV doc pm cd ct : Value} {od an : Option Addr} {sl : Array (Option Value)} (X : K.In h) (G : h.Ns mainGlobals mg) (aC : PySem.W.nsIn K mainGlobals x = some (some (.ref C)))
    (a1 : PySem.W.findIn K (.ref C) "__init__" = some (some (.ref f))) (i1 : PySem.W.isFn K (.ref f) = true)
    (l : K.lookup f = some ⟨oc, od, .func (PySem.W.fnOf "__init__" qual (defArgs st) (defBody st) (defScope st) .none kV doc pm an cd ct), sl⟩) (c : PySem.W.codeIn K cd qual = true) (k : PySem.W.keepIn K (.ref f) = true)
    (mk : PySem.W.makesIn K C = true) (kc : PySem.W.keepIn K (.ref C) = true)
    (b : ∀ (kV doc pm : Value) (an : Option Addr) (cdv ct : Value) (us : List Value), us.length = ps.length → bindArgs (PySem.W.fnOf "__init__" qual (defArgs st) (defBody st) (defScope st) .none kV doc pm an cdv ct) ⟨us, []⟩ = pure (ps.zip us)) : Dm0 K mg C x qual st ps := by
  have F := fun_mk (st := st) l c k
  exact ⟨f, _, ⟨mk, a1, i1, kc⟩, F, PySem.W.mg_of X G aC, F.binds b⟩
theorem ki_mk {x : Str} {i : Int} {t : Tok} (X : K.In h) (G : h.Ns mainGlobals mg) (a : PySem.W.nsIn K mainGlobals x = some (some (.int i t))) : KI mg x i := ⟨t, PySem.W.mg_of X G a⟩
/-- a table of whole numbers: what stands at the numbers of ps -/
def tabOk (es : Array DictEntry) (ps : List (Int × Nat)) : Bool :=
  (es.toList.all fun e => match e.key with
    | .int k _ => e.hash == hashInt k
    | _ => false) &&
  ps.all fun p => match findBy Value.isInt es p.1 with
    | some (.int m _) => m == (p.2 : Int)
    | _ => false
theorem tab_mk {aN : Addr} {es : Array DictEntry} {n : Nat} {ps : List (Int × Nat)} (l : K.lookup aN = some ⟨.type "dict", none, .dict es n, #[]⟩) (h : tabOk es ps = true) : ∀ p ∈ ps, KInt K aN p.1 (.int (p.2 : Int)) := by
  intro p hp
  unfold tabOk at h
  rw [Bool.and_eq_true] at h
  have h1 := List.all_eq_true.mp h.1
  have h2 := List.all_eq_true.mp h.2 p hp
  have hk : IntKeys es := fun e he => by
    have z := h1 e (Array.mem_toList_iff.mpr he)
    split at z
    · rename_i k t e1
      exact ⟨k, t, e1, eq_of_beq z⟩
    · cases z
  split at h2
  · rename_i m t e
    have e2 := eq_of_beq h2
    subst e2
    exact ⟨es, n, _, l, hk, e, ⟨t, rfl⟩⟩
  · cases h2
theorem tup_mk {a : Addr} {o : Obj} {its : Array Value} {n : Nat} {xs : List V} (l : K.lookup a = some o) (hc : o.cls = .type "tuple") (hd : o.data = .seq its n) (hz : its.size ≤ sizeLine) (hv : Vals xs its.toList) : TupK K a xs := ⟨o, its, n, l, hc, hd, hz, hv⟩
/-- all of it together: what the top holds is all that is asked -/
theorem fin {P : Program} {w : World} {fa : Addr} {CG CS : Addr} (X : K.In h) (G : h.Ns mainGlobals mg) (hfa : mg "answers" = some (.ref fa)) (T0 : Txt K mg) (TC : TxtC K mg CG CS) (TA : TxtA K mg) (hT : KI mg "HIGHEST_TIMES" 3)
    {aB p1 p2 p3 p4 : Addr} (mB : PySem.W.nsIn K mainGlobals "BEGINNING" = some (some (.ref aB))) (b0 : TupK K aB [.ref p1, .ref p2, .ref p3, .ref p4]) (b1 : TupK K p1 [.int 24, .int 2]) (b2 : TupK K p2 [.int 13, .int 5]) (b3 : TupK K p3 [.int 8, .int 3]) (b4 : TupK K p4 [.int 6, .int 5])
    {aN : Addr} {es : Array DictEntry} {n : Nat} (mN : PySem.W.nsIn K mainGlobals "NUMBERS_BEHIND" = some (some (.ref aN))) (lN : K.lookup aN = some ⟨.type "dict", none, .dict es n, #[]⟩) (hN : tabOk es [(1, 1), (2, 2), (3, 2), (4, 0), (5, 0), (6, 0), (7, 2), (8, 1), (9, 0), (10, 0), (11, 0), (12, 2)] = true)
    (D_Game : Dm0 K mg CG "Game" "Game.__init__" s_Game_init ["self", "doubles_let"]) (D_State : Dm0 K mg CS "State" "State.__init__" s_State_init ["self"])
    (D_new_side : Dw0 K mg "new_side" s_new_side []) (D_new_board : Dw0 K mg "new_board" s_new_board []) (D_others_place : Dw0 K mg "others_place" s_others_place ["point"]) (D_pips : Dw0 K mg "pips" s_pips ["side"]) (D_has_none_beyond : Dw0 K mg "has_none_beyond" s_has_none_beyond ["side", "place"]) (D_may_go_off : Dw0 K mg "may_go_off" s_may_go_off ["side", "place", "die"]) (D_may_step : Dw0 K mg "may_step" s_may_step ["board", "player", "place", "die"]) (D_board_behind : Dw0 K mg "board_behind" s_board_behind ["board", "player", "place", "die"]) (D_most_with_first : Dw0 K mg "most_with_first" s_most_with_first ["board", "player", "die", "rest"]) (D_most_usable : Dw0 K mg "most_usable" s_most_usable ["board", "player", "dice"]) (D_has_won : Dw0 K mg "has_won" s_has_won ["board", "player"]) (D_times_won : Dw0 K mg "times_won" s_times_won ["board", "winner"]) (D_begin_match : Dw0 K mg "begin_match" s_begin_match ["state", "goal"]) (D_begin_game : Dw0 K mg "begin_game" s_begin_game ["state"]) (D_end_game : Dw0 K mg "end_game" s_end_game ["state", "winner", "won"]) (D_begin_turn : Dw0 K mg "begin_turn" s_begin_turn ["game", "player"]) (D_thrown_dice : Dw0 K mg "thrown_dice" s_thrown_dice ["one", "other"]) (D_play_throw : Dw0 K mg "play_throw" s_play_throw ["game", "player", "one", "other"]) (D_may_double : Dw0 K mg "may_double" s_may_double ["game"]) (D_without_die : Dw0 K mg "without_die" s_without_die ["dice", "die"]) (D_must_be_first_die : Dw0 K mg "must_be_first_die" s_must_be_first_die ["game"]) (D_may_be_made : Dw0 K mg "may_be_made" s_may_be_made ["game", "place", "die"]) (D_steps_that_may_be_made : Dw0 K mg "steps_that_may_be_made" s_steps_that_may_be_made ["game"]) (D_make_step : Dw0 K mg "make_step" s_make_step ["game", "place", "die"]) (D_is_die : Dw0 K mg "is_die" s_is_die ["number"]) (D_is_step : Dw0 K mg "is_step" s_is_step ["place", "die"]) (D_refusal_in : Dw0 K mg "refusal_in" s_refusal_in ["state", "phase"]) (D_how_it_stands : Dw0 K mg "how_it_stands" s_how_it_stands ["state"]) (D_points_won : Dw0 K mg "points_won" s_points_won ["state", "winner", "won"]) (D_call_begin : Dw0 K mg "call_begin" s_call_begin ["state", "goal"]) (D_call_open : Dw0 K mg "call_open" s_call_open ["state", "x", "y"]) (D_call_throw : Dw0 K mg "call_throw" s_call_throw ["state", "one", "other"]) (D_call_double : Dw0 K mg "call_double" s_call_double ["state"]) (D_call_take : Dw0 K mg "call_take" s_call_take ["state"]) (D_call_drop : Dw0 K mg "call_drop" s_call_drop ["state"]) (D_call_step : Dw0 K mg "call_step" s_call_step ["state", "place", "die"]) (D_call_give : Dw0 K mg "call_give" s_call_give ["state", "times"]) (D_call_now : Dw0 K mg "call_now" s_call_now ["state"]) (D_call_board : Dw0 K mg "call_board" s_call_board ["state"]) (D_call_steps : Dw0 K mg "call_steps" s_call_steps ["state"]) (D_call_may : Dw0 K mg "call_may" s_call_may ["state", "place", "die"]) (D_answer_with_none : Dw0 K mg "answer_with_none" s_answer_with_none ["state", "call"]) (D_answer_to : Dw0 K mg "answer_to" s_answer_to ["state", "call", "numbers"])
    {f0 : Addr} {oc kV doc pm cd ct : Value} {od an : Option Addr} {sl : Array (Option Value)} (a0 : PySem.W.nsIn K mainGlobals "answers" = some (some (.ref f0)))
    (l0 : K.lookup f0 = some ⟨oc, od, .func (PySem.W.fnOf "answers" "answers" (defArgs s_answers) (defBody s_answers) (defScope s_answers) .none kV doc pm an cd ct), sl⟩) (c0 : PySem.W.codeIn K cd "answers" = true) (k0 : PySem.W.keepIn K (.ref f0) = true) :
    ∃ fd : FuncData, (∀ (s : Shared) (us : List Value), us.length = (["calls"] : List Str).length → BindsTo s fd ⟨us, []⟩ ((["calls"] : List Str).zip us)) ∧ ∀ base : Heap, K.In base → base.Ns mainGlobals mg → FnOk P w K mg base CX0 21 fa fd ["calls"] (sp_answers K) := by
  have e := hfa.symm.trans (PySem.W.mg_of X G a0)
  cases e
  have F0 := fun_mk (st := s_answers) l0 c0 k0
  have tab := tab_mk lN hN
  have nums : Nums K aN := fun p n hs => by
    obtain ⟨_, hs⟩ := shape_some hs
    rcases hs with ⟨rfl, rfl⟩ | ⟨rfl, rfl⟩ | ⟨rfl, rfl⟩ | ⟨rfl, rfl⟩ | ⟨rfl, rfl⟩ | ⟨rfl, rfl⟩ | ⟨rfl, rfl⟩ | ⟨rfl, rfl⟩ | ⟨rfl, rfl⟩ | ⟨rfl, rfl⟩ | ⟨rfl, rfl⟩ | ⟨rfl, rfl⟩
    · exact tab (1, 1) (by decide)
    · exact tab (2, 2) (by decide)
    · exact tab (3, 2) (by decide)
    · exact tab (4, 0) (by decide)
    · exact tab (5, 0) (by decide)
    · exact tab (6, 0) (by decide)
    · exact tab (7, 2) (by decide)
    · exact tab (8, 1) (by decide)
    · exact tab (9, 0) (by decide)
    · exact tab (10, 0) (by decide)
    · exact tab (11, 0) (by decide)
    · exact tab (12, 2) (by decide)
  have TS := TC.toTxtS
  have TU : TxtU K mg CG CS := { toTxtC := TC, c_BAR := T0.c_BAR, c_HIGHEST_TIMES := hT, z_len := T0.z_len, z_range := T0.z_range, z_enumerate := T0.z_enumerate }
  refine ⟨PySem.W.fnOf "answers" "answers" (defArgs s_answers) (defBody s_answers) (defScope s_answers) .none kV doc pm an cd ct, fun s us hu => match us, hu with | [_], _ => .of_eq rfl, fun base _ _ => ?_⟩
  have d_others_place := ok_others_place (P := P) (w := w) (base := base) D_others_place
  have d_has_none_beyond := ok_has_none_beyond (P := P) (w := w) (base := base) T0 D_has_none_beyond
  have d_may_go_off := ok_may_go_off T0 d_has_none_beyond D_may_go_off
  have d_may_step := ok_may_step T0 d_others_place d_may_go_off D_may_step
  have d_board_behind := ok_board_behind T0 d_others_place D_board_behind
  have d_most_usable := ok_search T0 d_may_step d_board_behind D_most_with_first D_most_usable
  have d_new_side := ok_new_side (P := P) (w := w) (base := base) (PySem.W.mg_of X G mB) ⟨p1, p2, p3, p4, b0, b1, b2, b3, b4⟩ D_new_side
  have d_new_board := ok_new_board d_new_side D_new_board
  have d_Game := ok_Game_init TS d_new_board D_Game
  have d_State := ok_State_init (P := P) (w := w) (base := base) TS D_State
  have d_begin_game := ok_begin_game TS d_Game D_begin_game
  have d_begin_match := ok_begin_match TS d_begin_game D_begin_match
  have d_end_game := ok_end_game TS d_begin_game D_end_game
  have d_begin_turn := ok_begin_turn (P := P) (w := w) (base := base) TS D_begin_turn
  have d_thrown_dice := ok_thrown_dice (P := P) (w := w) (base := base) TS D_thrown_dice
  have d_play_throw := ok_play_throw TS d_thrown_dice d_begin_turn d_most_usable D_play_throw
  have d_may_double := ok_may_double (P := P) (w := w) (base := base) TS D_may_double
  have d_is_die := ok_is_die (P := P) (w := w) (base := base) D_is_die
  have d_refusal_in := ok_refusal_in (P := P) (w := w) (base := base) TS D_refusal_in
  have d_how_it_stands := ok_how_it_stands (P := P) (w := w) (base := base) TS D_how_it_stands
  have d_call_begin := ok_call_begin TC d_begin_match D_call_begin
  have d_call_open := ok_call_open TC d_is_die d_refusal_in d_play_throw d_how_it_stands D_call_open
  have d_call_throw := ok_call_throw TC d_is_die d_refusal_in d_play_throw d_how_it_stands D_call_throw
  have d_call_double := ok_call_double TC d_refusal_in d_may_double d_how_it_stands D_call_double
  have d_call_take := ok_call_take TC d_refusal_in d_begin_turn d_how_it_stands D_call_take
  have d_points_won := ok_points_won TC d_end_game D_points_won
  have d_call_drop := ok_call_drop TC d_refusal_in d_points_won D_call_drop
  have d_pips := ok_pips (P := P) (w := w) (base := base) T0 D_pips
  have d_has_won := ok_has_won (P := P) (w := w) (base := base) T0 D_has_won
  have d_times_won := ok_times_won T0 d_has_none_beyond d_others_place D_times_won
  have d_without_die := ok_without_die (P := P) (w := w) (base := base) TU D_without_die
  have d_must_be_first_die := ok_must_be_first_die TU d_most_usable D_must_be_first_die
  have d_may_be_made := ok_may_be_made TU d_may_step d_must_be_first_die d_board_behind d_without_die d_most_usable D_may_be_made
  have d_make_step := ok_make_step TU d_board_behind d_without_die D_make_step
  have d_steps_that_may_be_made := ok_steps_that_may_be_made TU d_may_be_made D_steps_that_may_be_made
  have d_is_step := ok_is_step TU d_is_die D_is_step
  have d_call_step := ok_call_step TU d_is_step d_refusal_in d_may_be_made d_make_step d_has_won d_times_won d_points_won d_how_it_stands d_begin_turn D_call_step
  have d_call_give := ok_call_give TU d_refusal_in d_points_won D_call_give
  have d_call_now := ok_call_now TU d_how_it_stands D_call_now
  have d_call_board := ok_call_board TU d_pips D_call_board
  have d_call_steps := ok_call_steps TU d_refusal_in d_steps_that_may_be_made D_call_steps
  have d_call_may := ok_call_may TU d_is_step d_may_step D_call_may
  have d_answer_with_none := ok_answer_with_none TA d_call_double d_call_take d_call_drop d_call_now d_call_board d_call_steps D_answer_with_none
  have d_answer_to := ok_answer_to TA d_call_begin d_call_open d_call_throw d_call_step d_call_give d_call_may d_answer_with_none D_answer_to
  exact ok_answers TA (PySem.W.mg_of X G mN) nums d_answer_to d_State F0
end
end BG
open PySem PySem.W PyProof.Rows
set_option maxRecDepth 100000 in
set_option maxHeartbeats 0 in
theorem PySem.Challenge.cw_cubematch_s01_answers_holds : PySem.Challenge.rw_cubematch_s01_answers.Holds := by
  w_on; k_headS; (case hw => exact ⟨[.list [.int 9]], by decide +kernel, by decide +kernel⟩)
  k_fillS
  refine L2.walk_specK (r := PySem.Challenge.rw_cubematch_s01_answers) (k := 21) (CX := L2.CX0) (ps := ["calls"]) (sp := BG.sp_answers) (by decide +kernel) rfl rfl ⟨rfl, by decide, by decide⟩ (fun w h Y => PySem.W.kIn_of Y) ?F ?S (fun _ _ _ _ z => z)
  case F =>
    intro w mg fa h Y KX G hmg
    refine' BG.fin KX G hmg ?T0 ?TC ?TA ?hT ?mB ?b0 ?b1 ?b2 ?b3 ?b4 ?mN ?lN ?hN ?D_Game ?D_State ?D_new_side ?D_new_board ?D_others_place ?D_pips ?D_has_none_beyond ?D_may_go_off ?D_may_step ?D_board_behind ?D_most_with_first ?D_most_usable ?D_has_won ?D_times_won ?D_begin_match ?D_begin_game ?D_end_game ?D_begin_turn ?D_thrown_dice ?D_play_throw ?D_may_double ?D_without_die ?D_must_be_first_die ?D_may_be_made ?D_steps_that_may_be_made ?D_make_step ?D_is_die ?D_is_step ?D_refusal_in ?D_how_it_stands ?D_points_won ?D_call_begin ?D_call_open ?D_call_throw ?D_call_double ?D_call_take ?D_call_drop ?D_call_step ?D_call_give ?D_call_now ?D_call_board ?D_call_steps ?D_call_may ?D_answer_with_none ?D_answer_to ?a0 ?l0 ?c0 ?k0
    (case T0 => refine' ⟨?c_OFF, ?c_BAR, ?c_LAST_HOME_POINT, ?c_CHECKERS, ?z_sum, ?z_max, ?z_min, ?z_len, ?z_list, ?z_range, ?z_enumerate⟩; (case c_OFF => refine' BG.ki_mk KX G ?xa; (case xa => k_is)); (case c_BAR => refine' BG.ki_mk KX G ?xa; (case xa => k_is)); (case c_LAST_HOME_POINT => refine' BG.ki_mk KX G ?xa; (case xa => k_is)); (case c_CHECKERS => refine' BG.ki_mk KX G ?xa; (case xa => k_is)); (case z_sum => refine' PySem.W.mg_none_of KX G ?xa; (case xa => k_is)); (case z_max => refine' PySem.W.mg_none_of KX G ?xa; (case xa => k_is)); (case z_min => refine' PySem.W.mg_none_of KX G ?xa; (case xa => k_is)); (case z_len => refine' PySem.W.mg_none_of KX G ?xa; (case xa => k_is)); (case z_list => refine' PySem.W.mg_none_of KX G ?xa; (case xa => k_is)); (case z_range => refine' PySem.W.mg_none_of KX G ?xa; (case xa => k_is)); (case z_enumerate => refine' PySem.W.mg_none_of KX G ?xa; (case xa => k_is)))
    (case D_Game => refine' BG.dm0_mk KX G ?aC ?a1 ?i1 ?l1 ?c1 ?k1 ?mk ?kc (fun _ _ _ _ _ _ us hl => match us, hl with | [_, _], _ => rfl); (case aC => k_is); (case a1 => k_is); (case i1 => k_is); (case l1 => k_is); (case c1 => k_is); (case k1 => k_is); (case mk => k_is); (case kc => k_is))
    (case D_State => refine' BG.dm0_mk KX G ?aC ?a1 ?i1 ?l1 ?c1 ?k1 ?mk ?kc (fun _ _ _ _ _ _ us hl => match us, hl with | [_], _ => rfl); (case aC => k_is); (case a1 => k_is); (case i1 => k_is); (case l1 => k_is); (case c1 => k_is); (case k1 => k_is); (case mk => k_is); (case kc => k_is))
    (case TC => refine' ⟨?TS, ?c_HIGHEST_GOAL⟩; (case TS => refine' ⟨?clG, ?clS, ?n_board, ?n_turn, ?n_phase, ?n_cube, ?n_holder, ?n_doubles_let, ?n_dice, ?n_must_use, ?n_goal, ?n_points, ?n_doubles_were_off, ?n_game, ?c_OPENING, ?c_TURN, ?c_DOUBLED, ?c_STEPS, ?c_HIGHEST_CUBE, ?z_max, ?z_min, ?z_list⟩; (case clG => refine' ⟨?pg, ?ph, ?po, ?sa⟩; (case pg => k_is); (case ph => k_is); (case po => k_is); (case sa => k_is)); (case clS => refine' ⟨?pg, ?ph, ?po, ?sa⟩; (case pg => k_is); (case ph => k_is); (case po => k_is); (case sa => k_is)); (case n_board => show PySem.W.findIn _ _ _ = _; k_is); (case n_turn => show PySem.W.findIn _ _ _ = _; k_is); (case n_phase => show PySem.W.findIn _ _ _ = _; k_is); (case n_cube => show PySem.W.findIn _ _ _ = _; k_is); (case n_holder => show PySem.W.findIn _ _ _ = _; k_is); (case n_doubles_let => show PySem.W.findIn _ _ _ = _; k_is); (case n_dice => show PySem.W.findIn _ _ _ = _; k_is); (case n_must_use => show PySem.W.findIn _ _ _ = _; k_is); (case n_goal => show PySem.W.findIn _ _ _ = _; k_is); (case n_points => show PySem.W.findIn _ _ _ = _; k_is); (case n_doubles_were_off => show PySem.W.findIn _ _ _ = _; k_is); (case n_game => show PySem.W.findIn _ _ _ = _; k_is); (case c_OPENING => refine' BG.ki_mk KX G ?xa; (case xa => k_is)); (case c_TURN => refine' BG.ki_mk KX G ?xa; (case xa => k_is)); (case c_DOUBLED => refine' BG.ki_mk KX G ?xa; (case xa => k_is)); (case c_STEPS => refine' BG.ki_mk KX G ?xa; (case xa => k_is)); (case c_HIGHEST_CUBE => refine' BG.ki_mk KX G ?xa; (case xa => k_is)); (case z_max => refine' PySem.W.mg_none_of KX G ?xa; (case xa => k_is)); (case z_min => refine' PySem.W.mg_none_of KX G ?xa; (case xa => k_is)); (case z_list => refine' PySem.W.mg_none_of KX G ?xa; (case xa => k_is))); (case c_HIGHEST_GOAL => refine' BG.ki_mk KX G ?xa; (case xa => k_is)))
    (case TA => refine' ⟨?c_BEGIN, ?c_OPEN, ?c_THROW, ?c_DOUBLE, ?c_TAKE, ?c_DROP, ?c_STEP, ?c_GIVE, ?c_NOW, ?c_BOARD, ?c_MAY, ?z_len⟩; (case c_BEGIN => refine' BG.ki_mk KX G ?xa; (case xa => k_is)); (case c_OPEN => refine' BG.ki_mk KX G ?xa; (case xa => k_is)); (case c_THROW => refine' BG.ki_mk KX G ?xa; (case xa => k_is)); (case c_DOUBLE => refine' BG.ki_mk KX G ?xa; (case xa => k_is)); (case c_TAKE => refine' BG.ki_mk KX G ?xa; (case xa => k_is)); (case c_DROP => refine' BG.ki_mk KX G ?xa; (case xa => k_is)); (case c_STEP => refine' BG.ki_mk KX G ?xa; (case xa => k_is)); (case c_GIVE => refine' BG.ki_mk KX G ?xa; (case xa => k_is)); (case c_NOW => refine' BG.ki_mk KX G ?xa; (case xa => k_is)); (case c_BOARD => refine' BG.ki_mk KX G ?xa; (case xa => k_is)); (case c_MAY => refine' BG.ki_mk KX G ?xa; (case xa => k_is)); (case z_len => refine' PySem.W.mg_none_of KX G ?xa; (case xa => k_is)))
    (case hT => refine' BG.ki_mk KX G ?xa; (case xa => k_is))
    (case mB => k_is)
    (case mN => k_is)
    (case lN => k_is)
    (case hN => decide +kernel)
    (case b0 => refine' BG.tup_mk ?tl ?tc ?td ?tz ?tv; (case tl => k_is); (case tc => rfl); (case td => rfl); (case tz => decide); (case tv => exact .cons rfl (.cons rfl (.cons rfl (.cons rfl .nil)))))
    (case b1 => refine' BG.tup_mk ?tl ?tc ?td ?tz ?tv; (case tl => k_is); (case tc => rfl); (case td => rfl); (case tz => decide); (case tv => exact .cons ⟨_, rfl⟩ (.cons ⟨_, rfl⟩ .nil)))
    (case b2 => refine' BG.tup_mk ?tl ?tc ?td ?tz ?tv; (case tl => k_is); (case tc => rfl); (case td => rfl); (case tz => decide); (case tv => exact .cons ⟨_, rfl⟩ (.cons ⟨_, rfl⟩ .nil)))
    (case b3 => refine' BG.tup_mk ?tl ?tc ?td ?tz ?tv; (case tl => k_is); (case tc => rfl); (case td => rfl); (case tz => decide); (case tv => exact .cons ⟨_, rfl⟩ (.cons ⟨_, rfl⟩ .nil)))
    (case b4 => refine' BG.tup_mk ?tl ?tc ?td ?tz ?tv; (case tl => k_is); (case tc => rfl); (case td => rfl); (case tz => decide); (case tv => exact .cons ⟨_, rfl⟩ (.cons ⟨_, rfl⟩ .nil)))
    (case D_new_side => refine' BG.dw0_mk KX G ?a ?l ?c ?k (fun _ _ _ _ _ _ us hl => match us, hl with | [], _ => rfl); (case a => k_is); (case l => k_is); (case c => k_is); (case k => k_is))
    (case D_new_board => refine' BG.dw0_mk KX G ?a ?l ?c ?k (fun _ _ _ _ _ _ us hl => match us, hl with | [], _ => rfl); (case a => k_is); (case l => k_is); (case c => k_is); (case k => k_is))
    (case D_others_place => refine' BG.dw0_mk KX G ?a ?l ?c ?k (fun _ _ _ _ _ _ us hl => match us, hl with | [_], _ => rfl); (case a => k_is); (case l => k_is); (case c => k_is); (case k => k_is))
    (case D_pips => refine' BG.dw0_mk KX G ?a ?l ?c ?k (fun _ _ _ _ _ _ us hl => match us, hl with | [_], _ => rfl); (case a => k_is); (case l => k_is); (case c => k_is); (case k => k_is))
    (case D_has_none_beyond => refine' BG.dw0_mk KX G ?a ?l ?c ?k (fun _ _ _ _ _ _ us hl => match us, hl with | [_, _], _ => rfl); (case a => k_is); (case l => k_is); (case c => k_is); (case k => k_is))
    (case D_may_go_off => refine' BG.dw0_mk KX G ?a ?l ?c ?k (fun _ _ _ _ _ _ us hl => match us, hl with | [_, _, _], _ => rfl); (case a => k_is); (case l => k_is); (case c => k_is); (case k => k_is))
    (case D_may_step => refine' BG.dw0_mk KX G ?a ?l ?c ?k (fun _ _ _ _ _ _ us hl => match us, hl with | [_, _, _, _], _ => rfl); (case a => k_is); (case l => k_is); (case c => k_is); (case k => k_is))
    (case D_board_behind => refine' BG.dw0_mk KX G ?a ?l ?c ?k (fun _ _ _ _ _ _ us hl => match us, hl with | [_, _, _, _], _ => rfl); (case a => k_is); (case l => k_is); (case c => k_is); (case k => k_is))
    (case D_most_with_first => refine' BG.dw0_mk KX G ?a ?l ?c ?k (fun _ _ _ _ _ _ us hl => match us, hl with | [_, _, _, _], _ => rfl); (case a => k_is); (case l => k_is); (case c => k_is); (case k => k_is))
    (case D_most_usable => refine' BG.dw0_mk KX G ?a ?l ?c ?k (fun _ _ _ _ _ _ us hl => match us, hl with | [_, _, _], _ => rfl); (case a => k_is); (case l => k_is); (case c => k_is); (case k => k_is))
    (case D_has_won => refine' BG.dw0_mk KX G ?a ?l ?c ?k (fun _ _ _ _ _ _ us hl => match us, hl with | [_, _], _ => rfl); (case a => k_is); (case l => k_is); (case c => k_is); (case k => k_is))
    (case D_times_won => refine' BG.dw0_mk KX G ?a ?l ?c ?k (fun _ _ _ _ _ _ us hl => match us, hl with | [_, _], _ => rfl); (case a => k_is); (case l => k_is); (case c => k_is); (case k => k_is))
    (case D_begin_match => refine' BG.dw0_mk KX G ?a ?l ?c ?k (fun _ _ _ _ _ _ us hl => match us, hl with | [_, _], _ => rfl); (case a => k_is); (case l => k_is); (case c => k_is); (case k => k_is))
    (case D_begin_game => refine' BG.dw0_mk KX G ?a ?l ?c ?k (fun _ _ _ _ _ _ us hl => match us, hl with | [_], _ => rfl); (case a => k_is); (case l => k_is); (case c => k_is); (case k => k_is))
    (case D_end_game => refine' BG.dw0_mk KX G ?a ?l ?c ?k (fun _ _ _ _ _ _ us hl => match us, hl with | [_, _, _], _ => rfl); (case a => k_is); (case l => k_is); (case c => k_is); (case k => k_is))
    (case D_begin_turn => refine' BG.dw0_mk KX G ?a ?l ?c ?k (fun _ _ _ _ _ _ us hl => match us, hl with | [_, _], _ => rfl); (case a => k_is); (case l => k_is); (case c => k_is); (case k => k_is))
    (case D_thrown_dice => refine' BG.dw0_mk KX G ?a ?l ?c ?k (fun _ _ _ _ _ _ us hl => match us, hl with | [_, _], _ => rfl); (case a => k_is); (case l => k_is); (case c => k_is); (case k => k_is))
    (case D_play_throw => refine' BG.dw0_mk KX G ?a ?l ?c ?k (fun _ _ _ _ _ _ us hl => match us, hl with | [_, _, _, _], _ => rfl); (case a => k_is); (case l => k_is); (case c => k_is); (case k => k_is))
    (case D_may_double => refine' BG.dw0_mk KX G ?a ?l ?c ?k (fun _ _ _ _ _ _ us hl => match us, hl with | [_], _ => rfl); (case a => k_is); (case l => k_is); (case c => k_is); (case k => k_is))
    (case D_without_die => refine' BG.dw0_mk KX G ?a ?l ?c ?k (fun _ _ _ _ _ _ us hl => match us, hl with | [_, _], _ => rfl); (case a => k_is); (case l => k_is); (case c => k_is); (case k => k_is))
    (case D_must_be_first_die => refine' BG.dw0_mk KX G ?a ?l ?c ?k (fun _ _ _ _ _ _ us hl => match us, hl with | [_], _ => rfl); (case a => k_is); (case l => k_is); (case c => k_is); (case k => k_is))
    (case D_may_be_made => refine' BG.dw0_mk KX G ?a ?l ?c ?k (fun _ _ _ _ _ _ us hl => match us, hl with | [_, _, _], _ => rfl); (case a => k_is); (case l => k_is); (case c => k_is); (case k => k_is))
    (case D_steps_that_may_be_made => refine' BG.dw0_mk KX G ?a ?l ?c ?k (fun _ _ _ _ _ _ us hl => match us, hl with | [_], _ => rfl); (case a => k_is); (case l => k_is); (case c => k_is); (case k => k_is))
    (case D_make_step => refine' BG.dw0_mk KX G ?a ?l ?c ?k (fun _ _ _ _ _ _ us hl => match us, hl with | [_, _, _], _ => rfl); (case a => k_is); (case l => k_is); (case c => k_is); (case k => k_is))
    (case D_is_die => refine' BG.dw0_mk KX G ?a ?l ?c ?k (fun _ _ _ _ _ _ us hl => match us, hl with | [_], _ => rfl); (case a => k_is); (case l => k_is); (case c => k_is); (case k => k_is))
    (case D_is_step => refine' BG.dw0_mk KX G ?a ?l ?c ?k (fun _ _ _ _ _ _ us hl => match us, hl with | [_, _], _ => rfl); (case a => k_is); (case l => k_is); (case c => k_is); (case k => k_is))
    (case D_refusal_in => refine' BG.dw0_mk KX G ?a ?l ?c ?k (fun _ _ _ _ _ _ us hl => match us, hl with | [_, _], _ => rfl); (case a => k_is); (case l => k_is); (case c => k_is); (case k => k_is))
    (case D_how_it_stands => refine' BG.dw0_mk KX G ?a ?l ?c ?k (fun _ _ _ _ _ _ us hl => match us, hl with | [_], _ => rfl); (case a => k_is); (case l => k_is); (case c => k_is); (case k => k_is))
    (case D_points_won => refine' BG.dw0_mk KX G ?a ?l ?c ?k (fun _ _ _ _ _ _ us hl => match us, hl with | [_, _, _], _ => rfl); (case a => k_is); (case l => k_is); (case c => k_is); (case k => k_is))
    (case D_call_begin => refine' BG.dw0_mk KX G ?a ?l ?c ?k (fun _ _ _ _ _ _ us hl => match us, hl with | [_, _], _ => rfl); (case a => k_is); (case l => k_is); (case c => k_is); (case k => k_is))
    (case D_call_open => refine' BG.dw0_mk KX G ?a ?l ?c ?k (fun _ _ _ _ _ _ us hl => match us, hl with | [_, _, _], _ => rfl); (case a => k_is); (case l => k_is); (case c => k_is); (case k => k_is))
    (case D_call_throw => refine' BG.dw0_mk KX G ?a ?l ?c ?k (fun _ _ _ _ _ _ us hl => match us, hl with | [_, _, _], _ => rfl); (case a => k_is); (case l => k_is); (case c => k_is); (case k => k_is))
    (case D_call_double => refine' BG.dw0_mk KX G ?a ?l ?c ?k (fun _ _ _ _ _ _ us hl => match us, hl with | [_], _ => rfl); (case a => k_is); (case l => k_is); (case c => k_is); (case k => k_is))
    (case D_call_take => refine' BG.dw0_mk KX G ?a ?l ?c ?k (fun _ _ _ _ _ _ us hl => match us, hl with | [_], _ => rfl); (case a => k_is); (case l => k_is); (case c => k_is); (case k => k_is))
    (case D_call_drop => refine' BG.dw0_mk KX G ?a ?l ?c ?k (fun _ _ _ _ _ _ us hl => match us, hl with | [_], _ => rfl); (case a => k_is); (case l => k_is); (case c => k_is); (case k => k_is))
    (case D_call_step => refine' BG.dw0_mk KX G ?a ?l ?c ?k (fun _ _ _ _ _ _ us hl => match us, hl with | [_, _, _], _ => rfl); (case a => k_is); (case l => k_is); (case c => k_is); (case k => k_is))
    (case D_call_give => refine' BG.dw0_mk KX G ?a ?l ?c ?k (fun _ _ _ _ _ _ us hl => match us, hl with | [_, _], _ => rfl); (case a => k_is); (case l => k_is); (case c => k_is); (case k => k_is))
    (case D_call_now => refine' BG.dw0_mk KX G ?a ?l ?c ?k (fun _ _ _ _ _ _ us hl => match us, hl with | [_], _ => rfl); (case a => k_is); (case l => k_is); (case c => k_is); (case k => k_is))
    (case D_call_board => refine' BG.dw0_mk KX G ?a ?l ?c ?k (fun _ _ _ _ _ _ us hl => match us, hl with | [_], _ => rfl); (case a => k_is); (case l => k_is); (case c => k_is); (case k => k_is))
    (case D_call_steps => refine' BG.dw0_mk KX G ?a ?l ?c ?k (fun _ _ _ _ _ _ us hl => match us, hl with | [_], _ => rfl); (case a => k_is); (case l => k_is); (case c => k_is); (case k => k_is))
    (case D_call_may => refine' BG.dw0_mk KX G ?a ?l ?c ?k (fun _ _ _ _ _ _ us hl => match us, hl with | [_, _, _], _ => rfl); (case a => k_is); (case l => k_is); (case c => k_is); (case k => k_is))
    (case D_answer_with_none => refine' BG.dw0_mk KX G ?a ?l ?c ?k (fun _ _ _ _ _ _ us hl => match us, hl with | [_, _], _ => rfl); (case a => k_is); (case l => k_is); (case c => k_is); (case k => k_is))
    (case D_answer_to => refine' BG.dw0_mk KX G ?a ?l ?c ?k (fun _ _ _ _ _ _ us hl => match us, hl with | [_, _, _], _ => rfl); (case a => k_is); (case l => k_is); (case c => k_is); (case k => k_is))
    (case a0 => k_is); (case l0 => k_is); (case c0 => k_is); (case k0 => k_is)
  case S =>
    intro K H xs a hO hwi hask hx
    cases hx with
    | cons h1 h2 =>
      cases h2
      cases h1 with
      | lst hs ha =>
        have e := L2.ints_dw a.1 _ ha
        subst e
        have q : ((Codec.inLen 0 1000 a.1 && a.1.all (Codec.inInt (-2147483648) 2147483647)) && true) = true := hwi
        rw [Bool.and_eq_true, Bool.and_eq_true] at q
        exact ⟨_, a.1, rfl, hs, (Codec.inNat_iff.mp q.1.1).2, hask, fun H' p hp => .lst (L2.SqL.of hp) (L2.dw_ints _)⟩
