/-
  What a floor holds: one up stair, one down stair, a shop at most, five doors at most, walls about it; what its field tells.
-/
import Derived.Test.YthofgjphoahkfaaGenConn
namespace Go.Proofs.Ythofgjphoahkfaa

namespace Gn

/-- How many of the first n are v. -/
def many (c : Nat → Int) (v : Int) : Nat → Nat
  | 0 => 0
  | n + 1 => many c v n + if c n = v then 1 else 0

theorem many_one (c : Nat → Int) (v : Int) (k : Nat) : ∀ n, (∀ i, i < n → (c i = v ↔ i = k)) → many c v n = if k < n then 1 else 0
  | 0, _ => by rw [many, if_neg (by omega)]
  | n + 1, h => by
    rw [many, many_one c v k n (fun i hi => h i (by omega))]
    by_cases e : n = k
    · rw [if_neg (by omega), if_pos ((h n (by omega)).2 e), if_pos (by omega)]
    · rw [if_neg (fun h' => e ((h n (by omega)).1 h'))]
      by_cases hk : k < n
      · rw [if_pos hk, if_pos (by omega)]
      · rw [if_neg hk, if_neg (by omega)]

theorem many_none (c : Nat → Int) (v : Int) : ∀ n, (∀ i, i < n → c i ≠ v) → many c v n = 0
  | 0, _ => rfl
  | n + 1, h => by rw [many, many_none c v n (fun i hi => h i (by omega)), if_neg (h n (by omega))]

theorem many_le {c c' : Nat → Int} {v : Int} : ∀ n, (∀ i, i < n → c i = v → c' i = v) → many c v n ≤ many c' v n
  | 0, _ => Nat.le_refl _
  | n + 1, h => by
    have h1 := many_le n (fun i hi => h i (by omega))
    rw [many, many]
    by_cases e : c n = v
    · rw [if_pos e, if_pos (h n (by omega) e)]
      omega
    · rw [if_neg e]
      split <;> omega

theorem many_upd (c : Nat → Int) (v u : Int) (k : Nat) : ∀ n, many (Gr.upd c k u) v n ≤ many c v n + if u = v then 1 else 0
  | 0 => Nat.zero_le _
  | n + 1 => by
    have h1 := many_upd c v u k n
    rw [many, many]
    by_cases e : n = k
    · subst e
      have h2 : many (Gr.upd c n u) v n = many c v n := by
        have hsame : ∀ m, m ≤ n → many (Gr.upd c n u) v m = many c v m := by
          intro m
          induction m with
          | zero => intro _; rfl
          | succ m ih =>
            intro hm
            rw [many, many, ih (by omega), Gr.upd_ne _ _ (by omega)]
        exact hsame n (Nat.le_refl _)
      rw [h2, Gr.upd_at]
      split <;> split <;> omega
    · rw [Gr.upd_ne _ _ e]
      omega

theorem digAt_doors (st : (Nat → Int) × Bool) (k n : Nat) : many (digAt st k).1 2 n + (if (digAt st k).2 then 0 else 1) ≤ many st.1 2 n + (if st.2 then 0 else 1) := by
  unfold digAt
  split
  · show many (Gr.upd st.1 k (if st.2 then 1 else 2)) 2 n + 0 ≤ _
    have h := many_upd st.1 2 (if st.2 then 1 else 2) k n
    cases hs : st.2 with
    | true =>
      rw [hs] at h
      simp at h ⊢
      exact h
    | false =>
      rw [hs] at h
      simp at h ⊢
      exact h
  · exact Nat.le_refl _

theorem digRun_doors (tx ty : Int) (first : Bool) (m : Nat) : ∀ (n : Nat) (st : (Nat → Int) × Bool) (x y : Int), many (digRun tx ty first n st x y).1 2 m + (if (digRun tx ty first n st x y).2 then 0 else 1) ≤ many st.1 2 m + (if st.2 then 0 else 1)
  | 0, st, _, _ => digAt_doors st _ m
  | n + 1, st, _, _ => Nat.le_trans (digRun_doors tx ty first m n _ _ _) (digAt_doors st _ m)

theorem roomed_1 (d : Dice) : ∀ (n i : Nat), roomed d n i = 0 ∨ roomed d n i = 1
  | 0, _ => .inl rfl
  | n + 1, i => by
    have h := roomed_1 d n i
    rw [roomed, paint, paintTo]
    split
    · exact .inr rfl
    · exact h

theorem dug_doors (d : Dice) (m : Nat) : ∀ n, many (dug d n) 2 m ≤ n
  | 0 => by
    have h := many_none (dug d 0) 2 m (fun i _ => by
      show roomed d 6 i ≠ 2
      rcases roomed_1 d 6 i with h | h <;> omega)
    omega
  | n + 1 => by
    have h1 := dug_doors d m n
    have h2 := digRun_doors (mx d (n + 1)) (my d (n + 1)) (d ((n + 1 : Nat) : Int) 4 2 == 0) m (steps (mx d n) (my d n) (mx d (n + 1)) (my d (n + 1))) (dug d n, false) (mx d n) (my d n)
    rw [dug]
    simp only [Bool.false_eq_true, if_false] at h2
    omega

/-- Walls all about. -/
theorem path_in {d : Dice} (hd : Fair d) (k i : Nat) (h : path d k i) : i < 384 ∧ 1 ≤ i % 24 ∧ i % 24 ≤ 22 ∧ 1 ≤ i / 24 ∧ i / 24 ≤ 14 := by
  have key : ∀ (n : Nat) (x y : Int), (1 ≤ x ∧ x ≤ 22) ∧ 1 ≤ y ∧ y ≤ 14 → ∀ i, onPath (mx d (k + 1)) (my d (k + 1)) (d ((k + 1 : Nat) : Int) 4 2 == 0) n x y i → i < 384 ∧ 1 ≤ i % 24 ∧ i % 24 ≤ 22 ∧ 1 ≤ i / 24 ∧ i / 24 ≤ 14 := by
    have ht := mid_bd hd (k + 1)
    intro n
    induction n with
    | zero =>
      intro x y hb i hi
      have hi' : i = (y * 24 + x).toNat := hi
      omega
    | succ n ih =>
      intro x y hb i hi
      rcases hi with rfl | hi
      · omega
      · exact ih _ _ (step_bd x y _ _ _ hb (by omega)) i hi
  have hb := mid_bd hd k
  exact key _ _ _ (by omega) i h

theorem dug_in {d : Dice} (hd : Fair d) (i : Nat) (h : dug d 5 i ≠ 0) : 1 ≤ i % 24 ∧ i % 24 ≤ 22 ∧ 1 ≤ i / 24 ∧ i / 24 ≤ 14 := by
  rcases (dug_nz d 5 i).1 h with ⟨k, _, hin⟩ | ⟨k, _, hp⟩
  · have hb := room_bd hd k
    unfold inRoom at hin
    omega
  · exact (path_in hd k i hp).2

theorem up_lt {d : Dice} (hd : Fair d) : up d < 384 := by
  have := mid_bd hd 0
  unfold up
  omega

/-- The cell left of the up stair is floor of its room. -/
theorem beside_up {d : Dice} (hd : Fair d) : dug d 5 (up d - 1) ≠ 0 ∧ dug d 5 (up d) ≠ 0 ∧ 1 ≤ up d ∧ (up d - 1) / 24 = up d / 24 := by
  have hb := room_bd hd 0
  have hm := mid_in hd 0
  have hu := up_eq hd
  have hmb := mid_bd hd 0
  have hx : rx d 0 ≤ mx d 0 - 1 := by unfold mx; omega
  refine ⟨(dug_nz d 5 _).2 (.inl ⟨0, by omega, ?_⟩), (dug_nz d 5 _).2 (.inl ⟨0, by omega, ?_⟩), by omega, by omega⟩
  · have h := inRoom_at hd (k := 0) (x := mx d 0 - 1) (y := my d 0) hx (by omega) hm.2.2.1 hm.2.2.2
    rwa [show (my d 0 * 24 + (mx d 0 - 1)).toNat = up d - 1 by omega] at h
  · have h := inRoom_at hd (k := 0) (x := mx d 0) (y := my d 0) hm.1 hm.2.1 hm.2.2.1 hm.2.2.2
    rwa [show (my d 0 * 24 + mx d 0).toNat = up d by omega] at h

theorem base_up (d : Dice) : base d (up d) = 3 := Gr.upd_at _ _ _
theorem base_ne (d : Dice) {i : Nat} (h : i ≠ up d) : base d i = dug d 5 i := Gr.upd_ne _ _ h

theorem base_nz {d : Dice} (hd : Fair d) (i : Nat) : base d i ≠ 0 ↔ dug d 5 i ≠ 0 := by
  by_cases e : i = up d
  · rw [e, base_up]
    have := (beside_up hd).2.1
    constructor
    · exact fun _ => this
    · exact fun _ => by omega
  · rw [base_ne d e]

theorem walk_nz {c : Int} (h : 0 ≤ c ∧ c ≤ 5) : Gr.walkB c = true ↔ c ≠ 0 := by
  rw [Gr.walkB_iff]; omega

/-- All that a level is. -/
structure Facts (d : Dice) (c F : Nat → Int) (far : Nat) : Prop where
  five : ∀ i, 0 ≤ c i ∧ c i ≤ 5
  nz : ∀ i, c i ≠ 0 ↔ dug d 5 i ≠ 0
  upl : up d < 384
  farl : far < 384
  is3 : ∀ i, c i = 3 ↔ i = up d
  is4 : ∀ i, c i = 4 ↔ i = far
  door : ∀ i, c i = 2 → dug d 5 i = 2
  fld : Gr.IsField (fun i => Gr.walkB (c i) = true) (fun i => i = up d) F
  pos : 0 < F far
  five1 : (∀ i, c i ≠ 5) ∨ ∃ k, k < 384 ∧ ∀ i, c i = 5 ↔ i = k

theorem IsLevel.facts {d : Dice} (hd : Fair d) {c F : Nat → Int} (h : IsLevel d c F) : ∃ far, Facts d c F far := by
  have h5 := h.five
  obtain ⟨far, hF, hfar, hc⟩ := h
  refine ⟨far, ?_⟩
  have hul := up_lt hd
  obtain ⟨b1, b2, b3, b4⟩ := beside_up hd
  have hF0 : F (up d) = 0 := (hF.is.zero _ hul).2 rfl
  -- the cell left of it is one step away
  have hleft : 0 < F (up d - 1) := by
    have hin : Gr.nbIn (up d) 3 ∧ ((up d / 24 : Nat) + Gr.dyOf 3) * 24 + ((up d % 24 : Nat) + Gr.dxOf 3) = ((up d - 1 : Nat) : Int) := by
      have hdi := dug_in hd _ b2
      unfold Gr.nbIn
      simp only [Gr.dxOf, Gr.dyOf]
      omega
    have hnb : Gr.nbOf (up d) 3 = up d - 1 := by have := Gr.nb_eq hin.1; omega
    have hfw := hF.is.fwd (up d) hul (by omega) 3 (by omega) hin.1 (by rw [hnb]; exact (walk_nz (base_5 d _)).2 ((base_nz hd _).2 b1))
    rw [hnb] at hfw
    have hne : F (up d - 1) ≠ 0 := fun e => by have := (hF.is.zero (up d - 1) (by omega)).1 e; omega
    omega
  have hpos : 0 < F far := by have := hfar.top (up d - 1) (by omega); omega
  have hfu : far ≠ up d := fun e => by rw [e] at hpos; omega
  -- the furthest cell is no wall
  have hfn : base d far ≠ 0 := (walk_nz (base_5 d far)).1 ((hF.is.back far hfar.lt hpos).1)
  obtain ⟨c2, hc2⟩ : ∃ c2, c2 = Gr.upd (base d) far 4 := ⟨_, rfl⟩
  have c2far : c2 far = 4 := by rw [hc2]; exact Gr.upd_at _ _ _
  have c2ne : ∀ i, i ≠ far → c2 i = base d i := fun i hi => by rw [hc2]; exact Gr.upd_ne _ _ hi
  have c2up : c2 (up d) = 3 := by rw [c2ne _ (fun e => hfu e.symm), base_up]
  have c2old : ∀ i, i ≠ far → i ≠ up d → c2 i = dug d 5 i := fun i h1 h2 => by rw [c2ne i h1, base_ne d h2]
  -- what the shop does
  have hshop : (∀ i, c i = c2 i) ∨ ∃ k, k < 384 ∧ c2 k = 1 ∧ ∀ i, c i = if i = k then 5 else c2 i := by
    rw [hc]
    unfold stocked
    rw [← hc2]
    split
    · cases hs : shop c2 F (F far / 2) with
      | none => exact .inl fun i => rfl
      | some k =>
        right
        unfold shop at hs
        rw [List.find?_range_eq_some] at hs
        obtain ⟨hp, hk, _⟩ := hs
        rw [Bool.and_eq_true] at hp
        exact ⟨k, List.mem_range.1 hk, by simpa using hp.2, fun i => rfl⟩
    · exact .inl fun i => rfl
  have h2all : ∀ i, 0 ≤ dug d 5 i ∧ dug d 5 i ≤ 2 := dug_2 d 5
  have c2nz : ∀ i, c2 i ≠ 0 ↔ dug d 5 i ≠ 0 := by
    intro i
    by_cases e1 : i = far
    · rw [e1, c2far]
      exact ⟨fun _ => (base_nz hd far).1 hfn, fun _ => by omega⟩
    · rw [c2ne i e1]; exact base_nz hd i
  have c3 : ∀ i, c2 i = 3 ↔ i = up d := by
    intro i
    constructor
    · intro h
      by_cases e2 : i = up d
      · exact e2
      · by_cases e1 : i = far
        · rw [e1, c2far] at h; omega
        · rw [c2old i e1 e2] at h
          have := h2all i; omega
    · intro e; rw [e]; exact c2up
  have c4 : ∀ i, c2 i = 4 ↔ i = far := by
    intro i
    constructor
    · intro h
      by_cases e1 : i = far
      · exact e1
      · by_cases e2 : i = up d
        · rw [e2, c2up] at h; omega
        · rw [c2old i e1 e2] at h
          have := h2all i; omega
    · intro e; rw [e]; exact c2far
  have c5 : ∀ i, c2 i ≠ 5 := by
    intro i
    by_cases e1 : i = far
    · rw [e1, c2far]; omega
    · by_cases e2 : i = up d
      · rw [e2, c2up]; omega
      · rw [c2old i e1 e2]
        have := h2all i; omega
  have cdoor : ∀ i, c2 i = 2 → dug d 5 i = 2 := by
    intro i h
    by_cases e1 : i = far
    · rw [e1, c2far] at h; omega
    · by_cases e2 : i = up d
      · rw [e2, c2up] at h; omega
      · rw [c2old i e1 e2] at h; exact h
  have hnz : ∀ i, c i ≠ 0 ↔ dug d 5 i ≠ 0 := by
    intro i
    rcases hshop with hs | ⟨k, hk, hk1, hs⟩
    · rw [hs i]; exact c2nz i
    · rw [hs i]
      by_cases e : i = k
      · rw [if_pos e]
        have := (c2nz k).1 (by omega)
        rw [e]
        exact ⟨fun _ => this, fun _ => by omega⟩
      · rw [if_neg e]; exact c2nz i
  refine ⟨h5, hnz, hul, hfar.lt, ?_, ?_, ?_, ?_, hpos, ?_⟩
  · intro i
    rcases hshop with hs | ⟨k, hk, hk1, hs⟩
    · rw [hs i]; exact c3 i
    · rw [hs i]
      by_cases e : i = k
      · rw [if_pos e]
        constructor
        · intro h; omega
        · intro e2; rw [← e, e2, c2up] at hk1; omega
      · rw [if_neg e]; exact c3 i
  · intro i
    rcases hshop with hs | ⟨k, hk, hk1, hs⟩
    · rw [hs i]; exact c4 i
    · rw [hs i]
      by_cases e : i = k
      · rw [if_pos e]
        constructor
        · intro h; omega
        · intro e2; rw [← e, e2, c2far] at hk1; omega
      · rw [if_neg e]; exact c4 i
  · intro i hi
    rcases hshop with hs | ⟨k, hk, hk1, hs⟩
    · rw [hs i] at hi; exact cdoor i hi
    · rw [hs i] at hi
      by_cases e : i = k
      · rw [if_pos e] at hi; omega
      · rw [if_neg e] at hi; exact cdoor i hi
  · refine isField_congr hF.is (fun i _ => ?_) (fun _ _ => Iff.rfl) (fun _ _ => rfl)
    rw [walk_nz (base_5 d i), walk_nz (h5 i), base_nz hd i, hnz i]
  · rcases hshop with hs | ⟨k, hk, hk1, hs⟩
    · left
      intro i
      rw [hs i]; exact c5 i
    · right
      refine ⟨k, hk, fun i => ?_⟩
      rw [hs i]
      by_cases e : i = k
      · rw [if_pos e]; simp [e]
      · rw [if_neg e]
        constructor
        · intro h; exact absurd h (c5 i)
        · intro h; exact absurd h e

/-- Every cell that can be walked on is reached, no other one. -/
theorem Facts.reach {d : Dice} (hd : Fair d) {c F : Nat → Int} {far : Nat} (h : Facts d c F far) (i : Nat) (hi : i < 384) : 0 ≤ F i ↔ c i ≠ 0 := by
  constructor
  · intro h0
    by_cases e : F i = 0
    · have := (h.fld.zero i hi).1 e
      rw [this, (h.is3 _).2 rfl]; omega
    · exact (walk_nz (h.five i)).1 (h.fld.back i hi (by omega)).1
  · intro hc
    refine hangs hd (c := c) (fun j _ => h.nz j) (P := fun j => 0 ≤ F j) ?_ ?_ i hi hc
    · intro j e hj he hP hin hcn
      exact (h.fld.fwd j hj hP e he hin ((walk_nz (h.five _)).2 hcn)).1
    · have := (h.fld.zero _ h.upl).2 rfl
      omega

theorem findFrom_at (c : Nat → Int) (v : Int) (k : Nat) (hk : c k = v) (hn : ∀ i, i < k → c i ≠ v) : ∀ (n m : Nat), m ≤ k → k < m + n → Gr.findFrom c v n m = (k : Int)
  | 0, m, h1, h2 => by omega
  | n + 1, m, h1, h2 => by
    unfold Gr.findFrom
    by_cases e : m = k
    · rw [e, if_pos hk]
    · rw [if_neg (hn m (by omega))]
      exact findFrom_at c v k hk hn n (m + 1) (by omega) (by omega)

theorem findFrom_no (c : Nat → Int) (v : Int) (hn : ∀ i, c i ≠ v) : ∀ (n m : Nat), Gr.findFrom c v n m = -1
  | 0, m => rfl
  | n + 1, m => by
    unfold Gr.findFrom
    rw [if_neg (hn m)]
    exact findFrom_no c v hn n (m + 1)

theorem find_at {c : Nat → Int} {v : Int} {k : Nat} (hk : k < 384) (h : ∀ i, c i = v ↔ i = k) : Gr.find 384 c v = (k : Int) := by
  unfold Gr.find
  rw [show min 384 384 = 384 by omega]
  exact findFrom_at c v k ((h k).2 rfl) (fun i hi e => by have := (h i).1 e; omega) 384 0 (by omega) (by omega)

theorem find_no {c : Nat → Int} {v : Int} (h : ∀ i, c i ≠ v) : Gr.find 384 c v = -1 := findFrom_no c v h _ _

end Gn

end Go.Proofs.Ythofgjphoahkfaa
