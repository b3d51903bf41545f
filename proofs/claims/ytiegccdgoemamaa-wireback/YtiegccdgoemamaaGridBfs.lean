/-
  Fields, as numbers: what a field of steps is, that there is but one, and that going out from the targets, cell by cell in the order in which they are reached, makes it.
-/
import Derived.Test.YtiegccdgoemamaaGridMem
namespace Go.Proofs.Ytiegccdgoemamaa

namespace Gr

def dxOf : Nat → Int | 1 => 1 | 3 => -1 | _ => 0
def dyOf : Nat → Int | 0 => -1 | 2 => 1 | _ => 0

/-- Is there a cell beside cell i, in direction d? -/
def nbIn (i d : Nat) : Prop := 0 ≤ (i % 24 : Nat) + dxOf d ∧ (i % 24 : Nat) + dxOf d < 24 ∧ 0 ≤ (i / 24 : Nat) + dyOf d ∧ (i / 24 : Nat) + dyOf d < 16
def nbOf (i d : Nat) : Nat := (((i / 24 : Nat) + dyOf d) * 24 + ((i % 24 : Nat) + dxOf d)).toNat

theorem nb_eq {i d : Nat} (h : nbIn i d) : ((nbOf i d : Nat) : Int) = ((i / 24 : Nat) + dyOf d) * 24 + ((i % 24 : Nat) + dxOf d) := by
  unfold nbIn at h; unfold nbOf; omega

theorem nb_lt {i d : Nat} (h : nbIn i d) : nbOf i d < 384 := by
  have := nb_eq h
  unfold nbIn at h; omega

def opp : Nat → Nat | 0 => 2 | 1 => 3 | 2 => 0 | _ => 1

theorem opp_lt {d : Nat} (h : d < 4) : opp d < 4 := by
  match d, h with
  | 0, _ | 1, _ | 2, _ | 3, _ => decide

/-- The other way about. -/
theorem nb_back {i d : Nat} (hi : i < 384) (hd : d < 4) (h : nbIn i d) : nbIn (nbOf i d) (opp d) ∧ nbOf (nbOf i d) (opp d) = i := by
  have e := nb_eq h
  have key : nbIn (nbOf i d) (opp d) ∧ ((nbOf i d / 24 : Nat) + dyOf (opp d)) * 24 + ((nbOf i d % 24 : Nat) + dxOf (opp d)) = (i : Int) := by
    unfold nbIn at *
    generalize nbOf i d = n at *
    match d, hd with
    | 0, _ => simp only [dxOf, dyOf, opp] at *; omega
    | 1, _ => simp only [dxOf, dyOf, opp] at *; omega
    | 2, _ => simp only [dxOf, dyOf, opp] at *; omega
    | 3, _ => simp only [dxOf, dyOf, opp] at *; omega
  refine ⟨key.1, ?_⟩
  have := nb_eq key.1
  omega

/-- What a field of steps is: 0 at the targets alone; beside each greater one, which is open, one that is one less; and from each that is reached all open ones beside are reached, at one step more at most. -/
structure IsField (op tg : Nat → Prop) (F : Nat → Int) : Prop where
  lo : ∀ i, i < 384 → -1 ≤ F i
  zero : ∀ i, i < 384 → (F i = 0 ↔ tg i)
  back : ∀ i, i < 384 → 0 < F i → op i ∧ ∃ j d, j < 384 ∧ d < 4 ∧ nbIn j d ∧ nbOf j d = i ∧ F j = F i - 1
  fwd : ∀ j, j < 384 → 0 ≤ F j → ∀ d, d < 4 → nbIn j d → op (nbOf j d) → 0 ≤ F (nbOf j d) ∧ F (nbOf j d) ≤ F j + 1

theorem IsField.le {op tg : Nat → Prop} {F H : Nat → Int} (hF : IsField op tg F) (hH : IsField op tg H) : ∀ (n : Nat) (i : Nat), i < 384 → F i = n → 0 ≤ H i ∧ H i ≤ n := by
  intro n
  induction n with
  | zero =>
    intro i hi h
    have : H i = 0 := (hH.zero i hi).2 ((hF.zero i hi).1 h)
    omega
  | succ n ih =>
    intro i hi h
    obtain ⟨hop, j, d, hj, hd, hn, rfl, he⟩ := hF.back i hi (by omega)
    have hj2 := ih j hj (by omega)
    have := hH.fwd j hj hj2.1 d hd hn hop
    omega

/-- There is but one. -/
theorem IsField.one {op tg : Nat → Prop} {F H : Nat → Int} (hF : IsField op tg F) (hH : IsField op tg H) (i : Nat) (hi : i < 384) : F i = H i := by
  have l1 := hF.lo i hi
  have l2 := hH.lo i hi
  by_cases h : 0 ≤ F i
  · have a := hF.le hH (F i).toNat i hi (by omega)
    have b := hH.le hF (H i).toNat i hi (by omega)
    omega
  · by_cases h2 : 0 ≤ H i
    · have b := hH.le hF (H i).toNat i hi (by omega)
      omega
    · omega

/-- How many of the first n are reached. -/
def cnt (F : Nat → Int) : Nat → Nat
  | 0 => 0
  | n + 1 => cnt F n + if 0 ≤ F n then 1 else 0

theorem cnt_le (F : Nat → Int) (n : Nat) : cnt F n ≤ n := by
  induction n with
  | zero => exact Nat.le_refl _
  | succ n ih => unfold cnt; split <;> omega

theorem cnt_same (F H : Nat → Int) (n : Nat) (h : ∀ i, i < n → (0 ≤ F i ↔ 0 ≤ H i)) : cnt F n = cnt H n := by
  induction n with
  | zero => rfl
  | succ n ih =>
    unfold cnt
    rw [ih fun i hi => h i (by omega)]
    have := h n (by omega)
    by_cases hn : 0 ≤ F n
    · rw [if_pos hn, if_pos (this.1 hn)]
    · rw [if_neg hn, if_neg fun hh => hn (this.2 hh)]

def upd (F : Nat → Int) (b : Nat) (v : Int) (i : Nat) : Int := if i = b then v else F i

theorem upd_at (F : Nat → Int) (b : Nat) (v : Int) : upd F b v b = v := if_pos rfl
theorem upd_ne (F : Nat → Int) {b i : Nat} (v : Int) (h : i ≠ b) : upd F b v i = F i := if_neg h

theorem cnt_upd (F : Nat → Int) (b : Nat) (v : Int) (n : Nat) (hb : b < n) (h0 : F b < 0) (hv : 0 ≤ v) : cnt (upd F b v) n = cnt F n + 1 := by
  induction n with
  | zero => omega
  | succ n ih =>
    unfold cnt
    by_cases hbn : b = n
    · subst hbn
      rw [upd_at, if_pos hv, if_neg (by omega), cnt_same (upd F b v) F b fun i hi => by rw [upd_ne F v (by omega)]]
    · rw [ih (by omega), upd_ne F v (by omega)]
      omega

/-- Going out: 'row' are the cells that are reached, in order; of the first 'at' all four sides, of the next the first d, have been looked at. -/
structure Inv (op tg : Nat → Prop) (F : Nat → Int) (row : List Nat) (at_ d : Nat) : Prop where
  lo : ∀ i, i < 384 → -1 ≤ F i
  zero : ∀ i, i < 384 → (F i = 0 ↔ tg i)
  back : ∀ i, i < 384 → 0 < F i → op i ∧ ∃ j d, j < 384 ∧ d < 4 ∧ nbIn j d ∧ nbOf j d = i ∧ F j = F i - 1
  mem : ∀ i, i < 384 → (0 ≤ F i ↔ i ∈ row)
  rng : ∀ i, i ∈ row → i < 384
  cnt : row.length = cnt F 384
  sorted : ∀ a b, a ≤ b → b < row.length → F (row[a]?.getD 0) ≤ F (row[b]?.getD 0)
  top : at_ < row.length → ∀ i, i < 384 → F i ≤ F (row[at_]?.getD 0) + 1
  seen : ∀ a e, e < 4 → a < row.length → 4 * a + e < 4 * at_ + d → nbIn (row[a]?.getD 0) e → op (nbOf (row[a]?.getD 0) e) → 0 ≤ F (nbOf (row[a]?.getD 0) e) ∧ F (nbOf (row[a]?.getD 0) e) ≤ F (row[a]?.getD 0) + 1

theorem Inv.len {op tg : Nat → Prop} {F : Nat → Int} {row : List Nat} {k d : Nat} (h : Inv op tg F row k d) : row.length ≤ 384 := by
  rw [h.cnt]; exact cnt_le _ _

theorem Inv.lt {op tg : Nat → Prop} {F : Nat → Int} {row : List Nat} {k d a : Nat} (h : Inv op tg F row k d) (ha : a < row.length) : row[a]?.getD 0 < 384 ∧ 0 ≤ F (row[a]?.getD 0) := by
  rw [List.getElem?_eq_getElem ha]
  have hm : row[a] ∈ row := List.getElem_mem ha
  have hr := h.rng _ hm
  exact ⟨hr, (h.mem _ hr).2 hm⟩

theorem Inv.high {op tg : Nat → Prop} {F : Nat → Int} {row : List Nat} {k d : Nat} (h : Inv op tg F row k d) : ∀ (n : Nat) i, i < 384 → F i = n → n ≤ 400 := by
  intro n i hi hn
  have key : ∀ m : Nat, m ≤ n → ∃ j, j < 384 ∧ F j = m := by
    intro m hm
    induction hnm : n - m generalizing m with
    | zero => exact ⟨i, hi, by omega⟩
    | succ q ih =>
      obtain ⟨j, hj, he⟩ := ih (m + 1) (by omega) (by omega)
      obtain ⟨_, j', _, hj', _, _, _, he'⟩ := h.back j hj (by omega)
      exact ⟨j', hj', by omega⟩
  by_cases hc : n ≤ 400
  · exact hc
  · exfalso
    have inj : ∀ m : Nat, m ≤ n + 1 → m ≤ (List.range 384).countP (fun i => decide (0 ≤ F i ∧ F i < m)) := by
      intro m
      induction m with
      | zero => intro _; exact Nat.zero_le _
      | succ m ih =>
        intro hm
        have h1 := ih (by omega)
        obtain ⟨j, hj, he⟩ := key m (by omega)
        have h2 : (List.range 384).countP (fun i => decide (0 ≤ F i ∧ F i < m)) < (List.range 384).countP (fun i => decide (0 ≤ F i ∧ F i < ((m + 1 : Nat) : Int))) := by
          have hs : ∀ (l : List Nat), j ∈ l → l.countP (fun i => decide (0 ≤ F i ∧ F i < m)) < l.countP (fun i => decide (0 ≤ F i ∧ F i < ((m + 1 : Nat) : Int))) := by
            intro l
            induction l with
            | nil => intro hm; cases hm
            | cons x l ih =>
              intro hm
              have hle : l.countP (fun i => decide (0 ≤ F i ∧ F i < m)) ≤ l.countP (fun i => decide (0 ≤ F i ∧ F i < ((m + 1 : Nat) : Int))) :=
                List.countP_mono_left fun y _ hy => by simp only [decide_eq_true_eq] at *; omega
              rw [List.countP_cons, List.countP_cons]
              rcases List.mem_cons.1 hm with rfl | hm
              · rw [if_neg (by simp; omega), if_pos (by simp; omega)]
                omega
              · have := ih hm
                by_cases hx : 0 ≤ F x ∧ F x < m
                · rw [if_pos (by simpa using hx), if_pos (by simp; omega)]
                  omega
                · rw [if_neg (by simpa using hx)]
                  omega
          exact hs _ (List.mem_range.2 hj)
        omega
    have := inj 401 (by omega)
    have hle : (List.range 384).countP (fun i => decide (0 ≤ F i ∧ F i < ((401 : Nat) : Int))) ≤ (List.range 384).length := List.countP_le_length
    rw [List.length_range] at hle
    omega

/-- The side that was looked at is no cell, or not open, or reached already. -/
theorem Inv.skip {op tg : Nat → Prop} {F : Nat → Int} {row : List Nat} {k d : Nat} (h : Inv op tg F row k d) (hk : k < row.length) (hd : d < 4)
    (hs : nbIn (row[k]?.getD 0) d → op (nbOf (row[k]?.getD 0) d) → 0 ≤ F (nbOf (row[k]?.getD 0) d)) : Inv op tg F row k (d + 1) := by
  refine ⟨h.lo, h.zero, h.back, h.mem, h.rng, h.cnt, h.sorted, h.top, fun a e he ha hl hn ho => ?_⟩
  by_cases hc : 4 * a + e < 4 * k + d
  · exact h.seen a e he ha hc hn ho
  · obtain rfl : a = k := by omega
    obtain rfl : e = d := by omega
    exact ⟨hs hn ho, h.top hk _ (nb_lt hn)⟩

/-- The side that was looked at is a cell, open, and not reached: it is marked, and stands last. -/
theorem Inv.mark {op tg : Nat → Prop} {F : Nat → Int} {row : List Nat} {k d : Nat} (h : Inv op tg F row k d) (htg : ∀ i, i < 384 → tg i → 0 ≤ F i) (hk : k < row.length) (hd : d < 4)
    (hn : nbIn (row[k]?.getD 0) d) (ho : op (nbOf (row[k]?.getD 0) d)) (hneg : F (nbOf (row[k]?.getD 0) d) < 0) :
    Inv op tg (upd F (nbOf (row[k]?.getD 0) d) (F (row[k]?.getD 0) + 1)) (row ++ [nbOf (row[k]?.getD 0) d]) k (d + 1) := by
  obtain ⟨hc, hc0⟩ := h.lt hk
  have hb := nb_lt hn
  have htop := h.top hk
  have hnc := h.cnt
  obtain ⟨c, hcd⟩ : ∃ c, c = row[k]?.getD 0 := ⟨_, rfl⟩
  obtain ⟨b, hbd⟩ : ∃ b, b = nbOf c d := ⟨_, rfl⟩
  rw [← hcd] at hn ho hneg hc hc0 hb htop ⊢
  rw [← hbd] at ho hneg hb ⊢
  have hbr : b ∉ row := fun hm => by have := (h.mem b hb).2 hm; omega
  have ne : ∀ i, i < 384 → 0 ≤ F i → i ≠ b := fun i _ h0 e => by rw [e] at h0; omega
  have old : ∀ i, i < 384 → 0 ≤ F i → upd F b (F c + 1) i = F i := fun i hi h0 => upd_ne F _ (ne i hi h0)
  have get : ∀ a, a < row.length → (row ++ [b])[a]?.getD 0 = row[a]?.getD 0 := fun a ha => by rw [List.getElem?_append_left ha]
  have getl : (row ++ [b])[row.length]?.getD 0 = b := by simp
  refine ⟨fun i hi => ?_, fun i hi => ?_, fun i hi hp => ?_, fun i hi => ?_, fun i hm => ?_, ?_, fun x y hxy hy => ?_, fun _ i hi => ?_, fun a e he ha hl hn' ho' => ?_⟩
  · by_cases e : i = b
    · rw [e, upd_at]; omega
    · rw [upd_ne F _ e]; exact h.lo i hi
  · by_cases e : i = b
    · rw [e, upd_at]
      constructor
      · intro hh; omega
      · intro ht
        have := htg b hb ht
        omega
    · rw [upd_ne F _ e]; exact h.zero i hi
  · by_cases e : i = b
    · subst e
      refine ⟨ho, c, d, hc, hd, hn, hbd.symm, ?_⟩
      rw [upd_at, old c hc hc0]; omega
    · rw [upd_ne F _ e] at hp ⊢
      obtain ⟨o, j, d', hj, hd', hn', hnb, he'⟩ := h.back i hi hp
      exact ⟨o, j, d', hj, hd', hn', hnb, by rw [old j hj (by omega)]; exact he'⟩
  · by_cases e : i = b
    · rw [e, upd_at]; simp; omega
    · rw [upd_ne F _ e, h.mem i hi]; simp [e]
  · rcases List.mem_append.1 hm with hm | hm
    · exact h.rng i hm
    · simp at hm; omega
  · rw [cnt_upd F b _ 384 hb hneg (by omega), List.length_append, hnc]; rfl
  · rw [List.length_append] at hy
    have hy' : y < row.length + 1 := hy
    by_cases e : y = row.length
    · rw [e, getl, upd_at]
      by_cases e2 : x = row.length
      · rw [e2, getl, upd_at]; exact Int.le_refl _
      · have hx : x < row.length := by omega
        obtain ⟨h1, h2⟩ := h.lt hx
        rw [get x hx, old _ h1 h2]
        exact htop _ h1
    · have hy2 : y < row.length := by omega
      obtain ⟨h1, h2⟩ := h.lt hy2
      obtain ⟨h3, h4⟩ := h.lt (show x < row.length by omega)
      rw [get y hy2, get x (by omega), old _ h1 h2, old _ h3 h4]
      exact h.sorted x y hxy hy2
  · rw [get k hk, ← hcd, old c hc hc0]
    by_cases e : i = b
    · rw [e, upd_at]; omega
    · rw [upd_ne F _ e]; exact htop i hi
  · by_cases ea : a = row.length
    · omega
    · have ha2 : a < row.length := by rw [List.length_append] at ha; have : a < row.length + 1 := ha; omega
      rw [get a ha2] at hn' ho' ⊢
      obtain ⟨h1, h2⟩ := h.lt ha2
      rw [old _ h1 h2]
      by_cases hc2 : 4 * a + e < 4 * k + d
      · obtain ⟨q1, q2⟩ := h.seen a e he ha2 hc2 hn' ho'
        rw [old _ (nb_lt hn') q1]
        exact ⟨q1, q2⟩
      · obtain rfl : a = k := by omega
        obtain rfl : e = d := by omega
        rw [← hcd, ← hbd, upd_at]
        omega

/-- On to the next cell. -/
theorem Inv.next {op tg : Nat → Prop} {F : Nat → Int} {row : List Nat} {k : Nat} (h : Inv op tg F row k 4) : Inv op tg F row (k + 1) 0 := by
  refine ⟨h.lo, h.zero, h.back, h.mem, h.rng, h.cnt, h.sorted, fun hk i hi => ?_, fun a e he ha hl => h.seen a e he ha (by omega)⟩
  have h1 := h.top (by omega) i hi
  have h2 := h.sorted k (k + 1) (by omega) hk
  omega

/-- All have been looked at: it is the field. -/
theorem Inv.done {op tg : Nat → Prop} {F : Nat → Int} {row : List Nat} {k : Nat} (h : Inv op tg F row k 0) (hk : row.length ≤ k) : IsField op tg F := by
  refine ⟨h.lo, h.zero, h.back, fun j hj h0 d hd hn ho => ?_⟩
  obtain ⟨a, ha, he⟩ := List.getElem_of_mem ((h.mem j hj).1 h0)
  have e : row[a]?.getD 0 = j := by rw [List.getElem?_eq_getElem ha]; exact he
  have := h.seen a d hd ha (by omega)
  rw [e] at this
  exact this hn ho

/-- At the beginning. -/
theorem Inv.start {op tg : Nat → Prop} {F : Nat → Int} {row : List Nat} (h01 : ∀ i, i < 384 → F i = 0 ∨ F i = -1) (hz : ∀ i, i < 384 → (F i = 0 ↔ tg i)) (hm : ∀ i, i < 384 → (0 ≤ F i ↔ i ∈ row)) (hr : ∀ i, i ∈ row → i < 384)
    (hc : row.length = Gr.cnt F 384) : Inv op tg F row 0 0 := by
  have z : ∀ a, a < row.length → F (row[a]?.getD 0) = 0 := fun a ha => by
    rw [List.getElem?_eq_getElem ha]
    have hmm : row[a] ∈ row := List.getElem_mem ha
    have hl := hr _ hmm
    have h0 := (hm _ hl).2 hmm
    rcases h01 _ hl with h | h
    · exact h
    · simp only [Option.getD_some]; omega
  refine ⟨fun i hi => ?_, hz, fun i hi hp => ?_, hm, hr, hc, fun a b hab hb => ?_, fun hk i hi => ?_, fun a e he ha hl => by omega⟩
  · rcases h01 i hi with h | h <;> omega
  · rcases h01 i hi with h | h <;> omega
  · rw [z a (by omega), z b hb]; exact Int.le_refl _
  · rw [z 0 hk]
    rcases h01 i hi with h | h <;> omega

end Gr

end Go.Proofs.Ytiegccdgoemamaa
