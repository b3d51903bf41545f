/-
  Steps that lead where one may go.
-/
import Derived.Test.YtbploaihicakeaaPart31
import Derived.Test.YtbploaihicakeaaPart33
import Derived.Test.YtbploaihicakeaaPart13
import Derived.Test.YtbploaihicakeaaPart29
namespace Go.Proofs.Ytbploaihicakeaa
open Go.RowKit

theorem Nv.step_pos (F : Nat → Int) (st : Nat → Bool) (m : Nat) : Nv.step F st m = 0 ∨ ∃ k p : Nat, 1 ≤ k ∧ k ≤ 4 ∧ Nv.step F st m = (k : Int) ∧ 1 ≤ F m ∧ Nv.next m k = (p : Int) ∧ p < 384 ∧ F p = F m - 1 ∧ st p = false := by
  unfold Nv.step
  by_cases h : F m < 1
  · rw [if_pos h]; exact .inl rfl
  rw [if_neg h]
  have key : ∀ n i : Nat, Nv.wayFrom (Nv.may F st m) n i = 0 ∨ ∃ k : Nat, i ≤ k ∧ k < i + n ∧ Nv.wayFrom (Nv.may F st m) n i = (k : Int) ∧ Nv.may F st m k = true := by
    intro n
    induction n with
    | zero => intro i; exact .inl rfl
    | succ n ih =>
      intro i
      unfold Nv.wayFrom
      by_cases e : Nv.may F st m i = true
      · rw [if_pos e]; exact .inr ⟨i, by omega, by omega, rfl, e⟩
      · rw [if_neg e]
        rcases ih (i + 1) with h0 | ⟨k, h1, h2, h3⟩
        · exact .inl h0
        · exact .inr ⟨k, by omega, by omega, h3⟩
  rcases key 4 1 with h0 | ⟨k, h1, h2, h3, h4⟩
  · exact .inl h0
  · right
    rcases Nv.next_cases m k with e | ⟨p, hp, e⟩
    · rw [Nv.may_out e] at h4; cases h4
    · rw [Nv.may_in e] at h4
      simp only [Bool.and_eq_true, decide_eq_true_eq, Bool.not_eq_true'] at h4
      exact ⟨k, p, h1, by omega, h3, by omega, e, hp, h4.1, h4.2⟩

theorem Nv.reach_walk {f t : Nat → Int} {tlen blen : Nat} {g : Nat → Bool} {F : Nat → Int} (h : Gr.IsField (fun i => Gr.openB f blen g i = true) (Gr.tgt f t tlen) F) {p : Nat} (hp : p < 384) (h0 : 0 ≤ F p) : Gr.walkB (f p) = true := by
  by_cases e : F p = 0
  · exact ((h.zero p hp).1 e).1
  · have ho := (h.back p hp (by omega)).1
    by_cases hw : Gr.walkB (f p) = true
    · exact hw
    · rw [Bool.not_eq_true] at hw
      rw [Gr.open_no hw] at ho
      cases ho

theorem Nv.way_zero {q : Nat → Bool} : ∀ (n i : Nat), 1 ≤ i → Nv.wayFrom q n i = 0 → ∀ j, i ≤ j → j < i + n → q j = false
  | 0, _, _, _, j, h1, h2 => by omega
  | n + 1, i, hi, h, j, h1, h2 => by
      unfold Nv.wayFrom at h
      by_cases e : q i = true
      · rw [if_pos e] at h; omega
      · rw [if_neg e] at h
        by_cases ej : j = i
        · rw [ej]; simpa using e
        · exact Nv.way_zero n (i + 1) (by omega) h j (by omega) (by omega)

theorem Nv.way_dir {d : Nat} (hd : d < 4) : Fx.way ((d + 1 : Nat) : Int) = (Gr.dxOf d, Gr.dyOf d) := by
  rcases (show d = 0 ∨ d = 1 ∨ d = 2 ∨ d = 3 by omega) with rfl | rfl | rfl | rfl <;> rfl

theorem Nv.next_dir {m d : Nat} (hd : d < 4) (h : Gr.nbIn m d) : Nv.next m (d + 1) = ((Gr.nbOf m d : Nat) : Int) := by
  have e := Gr.nb_eq h
  unfold Nv.next Nv.num
  rw [Nv.way_dir hd, if_pos (by rw [Gr.inB_iff]; unfold Gr.nbIn at h; simp only; omega), e]

/-- Where nobody stands there is a step to each cell but the target that is reached. -/
theorem Nv.step_on {op tg : Nat → Prop} {H : Nat → Int} (h : Gr.IsField op tg H) {st : Nat → Bool} (hst : ∀ i, st i = false) {m : Nat} (hm : m < 384) (h1 : 1 ≤ H m) : ∃ k p : Nat, 1 ≤ k ∧ k ≤ 4 ∧ Nv.step H st m = (k : Int) ∧ Nv.next m k = (p : Int) ∧ p < 384 ∧ H p = H m - 1 := by
  rcases Nv.step_pos H st m with hz | ⟨k, p, k1, k4, hk, _, hn, hp, hF, _⟩
  · exfalso
    unfold Nv.step at hz
    rw [if_neg (by omega)] at hz
    obtain ⟨_, j, d, hj, hd, hn, rfl, he⟩ := h.back m hm (by omega)
    obtain ⟨b1, b2⟩ := Gr.nb_back hj hd hn
    have hq := Nv.way_zero 4 1 (by omega) hz (Gr.opp d + 1) (by omega) (by have := Gr.opp_lt hd; omega)
    have hx := Nv.next_dir (Gr.opp_lt hd) b1
    rw [b2] at hx
    rw [Nv.may_in hx, hst, he, decide_eq_true rfl] at hq
    cases hq
  · exact ⟨k, p, k1, k4, hk, hn, hp, hF⟩

theorem Nv.st_none (E : Nat → Nat → Int) (i : Nat) : Nv.st E 0 i = false := rfl

theorem Nv.empty_field {cs t : Nat → Int} {tlen : Nat} {E : Nat → Nat → Int} {m : Nat} {H : Nat → Int} (h : Gr.IsField (fun i => Gr.openB cs 0 (fun _ => false) i = true) (Gr.tgt cs t tlen) H) : Gr.IsField (fun i => Gr.openB cs 384 (Nv.blk E 0 m) i = true) (Gr.tgt cs t tlen) H :=
  Gn.isField_congr h (fun i _ => by
    unfold Gr.openB Nv.blk
    rw [Nv.st_none]
    simp) (fun _ _ => Iff.rfl) (fun _ _ => rfl)

/-- On a floor each cell that can be walked on is reached from each other one. -/
theorem Nv.Floor.all {cs : Nat → Int} (hf : Nv.Floor cs) {H : Nat → Int} {b : Nat} (hb : b < 384) (hcb : cs b ≠ 0) (h : Gr.IsField (fun i => Gr.openB cs 0 (fun _ => false) i = true) (Gr.tgt cs (fun _ => (b : Int)) 1) H) (i : Nat) (hi : i < 384) (hci : cs i ≠ 0) : 0 ≤ H i := by
  have hw : ∀ j, cs j ≠ 0 → Gr.walkB (cs j) = true := fun j hj => (Gn.walk_nz (hf.five j)).2 hj
  refine hf.hang (fun j => 0 ≤ H j) ?_ b hb hcb ?_ i hi hci
  · intro j e hj he hP hn hc
    exact (h.fwd j hj hP e he hn (by show Gr.openB cs 0 (fun _ => false) _ = true; exact Gr.open_past (hw _ hc) (by omega))).1
  · have : H b = 0 := (h.zero b hb).2 ⟨hw b hcb, 0, by omega, rfl⟩
    show 0 ≤ H b
    omega

theorem Gn.those_at {p : Nat → Bool} {n i : Nat} (hi : i < (Gn.those p n).length) : ∃ c : Nat, (Gn.those p n)[i]? = some c ∧ c < n ∧ p c = true := by
  refine ⟨(Gn.those p n)[i], List.getElem?_eq_getElem hi, ?_⟩
  have h := List.getElem_mem hi
  unfold Gn.those at h
  rw [List.mem_filter, List.mem_range] at h
  exact h

theorem natInts_is {l : List Nat} {i c : Nat} (h : l[i]? = some c) : (natInts l)[i]?.getD 0 = (c : Int) := by
  unfold natInts
  rw [List.getElem?_map, h]
  rfl

theorem Gn.those_pos {p : Nat → Bool} {n i : Nat} (hi : i < n) (h : p i = true) : 0 < (Gn.those p n).length := by
  refine List.length_pos_of_mem (a := i) ?_
  unfold Gn.those
  rw [List.mem_filter, List.mem_range]
  exact ⟨hi, h⟩

theorem Nv.from_is (dx dy : Int) : ∀ (m k : Nat), Nv.besideFrom dx dy m k = 0 ∨ ∃ j : Nat, k ≤ j ∧ j < k + m ∧ Nv.besideFrom dx dy m k = (j : Int) ∧ (Fx.way (j : Int)).1 = dx ∧ (Fx.way (j : Int)).2 = dy
  | 0, _ => .inl rfl
  | m + 1, k => by
    unfold Nv.besideFrom
    by_cases e : (Fx.way (k : Int)).1 = dx ∧ (Fx.way (k : Int)).2 = dy
    · rw [if_pos e]; exact .inr ⟨k, by omega, by omega, rfl, e⟩
    · rw [if_neg e]
      rcases Nv.from_is dx dy m (k + 1) with h | ⟨j, h1, h2, h3⟩
      · exact .inl h
      · exact .inr ⟨j, by omega, by omega, h3⟩

theorem Nv.way_is (q : Nat → Bool) : ∀ (m k : Nat), Nv.wayFrom q m k = 0 ∨ ∃ j : Nat, k ≤ j ∧ j < k + m ∧ Nv.wayFrom q m k = (j : Int) ∧ q j = true
  | 0, _ => .inl rfl
  | m + 1, k => by
    unfold Nv.wayFrom
    by_cases e : q k = true
    · rw [if_pos e]; exact .inr ⟨k, by omega, by omega, rfl, e⟩
    · rw [if_neg e]
      rcases Nv.way_is q m (k + 1) with h | ⟨j, h1, h2, h3⟩
      · exact .inl h
      · exact .inr ⟨j, by omega, by omega, h3⟩

/-- A step of Toward. -/
theorem Md.toward_may {c t : Nat → Int} {tlen : Nat} {E : Nat → Nat → Int} {x y v : Int} (h : Nv.IsToward c t tlen E 32 x y v) : v = 0 ∨ ((1 ≤ v ∧ v ≤ 4) ∧ Gr.walkB (Gr.at 384 c (x + (Fx.way v).1) (y + (Fx.way v).2)) = true ∧ En.first (En.atQ E (x + (Fx.way v).1) (y + (Fx.way v).2)) 32 < 0) := by
  rcases h with ⟨_, h0⟩ | ⟨m, F, hm, hF, rfl⟩
  · exact .inl h0
  rcases Nv.step_pos F (Nv.st E 32) m with h0 | ⟨k, p, k1, k4, hk, hF1, hn, hp, hFp, hst⟩
  · exact .inl h0
  refine .inr ?_
  rw [hk]
  obtain ⟨ex, ey, hm4⟩ := Nv.num_at hm
  unfold Nv.next at hn
  obtain ⟨e1, e2, _⟩ := Nv.num_at hn
  rw [ex, ey, e1, e2]
  have hw := Nv.reach_walk hF hp (by omega)
  have hat : Gr.at 384 c ((p % 24 : Nat) : Int) ((p / 24 : Nat) : Int) = c p := by
    unfold Gr.at
    rw [if_pos ⟨(Gr.inB_iff _ _).2 (by omega), by omega⟩]
    congr 1
    omega
  rw [hat]
  unfold Nv.st at hst
  simp only [decide_eq_false_iff_not] at hst
  exact ⟨by omega, hw, by omega⟩

theorem Md.Seen.row {c : Nat → Int} {E : Nat → Nat → Int} {x y : Int} : ∀ {t : Nat} {b a : Int}, Md.Seen c E x y t b a → a = -1 ∨ ∃ h : Nat, h < 32 ∧ a = (h : Int) ∧ E h 0 = 1
  | 0, b, a, h => .inl h.2
  | t + 1, b, a, h => by
    obtain ⟨b0, a0, hs, hc⟩ := h
    have ih := Md.Seen.row hs
    rcases hc with ⟨_, _, ha⟩ | ⟨k, r, hk, _, hc⟩
    · rw [ha]; exact ih
    · rcases hc with ⟨_, _, ha⟩ | ⟨_, _, ha⟩
      · obtain ⟨j, hj, he, h0, _⟩ := Md.hero_row (E := E) (seat := (t : Int)) (by omega)
        obtain rfl : j = k := by omega
        exact .inr ⟨j, hj, ha, h0⟩
      · rw [ha]; exact ih

/-- What stands at a cell is the one that stands there. -/
theorem Md.alone {c : Nat → Int} {E : Nat → Nat → Int} (hS : Ft.Stands c E) {k : Nat} (hk : k < 32) (k0 : E k 0 ≠ 0) : En.first (En.atQ E (E k 3) (E k 4)) 32 = (k : Int) := by
  rcases En.first_cases (En.atQ E (E k 3) (E k 4)) 32 with ⟨_, hno⟩ | ⟨j, hj, he, hq, _⟩
  · have := hno k hk
    simp [En.atQ, k0] at this
  · simp only [En.atQ, Bool.and_eq_true, decide_eq_true_eq, Bool.not_eq_true', decide_eq_false_iff_not] at hq
    have h1 : E j 0 ≠ 0 := by have := hq; omega
    have h2 : E j 3 = E k 3 := by have := hq; omega
    have h3 : E j 4 = E k 4 := by have := hq; omega
    rw [he, hS.apart j k hj hk h1 k0 h2 h3]

theorem Md.at_stand {c : Nat → Int} {E : Nat → Nat → Int} (hS : Ft.Stands c E) {k : Nat} (hk : k < 32) (k0 : E k 0 ≠ 0) : Gr.walkB (Gr.at 384 c (E k 3) (E k 4)) = true := by
  obtain ⟨a1, a2, a3, a4, a5⟩ := hS.on k hk k0
  unfold Gr.at
  rw [if_pos ⟨(Gr.inB_iff _ _).2 (by omega), by omega⟩]
  exact a5

/-- What a monster wants may be done. -/
def Md.MonMay (c : Nat → Int) (E : Nat → Nat → Int) (k : Nat) (v : Int) : Prop := v = 0 ∨ ((1 ≤ v ∧ v ≤ 4) ∧ 2 ≤ E k 0 ∧ Gr.walkB (Gr.at 384 c (E k 3 + (Fx.way v).1) (E k 4 + (Fx.way v).2)) = true ∧ (En.first (En.atQ E (E k 3 + (Fx.way v).1) (E k 4 + (Fx.way v).2)) 32 = -1 ∨ ∃ j : Nat, j < 32 ∧ En.first (En.atQ E (E k 3 + (Fx.way v).1) (E k 4 + (Fx.way v).2)) 32 = (j : Int) ∧ E j 0 = 1))

theorem Md.first_neg {q : Nat → Bool} {n : Nat} (h : En.first q n < 0) : En.first q n = -1 := by
  rcases En.first_cases q n with ⟨he, _⟩ | ⟨k, _, he, _⟩
  · exact he
  · omega

theorem Md.mon_may {s c : Nat → Int} {E I : Nat → Nat → Int} (hF : Ft.Fit c E I) (hS : Ft.Stands c E) {k : Nat} (hk : k < 32) {v : Int} (h : Md.IsMonster s c E (k : Int) v) : Md.MonMay c E k v := by
  unfold Md.IsMonster at h
  rw [Int.toNat_natCast] at h
  by_cases hn : ((k : Int) < 0 ∨ 32 ≤ (k : Int)) ∨ E k 0 = 0 ∨ E k 0 = 1
  · rw [if_pos hn] at h; exact .inl h
  rw [if_neg hn] at h
  have k0 : E k 0 ≠ 0 := by omega
  have ht := (hF.rows k hk).taken k0
  have hk2 : 2 ≤ E k 0 := by omega
  obtain ⟨b, a, hs, hc⟩ := h
  rcases hc with ⟨_, hv⟩ | ⟨j, ha, hv⟩
  · rw [hv]
    unfold Md.stray
    generalize Dc.die 8 (s 0) [s 1, (k : Int), 90] = d
    by_cases hd : (1 ≤ d ∧ d ≤ 4) ∧ Gr.walkB (Gr.at 384 c (E k 3 + (Fx.way d).1) (E k 4 + (Fx.way d).2)) = true ∧ En.first (En.atQ E (E k 3 + (Fx.way d).1) (E k 4 + (Fx.way d).2)) 32 < 0
    · rw [if_pos hd]; exact .inr ⟨hd.1, hk2, hd.2.1, .inl (Md.first_neg hd.2.2)⟩
    · rw [if_neg hd]; exact .inl rfl
  · rcases hs.row with ha' | ⟨h, hh, ha', h1⟩
    · omega
    obtain rfl : h = j := by omega
    by_cases hb : 0 < Nv.beside (E h 3 - E k 3) (E h 4 - E k 4)
    · rw [if_pos hb] at hv
      unfold Nv.beside at hb hv
      rcases Nv.from_is (E h 3 - E k 3) (E h 4 - E k 4) 4 1 with h0 | ⟨d, d1, d5, hd, w1, w2⟩
      · omega
      · rw [hd] at hv
        have e1 : E k 3 + (Fx.way (d : Int)).1 = E h 3 := by omega
        have e2 : E k 4 + (Fx.way (d : Int)).2 = E h 4 := by omega
        refine .inr ?_
        rw [hv, e1, e2]
        exact ⟨by omega, hk2, Md.at_stand hS hh (by omega), .inr ⟨h, hh, Md.alone hS hh (by omega), h1⟩⟩
    · rw [if_neg hb] at hv
      rcases Md.toward_may hv with h0 | ⟨h14, hw, hf⟩
      · exact .inl h0
      · exact .inr ⟨h14, hk2, hw, .inl (Md.first_neg hf)⟩

/-- What a robot wants may be done. -/
def Md.RobMay (c : Nat → Int) (E I : Nat → Nat → Int) (seat : Int) (k : Nat) (v : Int) : Prop := v = 0 ∨ ((1 ≤ v ∧ v ≤ 4) ∧ Gr.walkB (Gr.at 384 c (E k 3 + (Fx.way v).1) (E k 4 + (Fx.way v).2)) = true ∧ (En.first (En.atQ E (E k 3 + (Fx.way v).1) (E k 4 + (Fx.way v).2)) 32 = -1 ∨ ∃ j : Nat, j < 32 ∧ En.first (En.atQ E (E k 3 + (Fx.way v).1) (E k 4 + (Fx.way v).2)) 32 = (j : Int) ∧ E j 0 ≠ 1)) ∨ (v = 5 ∧ 0 ≤ Gd.find I 40 1 (E k 3) (E k 4)) ∨ (v = 6 ∧ 0 ≤ Gd.has I 40 seat 1 1 ∧ E k 5 ≤ E k 6 / 3) ∨ (v = 9 ∧ Gr.at 384 c (E k 3) (E k 4) = 4)

theorem Md.rob_may {c : Nat → Int} {E I : Nat → Nat → Int} (hS : Ft.Stands c E) {seat : Int} {k : Nat} {v : Int} (h : Md.robotAt c E I seat k v) : Md.RobMay c E I seat k v := by
  unfold Md.robotAt at h
  by_cases h1 : E k 5 ≤ E k 6 / 3 ∧ 0 ≤ Gd.has I 40 seat 1 1
  · rw [if_pos h1] at h; exact .inr (.inr (.inr (.inl ⟨h, h1.2, h1.1⟩)))
  rw [if_neg h1] at h
  by_cases h2 : Nv.wayFrom (Md.foe E (E k 3) (E k 4)) 4 1 ≠ 0
  · rw [if_pos h2] at h
    rcases Nv.way_is (Md.foe E (E k 3) (E k 4)) 4 1 with h0 | ⟨d, d1, d5, hd, hq⟩
    · exact absurd h0 h2
    · refine .inr (.inl ?_)
      rw [h, hd]
      unfold Md.foe at hq
      simp only [Bool.and_eq_true, decide_eq_true_eq, Bool.not_eq_true', decide_eq_false_iff_not] at hq
      unfold Md.who at hq
      rcases En.first_cases (En.atQ E (E k 3 + (Fx.way (d : Int)).1) (E k 4 + (Fx.way (d : Int)).2)) 32 with ⟨he, _⟩ | ⟨j, hj, he, hqj, _⟩
      · omega
      · rw [he, Int.toNat_natCast] at hq
        simp only [En.atQ, Bool.and_eq_true, decide_eq_true_eq, Bool.not_eq_true', decide_eq_false_iff_not] at hqj
        have j0 : E j 0 ≠ 0 := by have := hqj; omega
        have e1 : E k 3 + (Fx.way (d : Int)).1 = E j 3 := by have := hqj; omega
        have e2 : E k 4 + (Fx.way (d : Int)).2 = E j 4 := by have := hqj; omega
        rw [he, e1, e2]
        exact ⟨by omega, Md.at_stand hS hj j0, .inr ⟨j, hj, rfl, hq.2⟩⟩
  rw [if_neg h2] at h
  by_cases h3 : 0 ≤ Gd.find I 40 1 (E k 3) (E k 4) ∧ (I (Gd.find I 40 1 (E k 3) (E k 4)).toNat 0 = 4 ∨ 0 ≤ Gd.slot I 40 seat)
  · rw [if_pos h3] at h; exact .inr (.inr (.inl ⟨h, h3.1⟩))
  rw [if_neg h3] at h
  by_cases h4 : Gr.at 384 c (E k 3) (E k 4) = 4
  · rw [if_pos h4] at h; exact .inr (.inr (.inr (.inr ⟨h, h4⟩)))
  rw [if_neg h4] at h
  rcases Md.toward_may h with h0 | ⟨h14, hw, hf⟩
  · exact .inl h0
  · exact .inr (.inl ⟨h14, hw, .inl (Md.first_neg hf)⟩)

end Go.Proofs.Ytbploaihicakeaa
