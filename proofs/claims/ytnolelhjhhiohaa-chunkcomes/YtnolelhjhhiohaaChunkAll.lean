/-
  The project's Whole.
-/
import Derived.Test.YtnolelhjhhiohaaChunkWhole
namespace Go.Proofs.Ytnolelhjhhiohaa
open Go.RowKit

/-- What Whole answers: all pieces, if they are there. -/
def Ck.Owns (w : World) (tot : Nat) (has : Nat → Bool) (L : Nat → List Int) (e : Ending) (w' : World) : Prop :=
  (∃ v, e = .returned (.tuple #[v, .bool true]) ∧ 0 < tot ∧ (∀ i, i < tot → has i = true) ∧ w'.ownsRow w.heap.size 5 1 v (Ck.cat L tot).length (Ck.bys (Ck.cat L tot)) ∧ w.grownBy w' none) ∨
  (e = .returned (.tuple #[.slice none 0 0, .bool false]) ∧ (tot = 0 ∨ ∃ i, i < tot ∧ has i = false) ∧ w.grownBy w' none)

theorem Ck.Mkr.full {x : World} {base p tot : Nat} {has : Nat → Bool} {L : Nat → List Int} {V : Nat → Value} (H : Ck.Mkr x base p tot has L V) : (Ck.num has 16 != Ck.num (fun _ => true) tot) = !Ck.all tot has := by
  have e : Ck.num (fun _ => true) tot = Ck.num (fun i => decide (i < tot)) 16 := by
    have hm := H.most
    have h1 := Ck.bit_num_at (fun _ => true) hm
    have h2 := Ck.bit_num_at (fun i => decide (i < tot)) (k := 16) (by omega)
    have l1 := Ck.numN_lt (fun _ => true) tot
    have l2 := Ck.numN_lt (fun i => decide (i < tot)) 16
    have hp : 2 ^ tot ≤ 2 ^ 16 := Nat.pow_le_pow_right (by omega) hm
    rw [Ck.num_eq _ _ hm, Ck.num_eq _ 16 (by omega)]
    congr 1
    refine Nat.eq_of_testBit_eq fun i => ?_
    rw [Ck.numN_bit, Ck.numN_bit]
    by_cases q : i < tot
    · rw [decide_eq_true q, decide_eq_true (show i < 16 by omega)]
    · rw [decide_eq_false q]; simp
  show (!(Ck.num has 16 == Ck.num (fun _ => true) tot)) = _
  rw [e]
  congr 1
  cases h : Ck.all tot has with
  | true =>
    rw [beq_iff_eq]
    refine Ck.num_ext fun i hi => ?_
    by_cases q : i < tot
    · rw [decide_eq_true q]; exact Ck.all_iff.1 h i q
    · rw [decide_eq_false q]; exact H.past i (by omega) hi
  | false =>
    rw [beq_eq_false_iff_ne]
    intro q
    have : Ck.all tot has = true := Ck.all_iff.2 fun i hi => by
      have := Ck.num_inj (by omega) q i (by have := H.most; omega)
      rw [this, decide_eq_true hi]
    rw [h] at this
    cases this

theorem Ck.own_src {x : World} {base : Nat} {v : Value} {l : List Int} (h : x.ownsRow base 5 1 v l.length (Ck.bys l)) : Ck.Src x v l := by
  rcases h.2 with ⟨e1, e2⟩ | ⟨g, cap, cur, e, _⟩
  · exact .inl ⟨e1, List.length_eq_zero_iff.1 e2⟩
  · exact .inr ⟨⟨g, 0, none⟩, cap, e, fun j u q => h.cells (g := g) (by rw [e]; rfl) j u q⟩

set_option maxRecDepth 4000 in
set_option maxHeartbeats 3200000 in
theorem ckWhole_any (base p tot : Nat) (has : Nat → Bool) (L : Nat → List Int) (V : Nat → Value) (w : World) (H : Ck.Mkr w base p tot has L V) :
    Calls Try.prog 27 #[.pointer (some ⟨p, 0, none⟩)] w (Ck.Owns w tot has L) := by
  obtain ⟨c0, c1, f0⟩ := H.cells
  have hlone : (Ck.num has 16 == 0) = decide (tot = 0) := by
    have h := H.lone
    have : (Ck.num has 16 == 0) = !(Ck.num has 16 != 0) := by show _ = !!_; simp
    rw [this, h]
    by_cases e : tot = 0 <;> simp [e]
  have hfull := H.full
  have hlt := hide H.box.lt
  have h16 : (tot : Int) ≤ 16 := by have := H.most; omega
  have hmost := hide H.most
  have cA : Hid (∀ x, Calls Try.prog 31 #[.int .i64 (tot : Int)] x fun e w' => e = .returned (.int .u32 (Ck.num (fun _ => true) tot)) ∧ w' = x) := fun x => ckAll_any tot x (unhide hmost)
  obtain ⟨z, hz⟩ : ∃ z, Ck.num has 16 = z := ⟨_, rfl⟩
  obtain ⟨z', hz'⟩ : ∃ z', Ck.num (fun _ => true) tot = z' := ⟨_, rfl⟩
  rw [hz'] at cA hfull
  rw [hz] at c1 hlone hfull
  have hno : Hid ((tot = 0 ∨ ∃ i, i < tot ∧ has i = false) → ∀ x, w.grownBy x none → Ck.Owns w tot has L (.returned (.tuple #[.slice none 0 0, .bool false])) x) := fun h x hx => .inr ⟨rfl, h, hx⟩
  have hyes : Hid (0 < tot → (∀ i, i < tot → has i = true) → ∀ y v, Ck.Cat w y L v tot → Ck.Owns w tot has L (.returned (.tuple #[v, .bool true])) y) := fun h1 h2 y v h => .inl ⟨v, rfl, h1, h2, h.own, h.bel⟩
  have H0 := hide H
  obtain ⟨D, hD⟩ : ∃ D, Ck.Owns w tot has L = D := ⟨_, rfl⟩
  rw [hD] at hno hyes ⊢
  clear hD H hz hz'
  have hdd : Hid (∀ m, w.grownBy (w.drewN m) none) := fun m => grown_drew (World.grownBy.refl _ none) m
  by_cases ht : tot = 0
  · have e1 : (z == 0) = true := by rw [hlone, decide_eq_true ht]
    have hfin := hide (unhide hno (.inl ht))
    clear ht hlone hfull hyes hno cA
    go_enter Try.func27, Try.ntmps27
    go_wp2_with fail
    go_quiet (fail)
    go_wp2
    exact unhide hfin _ (unhide hdd _)
  · have e1 : (z == 0) = false := by rw [hlone, decide_eq_false ht]
    obtain ⟨b, hb⟩ : ∃ b, Ck.all tot has = b := ⟨_, rfl⟩
    rw [hb] at hfull
    cases b with
    | false =>
      have e2 : (z != z') = true := hfull
      have hfin : Hid (∀ x, w.grownBy x none → D (.returned (.tuple #[.slice none 0 0, .bool false])) x) := fun x hx => unhide hno (.inr (Classical.byContradiction fun q => by
        have : Ck.all tot has = true := Ck.all_iff.2 fun i hi => by
          cases e : has i with
          | true => rfl
          | false => exact absurd ⟨i, hi, e⟩ q
        rw [hb] at this
        cases this)) x hx
      clear ht hlone hfull hyes hno hb
      go_enter Try.func27, Try.ntmps27
      go_wp2_with fail
      go_quiet ((go_at_call 31; exact Calls.quiet_of_same (unhide cA _)))
      go_wp2
      exact unhide hfin _ (unhide hdd _)
    | true =>
      have e2 : (z != z') = false := hfull
      have hyes := hide (unhide hyes (by omega) (Ck.all_iff.1 hb))
      have hall := hide (Ck.all_iff.1 hb)
      have ht1 := hide (show 1 ≤ tot by omega)
      clear ht hlone hfull hno hb
      have cC : Hid (∀ x, w.grownBy x none → Calls Try.prog 33 #[.slice (some ⟨p, 2, none⟩) tot 16] x fun e y => ∃ v, e = .returned v ∧ Ck.Cat w y L v tot) := fun x hx => by
        have hX := (unhide H0).on hx
        refine (ckConcat_any p 2 tot 16 L V x ⟨fun i hi => hX.slot (by have := unhide hmost; omega), fun i hi => Ck.own_src (hX.piece i (by have := unhide hmost; omega) (unhide hall i hi)).1, fun i hi => (hX.piece i (by have := unhide hmost; omega) (unhide hall i hi)).2.1⟩ (unhide ht1) (unhide hmost)).mono ?_
        rintro e y ⟨v, rfl, h⟩
        exact ⟨v, rfl, owns_base h.own hx.size, grown_trans hx h.bel⟩
      clear H0
      go_enter Try.func27, Try.ntmps27
      go_wp2_with fail
      go_quiet ((go_at_call 31; exact Calls.quiet_of_same (unhide cA _)))
      have hS0 : Hid (w.grownBy (w.drewN nq).drew none) := grown_drew (unhide hdd nq) 1
      go_upto_region 3 with fail
      clear c1 e1 e2
      refine wp_region_till (h := 10) (S := fun x => Hid (w.grownBy x none)) (by kernel_rfl) ?_
      refine wpTill_take (i := 0) (v := ?_) [10] rfl (by kernel_rfl) (by kernel_rfl) (by kernel_rfl) (by kernel_rfl) (fun _ _ _ h => h) hS0 (Or.inl ⟨by rfl, ?_⟩) ?_
      rotate_left
      · intro x hSx
        clear hSx
        go_simp
        try with_reducible rfl
      simp only [Act.put, List.getElem_toArray, List.getElem_cons_zero, List.setIfInBounds_toArray, List.set_cons_succ, List.set_cons_zero]
      refine wpTill_take (i := 1) (v := ?_) [10] rfl (by kernel_rfl) (by kernel_rfl) (by kernel_rfl) (by kernel_rfl) (fun _ _ _ h => h) hS0 (Or.inl ⟨by rfl, ?_⟩) ?_
      rotate_left
      · intro x hSx
        clear hSx
        go_simp
        try with_reducible rfl
      simp only [Act.put, List.getElem_toArray, List.getElem_cons_zero, List.getElem_cons_succ, List.setIfInBounds_toArray, List.set_cons_succ, List.set_cons_zero]
      refine wpTill_take (i := 2) (v := ?_) [10] rfl (by kernel_rfl) (by kernel_rfl) (by kernel_rfl) (by kernel_rfl) (fun _ _ _ h => h) hS0 (Or.inl ⟨by rfl, ?_⟩) ?_
      rotate_left
      · intro x hSx
        clear hSx
        go_simp
        try with_reducible rfl
      simp only [Act.put, List.getElem_toArray, List.getElem_cons_zero, List.getElem_cons_succ, List.setIfInBounds_toArray, List.set_cons_succ, List.set_cons_zero]
      refine wpTill_take (i := 3) (v := ?_) [10] rfl (by kernel_rfl) (by kernel_rfl) (by kernel_rfl) (by kernel_rfl) (fun _ _ _ h => h) hS0 (Or.inl ⟨by rfl, ?_⟩) ?_
      rotate_left
      · intro x hSx
        clear hSx
        go_simp
        try with_reducible rfl
      simp only [Act.put, List.getElem_toArray, List.getElem_cons_zero, List.getElem_cons_succ, List.setIfInBounds_toArray, List.set_cons_succ, List.set_cons_zero]
      refine wpTill_take (i := 4) (v := ?_) [10] rfl (by kernel_rfl) (by kernel_rfl) (by kernel_rfl) (by kernel_rfl) (fun _ _ _ h => h) hS0 (Or.inl ⟨by rfl, ?_⟩) ?_
      rotate_left
      · intro x hSx
        clear hSx
        go_simp
        try with_reducible rfl
      simp only [Act.put, List.getElem_toArray, List.getElem_cons_zero, List.getElem_cons_succ, List.setIfInBounds_toArray, List.set_cons_succ, List.set_cons_zero]
      refine wpTill_take (i := 5) (v := ?_) [10] rfl (by kernel_rfl) (by kernel_rfl) (by kernel_rfl) (by kernel_rfl) (fun _ _ _ h => h) hS0 (Or.inl ⟨by rfl, ?_⟩) ?_
      rotate_left
      · intro x hSx
        clear hSx
        go_simp
        try with_reducible rfl
      simp only [Act.put, List.getElem_toArray, List.getElem_cons_zero, List.getElem_cons_succ, List.setIfInBounds_toArray, List.set_cons_succ, List.set_cons_zero]
      refine wpTill_take (i := 6) (v := ?_) [10] rfl (by kernel_rfl) (by kernel_rfl) (by kernel_rfl) (by kernel_rfl) (fun _ _ _ h => h) hS0 (Or.inl ⟨by rfl, ?_⟩) ?_
      rotate_left
      · intro x hSx
        have c0x := (World.cell?_of_block (a := ⟨p, 0, none⟩) ((unhide hSx).block p (unhide hlt) (by simp))).trans c0
        clear hSx
        go_simp
        try with_reducible rfl
      simp only [Act.put, List.getElem_toArray, List.getElem_cons_zero, List.getElem_cons_succ, List.setIfInBounds_toArray, List.set_cons_succ, List.set_cons_zero]
      refine wpTill_take (i := 7) (v := ?_) [10] rfl (by kernel_rfl) (by kernel_rfl) (by kernel_rfl) (by kernel_rfl) (fun _ _ _ h => h) hS0 (Or.inl ⟨by rfl, ?_⟩) ?_
      rotate_left
      · intro x hSx
        clear hSx
        go_simp
        try with_reducible rfl
      simp only [Act.put, List.getElem_toArray, List.getElem_cons_zero, List.getElem_cons_succ, List.setIfInBounds_toArray, List.set_cons_succ, List.set_cons_zero]
      refine wpTill_only (j := 8) (by kernel_rfl) rfl (fun K hK => ?_)
      go_simp
      refine (unhide cC _ (unhide hS0)).mono ?_
      rintro e y ⟨v9, rfl, hcat⟩
      have hfin2 := hide (unhide hyes y v9 hcat)
      have hS1 : Hid (w.grownBy y none) := hcat.bel
      obtain ⟨a9, c9, m9, rfl⟩ : ∃ a c m, v9 = .slice a m c := by
        rcases hcat.own.2 with ⟨e1, e2⟩ | ⟨g, c, cur, e, _⟩
        · exact ⟨none, 0, 0, e1⟩
        · exact ⟨_, c, _, e⟩
      clear hcat cC hS0
      try go_simp
      refine hK.out _ _ (fun _ => hS1) ?_
      clear hK K
      refine wpTill_take (i := 9) (v := ?_) [10] rfl (by kernel_rfl) (by kernel_rfl) (by kernel_rfl) (by kernel_rfl) (fun _ _ _ h => h) hS1 (Or.inl ⟨by rfl, ?_⟩) ?_
      rotate_left
      · intro x hSx
        clear hSx
        go_simp
        try with_reducible rfl
      simp only [Act.put, List.getElem_toArray, List.getElem_cons_zero, List.getElem_cons_succ, List.setIfInBounds_toArray, List.set_cons_succ, List.set_cons_zero]
      refine wpTill_only (j := 10) (by kernel_rfl) rfl (fun K hK => ?_)
      go_simp
      refine hK.out _ _ (fun hx => absurd (hx.symm.trans (by kernel_rfl)) Bool.false_ne_true) ?_
      clear hK K
      refine wpTill_done (by kernel_rfl) ?_ _
      go_wp2
      exact unhide hfin2

end Go.Proofs.Ytnolelhjhhiohaa
