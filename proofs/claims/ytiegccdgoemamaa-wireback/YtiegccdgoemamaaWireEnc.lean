/-
  The side that writes: bytes one behind the other, and what may not be.
-/
import Derived.Test.YtiegccdgoemamaaWireSide
import Derived.Test.YtiegccdgoemamaaWireTrade
import Derived.Test.YtiegccdgoemamaaTill
import Derived.Test.YtiegccdgoemamaaGridFree
import Derived.Test.YtiegccdgoemamaaGridSee
import Derived.Deep.AppendLies
namespace Go.Proofs.Ytiegccdgoemamaa
open Go.RowKit

/-- Bytes are gathered in a box, with a number that says what may not be. -/
def Wr.EncV (E : Nat) (x : World) (v : Value) (l : List Int) (er : Int) : Prop :=
  Arr x E 68 2 (fun j => if j = 0 then v else .int .i64 er) ∧ x.ownsRow 0 5 1 v l.length (l.map (Value.int .u8))

/-- Its blocks. -/
def Wr.encB (E : Nat) (v : Value) (b : Nat) : Prop := b = E ∨ v.ownBlock = some b

theorem Wr.wanted {c a b : Prop} [Decidable c] (hc : c) (h : a) : if c then a else b := by
  rw [if_pos hc]
  exact h

theorem Wr.encApart {x : World} {base E n : Nat} {v : Value} {F : Nat → Value} {xs : List Value} (hb : Arr x E 68 2 F) (h : x.ownsRow base 5 1 v n xs) : v.ownBlock ≠ some E := fun e => by
  obtain ⟨cur, hc, _⟩ := hb
  rcases h.2 with ⟨rfl, _⟩ | ⟨g, cap, cur', rfl, _, hc', _⟩
  · cases e
  · simp [Value.ownBlock] at e
    subst e
    rw [hc] at hc'
    simp at hc'

theorem Wr.EncV.lt {E : Nat} {x : World} {v : Value} {l : List Int} {er : Int} (h : Wr.EncV E x v l er) {b : Nat} (hb : Wr.encB E v b) : b < x.heap.size := by
  rcases hb with rfl | hb
  · obtain ⟨cur, hc, _⟩ := h.1
    exact (Array.getElem?_eq_some_iff.1 hc).1
  · exact (World.ownsRow.lt h.2 b hb).2

theorem Wr.EncV.turn {E : Nat} {x y : World} {v : Value} {l : List Int} {er : Int} {C : Nat → Prop} (h : Wr.EncV E x v l er) (ht : Turn C x y) (hC : ∀ b, Wr.encB E v b → ¬ C b) : Wr.EncV E y v l er := by
  refine ⟨h.1.turn ht (hC E (.inl rfl)), h.2.1, ?_⟩
  rcases h.2.2 with q | ⟨g, cap, cur, hv, hb, hg, r⟩
  · exact .inl q
  · exact .inr ⟨g, cap, cur, hv, hb, (ht.block g (Array.getElem?_eq_some_iff.1 hg).1 (hC g (.inr (by rw [hv]; rfl)))).trans hg, r⟩

theorem Wr.EncV.more {E : Nat} {x y : World} {v : Value} {l : List Int} {er b : Int} {g n cap : Nat} (o : Obj) (h : Wr.EncV E x v l er) (hg : (x.alloc o).grownBy y v.ownBlock)
    (hu : y.ownsRow 0 5 1 (.slice (some ⟨g, 0, none⟩) n cap) (l ++ [b]).length ((l ++ [b]).map (Value.int .u8))) (hl : v.ownBlock = some g ∨ x.heap.size ≤ g) :
    Wr.EncV E (y.setCell ⟨E, 0, none⟩ (.slice (some ⟨g, 0, none⟩) n cap)) (.slice (some ⟨g, 0, none⟩) n cap) (l ++ [b]) er ∧ Wr.K x (Wr.encB E v) (y.setCell ⟨E, 0, none⟩ (.slice (some ⟨g, 0, none⟩) n cap)) (Wr.encB E (.slice (some ⟨g, 0, none⟩) n cap)) ∧ y.frozen? ⟨E, 0, none⟩ = false ∧ y.cell? ⟨E, 0, none⟩ = some v := by
  have hba := h.1.alloc o
  have hoa := h.2.alloc o
  have hby := hba.grown hg (Wr.encApart hba hoa)
  have ht : Turn (Wr.encB E v) x y := (Turn.new (B := Wr.encB E v) (World.grownBy_alloc x o none)).trans (Turn.grown (B := Wr.encB E v) hg (fun k e => .inr e)) (fun _ _ q => q)
  refine ⟨⟨(hby.store 0 _).congr (fun i hi => by rcases (show i = 0 ∨ i = 1 by omega) with rfl | rfl <;> rfl), hu.kept (grown_set (World.grownBy.refl _ (some E)) 0 _) (Or.inr (Wr.encApart hby hu))⟩, ⟨ht.store E 0 _ (.inl rfl), fun c hc => ?_⟩, hby.free 0, hby.cell (i := 0) (by omega)⟩
  rcases hc with rfl | hc
  · exact .inl (.inl rfl)
  · have e : g = c := by simpa [Value.ownBlock] using hc
    rcases hl with hl | hl
    · exact .inl (.inr (e ▸ hl))
    · exact .inr (by omega)

/-- A number's bytes, the highest first. -/
def Wr.bytes (n : Int) (m : Nat) : List Int := (List.range m).map fun j => n / 2 ^ (8 * (m - 1 - j)) % 256

/-- The bytes are these now. -/
def Wr.Puts (E : Nat) (v : Value) (w : World) (l : List Int) (er : Int) (e : Ending) (w' : World) : Prop :=
  ∃ u, e = .returned (.tuple #[]) ∧ Wr.EncV E w' u l er ∧ Wr.K w (Wr.encB E v) w' (Wr.encB E u)

set_option maxRecDepth 8000 in
set_option maxHeartbeats 3200000 in
theorem wPut_any (E : Nat) (n : Int) (m : Nat) (hm : m ≤ 8) (v : Value) (l : List Int) (er : Int) (w : World) (H : Wr.EncV E w v l er) (hl : l.length ≤ 1000000) :
    Calls Try.prog 31 #[.pointer (some ⟨E, 0, none⟩), .int .i64 n, .int .i64 (m : Int)] w (Wr.Puts E v w (l ++ Wr.bytes n m) er) := by
  have hH := hide H
  have hM := hide hm
  have hLl := hide hl
  obtain ⟨i0, hi, hz0, hz1, hz2⟩ := info_parts info_byte
  have hs1 : IntKind.i64.wrap ((m : Int) - 1) = (m : Int) - 1 := by rw [IntKind.wrap_i64]; omega
  have hW : Hid (Wr.bytes n m = (List.range m).map fun j => n / 2 ^ (8 * (m - 1 - j)) % 256) := rfl
  clear H hm hl
  go_enter Try.func31, Try.ntmps31
  go_wp2_with fail
  go_loopw [6] (fun v6 wr => ∃ k : Nat, k ≤ m ∧ v6 = .int .i64 ((m : Int) - 1 - (k : Int)) ∧ Hid (∃ u, Wr.EncV E wr u (l ++ (List.range k).map fun j => n / 2 ^ (8 * (m - 1 - j)) % 256) er ∧ Wr.K w (Wr.encB E v) wr (Wr.encB E u))) (fun v6 _ => (intOf v6 + 1).toNat)
  case atStart => exact ⟨0, by omega, by simp, ⟨v, by simpa using unhide hH, Wr.K.refl _ _⟩⟩
  case round =>
    obtain ⟨k, hk, rfl, hX⟩ := hrel
    clear hH hs1
    obtain ⟨u, hX1, hX2⟩ := unhide hX
    by_cases hlt : k < m
    · obtain ⟨L, hL⟩ : ∃ L : Nat, L = m - 1 - k := ⟨_, rfl⟩
      have hLe : (m : Int) - 1 - (k : Int) = (L : Int) := by omega
      have hL8 : (L : Int) < 8 := by have := unhide hM; omega
      have hmul : IntKind.i64.wrap (8 * (L : Int)) = 8 * (L : Int) := by rw [IntKind.wrap_i64]; omega
      have hge : (L : Int) ≥ 0 := by omega
      have hs1 : IntKind.i64.wrap ((L : Int) - 1) = (L : Int) - 1 := by rw [IntKind.wrap_i64]; omega
      have HK := hide hX2
      have hgd : wr.grownBy wr.drew none := ⟨rfl, rfl, rfl, Nat.le_refl _, fun _ _ _ => rfl⟩
      have i1 := hX1.turn (Turn.new (B := fun _ => False) hgd) (fun _ _ q => q)
      have I1 := hide i1
      have i2 := i1.turn (Turn.new (B := fun _ => False) (World.grownBy_alloc wr.drew (.cells #[.int .u8 (n / 2 ^ (8 * L) % 256)] 5) none)) (fun _ _ q => q)
      have I2 := hide i2
      have hS0 : Hid (wr.drew.cell? ⟨E, 0, none⟩ = some u ∧ wr.drew.frozen? ⟨E, 0, none⟩ = false) := ⟨i1.1.cell (i := 0) (by omega), i1.1.free 0⟩
      have hSb : Hid ((wr.drew.alloc (.cells #[.int .u8 (n / 2 ^ (8 * L) % 256)] 5)).cell? ⟨E, 0, none⟩ = some u ∧ (wr.drew.alloc (.cells #[.int .u8 (n / 2 ^ (8 * L) % 256)] 5)).frozen? ⟨E, 0, none⟩ = false) := ⟨i2.1.cell (i := 0) (by omega), i2.1.free 0⟩
      have hnews : Hid (∀ j u, [Value.int .u8 (n / 2 ^ (8 * L) % 256)][j]? = some u → (wr.drew.alloc (.cells #[.int .u8 (n / 2 ^ (8 * L) % 256)] 5)).cell? ((⟨wr.drew.heap.size, 0, none⟩ : Addr).add j) = some u) := one_at _ _ _ _ rfl
      have hlen : Hid ((l ++ (List.range k).map fun j => n / 2 ^ (8 * (m - 1 - j)) % 256).length ≤ 1000008) := (show _ ≤ _ by have := unhide hLl; have := unhide hM; simp; omega)
      have HKM := hide hk
      have HLT := hide hlt
      have HLE := hide hLe
      have HLL := hide hL
      rw [hLe]
      clear hk hlt hLe hL hX hX1 hX2 hgd i1 i2
      go_wp2_with fail
      refine wp_region_till (h := 14) (S := fun x => Hid (x.cell? ⟨E, 0, none⟩ = some u ∧ x.frozen? ⟨E, 0, none⟩ = false)) (by kernel_rfl) ?_
      refine wpTill_take (i := 0) (v := ?_) [14] rfl (by kernel_rfl) (by kernel_rfl) (by kernel_rfl) (by kernel_rfl) (fun _ _ _ h => h) hS0 (Or.inl ⟨by rfl, ?_⟩) ?_
      rotate_left
      · intro x hSx
        clear hSx
        go_simp
        try with_reducible rfl
      simp only [Act.put, List.getElem_toArray, List.getElem_cons_zero, List.setIfInBounds_toArray, List.set_cons_succ, List.set_cons_zero]
      refine wpTill_take (i := 1) (v := ?_) [14] rfl (by kernel_rfl) (by kernel_rfl) (by kernel_rfl) (by kernel_rfl) (fun _ _ _ h => h) hS0 (Or.inl ⟨by rfl, ?_⟩) ?_
      rotate_left
      · intro x hSx
        clear hSx
        go_simp
        try with_reducible rfl
      simp only [Act.put, List.getElem_toArray, List.getElem_cons_zero, List.getElem_cons_succ, List.setIfInBounds_toArray, List.set_cons_succ, List.set_cons_zero]
      refine wpTill_take (i := 2) (v := ?_) [14] rfl (by kernel_rfl) (by kernel_rfl) (by kernel_rfl) (by kernel_rfl) (fun _ _ _ h => h) hS0 (Or.inl ⟨by rfl, ?_⟩) ?_
      rotate_left
      · intro x hSx
        clear hSx
        go_simp
        try with_reducible rfl
      simp only [Act.put, List.getElem_toArray, List.getElem_cons_zero, List.getElem_cons_succ, List.setIfInBounds_toArray, List.set_cons_succ, List.set_cons_zero]
      refine wpTill_take (i := 3) (v := ?_) [14] rfl (by kernel_rfl) (by kernel_rfl) (by kernel_rfl) (by kernel_rfl) (fun _ _ _ h => h) hS0 (Or.inl ⟨by rfl, ?_⟩) ?_
      rotate_left
      · intro x hSx
        clear hSx
        go_simp
        try with_reducible rfl
      simp only [Act.put, List.getElem_toArray, List.getElem_cons_zero, List.getElem_cons_succ, List.setIfInBounds_toArray, List.set_cons_succ, List.set_cons_zero]
      refine wpTill_take (i := 4) (v := ?_) [14] rfl (by kernel_rfl) (by kernel_rfl) (by kernel_rfl) (by kernel_rfl) (fun _ _ _ h => h) hS0 (Or.inl ⟨by rfl, ?_⟩) ?_
      rotate_left
      · intro x hSx
        have q0 := (unhide hSx).1
        clear hSx
        go_simp
        try with_reducible rfl
      simp only [Act.put, List.getElem_toArray, List.getElem_cons_zero, List.getElem_cons_succ, List.setIfInBounds_toArray, List.set_cons_succ, List.set_cons_zero]
      refine wpTill_take (i := 5) (v := ?_) [14] rfl (by kernel_rfl) (by kernel_rfl) (by kernel_rfl) (by kernel_rfl) (fun _ _ _ h => h) hS0 (Or.inl ⟨by rfl, ?_⟩) ?_
      rotate_left
      · intro x hSx
        clear hSx
        go_simp
        try with_reducible rfl
      simp only [Act.put, List.getElem_toArray, List.getElem_cons_zero, List.getElem_cons_succ, List.setIfInBounds_toArray, List.set_cons_succ, List.set_cons_zero]
      refine wpTill_take (i := 6) (v := ?_) [14] rfl (by kernel_rfl) (by kernel_rfl) (by kernel_rfl) (by kernel_rfl) (fun _ _ _ h => h) hS0 (Or.inl ⟨by rfl, ?_⟩) ?_
      rotate_left
      · intro x hSx
        clear hSx
        go_simp
        try with_reducible rfl
      simp only [Act.put, List.getElem_toArray, List.getElem_cons_zero, List.getElem_cons_succ, List.setIfInBounds_toArray, List.set_cons_succ, List.set_cons_zero]
      refine wpTill_take (i := 7) (v := ?_) [14] rfl (by kernel_rfl) (by kernel_rfl) (by kernel_rfl) (by kernel_rfl) (fun _ _ _ h => h) hS0 (Or.inl ⟨by rfl, ?_⟩) ?_
      rotate_left
      · intro x hSx
        clear hSx
        go_simp
        try with_reducible rfl
      simp only [Act.put, List.getElem_toArray, List.getElem_cons_zero, List.getElem_cons_succ, List.setIfInBounds_toArray, List.set_cons_succ, List.set_cons_zero]
      refine wpTill_take (i := 8) (v := ?_) [14] rfl (by kernel_rfl) (by kernel_rfl) (by kernel_rfl) (by kernel_rfl) (fun _ _ _ h => h) hS0 (Or.inl ⟨by rfl, ?_⟩) ?_
      rotate_left
      · intro x hSx
        clear hSx
        go_simp
        try with_reducible rfl
      simp only [Act.put, List.getElem_toArray, List.getElem_cons_zero, List.getElem_cons_succ, List.setIfInBounds_toArray, List.set_cons_succ, List.set_cons_zero]
      refine wpTill_take (i := 9) (v := ?_) [14] rfl (by kernel_rfl) (by kernel_rfl) (by kernel_rfl) (by kernel_rfl) (fun _ _ _ h => h) hS0 (Or.inl ⟨by rfl, ?_⟩) ?_
      rotate_left
      · intro x hSx
        clear hSx
        go_simp
        try with_reducible rfl
      simp only [Act.put, List.getElem_toArray, List.getElem_cons_zero, List.getElem_cons_succ, List.setIfInBounds_toArray, List.set_cons_succ, List.set_cons_zero]
      refine wpTill_only (j := 10) (by kernel_rfl) rfl (fun K hK => ?_)
      go_simp
      try go_simp
      refine hK.out _ _ (fun _ => hSb) ?_
      clear hK K
      refine wpTill_only (j := 11) (by kernel_rfl) rfl (fun K hK => ?_)
      refine Wr.wanted (by rfl) ?_
      refine wp_append_lies _ _ _ 27 rfl 0 5 i0 (.int .u8 0) 1 1 Try.underlying27 hi hz0 hz1 hz2 rfl (by decide) u _ _ rfl (unhide I2).2 ⟨wr.drew.heap.size, 0, none⟩ 1 1 [.int .u8 (n / 2 ^ (8 * L) % 256)] rfl rfl (unhide hnews) (by intro u hu; simp at hu; subst hu; rfl) (by decide) (by have := unhide hlen; unfold maxLen; omega) (by have := unhide hlen; omega) (Nat.zero_le _) _ rfl ?_
      intro gb cp y3 hown hgr hloc hlt3
      obtain ⟨hm1, hm2, hm3, hm4⟩ := (unhide I1).more (b := n / 2 ^ (8 * L) % 256) _ hgr (by rw [List.map_append, List.length_append]; exact hown) (hloc.imp id (fun e => by simp at e ⊢; omega))
      have hSc : Hid (y3.cell? ⟨E, 0, none⟩ = some u ∧ y3.frozen? ⟨E, 0, none⟩ = false) := ⟨hm4, hm3⟩
      have HM1 := hide hm1
      have HM2 := hide hm2
      clear hm1 hm2 hm3 hm4 hown hgr hloc hlt3
      refine hK.out _ _ (fun _ => hSc) ?_
      clear hK K
      refine wpTill_take (i := 12) (v := ?_) [13, 14] rfl (by kernel_rfl) (by kernel_rfl) (by kernel_rfl) (by kernel_rfl) (fun _ _ _ h => h) hSc (Or.inl ⟨by rfl, ?_⟩) ?_
      rotate_left
      · intro x hSx
        clear hSx
        go_simp
        try with_reducible rfl
      simp only [Act.put, List.getElem_toArray, List.getElem_cons_zero, List.getElem_cons_succ, List.setIfInBounds_toArray, List.set_cons_succ, List.set_cons_zero]
      refine wpTill_take (i := 13) (v := ?_) [14] rfl (by kernel_rfl) (by kernel_rfl) (by kernel_rfl) (by kernel_rfl) (fun _ _ _ h => h) hSc (Or.inl ⟨by rfl, ?_⟩) ?_
      rotate_left
      · intro x hSx
        clear hSx
        go_simp
        try with_reducible rfl
      simp only [Act.put, List.getElem_toArray, List.getElem_cons_zero, List.getElem_cons_succ, List.setIfInBounds_toArray, List.set_cons_succ, List.set_cons_zero]
      have u9 := (unhide hSc).1
      have f9 := (unhide hSc).2
      refine wpTill_only (j := 14) (by kernel_rfl) rfl (fun K hK => ?_)
      go_simp
      refine hK.out _ _ (fun hx => absurd (hx.symm.trans (by kernel_rfl)) Bool.false_ne_true) ?_
      clear hK K
      refine wpTill_done (by kernel_rfl) ?_ _

      have elen : (l ++ (List.range k).map fun j => n / 2 ^ (8 * (m - 1 - j)) % 256).length = l.length + k := by simp
      have hn : Hid (∃ u, Wr.EncV E (y3.setCell ⟨E, 0, none⟩ (.slice (some ⟨gb, 0, none⟩) (l.length + k + 1) cp)) u (l ++ (List.range (k + 1)).map fun j => n / 2 ^ (8 * (m - 1 - j)) % 256) er ∧ Wr.K w (Wr.encB E v) (y3.setCell ⟨E, 0, none⟩ (.slice (some ⟨gb, 0, none⟩) (l.length + k + 1) cp)) (Wr.encB E u)) := by
        refine ⟨_, ?_, ((unhide HK).trans ((Wr.K.refl wr _).then (D := fun _ => False) (Turn.new (B := fun _ => False) (show wr.grownBy wr.drew none from ⟨rfl, rfl, rfl, Nat.le_refl _, fun _ _ _ => rfl⟩)) (fun _ q => q.elim))).trans (by have q := unhide HM2; rw [elen] at q; exact q)⟩
        have q := unhide HM1
        rw [elen] at q
        rw [unhide HLL, List.append_assoc] at q
        rw [List.range_succ, List.map_append]
        exact q
      clear elen HM1 HM2 HK I1 I2 hS0 hSb hSc hnews hlen u9 f9
      go_wp2
      go_roundw
      case rel => exact ⟨k + 1, by have := unhide HLT; omega, by have := unhide HLE; rw [show (L : Int) - 1 = (m : Int) - 1 - ((k + 1 : Nat) : Int) by omega], hn⟩
      case measure => simp [intOf]
    · obtain rfl : k = m := by omega
      have hge : ¬ ((k : Int) - 1 - (k : Int)) ≥ 0 := by omega
      clear hlt hk hX1 hX2
      go_wp2
      go_end0
      obtain ⟨u, h1, h2⟩ := unhide hX
      exact ⟨u, rfl, by rw [unhide hW]; exact h1, h2⟩

end Go.Proofs.Ytiegccdgoemamaa
