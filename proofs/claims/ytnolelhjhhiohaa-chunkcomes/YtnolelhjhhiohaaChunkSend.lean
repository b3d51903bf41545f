/-
  The project's sender: NewSender, Next, Ack, Done.
-/
import Derived.Test.YtnolelhjhhiohaaChunkSmall
namespace Go.Proofs.Ytnolelhjhhiohaa
open Go.RowKit

/-- The project's sender as it lies at p: how many, what lacks, where it goes on. -/
structure Ck.Mnd (x : World) (p n : Nat) (had : Nat → Bool) (at_ : Nat) : Prop where
  box : Arr x p 69 3 (fun j => if j = 0 then .int .i64 (n : Int) else if j = 1 then .int .u32 (Ck.num (fun i => !had i) n) else .int .i64 (at_ : Int))
  n1 : 1 ≤ n
  n16 : n ≤ 16
  lt : at_ < n

theorem Ck.Mnd.turn {x y : World} {p n : Nat} {had : Nat → Bool} {at_ : Nat} {B : Nat → Prop} (H : Ck.Mnd x p n had at_) (ht : Turn B x y) (hp : ¬ B p) : Ck.Mnd y p n had at_ :=
  { H with box := H.box.turn ht hp }

theorem Ck.Mnd.on {x y : World} {p n : Nat} {had : Nat → Bool} {at_ : Nat} (H : Ck.Mnd x p n had at_) (hg : x.grownBy y none) : Ck.Mnd y p n had at_ :=
  H.turn (B := fun _ => False) (Turn.new hg) (fun q => q)

theorem Ck.Mnd.cells {x : World} {p n : Nat} {had : Nat → Bool} {at_ : Nat} (H : Ck.Mnd x p n had at_) : x.cell? ⟨p, 0, none⟩ = some (.int .i64 (n : Int)) ∧ x.cell? ⟨p, 1, none⟩ = some (.int .u32 (Ck.num (fun i => !had i) n)) ∧ x.cell? ⟨p, 2, none⟩ = some (.int .i64 (at_ : Int)) ∧ (∀ i, x.frozen? ⟨p, i, none⟩ = false) :=
  ⟨H.box.cell (i := 0) (by omega), H.box.cell (i := 1) (by omega), H.box.cell (i := 2) (by omega), fun i => H.box.free i⟩

theorem Ck.Mnd.goes {x : World} {p n : Nat} {had : Nat → Bool} {at_ : Nat} (H : Ck.Mnd x p n had at_) {b : Nat} (hb : b < n) : Ck.Mnd (x.setCell ⟨p, 2, none⟩ (.int .i64 (b : Int))) p n had b :=
  { H with box := (H.box.store 2 (.int .i64 (b : Int))).congr (fun j hj => by rcases (show j = 0 ∨ j = 1 ∨ j = 2 by omega) with rfl | rfl | rfl <;> rfl), lt := hb }

theorem Ck.Mnd.hears {x : World} {p n : Nat} {had : Nat → Bool} {at_ : Nat} (H : Ck.Mnd x p n had at_) {f : Nat → Bool} {z : Int} (hz : z = Ck.num (fun i => !f i) n) : Ck.Mnd (x.setCell ⟨p, 1, none⟩ (.int .u32 z)) p n f at_ :=
  { H with box := (H.box.store 1 (.int .u32 z)).congr (fun j hj => by rcases (show j = 0 ∨ j = 1 ∨ j = 2 by omega) with rfl | rfl | rfl <;> first | rfl | (rw [hz]; rfl)) }

theorem Ck.all_lacks (n : Nat) (had : Nat → Bool) (hn : n ≤ 16) : (Ck.num (fun i => !had i) n == 0) = Ck.all n had := by
  rw [Ck.num_zero hn]
  cases h : Ck.all n had with
  | true =>
    rw [decide_eq_true_iff]
    exact fun i hi => by rw [Ck.all_iff.1 h i hi]; rfl
  | false =>
    rw [decide_eq_false_iff_not]
    intro q
    have : Ck.all n had = true := Ck.all_iff.2 fun i hi => by have := q i hi; simpa using this
    rw [h] at this
    cases this

/-- Done. -/
theorem ckDone_any (p n : Nat) (had : Nat → Bool) (at_ : Nat) (w : World) (H : Ck.Mnd w p n had at_) :
    Calls Try.prog 18 #[.pointer (some ⟨p, 0, none⟩)] w fun e w' => e = .returned (.bool (Ck.all n had)) ∧ w' = w := by
  obtain ⟨c0, c1, c2, _⟩ := H.cells
  have hd := hide (Ck.all_lacks n had H.n16)
  obtain ⟨z, hz⟩ : ∃ z, Ck.num (fun i => !had i) n = z := ⟨_, rfl⟩
  rw [hz] at hd c1
  clear H hz
  go_enter Try.func18, Try.ntmps18
  go_wp2
  go_ret
  exact ⟨ret_bool (unhide hd), rfl⟩

theorem ckNewSender_bad (z : Int) (w : World) (h : z < 1 ∨ 16 < z) :
    Calls Try.prog 12 #[.int .i64 z] w fun e w' => e = .returned (.tuple #[.pointer none, .int .i64 1]) ∧ w' = w := by
  have c0 := hide (isCount_no z w h)
  clear h
  go_enter Try.func12, Try.ntmps12
  go_wp2_with fail
  refine (unhide c0).mono ?_
  rintro e wq ⟨rfl, hq⟩
  obtain rfl : w = wq := hq.symm
  go_wp2
  go_ret2
  exact ⟨rfl, rfl⟩

theorem ckNewSender_any (n : Nat) (w : World) (h1 : 1 ≤ n) (h16 : n ≤ 16) :
    Calls Try.prog 12 #[.int .i64 (n : Int)] w fun e w' => ∃ p, e = .returned (.tuple #[.pointer (some ⟨p, 0, none⟩), .int .i64 0]) ∧ w.heap.size ≤ p ∧ Ck.Mnd w' p n (fun _ => false) 0 ∧ w.grownBy w' none := by
  have c0 := hide (isCount_yes n w (by omega) (by omega))
  have c1 := hide (ckAll_any n w h16)
  obtain ⟨z, hz⟩ : ∃ z, Ck.num (fun _ => true) n = z := ⟨_, rfl⟩
  have Hz := hide hz
  rw [hz] at c1
  have HH := hide (And.intro h1 h16)
  clear h1 h16 hz
  go_enter Try.func12, Try.ntmps12
  go_wp2_with fail
  refine (unhide c0).mono ?_
  rintro e wq ⟨rfl, hq⟩
  obtain rfl : w = wq := hq.symm
  go_wp2_with fail
  refine (unhide c1).mono ?_
  rintro e wq ⟨rfl, hq⟩
  obtain rfl : w = wq := hq.symm
  go_wp2
  go_ret2
  refine ⟨w.heap.size, rfl, Nat.le_refl _, ?_, World.grownBy_alloc _ _ _⟩
  refine ⟨((Arr.lit (heap_alloc_new w _))).congr (fun j hj => ?_), (unhide HH).1, (unhide HH).2, (unhide HH).1⟩
  have hj2 : j < 3 := hj
  rcases (show j = 0 ∨ j = 1 ∨ j = 2 by omega) with rfl | rfl | rfl
  · rfl
  · show Value.int .u32 z = .int .u32 _
    rw [← unhide Hz]
    rfl
  · rfl

/-- Ack. -/
theorem ckAck_any (p n : Nat) (had : Nat → Bool) (at_ : Nat) (b : Int) (w : World) (H : Ck.Mnd w p n had at_) (h0 : 0 ≤ b) (h1 : b < 4294967296) :
    Calls Try.prog 20 #[.pointer (some ⟨p, 0, none⟩), .int .u32 b] w fun e w' => e = .returned (.tuple #[]) ∧ Ck.Mnd w' p n (Ck.heard had b) at_ ∧ Turn (fun k => k = p) w w' := by
  obtain ⟨c0, c1, c2, f0⟩ := H.cells
  have hl := Ck.num_less (fun i => !had i) H.n16 b h0 h1
  have he : Hid ((bits .andNot .u32 (Ck.num (fun i => !had i) n) b) = Ck.num (fun i => !Ck.heard had b i) n) := by
    show _ = _
    rw [hl]
    exact Ck.num_ext fun i _ => by unfold Ck.heard; cases had i <;> simp
  obtain ⟨z, hz⟩ : ∃ z, Ck.num (fun i => !had i) n = z := ⟨_, rfl⟩
  rw [hz] at he c1
  have H0 := hide H
  clear H hz hl h0 h1
  go_enter Try.func20, Try.ntmps20
  go_wp2
  go_end0
  exact ⟨rfl, (unhide H0).hears (unhide he), (Turn.refl _ w).store p 1 _ rfl⟩

end Go.Proofs.Ytnolelhjhhiohaa
