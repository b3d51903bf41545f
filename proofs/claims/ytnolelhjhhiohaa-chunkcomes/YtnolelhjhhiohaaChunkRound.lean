/-
  Rounds of one sender, and how often each piece was told.
-/
import Derived.Test.YtnolelhjhhiohaaChunkKnown
import Derived.Test.YtnolelhjhhiohaaChunkTally
namespace Go.Proofs.Ytnolelhjhhiohaa
open Go.RowKit

theorem Ck.told_le (c r : Nat) : ∀ T, Ck.told c T r ≤ T
  | 0 => Nat.le_refl _
  | T + 1 => by
    have ih := Ck.told_le c r T
    show Ck.told c T r + (if T % c = r then 1 else 0) ≤ T + 1
    split <;> omega

theorem Ck.tally_le (n : Nat) (had : Nat → Bool) (T x : Nat) : Ck.tally n had T x ≤ T := by
  unfold Ck.tally
  split
  · exact Ck.told_le _ _ _
  · exact Nat.zero_le _

theorem Ck.pos_full (n : Nat) (had : Nat → Bool) : Ck.pos had n = (Ck.U n had).length := rfl

theorem Ck.bit_cases (b : Int) (i : Nat) : (bits .and .u32 (b / 2 ^ i) 1 == 0) = !Ck.bit b i := by
  unfold Ck.bit
  have e : bits .and .u32 (b / 2 ^ i) 1 = IntKind.u32.wrap (((BitVec.ofInt 32 (b / 2 ^ i) &&& BitVec.ofInt 32 1).toNat : Nat) : Int) := rfl
  have h1 : (BitVec.ofInt 32 (b / 2 ^ i) &&& BitVec.ofInt 32 1).toNat < 2 := by
    rw [BitVec.toNat_and]
    have : (BitVec.ofInt 32 1).toNat = 1 := by decide
    rw [this, Nat.and_one_is_mod]
    omega
  obtain ⟨q, hq⟩ : ∃ q, (BitVec.ofInt 32 (b / 2 ^ i) &&& BitVec.ofInt 32 1).toNat = q := ⟨_, rfl⟩
  rw [e, hq]
  rw [hq] at h1
  rcases (show q = 0 ∨ q = 1 by omega) with rfl | rfl <;> decide

/-- A sender and the row that counts. -/
structure Ck.Rnd (w x : World) (p S n : Nat) (had : Nat → Bool) (at_ T : Nat) : Prop where
  mine : Ck.Mnd x p n had at_
  row : Arr x S 3 n (fun j => .int .i64 ((Ck.tally n had T j : Nat) : Int))
  ne : p ≠ S
  lp : w.heap.size ≤ p
  lS : w.heap.size ≤ S
  bel : Below w.heap.size w x

theorem Ck.Rnd.cells {w x : World} {p S n : Nat} {had : Nat → Bool} {at_ T : Nat} (H : Ck.Rnd w x p S n had at_ T) : (∀ j, j < n → x.cell? ⟨S, j, none⟩ = some (.int .i64 ((Ck.tally n had T j : Nat) : Int))) ∧ (∀ i, x.frozen? ⟨S, i, none⟩ = false) :=
  ⟨fun _ hj => H.row.cell hj, fun i => H.row.free i⟩

/-- One is counted. -/
theorem Ck.Rnd.count {w x : World} {p S n : Nat} {had : Nat → Bool} {at_ T y : Nat} (H : Ck.Rnd w x p S n had at_ T) (hy : (Ck.U n had)[T % (Ck.U n had).length]? = some y) : Ck.Rnd w (x.setCell ⟨S, y, none⟩ (.int .i64 (((Ck.tally n had T y + 1 : Nat)) : Int))) p S n had at_ (T + 1) := by
  have ht : Turn (fun k => k = S) x (x.setCell ⟨S, y, none⟩ (.int .i64 (((Ck.tally n had T y + 1 : Nat)) : Int))) := (Turn.refl _ x).store S y _ rfl
  refine ⟨H.mine.turn ht H.ne, ?_, H.ne, H.lp, H.lS, H.bel.trans (ht.below H.bel.size (fun i e => by rw [e]; exact H.lS))⟩
  refine (H.row.store y _).congr fun j hj => ?_
  rw [Ck.tally_more hy]
  by_cases e : j = y
  · subst e
    simp
  · simp [e]

/-- What Next tells in a round. -/
theorem Ck.Rnd.next {w x : World} {p S n : Nat} {had : Nat → Bool} {at_ T : Nat} (H : Ck.Rnd w x p S n had at_ T) (m : Int) :
    Calls Try.prog 16 #[.pointer (some ⟨p, 0, none⟩), .int .i64 m] x fun e y => ∃ a c, e = .returned (.slice a (min m.toNat (Ck.U n had).length) c) ∧
      Ck.Rnd w y p S n had (Ck.goes n had at_ m) T ∧ ((0 < min m.toNat (Ck.U n had).length) → ∃ g, a = some ⟨g, 0, none⟩ ∧ g ≠ S ∧ g < y.heap.size ∧ ∀ j, j < min m.toNat (Ck.U n had).length → ∃ v, v < n ∧ y.cell? ⟨g, j, none⟩ = some (.int .i64 ((v : Nat) : Int)) ∧ (Ck.U n had)[(Ck.pos had at_ + j) % (Ck.U n had).length]? = some v) := by
  refine (ckNext_any p n had at_ m x H.mine).mono ?_
  rintro e y ⟨v, rfl, hv, hM, ht⟩
  have hlt := H.mine.lt
  have hl := Ck.next_len had m hlt
  have hSx := H.row.lt
  have hR : Ck.Rnd w y p S n had (Ck.goes n had at_ m) T := ⟨hM, H.row.turn ht (fun e => H.ne e.symm), H.ne, H.lp, H.lS, H.bel.trans (ht.below H.bel.size (fun i e => by rw [e]; exact H.lp))⟩
  by_cases h0 : 0 < min m.toNat (Ck.U n had).length
  · obtain ⟨g, cap, rfl, hg1, hg2⟩ := Ck.own_form hv (by rw [hl]; exact h0)
    rw [hl]
    refine ⟨_, cap, rfl, hR, fun _ => ⟨g, rfl, by omega, hg2, fun j hj => ?_⟩⟩
    have hc := Ck.own_num hv (k := j) (by rw [hl]; exact hj)
    have ha := Ck.next_at had m hlt hj
    have hin := Ck.nx_in (fr := at_) had m H.mine.n1 n
    refine ⟨(Ck.next n had at_ m).getD j 0, ?_, hc, ?_⟩
    · have hj2 : j < (Ck.next n had at_ m).length := by rw [hl]; exact hj
      rw [List.getD, List.getElem?_eq_getElem hj2]
      exact (hin _ (List.getElem_mem hj2)).1
    · rw [← ha]
      have hj2 : j < (Ck.next n had at_ m).length := by rw [hl]; exact hj
      rw [List.getD, List.getElem?_eq_getElem hj2]
      rfl
  · have hz : (Ck.next n had at_ m).length = 0 := by omega
    rcases hv.2 with ⟨rfl, _⟩ | ⟨g, cap, cur, rfl, _⟩
    · exact ⟨none, 0, by rw [show min m.toNat (Ck.U n had).length = 0 by omega], hR, fun q => absurd q h0⟩
    · exact ⟨_, cap, by rw [hl], hR, fun q => absurd q h0⟩

theorem Ck.mod_on {c a T j : Nat} (h : a % c = T % c) : (a + j) % c = (T + j) % c := by
  rw [Nat.add_mod, h, ← Nat.add_mod]

end Go.Proofs.Ytnolelhjhhiohaa
