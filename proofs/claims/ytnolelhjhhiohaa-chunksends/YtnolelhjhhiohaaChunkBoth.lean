/-
  Both senders side by side, the project's and the document's.
-/
import Derived.Test.YtnolelhjhhiohaaChunkKnown
namespace Go.Proofs.Ytnolelhjhhiohaa
open Go.RowKit

structure Ck.Both (w x : World) (p q h n : Nat) (had : Nat → Bool) (a : Nat) : Prop where
  mine : Ck.Mnd x p n had a
  ref : Ck.Snd x q h n had a
  pq : p ≠ q
  ph : p ≠ h
  lp : w.heap.size ≤ p
  lq : w.heap.size ≤ q
  lh : w.heap.size ≤ h
  bel : Below w.heap.size w x

theorem Ck.Both.on {w x y : World} {p q h n : Nat} {had : Nat → Bool} {a : Nat} (H : Ck.Both w x p q h n had a) (hg : x.grownBy y none) : Ck.Both w y p q h n had a :=
  { H with mine := H.mine.on hg, ref := H.ref.on hg, bel := H.bel.trans (Turn.below (B := fun _ => False) (Turn.new hg) H.bel.size (fun _ q => q.elim)) }

/-- What both tell, and that it is the same. -/
theorem Ck.Both.next {w x : World} {p q h n : Nat} {had : Nat → Bool} {a : Nat} (H : Ck.Both w x p q h n had a) (m : Int) :
    Calls Try.prog 16 #[.pointer (some ⟨p, 0, none⟩), .int .i64 m] x fun e y => ∃ v, e = .returned v ∧
      Calls Try.prog 17 #[.pointer (some ⟨q, 0, none⟩), .int .i64 m] y fun e' z => ∃ u, e' = .returned u ∧
        Ck.Both w z p q h n had (Ck.goes n had a m) ∧ Calls Try.prog 15 #[v, u] z (Says z (.bool true)) := by
  refine (ckNext_any p n had a m x H.mine).mono ?_
  rintro e y ⟨v, rfl, hv, hM, ht⟩
  have hS := H.ref.turn ht (fun e => H.pq e.symm) (fun e => H.ph e.symm)
  refine ⟨v, rfl, ?_⟩
  refine (refNext_any q h n had a m y hS).mono ?_
  rintro e z ⟨u, rfl, hu, hS2, ht2⟩
  have hqx := H.ref.box.lt
  have hhx := H.ref.row.lt
  have hv2 := owns_turned hv ht2 (fun k e r => by
    have := (hv.lt k e).1
    rcases r with r | r <;> omega)
  have hl : (Ck.next n had a m).length ≤ 100 := by
    have := Ck.nx_len n had a m n
    have := H.mine.n16
    unfold Ck.next
    omega
  refine ⟨u, rfl, ⟨hM.turn ht2 (fun r => by rcases r with r | r; exact H.pq r; exact H.ph r), hS2, H.pq, H.ph, H.lp, H.lq, H.lh, ?_⟩, sameInts12_any _ _ _ v u z hv2 hu hl⟩
  refine H.bel.trans ?_
  refine Turn.below (B := fun k => w.heap.size ≤ k) ?_ H.bel.size (fun _ q => q)
  exact (ht.mono (fun i e => by rw [e]; exact H.lp)).trans (ht2.mono (fun i r => by rcases r with r | r <;> rw [r]; exact H.lq; exact H.lh)) (fun _ _ q => q)

/-- What both hear. -/
theorem Ck.Both.ack {w x : World} {p q h n : Nat} {had : Nat → Bool} {a : Nat} (H : Ck.Both w x p q h n had a) (b : Int) (h0 : 0 ≤ b) (h1 : b < 4294967296) :
    Calls Try.prog 20 #[.pointer (some ⟨p, 0, none⟩), .int .u32 b] x fun e y => e = .returned (.tuple #[]) ∧ Below w.heap.size w y ∧
      Calls Try.prog 21 #[.pointer (some ⟨q, 0, none⟩), .int .u32 b] y fun e' z => e' = .returned (.tuple #[]) ∧ Ck.Both w z p q h n (Ck.heard had b) a := by
  refine (ckAck_any p n had a b x H.mine h0 h1).mono ?_
  rintro e y ⟨rfl, hM, ht⟩
  have hS := H.ref.turn ht (fun e => H.pq e.symm) (fun e => H.ph e.symm)
  refine ⟨rfl, H.bel.trans (ht.below H.bel.size (fun i e => by rw [e]; exact H.lp)), ?_⟩
  refine (refAck_any q h n had a b y hS).mono ?_
  rintro e z ⟨rfl, hS2, ht2⟩
  refine ⟨rfl, hM.turn ht2 (fun r => by rcases r with r | r; exact H.pq r; exact H.ph r), hS2, H.pq, H.ph, H.lp, H.lq, H.lh, ?_⟩
  refine H.bel.trans ?_
  refine Turn.below (B := fun k => w.heap.size ≤ k) ?_ H.bel.size (fun _ q => q)
  exact (ht.mono (fun i e => by rw [e]; exact H.lp)).trans (ht2.mono (fun i r => by rcases r with r | r <;> rw [r]; exact H.lq; exact H.lh)) (fun _ _ q => q)

theorem Ck.Both.start (w x y z : World) (p q h n : Nat) (hx : w.grownBy x none) (hp : x.heap.size ≤ p) (hM : Ck.Mnd y p n (fun _ => false) 0) (hxy : x.grownBy y none) (hq : y.heap.size ≤ q) (hh : y.heap.size ≤ h) (hS : Ck.Snd z q h n (fun _ => false) 0) (hyz : y.grownBy z none) : Ck.Both w z p q h n (fun _ => false) 0 := by
  have h1 := hM.box.lt
  have h2 := hx.size
  have h3 := hxy.size
  exact ⟨hM.on hyz, hS, by omega, by omega, by omega, by omega, by omega, none_below (grown_trans (grown_trans hx hxy) hyz)⟩

end Go.Proofs.Ytnolelhjhhiohaa
