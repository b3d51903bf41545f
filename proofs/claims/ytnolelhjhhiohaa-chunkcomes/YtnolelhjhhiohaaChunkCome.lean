/-
  Pieces on their way: one that sends, one that takes, what was split.
-/
import Derived.Test.YtnolelhjhhiohaaChunkText
import Derived.Test.YtnolelhjhhiohaaChunkRound
namespace Go.Proofs.Ytnolelhjhhiohaa
open Go.RowKit

/-- How many marks lie below k. -/
def Ck.cnt (f : Nat → Bool) : Nat → Nat
  | 0 => 0
  | k + 1 => Ck.cnt f k + if f k = true then 1 else 0

theorem Ck.cnt_le (f : Nat → Bool) (N : Nat) (h : ∀ j, N ≤ j → f j = false) : ∀ k, Ck.cnt f k ≤ N ∧ Ck.cnt f k ≤ k
  | 0 => ⟨Nat.zero_le _, Nat.le_refl _⟩
  | k + 1 => by
    have ih := Ck.cnt_le f N h k
    show Ck.cnt f k + (if f k = true then 1 else 0) ≤ N ∧ Ck.cnt f k + (if f k = true then 1 else 0) ≤ k + 1
    by_cases hk : N ≤ k
    · rw [h k hk, if_neg (by simp)]
      omega
    · split <;> omega

theorem Ck.pos_mono {f g : Nat → Bool} : ∀ {k : Nat}, (∀ i, i < k → f i = true → g i = true) → Ck.pos g k ≤ Ck.pos f k
  | 0, _ => Nat.le_refl _
  | k + 1, h => by
    have ih := Ck.pos_mono (f := f) (g := g) (k := k) (fun i hi => h i (by omega))
    rw [Ck.pos_succ, Ck.pos_succ]
    cases hf : f k with
    | true => rw [h k (by omega) hf]; simpa using ih
    | false => cases hg : g k <;> simp <;> omega

theorem Ck.pos_less {f g : Nat → Bool} : ∀ {k : Nat}, (∀ i, i < k → f i = true → g i = true) → (∃ x, x < k ∧ f x = false ∧ g x = true) → Ck.pos g k < Ck.pos f k
  | 0, _, ⟨_, hx, _⟩ => absurd hx (by omega)
  | k + 1, h, ⟨x, hx, h1, h2⟩ => by
    rw [Ck.pos_succ, Ck.pos_succ]
    by_cases e : x = k
    · subst e
      have ih := Ck.pos_mono (f := f) (g := g) (k := x) (fun i hi => h i (by omega))
      rw [h1, h2]
      simp
      omega
    · have ih := Ck.pos_less (f := f) (g := g) (k := k) (fun i hi => h i (by omega)) ⟨x, by omega, h1, h2⟩
      cases hf : f k with
      | true => rw [h k (by omega) hf]; simpa using ih
      | false => cases hg : g k <;> simp <;> omega

theorem Ck.Lies.off {B : Nat → Prop} {x y : World} {base : Nat} {v : Value} {Vs : List Value} {ps : List (List Int)} (H : Ck.Lies x base v Vs ps) (ht : Turn B x y) (h1 : ∀ k, v.ownBlock = some k → ¬ B k) (h2 : ∀ u l, x.ownsRow base 5 1 u (List.length l) (Ck.bys l) → ∀ k, u.ownBlock = some k → ¬ B k) : Ck.Lies y base v Vs ps :=
  ⟨owns_turned H.own ht h1, fun k u l q1 q2 => ⟨owns_turned (H.each k u l q1 q2).1 ht (h2 u l (H.each k u l q1 q2).1), (H.each k u l q1 q2).2⟩⟩

structure Ck.Com (w x : World) (s t gl cl n : Nat) (l : List Int) (had : Nat → Bool) (at_ : Nat) (has : Nat → Bool) : Prop where
  snd : Ck.Mnd x s n had at_
  tak : ∃ tot L V, Ck.Mkr x w.heap.size t tot has L V ∧ (tot = 0 ∨ tot = n) ∧ ∀ j, j < 16 → has j = true → L j = Ck.pc l j
  rows : ∃ Vs, Vs.length = (Ck.ps l).length ∧ Ck.Lies x w.heap.size (.slice (some ⟨gl, 0, none⟩) n cl) Vs (Ck.ps l)
  num : (Ck.ps l).length = n
  st : s ≠ t
  ls : w.heap.size ≤ s
  sub : ∀ i, i < n → had i = true → has i = true
  bel : Below w.heap.size w x

theorem Ck.Com.on {w x y : World} {s t gl cl n : Nat} {l : List Int} {had : Nat → Bool} {at_ : Nat} {has : Nat → Bool} (H : Ck.Com w x s t gl cl n l had at_ has) (hg : x.grownBy y none) : Ck.Com w y s t gl cl n l had at_ has := by
  obtain ⟨tot, L, V, h1, h2⟩ := H.tak
  obtain ⟨Vs, h3, h4⟩ := H.rows
  exact { H with snd := H.snd.on hg, tak := ⟨tot, L, V, h1.on hg, h2⟩, rows := ⟨Vs, h3, h4.on hg⟩, bel := H.bel.trans (Turn.below (B := fun _ => False) (Turn.new hg) H.bel.size (fun _ q => q.elim)) }

theorem Ck.Com.low {w x : World} {s t gl cl n : Nat} {l : List Int} {had : Nat → Bool} {at_ : Nat} {has : Nat → Bool} (H : Ck.Com w x s t gl cl n l had at_ has) : w.heap.size ≤ t ∧ t < x.heap.size ∧ s < x.heap.size := by
  obtain ⟨tot, L, V, h1, h2⟩ := H.tak
  exact ⟨h1.low, h1.box.lt, H.snd.box.lt⟩

/-- Piece v as it lies. -/
theorem Ck.Com.piece {w x : World} {s t gl cl n : Nat} {l : List Int} {had : Nat → Bool} {at_ : Nat} {has : Nat → Bool} (H : Ck.Com w x s t gl cl n l had at_ has) {v : Nat} (hv : v < n) : ∃ gi ci, x.cell? ⟨gl, v, none⟩ = some (.slice (some ⟨gi, 0, none⟩) (Ck.pc l v).length ci) ∧ x.ownsRow w.heap.size 5 1 (.slice (some ⟨gi, 0, none⟩) (Ck.pc l v).length ci) (Ck.pc l v).length (Ck.bys (Ck.pc l v)) := by
  obtain ⟨Vs, h3, h4⟩ := H.rows
  obtain ⟨g, cap, e, _, _, h⟩ := h4.at h3 (by rw [H.num]; omega)
  simp at e
  obtain ⟨rfl, _⟩ := e
  exact h v _ (Ck.ps_at (by rw [H.num]; exact hv))

theorem Ck.Com.apart {w x : World} {s t gl cl n : Nat} {l : List Int} {had : Nat → Bool} {at_ : Nat} {has : Nat → Bool} (H : Ck.Com w x s t gl cl n l had at_ has) : gl ≠ t ∧ gl < x.heap.size := by
  obtain ⟨tot, L, V, h1, h2, h5⟩ := H.tak
  obtain ⟨Vs, h3, h4⟩ := H.rows
  exact ⟨Ck.own_off h1.box h4.own (by decide) gl rfl, (h4.own.lt gl rfl).2⟩

/-- A step of the sender. -/
theorem Ck.Com.sends {w x y : World} {s t gl cl n : Nat} {l : List Int} {had had' : Nat → Bool} {at_ at2 : Nat} {has : Nat → Bool} (H : Ck.Com w x s t gl cl n l had at_ has) (ht : Turn (fun k => k = s) x y) (hM : Ck.Mnd y s n had' at2) (hsub : ∀ i, i < n → had' i = true → has i = true) : Ck.Com w y s t gl cl n l had' at2 has := by
  obtain ⟨tot, L, V, h1, h2⟩ := H.tak
  obtain ⟨Vs, h3, h4⟩ := H.rows
  refine ⟨hM, ⟨tot, L, V, h1.turn ht (fun e => H.st e.symm) (fun i hi q k e r => Ck.own_off H.snd.box (h1.piece i hi q).1 (by decide) k e r), h2⟩, ⟨Vs, h3, h4.off ht (fun k e r => Ck.own_off H.snd.box h4.own (by decide) k e r) (fun u l' hu k e r => Ck.own_off H.snd.box hu (by decide) k e r)⟩, H.num, H.st, H.ls, hsub, H.bel.trans (ht.below H.bel.size (fun k e => by rw [e]; exact H.ls))⟩

/-- What Next tells: one at least, while some were not heard of. -/
theorem Ck.Com.next {w x : World} {s t gl cl n : Nat} {l : List Int} {had : Nat → Bool} {at_ : Nat} {has : Nat → Bool} (H : Ck.Com w x s t gl cl n l had at_ has) (W : Nat) (hW : 1 ≤ W) (hU : Ck.all n had = false) :
    Calls Try.prog 16 #[.pointer (some ⟨s, 0, none⟩), .int .i64 (W : Int)] x fun e y => ∃ g c cp at2, e = .returned (.slice (some ⟨g, 0, none⟩) c cp) ∧ 1 ≤ c ∧ c ≤ 16 ∧ Ck.Com w y s t gl cl n l had at2 has ∧ g ≠ t ∧ g < y.heap.size ∧ ∀ j, j < c → ∃ v, v < n ∧ had v = false ∧ y.cell? ⟨g, j, none⟩ = some (.int .i64 ((v : Nat) : Int)) := by
  refine (ckNext_any s n had at_ (W : Int) x H.snd).mono ?_
  rintro e y ⟨v, rfl, hv, hM, ht⟩
  have hlt := H.snd.lt
  have hl := Ck.next_len had (W : Int) hlt
  rw [Int.toNat_natCast] at hl
  have hU1 : 0 < (Ck.U n had).length := by
    rcases Nat.eq_zero_or_pos (Ck.U n had).length with h | h
    · have := (Ck.all_left n had).2 h
      rw [hU] at this
      cases this
    · exact h
  have hUn : (Ck.next n had at_ (W : Int)).length ≤ 16 := by
    have := Ck.nx_len n had at_ (W : Int) n
    have := H.snd.n16
    unfold Ck.next
    omega
  obtain ⟨g, cap, rfl, hg1, hg2⟩ := Ck.own_form hv (by omega)
  have hin := Ck.nx_in (fr := at_) had (W : Int) H.snd.n1 n
  refine ⟨g, _, cap, _, rfl, by omega, hUn, H.sends ht hM H.sub, ?_, hg2, fun j hj => ?_⟩
  · have := H.low
    omega
  · have hc := Ck.own_num hv (k := j) hj
    refine ⟨(Ck.next n had at_ (W : Int)).getD j 0, ?_, ?_, hc⟩
    · rw [List.getD, List.getElem?_eq_getElem hj]
      exact (hin _ (List.getElem_mem hj)).1
    · rw [List.getD, List.getElem?_eq_getElem hj]
      exact (hin _ (List.getElem_mem hj)).2

/-- A piece is put. -/
theorem Ck.Com.put {w x : World} {s t gl cl n : Nat} {l : List Int} {had : Nat → Bool} {at_ : Nat} {has : Nat → Bool} (H : Ck.Com w x s t gl cl n l had at_ has) {v gi ci : Nat} (hv : v < n) (hp : x.ownsRow w.heap.size 5 1 (.slice (some ⟨gi, 0, none⟩) (Ck.pc l v).length ci) (Ck.pc l v).length (Ck.bys (Ck.pc l v))) :
    Calls Try.prog 23 #[.pointer (some ⟨t, 0, none⟩), .int .i64 (v : Int), .int .i64 (n : Int), .slice (some ⟨gi, 0, none⟩) (Ck.pc l v).length ci] x fun e y => e = .returned (.int .i64 0) ∧ Ck.Com w y s t gl cl n l had at_ (Ck.put has v) ∧ Turn (fun k => k = t) x y := by
  obtain ⟨tot, L, V, h1, h2, h5⟩ := H.tak
  obtain ⟨Vs, h3, h4⟩ := H.rows
  obtain ⟨z1, z2⟩ := Ck.ps_size (l := l) (i := v) (by rw [H.num]; exact hv)
  rw [H.num] at z2
  have hgt : gi ≠ t := Ck.own_off h1.box hp (by decide) gi rfl
  refine (ckPut_ok _ t tot has L V v n _ (Ck.pc l v) x h1 (Ck.own_src hp) H.snd.n1 H.snd.n16 hv h2 z1 z2 (fun ad cap e _ => by
    simp at e
    rw [← e.1]
    exact hgt)).mono ?_
  rintro e y ⟨rfl, ⟨V', hM, _⟩, hT⟩
  refine ⟨rfl, ⟨H.snd.turn hT H.st, ⟨n, _, V', hM, .inr rfl, fun j hj q => ?_⟩, ⟨Vs, h3, h4.off hT (fun k e r => Ck.own_off h1.box h4.own (by decide) k e r) (fun u l' hu k e r => Ck.own_off h1.box hu (by decide) k e r)⟩, H.num, H.st, H.ls, fun i hi q => ?_, H.bel.trans (hT.below H.bel.size (fun k e => by rw [e]; exact h1.low))⟩, hT⟩
  · unfold Ck.lay
    split
    · rename_i hc
      rw [hc.1]
    · rename_i hc
      unfold Ck.put at q
      by_cases e : j = v
      · subst e
        refine h5 j hj ?_
        cases hh : has j with
        | true => rfl
        | false => exact absurd ⟨rfl, hh⟩ hc
      · rw [if_neg e] at q
        exact h5 j hj q
  · unfold Ck.put
    split
    · rfl
    · exact H.sub i hi q

/-- Whole. -/
theorem Ck.Com.whole {w x : World} {s t gl cl n : Nat} {l : List Int} {had : Nat → Bool} {at_ : Nat} {has : Nat → Bool} (H : Ck.Com w x s t gl cl n l had at_ has) :
    Calls Try.prog 27 #[.pointer (some ⟨t, 0, none⟩)] x fun e y => ∃ a m c b, e = .returned (.tuple #[.slice a m c, .bool b]) ∧ Ck.Com w y s t gl cl n l had at_ has ∧ ((∀ i, i < n → has i = true) → b = true ∧ Ck.Src y (.slice a m c) l) := by
  obtain ⟨tot, L, V, h1, h2, h5⟩ := H.tak
  refine (ckWhole_any _ t tot has L V x h1).mono ?_
  rintro e y (⟨v, rfl, h0, hall, hown, hg⟩ | ⟨rfl, h, hg⟩)
  · obtain rfl : tot = n := by omega
    have hc : Ck.cat L tot = l := by
      rw [← Ck.ps_cat (l := l), H.num]
      have : ∀ k, k ≤ tot → Ck.cat L k = Ck.cat (Ck.pc l) k := fun k => by
        induction k with
        | zero => intro _; rfl
        | succ k ih =>
          intro hk
          show Ck.cat L k ++ L k = Ck.cat (Ck.pc l) k ++ Ck.pc l k
          rw [ih (by omega), h5 k (by have := H.snd.n16; omega) (hall k (by omega))]
      exact this tot (Nat.le_refl _)
    rw [hc] at hown
    have hs := Ck.own_src hown
    rcases hown.2 with ⟨e1, _⟩ | ⟨g, c, cur, e, _⟩
    · subst e1
      exact ⟨none, 0, 0, true, rfl, H.on hg, fun _ => ⟨rfl, hs⟩⟩
    · subst e
      exact ⟨_, _, c, true, rfl, H.on hg, fun _ => ⟨rfl, hs⟩⟩
  · refine ⟨none, 0, 0, false, rfl, H.on hg, fun q => ?_⟩
    rcases h with h | ⟨i, hi1, hi2⟩
    · have h6 := h1.nil h 0 (by omega)
      rw [q 0 (by have := H.snd.n1; omega)] at h6
      cases h6
    · rw [q i (by omega)] at hi2
      cases hi2

theorem Ck.Com.bits {w x : World} {s t gl cl n : Nat} {l : List Int} {had : Nat → Bool} {at_ : Nat} {has : Nat → Bool} (H : Ck.Com w x s t gl cl n l had at_ has) :
    Calls Try.prog 25 #[.pointer (some ⟨t, 0, none⟩)] x fun e y => e = .returned (.int .u32 (Ck.num has 16)) ∧ y = x := by
  obtain ⟨tot, L, V, h1, h2, h5⟩ := H.tak
  exact ckBits_any _ _ _ _ _ _ x h1

/-- What is there is heard of. -/
theorem Ck.Com.ack {w x : World} {s t gl cl n : Nat} {l : List Int} {had : Nat → Bool} {at_ : Nat} {has : Nat → Bool} (H : Ck.Com w x s t gl cl n l had at_ has) :
    Calls Try.prog 20 #[.pointer (some ⟨s, 0, none⟩), .int .u32 (Ck.num has 16)] x fun e y => e = .returned (.tuple #[]) ∧ Ck.Com w y s t gl cl n l (Ck.heard had (Ck.num has 16)) at_ has := by
  have hr := Ck.num_range has (k := 16) (by omega)
  refine (ckAck_any s n had at_ (Ck.num has 16) x H.snd hr.1 (by omega)).mono ?_
  rintro e y ⟨rfl, hM, ht⟩
  refine ⟨rfl, H.sends ht hM fun i hi q => ?_⟩
  unfold Ck.heard at q
  rw [Ck.bit_num has (by have := H.snd.n16; omega)] at q
  cases hh : has i with
  | true => rfl
  | false =>
    rw [hh, Bool.or_false] at q
    rw [H.sub i hi q] at hh
    cases hh

theorem Ck.heard_at {had has : Nat → Bool} {i : Nat} (hi : i < 16) : Ck.heard had (Ck.num has 16) i = (had i || has i) := by
  unfold Ck.heard
  rw [Ck.bit_num has hi]

end Go.Proofs.Ytnolelhjhhiohaa
