/-
  Datagrams of which a kind's own fields are the same are gone past alike, whatever the side.
-/
import Derived.Test.YtiegccdgoemamaaTripAll
import Derived.Test.YtiegccdgoemamaaWireLst
namespace Go.Proofs.Ytiegccdgoemamaa
open Go.RowKit

section
variable {σ : Type} {step : σ → Int → Int → Int → Int → σ × Int} {s : σ}

theorem Wr.st_congr {α : Type} {each : σ → α → σ × α} {xs ys : Nat → α} : ∀ n, (∀ t i, i < n → (each t (xs i)).1 = (each t (ys i)).1) → Wr.st each s xs n = Wr.st each s ys n
  | 0, _ => rfl
  | n + 1, h => by
    unfold Wr.st
    rw [Wr.st_congr n (fun t i hi => h t i (by omega)), h _ n (by omega)]

theorem Wr.recS_congr {r q : Nat → Int} (h0 : 1 ≤ r 0 ∧ r 0 ≤ 3) (hs : ∀ t n, 1 ≤ n ∧ n ≤ 3 → (step t n 1 1 3).2 = n) (h : Wr.recLike r q) (t : σ) : (Wr.recS step t q).1 = (Wr.recS step t r).1 := by
  obtain ⟨e0, e1, e2, e3⟩ := h
  unfold Wr.recS Wr.input
  dsimp only
  rw [e0, hs t (r 0) h0]
  rcases (show r 0 = 1 ∨ r 0 = 2 ∨ r 0 = 3 by omega) with k | k | k
  · rw [if_pos k, if_pos k, e1 k]
  · have m1 : ¬ r 0 = 1 := by omega
    have m3 : ¬ r 0 = 3 := by omega
    have o : r 0 = 2 ∨ r 0 = 3 := .inl k
    simp only [if_neg m1, if_pos o, if_neg m3, (e2 o).1, (e2 o).2]
  · have m1 : ¬ r 0 = 1 := by omega
    have o : r 0 = 2 ∨ r 0 = 3 := .inr k
    simp only [if_neg m1, if_pos o, if_pos k, (e2 o).1, (e2 o).2, e3 k]

theorem Wr.joinS_congr {g q : Wr.G} (h2 : q.n 2 = g.n 2) (hw : q.watch = g.watch) : (Wr.joinS step s q).1 = (Wr.joinS step s g).1 := by
  unfold Wr.joinS
  rw [h2, hw]

theorem Wr.headS_congr {g q : Wr.G} (h1 : q.n 1 = g.n 1) (h2 : q.n 2 = g.n 2) : Wr.headS step s q = Wr.headS step s g := by
  unfold Wr.headS
  rw [h1, h2]

theorem Wr.upS_congr {g q : Wr.G} (z : Nat → Int) (hb : q.bits = g.bits) (hn : ∀ k, 5 ≤ k ∧ k ≤ 11 → q.n k = g.n k) (hr : (q.row 0).2.1 = (g.row 0).2.1) : (Wr.upS step s q z).1 = (Wr.upS step s g z).1 := by
  unfold Wr.upS
  dsimp only
  simp only [Wr.st]
  rw [hb, hn 5 (by omega), hn (6 + 0) (by omega), hn (6 + 1) (by omega), hn (6 + 2) (by omega), hn (6 + 3) (by omega), hn 10 (by omega), hn 11 (by omega), hr]

theorem Wr.chunkS_congr {g q : Wr.G} (z : Nat → Int) (h15 : q.n 15 = g.n 15) (h27 : q.n 27 = g.n 27) (h28 : q.n 28 = g.n 28) (hd : q.data.2.1 = g.data.2.1) : (Wr.chunkS step s q z).1 = (Wr.chunkS step s g z).1 := by
  unfold Wr.chunkS
  rw [h15, h27, h28, hd]

theorem Wr.downS_congr {g q : Wr.G} (zr Z z : Nat → Nat → Int) (h13 : q.n 13 = g.n 13) (h14 : q.n 14 = g.n 14) (h15 : q.n 15 = g.n 15) (h16 : q.n 16 = g.n 16) (h26 : q.n 26 = g.n 26) (hf : ∀ i, i < 4 → q.n (18 + i) = g.n (18 + i)) (hr : ∀ i, i < 4 → (q.row (1 + i)).2.1 = (g.row (1 + i)).2.1)
    (hc : q.recs.2.1 = g.recs.2.1) (hl : ∀ t, (step t g.recs.2.1 2 0 400).2 = g.recs.2.1) (hs : ∀ t n, 1 ≤ n ∧ n ≤ 3 → (step t n 1 1 3).2 = n) (hz : ∀ i, i < g.recs.2.1 → (1 ≤ zr i 0 ∧ zr i 0 ≤ 3) ∧ Wr.recLike (zr i) (Z i)) : (Wr.downS step s q Z z).1 = (Wr.downS step s g zr z).1 := by
  have hst : ∀ t, Wr.st (Wr.recS step) t (Wr.pad g.recs.2.1 Z) g.recs.2.1 = Wr.st (Wr.recS step) t (Wr.pad g.recs.2.1 zr) g.recs.2.1 := fun t => Wr.st_congr _ (fun u i hi => by
    unfold Wr.pad
    rw [if_pos hi, if_pos hi]
    exact Wr.recS_congr (hz i hi).1 hs (hz i hi).2 u)
  unfold Wr.downS Wr.listR
  dsimp only
  simp only [Wr.seatsT]
  rw [h13, h14, h15, h16, h26, hc, hl, Int.toNat_natCast, hst, hf 0 (by omega), hf 1 (by omega), hf 2 (by omega), hf 3 (by omega), hr 0 (by omega), hr 1 (by omega), hr 2 (by omega), hr 3 (by omega)]

end

theorem Wr.enc_says (lo hi : Int) (k : Int) (t : List Int × Int) (n : Int) (h : lo ≤ n ∧ n ≤ hi) : (Wr.encS t n k lo hi).2 = n := by
  unfold Wr.encS
  rw [if_pos h]

/-- A datagram that goes down is not the other's head's. -/
theorem Wr.headG_same (g : Wr.G) (a : (List Int × Int) × Int × Int) : (∀ k, k ≠ 1 → k ≠ 2 → (Wr.headG g a).n k = g.n k) ∧ (Wr.headG g a).bits = g.bits ∧ (Wr.headG g a).row = g.row ∧ (Wr.headG g a).recs = g.recs ∧ (Wr.headG g a).data = g.data :=
  ⟨fun k h1 h2 => by simp [Wr.headG, Wr.G.num, Wr.upd, h1, h2], rfl, rfl, rfl, rfl⟩

end Go.Proofs.Ytiegccdgoemamaa
