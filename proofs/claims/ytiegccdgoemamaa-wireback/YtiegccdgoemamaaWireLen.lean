/-
  How long what is written is, where every field may be.
-/
import Derived.Test.YtiegccdgoemamaaWireGood
namespace Go.Proofs.Ytiegccdgoemamaa
open Go.RowKit

/-- So many bytes more; what may not be is as it was. -/
def Wr.Pre (s t : List Int × Int) (m : Nat) : Prop := (∃ l, t.1 = s.1 ++ l) ∧ t.1.length = s.1.length + m ∧ t.2 = s.2

theorem Wr.Pre.refl (s : List Int × Int) : Wr.Pre s s 0 := ⟨⟨[], by simp⟩, rfl, rfl⟩
theorem Wr.Pre.trans {s t u : List Int × Int} {m n : Nat} (h : Wr.Pre s t m) (k : Wr.Pre t u n) : Wr.Pre s u (m + n) := by
  obtain ⟨⟨l, h1⟩, h2, h3⟩ := h
  obtain ⟨⟨r, k1⟩, k2, k3⟩ := k
  exact ⟨⟨l ++ r, by rw [k1, h1, List.append_assoc]⟩, by omega, k3.trans h3⟩
theorem Wr.Pre.of {s t : List Int × Int} {m n : Nat} (h : Wr.Pre s t m) (e : m = n) : Wr.Pre s t n := e ▸ h

theorem Wr.encS_fits (s : List Int × Int) (n : Int) (k : Nat) (lo hi : Int) (h : lo ≤ n ∧ n ≤ hi) : Wr.Pre s (Wr.encS s n (k : Int) lo hi).1 k ∧ (Wr.encS s n (k : Int) lo hi).2 = n := by
  unfold Wr.encS
  rw [if_pos h]
  exact ⟨⟨⟨_, rfl⟩, by simp [Wr.bytes_len], rfl⟩, rfl⟩

theorem Wr.mapS_fits {each : List Int × Int → Int → (List Int × Int) × Int} : ∀ (l : List Int) (s : List Int × Int), (∀ s a, a ∈ l → Wr.Pre s (each s a).1 1) → Wr.Pre s (Wr.mapS each s l).1 l.length
  | [], s, _ => Wr.Pre.refl s
  | a :: l, s, h => ((h s a (by simp)).trans (Wr.mapS_fits l _ (fun s b hb => h s b (by simp [hb])))).of (by simp; omega)

theorem Wr.listS_fits {each : List Int × Int → Int → (List Int × Int) × Int} (s : List Int × Int) (n k most : Nat) (z : Nat → Int) (hn : n ≤ most) (h : ∀ s i, i < n → Wr.Pre s (each s (z i)).1 1) : Wr.Pre s (Wr.listS Wr.encS each s n (k : Int) (most : Int) z).1 (k + n) := by
  unfold Wr.listS
  obtain ⟨h1, h2⟩ := Wr.encS_fits s (n : Int) k 0 (most : Int) (by omega)
  rw [h2, Int.toNat_natCast]
  refine (h1.trans (Wr.mapS_fits (Wr.fit n n z) _ (fun s a ha => ?_))).of (by simp [Wr.fit])
  unfold Wr.fit at ha
  obtain ⟨i, hi, rfl⟩ := List.mem_map.1 ha
  rw [if_pos (List.mem_range.1 hi)]
  exact h s i (List.mem_range.1 hi)

/-- So many in all. -/
def Wr.sum (c : Nat → Nat) : Nat → Nat
  | 0 => 0
  | i + 1 => Wr.sum c i + c i

theorem Wr.st_fits {α : Type} {each : List Int × Int → α → (List Int × Int) × α} {c : Nat → Nat} (s : List Int × Int) (xs : Nat → α) : ∀ m, (∀ s i, i < m → Wr.Pre s (each s (xs i)).1 (c i)) → Wr.Pre s (Wr.st each s xs m) (Wr.sum c m)
  | 0, _ => Wr.Pre.refl s
  | m + 1, h => (Wr.st_fits s xs m (fun s i hi => h s i (by omega))).trans (h _ m (by omega))

/-- How many bytes a record has. -/
def Wr.recLen (k : Int) : Nat := if k = 1 then 2 else if k = 2 then 6 else 10

theorem Wr.recS_fits (s : List Int × Int) (r : Nat → Int) (h0 : 1 ≤ r 0 ∧ r 0 ≤ 3) (h1 : 0 ≤ r 1 ∧ r 1 ≤ 10) (h2 : 0 ≤ r 2 ∧ r 2 ≤ 3) (h3 : 0 ≤ r 3 ∧ r 3 ≤ 1073741823) (h4 : 0 ≤ r 4 ∧ r 4 ≤ 1073741823) : Wr.Pre s (Wr.recS Wr.encS s r).1 (Wr.recLen (r 0)) := by
  unfold Wr.recS Wr.input Wr.recLen
  dsimp only
  obtain ⟨p0, e0⟩ := Wr.encS_fits s (r 0) 1 1 3 h0
  have e0' : (Wr.encS s (r 0) 1 1 3).2 = r 0 := e0
  rw [e0']
  by_cases k1 : r 0 = 1
  · rw [if_pos k1, if_pos k1]
    exact p0.trans (Wr.encS_fits _ (r 1) 1 0 10 h1).1
  · rw [if_neg k1, if_neg k1, if_pos (by omega)]
    by_cases k2 : r 0 = 2
    · rw [if_neg (by omega), if_pos k2]
      exact (p0.trans (Wr.encS_fits _ (r 2) 1 0 3 h2).1).trans (Wr.encS_fits _ (r 3) 4 0 1073741823 h3).1
    · rw [if_pos (by omega), if_neg k2]
      exact ((p0.trans (Wr.encS_fits _ (r 2) 1 0 3 h2).1).trans (Wr.encS_fits _ (r 3) 4 0 1073741823 h3).1).trans (Wr.encS_fits _ (r 4) 4 0 1073741823 h4).1

theorem Wr.listR_fits (s : List Int × Int) (n : Nat) (z : Nat → Nat → Int) (hn : n ≤ 400) (h : ∀ s i, i < n → Wr.Pre s (Wr.recS Wr.encS s (z i)).1 (Wr.recLen (z i 0))) : Wr.Pre s (Wr.listR Wr.encS s n z).1 (2 + Wr.sum (fun i => Wr.recLen (z i 0)) n) := by
  unfold Wr.listR
  dsimp only
  obtain ⟨h1, h2⟩ := Wr.encS_fits s (n : Int) 2 0 400 (by omega)
  have h2' : (Wr.encS s (n : Int) 2 0 400).2 = n := h2
  rw [h2', Int.toNat_natCast]
  refine h1.trans (Wr.st_fits _ _ n (fun s i hi => ?_))
  unfold Wr.pad
  rw [if_pos hi]
  exact h s i hi

theorem Wr.seatS_fits (s : List Int × Int) (a : Int) (n : Nat) (z : Nat → Int) (ha : 0 ≤ a ∧ a ≤ 1073741823) (hn : n ≤ 255) (h : ∀ i, i < n → 0 ≤ z i ∧ z i ≤ 10) : Wr.Pre s (Wr.seatS Wr.encS s a n z).1 (5 + n) := by
  unfold Wr.seatS
  dsimp only
  exact ((Wr.encS_fits s a 4 0 1073741823 ha).1.trans (Wr.listS_fits _ n 1 255 z hn (fun s i hi => (Wr.encS_fits s (z i) 1 0 10 (h i hi)).1))).of (by omega)

theorem Wr.seatsT_fits (s : List Int × Int) (a : Nat → Int) (n : Nat → Nat) (z : Nat → Nat → Int) : ∀ m, (∀ i, i < m → (0 ≤ a i ∧ a i ≤ 1073741823) ∧ n i ≤ 255 ∧ ∀ t, t < n i → 0 ≤ z i t ∧ z i t ≤ 10) → Wr.Pre s (Wr.seatsT Wr.encS s a n z m) (Wr.sum (fun i => 5 + n i) m)
  | 0, _ => Wr.Pre.refl s
  | m + 1, h => (Wr.seatsT_fits s a n z m (fun i hi => h i (by omega))).trans (Wr.seatS_fits _ (a m) (n m) (z m) (h m (by omega)).1 (h m (by omega)).2.1 (h m (by omega)).2.2)

/-- A number of four bytes. -/
def Wr.Num (n : Int) : Prop := 0 ≤ n ∧ n ≤ 1073741823

theorem Wr.headS_fits (s : List Int × Int) (g : Wr.G) (h1 : Wr.Num (g.n 1)) (h2 : Wr.Num (g.n 2)) : Wr.Pre s (Wr.headS Wr.encS s g).1 8 ∧ Wr.headG g (Wr.headS Wr.encS s g) = (g.num 1 (g.n 1)).num 2 (g.n 2) := by
  unfold Wr.headG Wr.headS
  dsimp only
  obtain ⟨p1, e1⟩ := Wr.encS_fits s (g.n 1) 4 0 1073741823 h1
  obtain ⟨p2, e2⟩ := Wr.encS_fits (Wr.encS s (g.n 1) 4 0 1073741823).1 (g.n 2) 4 0 1073741823 h2
  have e1' : (Wr.encS s (g.n 1) 4 0 1073741823).2 = g.n 1 := e1
  have e2' : (Wr.encS (Wr.encS s (g.n 1) 4 0 1073741823).1 (g.n 2) 4 0 1073741823).2 = g.n 2 := e2
  exact ⟨p1.trans p2, by rw [e1', e2']⟩

theorem Wr.num_self (g : Wr.G) (k : Nat) : g.num k (g.n k) = g := by
  unfold Wr.G.num Wr.upd
  have : (fun j => if j = k then g.n k else g.n j) = g.n := by
    funext j
    by_cases e : j = k
    · rw [if_pos e, e]
    · rw [if_neg e]
  rw [this]

theorem Wr.head_self (s : List Int × Int) (g : Wr.G) (h1 : Wr.Num (g.n 1)) (h2 : Wr.Num (g.n 2)) : Wr.headG g (Wr.headS Wr.encS s g) = g := by
  rw [(Wr.headS_fits s g h1 h2).2, Wr.num_self]
  have : (g.num 1 (g.n 1)) = g := Wr.num_self g 1
  exact Wr.num_self g 2

theorem Wr.joinS_fits (s : List Int × Int) (g : Wr.G) (h2 : Wr.Num (g.n 2)) : Wr.Pre s (Wr.joinS Wr.encS s g).1 5 := by
  unfold Wr.joinS
  dsimp only
  exact (Wr.encS_fits s (g.n 2) 4 0 1073741823 h2).1.trans (Wr.encS_fits _ (Wr.bit g.watch) 1 0 1 (by unfold Wr.bit; split <;> omega)).1

theorem Wr.upS_fits (s : List Int × Int) (g : Wr.G) (z : Nat → Int) (hb : 0 ≤ g.bits ∧ g.bits ≤ 4294967295) (h5 : Wr.Num (g.n 5)) (h6 : ∀ i, i < 4 → Wr.Num (g.n (6 + i))) (h10 : Wr.Num (g.n 10)) (h11 : Wr.Num (g.n 11)) (hn : (g.row 0).2.1 ≤ 255) (hz : ∀ i, i < (g.row 0).2.1 → 0 ≤ z i ∧ z i ≤ 10) :
    Wr.Pre s (Wr.upS Wr.encS s g z).1 (33 + (g.row 0).2.1) := by
  unfold Wr.upS
  dsimp only
  have a1 := (Wr.encS_fits s g.bits 4 0 4294967295 hb).1
  have a2 := a1.trans (Wr.encS_fits _ (g.n 5) 4 0 1073741823 h5).1
  have a3 := a2.trans (Wr.st_fits (each := fun t n => Wr.encS t n 4 0 1073741823) (c := fun _ => 4) _ (fun i => g.n (6 + i)) 4 (fun s i hi => (Wr.encS_fits s (g.n (6 + i)) 4 0 1073741823 (h6 i hi)).1))
  have a4 := a3.trans (Wr.encS_fits _ (g.n 10) 4 0 1073741823 h10).1
  have a5 := a4.trans (Wr.encS_fits _ (g.n 11) 4 0 1073741823 h11).1
  exact (a5.trans (Wr.listS_fits _ (g.row 0).2.1 1 255 z hn (fun s i hi => (Wr.encS_fits s (z i) 1 0 10 (hz i hi)).1))).of (by simp [Wr.sum]; omega)

theorem Wr.chunkS_fits (s : List Int × Int) (g : Wr.G) (z : Nat → Int) (h15 : Wr.Num (g.n 15)) (h28 : 1 ≤ g.n 28 ∧ g.n 28 ≤ 16) (h27 : 0 ≤ g.n 27 ∧ g.n 27 < g.n 28) (hn : g.data.2.1 ≤ 64) (hz : ∀ i, i < g.data.2.1 → 0 ≤ z i ∧ z i ≤ 255) :
    Wr.Pre s (Wr.chunkS Wr.encS s g z).1 (7 + g.data.2.1) := by
  unfold Wr.chunkS
  dsimp only
  have a1 := (Wr.encS_fits s (g.n 15) 4 0 1073741823 h15).1
  obtain ⟨b2, e2⟩ := Wr.encS_fits (Wr.encS s (g.n 15) 4 0 1073741823).1 (g.n 27) 1 0 255 (by omega)
  have e2' : (Wr.encS (Wr.encS s (g.n 15) 4 0 1073741823).1 (g.n 27) 1 0 255).2 = g.n 27 := e2
  rw [e2']
  have hw : wrap64 (g.n 27 + 1) = g.n 27 + 1 := by
    have h := IntKind.wrap_i64 (g.n 27 + 1)
    unfold wrap64
    omega
  rw [hw]
  have a3 := (a1.trans b2).trans (Wr.encS_fits _ (g.n 28) 1 (g.n 27 + 1) 16 (by omega)).1
  exact (a3.trans (Wr.listS_fits (each := Wr.datum Wr.encS) _ g.data.2.1 1 64 z hn (fun s i hi => (Wr.encS_fits s (z i) 1 0 255 (hz i hi)).1))).of (by omega)

theorem Wr.downS_fits (s : List Int × Int) (g : Wr.G) (zr z : Nat → Nat → Int) (h13 : 1 ≤ g.n 13 ∧ g.n 13 ≤ 7) (h14 : -1 ≤ g.n 14 ∧ g.n 14 ≤ 3) (h15 : Wr.Num (g.n 15)) (h16 : Wr.Num (g.n 16)) (h26 : Wr.Num (g.n 26)) (hr : g.recs.2.1 ≤ 400)
    (hzr : ∀ s i, i < g.recs.2.1 → Wr.Pre s (Wr.recS Wr.encS s (zr i)).1 (Wr.recLen (zr i 0))) (hs : ∀ i, i < 4 → Wr.Num (g.n (18 + i)) ∧ (g.row (1 + i)).2.1 ≤ 255 ∧ ∀ t, t < (g.row (1 + i)).2.1 → 0 ≤ z i t ∧ z i t ≤ 10) :
    Wr.Pre s (Wr.downS Wr.encS s g zr z).1 (16 + Wr.sum (fun i => Wr.recLen (zr i 0)) g.recs.2.1 + Wr.sum (fun i => 5 + (g.row (1 + i)).2.1) 4) := by
  unfold Wr.downS
  dsimp only
  have a1 := (Wr.encS_fits s (g.n 13) 1 1 7 h13).1
  have a2 := a1.trans (Wr.encS_fits _ (Wr.trade (g.n 14)) 1 0 4 (by unfold Wr.trade; split; omega; split <;> omega)).1
  have a3 := a2.trans (Wr.encS_fits _ (g.n 15) 4 0 1073741823 h15).1
  have a4 := a3.trans (Wr.encS_fits _ (g.n 16) 4 0 1073741823 h16).1
  have a5 := a4.trans (Wr.listR_fits _ g.recs.2.1 zr hr hzr)
  have a6 := a5.trans (Wr.seatsT_fits _ (fun i => g.n (18 + i)) (fun i => (g.row (1 + i)).2.1) z 4 (fun i hi => hs i hi))
  exact (a6.trans (Wr.encS_fits _ (g.n 26) 4 0 1073741823 h26).1).of (by omega)

end Go.Proofs.Ytiegccdgoemamaa
