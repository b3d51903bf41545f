/-
  What is written is read as it was: the fields of each kind.
  What is written is read as it was: a datagram that goes down.
-/
import Derived.Test.YtiegccdgoemamaaTakeAll
import Derived.Test.YtiegccdgoemamaaParseAll
namespace Go.Proofs.Ytiegccdgoemamaa
open Go.RowKit

theorem Wr.p256 : (256 : Int) ^ (1 : Int).toNat = 256 := by decide

theorem Wr.encBits (pre : List Int) (n : Int) (h : 0 ≤ n ∧ n ≤ 4294967295) : Wr.encS (pre, 0) n 4 0 4294967295 = ((pre ++ Wr.bytes n 4, 0), n) := Wr.enc1 pre n 4 0 4294967295 h

theorem Wr.parBits (suf : List Int) (n a : Int) (h : 0 ≤ n ∧ n ≤ 4294967295) : Wr.parS (Wr.bytes n 4 ++ suf, 0) a 4 0 4294967295 = ((suf, 0), n) :=
  Wr.par1 suf n a 4 0 4294967295 (.inr (.inr rfl)) h.1 (by have : (256 : Int) ^ (4 : Int).toNat = 4294967296 := by decide
                                                           omega) h

theorem Wr.headE (pre : List Int) (g : Wr.G) (h1 : 0 ≤ g.n 1 ∧ g.n 1 ≤ 1073741823) (h2 : 0 ≤ g.n 2 ∧ g.n 2 ≤ 1073741823) : Wr.headS Wr.encS (pre, 0) g = ((pre ++ (Wr.bytes (g.n 1) 4 ++ Wr.bytes (g.n 2) 4), 0), g.n 1, g.n 2) := by
  unfold Wr.headS
  dsimp only
  rw [Wr.enc4 _ _ h1]
  dsimp only
  rw [Wr.enc4 _ _ h2]
  simp

theorem Wr.headR (suf : List Int) (a b : Int) (g : Wr.G) (h1 : 0 ≤ a ∧ a ≤ 1073741823) (h2 : 0 ≤ b ∧ b ≤ 1073741823) : Wr.headS Wr.parS (Wr.bytes a 4 ++ (Wr.bytes b 4 ++ suf), 0) g = ((suf, 0), a, b) := by
  unfold Wr.headS
  dsimp only
  rw [Wr.par4 _ _ _ h1]
  dsimp only
  rw [Wr.par4 _ _ _ h2]

theorem Wr.joinE (pre : List Int) (g : Wr.G) (h2 : 0 ≤ g.n 2 ∧ g.n 2 ≤ 1073741823) : Wr.joinS Wr.encS (pre, 0) g = ((pre ++ (Wr.bytes (g.n 2) 4 ++ [Wr.bit g.watch]), 0), g.n 2, Wr.bit g.watch) := by
  unfold Wr.joinS
  dsimp only
  have hb : 0 ≤ Wr.bit g.watch ∧ Wr.bit g.watch ≤ 1 := by unfold Wr.bit; split <;> decide
  rw [Wr.enc4 _ _ h2]
  dsimp only
  rw [Wr.encB1 _ _ 0 1 hb (by omega)]
  simp

theorem Wr.joinR (g : Wr.G) (h2 : 0 ≤ g.n 2 ∧ g.n 2 ≤ 1073741823) : Wr.joinP (Wr.bytes (g.n 2) 4 ++ [Wr.bit g.watch]) = (([], 0), g.n 2, Wr.bit g.watch) := by
  unfold Wr.joinP Wr.joinS
  dsimp only
  have hb : 0 ≤ Wr.bit g.watch ∧ Wr.bit g.watch ≤ 1 := by unfold Wr.bit; split <;> decide
  rw [Wr.par4 _ _ _ h2]
  dsimp only
  rw [Wr.parB1 _ _ _ 0 1 hb (by omega)]

/-- An input's list, as bytes. -/
theorem Wr.inputsE (pre : List Int) (n : Nat) (z : Nat → Int) (hn : n ≤ 255) (hz : ∀ i, i < n → 0 ≤ z i ∧ z i ≤ 10) : Wr.listS Wr.encS (Wr.input Wr.encS) (pre, 0) n 1 255 z = ((pre ++ (Wr.bytes n 1 ++ (List.range n).map z), 0), (List.range n).map z) :=
  Wr.listE pre n 255 z (by omega) (fun i hi pre => Wr.encB1 pre (z i) 0 10 (hz i hi) (by have := hz i hi; omega)) 1

theorem Wr.inputsR (suf : List Int) (n n' : Nat) (z z' : Nat → Int) (hn : n ≤ 255) (hz : ∀ i, i < n → 0 ≤ z i ∧ z i ≤ 10) : Wr.listS Wr.parS (Wr.input Wr.parS) (Wr.bytes n 1 ++ (List.range n).map z ++ suf, 0) n' 1 255 z' = ((suf, 0), (List.range n).map z) :=
  Wr.listP suf n n' 1 255 z z' (.inl rfl) (by rw [Wr.p256]; omega) (by omega) (fun i hi suf x => Wr.parB1 suf (z i) x 0 10 (hz i hi) (by have := hz i hi; omega))

def Wr.upB (g : Wr.G) (z : Nat → Int) : List Int := Wr.bytes g.bits 4 ++ (Wr.bytes (g.n 5) 4 ++ (Wr.bytes (g.n 6) 4 ++ (Wr.bytes (g.n 7) 4 ++ (Wr.bytes (g.n 8) 4 ++ (Wr.bytes (g.n 9) 4 ++ (Wr.bytes (g.n 10) 4 ++ (Wr.bytes (g.n 11) 4 ++ (Wr.bytes (g.row 0).2.1 1 ++ (List.range (g.row 0).2.1).map z))))))))

theorem Wr.upE (pre : List Int) (g : Wr.G) (z : Nat → Int) (hb : 0 ≤ g.bits ∧ g.bits ≤ 4294967295) (hr : ∀ k, 5 ≤ k ∧ k ≤ 11 → 0 ≤ g.n k ∧ g.n k ≤ 1073741823) (hn : (g.row 0).2.1 ≤ 255) (hz : ∀ i, i < (g.row 0).2.1 → 0 ≤ z i ∧ z i ≤ 10) : (Wr.upS Wr.encS (pre, 0) g z).1 = (pre ++ Wr.upB g z, 0) := by
  unfold Wr.upS
  dsimp only
  rw [Wr.encBits _ _ hb]
  dsimp only
  rw [Wr.enc4 _ _ (hr 5 (by omega))]
  simp only [Wr.st]
  rw [Wr.enc4 _ _ (hr (6 + 0) (by omega)), Wr.enc4 _ _ (hr (6 + 1) (by omega)), Wr.enc4 _ _ (hr (6 + 2) (by omega)), Wr.enc4 _ _ (hr (6 + 3) (by omega)), Wr.enc4 _ _ (hr 10 (by omega)), Wr.enc4 _ _ (hr 11 (by omega)), Wr.inputsE _ _ _ hn hz]
  simp [Wr.upB]

theorem Wr.upR (suf : List Int) (g g' : Wr.G) (z z' : Nat → Int) (hb : 0 ≤ g.bits ∧ g.bits ≤ 4294967295) (hr : ∀ k, 5 ≤ k ∧ k ≤ 11 → 0 ≤ g.n k ∧ g.n k ≤ 1073741823) (hn : (g.row 0).2.1 ≤ 255) (hz : ∀ i, i < (g.row 0).2.1 → 0 ≤ z i ∧ z i ≤ 10) :
    ∃ F, Wr.upS Wr.parS (Wr.upB g z ++ suf, 0) g' z' = ((suf, 0), g.bits, g.n 5, F, g.n 10, g.n 11, (List.range (g.row 0).2.1).map z) ∧ ∀ i, i < 4 → F i = g.n (6 + i) := by
  have p0 := fun s a => Wr.par4 s _ a (hr 6 (by omega))
  have p1 := fun s a => Wr.par4 s _ a (hr 7 (by omega))
  have p2 := fun s a => Wr.par4 s _ a (hr 8 (by omega))
  have p3 := fun s a => Wr.par4 s _ a (hr 9 (by omega))
  unfold Wr.upS Wr.upB
  dsimp only
  simp only [List.append_assoc]
  rw [Wr.parBits _ _ _ hb]
  dsimp only
  rw [Wr.par4 _ _ _ (hr 5 (by omega))]
  simp only [Wr.st]
  rw [p0, p1, p2, p3, Wr.par4 _ _ _ (hr 10 (by omega)), Wr.par4 _ _ _ (hr 11 (by omega)), ← List.append_assoc (Wr.bytes _ 1), Wr.inputsR _ _ _ _ _ hn hz]
  refine ⟨_, by rw [Int.emod_eq_of_lt hb.1 (by omega)], fun i hi => ?_⟩
  rcases (show i = 0 ∨ i = 1 ∨ i = 2 ∨ i = 3 by omega) with rfl | rfl | rfl | rfl
  · simp only [Wr.ou, Wr.st]
    rw [p0]
  · simp only [Wr.ou, Wr.st]
    rw [p0, p1]
  · simp only [Wr.ou, Wr.st]
    rw [p0, p1, p2]
  · simp only [Wr.ou, Wr.st]
    rw [p0, p1, p2, p3]

def Wr.chunkB (g : Wr.G) (z : Nat → Int) : List Int := Wr.bytes (g.n 15) 4 ++ (g.n 27 :: g.n 28 :: (Wr.bytes g.data.2.1 1 ++ (List.range g.data.2.1).map z))

theorem Wr.datumE (pre : List Int) (a : Int) (h : 0 ≤ a ∧ a ≤ 255) : Wr.datum Wr.encS (pre, 0) a = ((pre ++ [a], 0), a) := by
  unfold Wr.datum
  rw [Wr.encB1 _ _ 0 255 h h]
  dsimp only
  rw [Int.emod_eq_of_lt h.1 (by omega)]

theorem Wr.datumR (suf : List Int) (a x : Int) (h : 0 ≤ a ∧ a ≤ 255) : Wr.datum Wr.parS (a :: suf, 0) x = ((suf, 0), a) := by
  unfold Wr.datum
  rw [Wr.parB1 _ _ _ 0 255 h h]
  dsimp only
  rw [Int.emod_eq_of_lt h.1 (by omega)]

theorem Wr.chunkE (pre : List Int) (g : Wr.G) (z : Nat → Int) (h15 : 0 ≤ g.n 15 ∧ g.n 15 ≤ 1073741823) (h28 : 1 ≤ g.n 28 ∧ g.n 28 ≤ 16) (h27 : 0 ≤ g.n 27 ∧ g.n 27 < g.n 28) (hn : g.data.2.1 ≤ 64) (hz : ∀ i, i < g.data.2.1 → 0 ≤ z i ∧ z i ≤ 255) : (Wr.chunkS Wr.encS (pre, 0) g z).1 = (pre ++ Wr.chunkB g z, 0) := by
  have hw : wrap64 (g.n 27 + 1) = g.n 27 + 1 := by unfold wrap64; omega
  unfold Wr.chunkS
  dsimp only
  rw [Wr.enc4 _ _ h15]
  dsimp only
  rw [Wr.encB1 _ _ 0 255 (by omega) (by omega)]
  dsimp only
  rw [hw, Wr.encB1 _ _ _ 16 (by omega) (by omega), Wr.listE _ _ 64 z (by omega) (fun i hi pre => Wr.datumE pre (z i) (hz i hi)) 1]
  simp [Wr.chunkB]

theorem Wr.datasR (suf : List Int) (n n' : Nat) (z z' : Nat → Int) (hn : n ≤ 64) (hz : ∀ i, i < n → 0 ≤ z i ∧ z i ≤ 255) : Wr.listS Wr.parS (Wr.datum Wr.parS) (Wr.bytes n 1 ++ (List.range n).map z ++ suf, 0) n' 1 64 z' = ((suf, 0), (List.range n).map z) :=
  Wr.listP suf n n' 1 64 z z' (.inl rfl) (by rw [Wr.p256]; omega) (by omega) (fun i hi suf x => Wr.datumR suf (z i) x (hz i hi))

theorem Wr.chunkR (suf : List Int) (g g' : Wr.G) (z z' : Nat → Int) (h15 : 0 ≤ g.n 15 ∧ g.n 15 ≤ 1073741823) (h28 : 1 ≤ g.n 28 ∧ g.n 28 ≤ 16) (h27 : 0 ≤ g.n 27 ∧ g.n 27 < g.n 28) (hn : g.data.2.1 ≤ 64) (hz : ∀ i, i < g.data.2.1 → 0 ≤ z i ∧ z i ≤ 255) :
    Wr.chunkS Wr.parS (Wr.chunkB g z ++ suf, 0) g' z' = ((suf, 0), g.n 15, g.n 27, g.n 28, (List.range g.data.2.1).map z) := by
  have hw : wrap64 (g.n 27 + 1) = g.n 27 + 1 := by unfold wrap64; omega
  unfold Wr.chunkS Wr.chunkB
  dsimp only
  simp only [List.append_assoc, List.cons_append]
  rw [Wr.par4 _ _ _ h15]
  dsimp only
  rw [Wr.parB1 _ _ _ 0 255 (by omega) (by omega)]
  dsimp only
  rw [hw, Wr.parB1 _ _ _ _ 16 (by omega) (by omega), ← List.append_assoc (Wr.bytes _ 1)]
  dsimp only
  rw [Wr.datasR suf _ _ z z' hn hz]

end Go.Proofs.Ytiegccdgoemamaa

namespace Go.Proofs.Ytiegccdgoemamaa
open Go.RowKit

def Wr.recsB (n : Nat) (zr : Nat → Nat → Int) : List Int := (List.range n).flatMap fun i => Wr.recB (zr i)

theorem Wr.recsB_more (n : Nat) (zr : Nat → Nat → Int) : Wr.recsB (n + 1) zr = Wr.recsB n zr ++ Wr.recB (zr n) := by
  unfold Wr.recsB
  rw [List.range_succ, List.flatMap_append]
  simp

theorem Wr.recsB_at (zr : Nat → Nat → Int) {i : Nat} : ∀ {n : Nat}, i < n → ∃ t, Wr.recsB n zr = Wr.recsB i zr ++ (Wr.recB (zr i) ++ t)
  | 0, h => absurd h (by omega)
  | n + 1, h => by
    by_cases e : i = n
    · subst e
      exact ⟨[], by rw [Wr.recsB_more, List.append_nil]⟩
    · obtain ⟨t, ht⟩ := Wr.recsB_at zr (n := n) (show i < n by omega)
      exact ⟨t ++ Wr.recB (zr n), by rw [Wr.recsB_more, ht]; simp⟩

theorem Wr.recsE (zr xs : Nat → Nat → Int) (pre : List Int) : ∀ n, (∀ i, i < n → Wr.recOk (zr i) ∧ xs i = zr i) → Wr.st (Wr.recS Wr.encS) (pre, 0) xs n = (pre ++ Wr.recsB n zr, 0)
  | 0, _ => by simp [Wr.st, Wr.recsB]
  | n + 1, h => by
    unfold Wr.st
    rw [Wr.recsE zr xs pre n (fun i hi => h i (by omega)), (h n (by omega)).2, Wr.recE _ _ (h n (by omega)).1, Wr.recsB_more, List.append_assoc]

theorem Wr.recsR (zr xs : Nat → Nat → Int) : ∀ n suf, (∀ i, i < n → Wr.recOk (zr i)) → Wr.st (Wr.recS Wr.parS) (Wr.recsB n zr ++ suf, 0) xs n = (suf, 0)
  | 0, suf, _ => by simp [Wr.st, Wr.recsB]
  | n + 1, suf, h => by
    unfold Wr.st
    rw [Wr.recsB_more, List.append_assoc, Wr.recsR zr xs n _ (fun i hi => h i (by omega))]
    obtain ⟨q, hq, -⟩ := Wr.recP suf (zr n) (xs n) (h n (by omega))
    rw [hq]

theorem Wr.recsO (zr xs : Nat → Nat → Int) (n : Nat) (suf : List Int) (h : ∀ i, i < n → Wr.recOk (zr i)) (i : Nat) (hi : i < n) : Wr.recLike (zr i) (Wr.ou (Wr.recS Wr.parS) (Wr.recsB n zr ++ suf, 0) xs i) := by
  obtain ⟨t, ht⟩ := Wr.recsB_at zr hi
  unfold Wr.ou
  rw [ht, List.append_assoc, Wr.recsR zr xs i _ (fun j hj => h j (by omega)), List.append_assoc]
  obtain ⟨q, hq, hl⟩ := Wr.recP (t ++ suf) (zr i) (xs i) (h i hi)
  rw [hq]
  exact hl

theorem Wr.recP_ok (s : List Int × Int) (x : Nat → Int) (hx : ∀ j, -9223372036854775808 ≤ x j ∧ x j ≤ 9223372036854775807) (j : Nat) : -9223372036854775808 ≤ (Wr.recS Wr.parS s x).2 j ∧ (Wr.recS Wr.parS s x).2 j ≤ 9223372036854775807 := by
  have up : ∀ (r : Nat → Int) (k : Nat) (a : Int), (∀ j, -9223372036854775808 ≤ r j ∧ r j ≤ 9223372036854775807) → (-9223372036854775808 ≤ a ∧ a ≤ 9223372036854775807) → ∀ j, -9223372036854775808 ≤ Wr.upd r k a j ∧ Wr.upd r k a j ≤ 9223372036854775807 := fun r k a hr ha j => by
    unfold Wr.upd
    split
    · exact ha
    · exact hr j
  have an : ∀ s n k lo hi, -9223372036854775808 ≤ lo → hi ≤ 9223372036854775807 → -9223372036854775808 ≤ (Wr.parS s n k lo hi).2 ∧ (Wr.parS s n k lo hi).2 ≤ 9223372036854775807 := fun s n k lo hi h1 h2 => by
    rcases Wr.parS_ans s n k lo hi with h | h <;> omega
  unfold Wr.recS Wr.input
  dsimp only
  have a0 := an s (x 0) 1 1 3 (by decide) (by decide)
  split
  · exact up _ _ _ (up _ _ _ hx a0) (an _ _ _ _ _ (by decide) (by decide)) j
  · split
    · split
      · exact up _ _ _ (up _ _ _ (up _ _ _ (up _ _ _ hx a0) (an _ _ _ _ _ (by decide) (by decide))) (an _ _ _ _ _ (by decide) (by decide))) (an _ _ _ _ _ (by decide) (by decide)) j
      · exact up _ _ _ (up _ _ _ (up _ _ _ hx a0) (an _ _ _ _ _ (by decide) (by decide))) (an _ _ _ _ _ (by decide) (by decide)) j
    · exact up _ _ _ hx a0 j

def Wr.seatB (n : Int) (len : Nat) (z : Nat → Int) : List Int := Wr.bytes n 4 ++ (Wr.bytes len 1 ++ (List.range len).map z)

theorem Wr.seatE (pre : List Int) (n : Int) (len : Nat) (z : Nat → Int) (h : 0 ≤ n ∧ n ≤ 1073741823) (hn : len ≤ 255) (hz : ∀ i, i < len → 0 ≤ z i ∧ z i ≤ 10) : Wr.seatS Wr.encS (pre, 0) n len z = ((pre ++ Wr.seatB n len z, 0), n, (List.range len).map z) := by
  unfold Wr.seatS
  dsimp only
  rw [Wr.enc4 _ _ h]
  dsimp only
  rw [Wr.inputsE _ _ _ hn hz]
  simp [Wr.seatB]

theorem Wr.seatR (suf : List Int) (n n' : Int) (len len' : Nat) (z z' : Nat → Int) (h : 0 ≤ n ∧ n ≤ 1073741823) (hn : len ≤ 255) (hz : ∀ i, i < len → 0 ≤ z i ∧ z i ≤ 10) : Wr.seatS Wr.parS (Wr.seatB n len z ++ suf, 0) n' len' z' = ((suf, 0), n, (List.range len).map z) := by
  unfold Wr.seatS Wr.seatB
  dsimp only
  rw [List.append_assoc, Wr.par4 _ _ _ h]
  dsimp only
  rw [Wr.inputsR _ _ _ _ _ hn hz]

def Wr.downB (g : Wr.G) (zr z : Nat → Nat → Int) : List Int :=
  g.n 13 :: Wr.trade (g.n 14) :: (Wr.bytes (g.n 15) 4 ++ (Wr.bytes (g.n 16) 4 ++ (Wr.bytes g.recs.2.1 2 ++ (Wr.recsB g.recs.2.1 zr ++
    (Wr.seatB (g.n 18) (g.row 1).2.1 (z 0) ++ (Wr.seatB (g.n 19) (g.row 2).2.1 (z 1) ++ (Wr.seatB (g.n 20) (g.row 3).2.1 (z 2) ++ (Wr.seatB (g.n 21) (g.row 4).2.1 (z 3) ++ Wr.bytes (g.n 26) 4))))))))

/-- What may be of one that goes down. -/
structure Wr.DownOk (g : Wr.G) (zr z : Nat → Nat → Int) : Prop where
  k13 : 1 ≤ g.n 13 ∧ g.n 13 ≤ 7
  k14 : -1 ≤ g.n 14 ∧ g.n 14 ≤ 3
  k15 : 0 ≤ g.n 15 ∧ g.n 15 ≤ 1073741823
  k16 : 0 ≤ g.n 16 ∧ g.n 16 ≤ 1073741823
  k26 : 0 ≤ g.n 26 ∧ g.n 26 ≤ 1073741823
  first : ∀ i, i < 4 → 0 ≤ g.n (18 + i) ∧ g.n (18 + i) ≤ 1073741823
  rows : ∀ i, i < 4 → (g.row (1 + i)).2.1 ≤ 255 ∧ ∀ j, j < (g.row (1 + i)).2.1 → 0 ≤ z i j ∧ z i j ≤ 10
  recs : g.recs.2.1 ≤ 400 ∧ ∀ i, i < g.recs.2.1 → Wr.recOk (zr i)

theorem Wr.trade_range {n : Int} (h : -1 ≤ n ∧ n ≤ 3) : (0 ≤ Wr.trade n ∧ Wr.trade n ≤ 4) ∧ Wr.trade (Wr.trade n) = n := by
  unfold Wr.trade
  by_cases e : n = -1
  · subst e; decide
  · rw [if_neg e, if_neg (by omega), if_neg e, if_neg (by omega)]
    omega

theorem Wr.downE (pre : List Int) (g : Wr.G) (zr z : Nat → Nat → Int) (h : Wr.DownOk g zr z) : (Wr.downS Wr.encS (pre, 0) g zr z).1 = (pre ++ Wr.downB g zr z, 0) := by
  have ht := (Wr.trade_range h.k14).1
  have s0 := fun p => Wr.seatE p _ _ _ (h.first 0 (by omega)) (h.rows 0 (by omega)).1 (h.rows 0 (by omega)).2
  have s1 := fun p => Wr.seatE p _ _ _ (h.first 1 (by omega)) (h.rows 1 (by omega)).1 (h.rows 1 (by omega)).2
  have s2 := fun p => Wr.seatE p _ _ _ (h.first 2 (by omega)) (h.rows 2 (by omega)).1 (h.rows 2 (by omega)).2
  have s3 := fun p => Wr.seatE p _ _ _ (h.first 3 (by omega)) (h.rows 3 (by omega)).1 (h.rows 3 (by omega)).2
  unfold Wr.downS
  dsimp only
  rw [Wr.encB1 _ _ 1 7 h.k13 (by have := h.k13; omega)]
  dsimp only
  rw [Wr.encB1 _ _ 0 4 ht (by omega)]
  dsimp only
  rw [Wr.enc4 _ _ h.k15]
  dsimp only
  rw [Wr.enc4 _ _ h.k16]
  unfold Wr.listR
  dsimp only
  rw [Wr.enc1 _ _ 2 0 400 (by have := h.recs.1; omega)]
  dsimp only
  rw [Int.toNat_natCast, Wr.recsE zr _ _ _ (fun i hi => ⟨h.recs.2 i hi, by unfold Wr.pad; rw [if_pos hi]⟩)]
  simp only [Wr.seatsT]
  rw [s0, s1, s2, s3, Wr.enc4 _ _ h.k26]
  simp [Wr.downB]

theorem Wr.downR (suf : List Int) (g g' : Wr.G) (zr zr' z z' : Nat → Nat → Int) (h : Wr.DownOk g zr z) :
    ∃ m Z S, Wr.downS Wr.parS (Wr.downB g zr z ++ suf, 0) g' zr' z' = ((suf, 0), g.n 13, g.n 14, g.n 15, g.n 16, (m, Z), S, g.n 26) ∧ m = g.recs.2.1 ∧ (∀ i, i < m → Wr.recLike (zr i) (Z i)) ∧ ((∀ i j, -9223372036854775808 ≤ zr' i j ∧ zr' i j ≤ 9223372036854775807) → ∀ i j, -9223372036854775808 ≤ Z i j ∧ Z i j ≤ 9223372036854775807) ∧ ∀ i, i < 4 → S i = (g.n (18 + i), (List.range (g.row (1 + i)).2.1).map (z i)) := by
  have ht := Wr.trade_range h.k14
  have s0 := fun p a b c => Wr.seatR p _ a _ b _ c (h.first 0 (by omega)) (h.rows 0 (by omega)).1 (h.rows 0 (by omega)).2
  have s1 := fun p a b c => Wr.seatR p _ a _ b _ c (h.first 1 (by omega)) (h.rows 1 (by omega)).1 (h.rows 1 (by omega)).2
  have s2 := fun p a b c => Wr.seatR p _ a _ b _ c (h.first 2 (by omega)) (h.rows 2 (by omega)).1 (h.rows 2 (by omega)).2
  have s3 := fun p a b c => Wr.seatR p _ a _ b _ c (h.first 3 (by omega)) (h.rows 3 (by omega)).1 (h.rows 3 (by omega)).2
  have p2 : (256 : Int) ^ (2 : Int).toNat = 65536 := by decide
  unfold Wr.downS Wr.downB
  dsimp only
  simp only [List.append_assoc, List.cons_append]
  rw [Wr.parB1 _ _ _ 1 7 h.k13 (by have := h.k13; omega)]
  dsimp only
  rw [Wr.parB1 _ _ _ 0 4 ht.1 (by have := ht.1; omega)]
  dsimp only
  rw [Wr.par4 _ _ _ h.k15]
  dsimp only
  rw [Wr.par4 _ _ _ h.k16]
  unfold Wr.listR
  dsimp only
  rw [show Wr.bytes g.recs.2.1 2 = Wr.bytes g.recs.2.1 (2 : Int).toNat from rfl, Wr.par1 _ _ _ 2 0 400 (.inr (.inl rfl)) (by omega) (by rw [p2]; have := h.recs.1; omega) (by have := h.recs.1; omega)]
  dsimp only
  rw [Int.toNat_natCast, Wr.recsR zr _ _ _ h.recs.2]
  simp only [Wr.seatsT]
  rw [s0, s1, s2, s3, Wr.par4 _ _ _ h.k26, ht.2]
  refine ⟨_, _, _, rfl, rfl, fun i hi => Wr.recsO zr _ _ _ h.recs.2 i hi, fun hz' i j => Wr.recP_ok _ _ (fun j => by
    unfold Wr.pad
    split
    · exact hz' _ _
    · show -9223372036854775808 ≤ (0 : Int) ∧ (0 : Int) ≤ 9223372036854775807
      decide) j, fun i hi => ?_⟩
  rcases (show i = 0 ∨ i = 1 ∨ i = 2 ∨ i = 3 by omega) with rfl | rfl | rfl | rfl
  · simp only [Wr.seatsO, Wr.seatsT]
    rw [s0]
  · simp only [Wr.seatsO, Wr.seatsT]
    rw [s0, s1]
  · simp only [Wr.seatsO, Wr.seatsT]
    rw [s0, s1, s2]
  · simp only [Wr.seatsO, Wr.seatsT]
    rw [s0, s1, s2, s3]

end Go.Proofs.Ytiegccdgoemamaa
