/-
  Potions in a bag, drunk one behind the other; a hero whose hit points and poison are other ones.
  Lists of items, and rows of numbers, that come in as arguments: how they lie in memory.
  Worlds in which heroes stand where one can walk: whatever a seat does they stay so.
-/
import Derived.Test.YtbploaihicakeaaPart23
import Derived.Deep.Fields
import Derived.OpenShut
namespace Go.Proofs.Ytbploaihicakeaa
open Go.RowKit

/-- Potions in the bag of seat 0: those of rows a to b - 1. -/
def Gd.flasks (a b : Nat) : Nat → Nat → Int := fun j => if a ≤ j ∧ j < b then Gd.row 1 2 0 (j : Int) else fun _ => 0

theorem Gd.flask_in {a b j : Nat} (h1 : a ≤ j) (h2 : j < b) : Gd.flasks a b j = Gd.row 1 2 0 (j : Int) := if_pos ⟨h1, h2⟩

theorem Gd.flask_no {a b j : Nat} (h : ¬ (a ≤ j ∧ j < b)) : Gd.flasks a b j = fun _ => 0 := if_neg h

theorem Gd.flask_none : (fun _ _ => 0) = Gd.flasks 0 0 := by
  funext j
  rw [Gd.flask_no (by omega)]

theorem Gd.flask_more (n : Nat) : En.put (Gd.flasks 0 n) n (Gd.row 1 2 0 (n : Int)) = Gd.flasks 0 (n + 1) := by
  funext j
  by_cases e : j = n
  · subst e
    rw [En.put_same, Gd.flask_in (by omega) (by omega)]
  · rw [En.put_other e]
    by_cases h : j < n
    · rw [Gd.flask_in (by omega) h, Gd.flask_in (by omega) (by omega)]
    · rw [Gd.flask_no (by omega), Gd.flask_no (by omega)]

theorem Gd.flask_drunk {a b : Nat} : En.put (Gd.flasks a b) a Gd.gone = Gd.flasks (a + 1) b := by
  funext j
  by_cases e : j = a
  · subst e
    rw [En.put_same, Gd.flask_no (by omega)]
    rfl
  · rw [En.put_other e]
    by_cases h : a ≤ j ∧ j < b
    · rw [Gd.flask_in h.1 h.2, Gd.flask_in (by omega) h.2]
    · rw [Gd.flask_no h, Gd.flask_no (by omega)]

theorem Gd.flask_find {a b k : Nat} (h1 : a ≤ k) (h2 : k < b) (hb : b ≤ 4) : Gd.find (Gd.flasks a b) 40 2 0 (k : Int) = (k : Int) := by
  have hin := Gd.flask_in h1 h2
  refine Gd.find_at (by omega) (by rw [hin]; rfl) (by rw [hin]; rfl) (by rw [hin]; rfl) (fun j hj hc => ?_)
  by_cases h : a ≤ j ∧ j < b
  · rw [Gd.flask_in h.1 h.2] at hc
    have : (j : Int) = (k : Int) := hc.2.2
    omega
  · rw [Gd.flask_no h] at hc
    have : (0 : Int) = 2 := hc.1
    omega

theorem Gd.flask_miss {a b k : Nat} (h : ¬ (a ≤ k ∧ k < b)) : Gd.find (Gd.flasks a b) 40 2 0 (k : Int) < 0 := by
  rw [Gd.find_no fun j _ hc => ?_]
  · omega
  · by_cases hj : a ≤ j ∧ j < b
    · rw [Gd.flask_in hj.1 hj.2] at hc
      have : (j : Int) = (k : Int) := hc.2.2
      omega
    · rw [Gd.flask_no hj] at hc
      have : (0 : Int) = 2 := hc.1
      omega

theorem Gd.flask_has {a b : Nat} (h : a < b) (hb : b ≤ 4) : Gd.has (Gd.flasks a b) 40 0 1 1 = (a : Int) :=
  Gd.has_at (b := a) (by omega) (Gd.flask_find (Nat.le_refl _) h hb) (by rw [Gd.flask_in (Nat.le_refl _) h]; exact Int.le_refl _) (by rw [Gd.flask_in (Nat.le_refl _) h]; exact Int.le_refl _) (fun j hj => Gd.flask_miss (by omega))

theorem Gd.flask_out {a b : Nat} (h : b ≤ a) : Gd.has (Gd.flasks a b) 40 0 1 1 = -1 := Gd.has_no fun j _ => Gd.flask_miss (by omega)

theorem Gd.flask_use {a b : Nat} {x y gd : Int} {shop : Bool} (h : a < b) (hb : b ≤ 4) : Gd.act (Gd.flasks a b) 40 0 x y shop gd 6 = Gd.flasks (a + 1) b := by
  show Gd.use _ 40 0 = _
  unfold Gd.use
  rw [Gd.flask_has h hb, if_pos (by omega), Int.toNat_natCast, Gd.flask_drunk]

theorem Gd.flask_dry {a b : Nat} {x y gd : Int} {shop : Bool} (h : b ≤ a) : Gd.act (Gd.flasks a b) 40 0 x y shop gd 6 = Gd.flasks a b := by
  show Gd.use _ 40 0 = _
  unfold Gd.use
  rw [Gd.flask_out h, if_neg (by omega)]

theorem Gd.flask_ents {E : Nat → Nat → Int} {r a b : Nat} (h : a < b) (hb : b ≤ 4) : Gd.entsOf E (Gd.flasks a b) r 0 6 = Gd.heal E r := by
  unfold Gd.entsOf
  rw [Gd.flask_has h hb, if_pos ⟨rfl, by omega⟩]

theorem Gd.flask_rest {E : Nat → Nat → Int} {r a b : Nat} (h : b ≤ a) : Gd.entsOf E (Gd.flasks a b) r 0 6 = E := by
  unfold Gd.entsOf
  rw [Gd.flask_out h, if_neg (by omega)]

theorem Gd.ok_flasks (c : Nat → Int) (a b : Nat) (hb : b ≤ 4) : Gd.Ok c 40 (Gd.flasks a b) := by
  refine ⟨fun i _ => ?_, fun i k _ _ hik hw hs => ?_⟩
  · by_cases h : a ≤ i ∧ i < b
    · rw [Gd.flask_in h.1 h.2]
      exact .inr (Gd.Fit.placed ⟨by omega, by omega, .inr (.inl ⟨rfl, by omega, by omega, by omega, by omega⟩)⟩ (by omega))
    · rw [Gd.flask_no h]
      exact .inl ⟨rfl, rfl, rfl, rfl⟩
  · by_cases h : a ≤ i ∧ i < b
    · rw [Gd.flask_in h.1 h.2] at hs
      by_cases h2 : a ≤ k ∧ k < b
      · rw [Gd.flask_in h2.1 h2.2] at hs
        have : (k : Int) = (i : Int) := hs.2.2
        omega
      · rw [Gd.flask_no h2] at hs
        have : (0 : Int) = 2 := hs.1
        omega
    · rw [Gd.flask_no h] at hw
      exact hw rfl

theorem Gd.set_same (E : Nat → Nat → Int) (k j : Nat) (v : Int) : Gd.set E k j v k j = v := if_pos ⟨rfl, rfl⟩

theorem Gd.set_other {E : Nat → Nat → Int} {k j i l : Nat} {v : Int} (h : ¬ (i = k ∧ l = j)) : Gd.set E k j v i l = E i l := if_neg h

/-- Hit points, or poison, or stun, of a row are other ones: heroes are where they were. -/
theorem Gd.hero_set {E : Nat → Nat → Int} {k j : Nat} {v seat : Int} (h0 : j ≠ 0) (h2 : j ≠ 2) : Gd.hero (Gd.set E k j v) seat = Gd.hero E seat := by
  unfold Gd.hero
  have : En.heroQ (Gd.set E k j v) seat = En.heroQ E seat := by
    funext i
    unfold En.heroQ
    rw [Gd.set_other (by omega), Gd.set_other (by omega)]
  rw [this]

theorem Gd.Sit.stat {c g : Nat → Int} {E I : Nat → Nat → Int} {seat : Int} {r kc : Nat} (h : Gd.Sit c g E I seat r kc) (k j : Nat) (v : Int) (hj : j = 5 ∨ j = 9) (v0 : 0 ≤ v) (v9 : v ≤ 1000) : Gd.Sit c g (Gd.set E k j v) I seat r kc :=
  { h with
    fine := { h.fine with
      hp := fun i hi => by
        by_cases e : i = k ∧ 5 = j
        · obtain ⟨rfl, rfl⟩ := e
          rw [Gd.set_same]
          exact ⟨v0, v9⟩
        · rw [Gd.set_other e]
          exact h.fine.hp i hi }
    hero := by rw [Gd.hero_set (by omega) (by omega)]; exact h.hero
    x := by rw [Gd.set_other (by omega)]; exact h.x
    y := by rw [Gd.set_other (by omega)]; exact h.y }

theorem Gd.Sit.heal {c g : Nat → Int} {E I : Nat → Nat → Int} {seat : Int} {r kc : Nat} (h : Gd.Sit c g E I seat r kc) (m0 : 0 ≤ E r 6) (m9 : E r 6 ≤ 1000) : Gd.Sit c g (Gd.heal E r) I seat r kc := by
  have hp := (h.fine.hp r h.r32).1
  exact (h.stat r 5 _ (.inl rfl) (by omega) (by omega)).stat r 9 0 (.inr rfl) (by omega) (by omega)

theorem Gd.heal_hp (E : Nat → Nat → Int) (r : Nat) : Gd.heal E r r 5 = min (E r 5 + 6) (E r 6) := by
  unfold Gd.heal
  rw [Gd.set_other (by omega), Gd.set_same]

theorem Gd.heal_max (E : Nat → Nat → Int) (r : Nat) : Gd.heal E r r 6 = E r 6 := by
  unfold Gd.heal
  rw [Gd.set_other (by omega), Gd.set_other (by omega)]

theorem Gd.heal_poison (E : Nat → Nat → Int) (r : Nat) : Gd.heal E r r 9 = 0 := by
  unfold Gd.heal
  rw [Gd.set_same]

/-- A number of a hero's row, stored anew. -/
theorem Gd.Law.stat {w x : World} {T gC gE gI cC cE cI : Nat} {s g c : Nat → Int} {E I : Nat → Nat → Int} (h : Gd.Law w x T gC gE gI cC cE cI s g c E I) (k j : Nat) (hj : j < 11) (v : Int) : Gd.Law w (x.setCell ⟨gE, k * 11 + j, none⟩ (.int .i64 v)) T gC gE gI cC cE cI s g c (Gd.set E k j v) I :=
  { h with hold := h.hold.ents (grown_set0 x gE (k * 11 + j) (.int .i64 v)) (h.hold.lists.ents.stat k j hj v), grown := grown_store h.grown ⟨gE, k * 11 + j, none⟩ h.lE _ }

/-- One number of an entity. -/
theorem Gd.Law.of {w x : World} {T gC gE gI cC cE cI : Nat} {s g c : Nat → Int} {E I : Nat → Nat → Int} (h : Gd.Law w x T gC gE gI cC cE cI s g c E I) (q : Nat) (hq : q < 352) (v : Int) (hv : E (q / 11) (q % 11) = v) : x.cell? ⟨gE, q, none⟩ = some (.int .i64 v) := by
  rw [h.hold.lists.ents.cell hq, ← hv]
  rfl

end Go.Proofs.Ytbploaihicakeaa

namespace Go.Proofs.Ytbploaihicakeaa
open Go.RowKit Go.ChangeShapes Go.WideShapes

/-- Four fields, each a number of one cell, one behind the other (for the kernel). -/
def Gd.plain (P : Program) (fs : Array Field) : Bool := fs.size == 4 && (List.range 4).all fun i => match fs[i]? with
  | some f => f.offset == i && f.type == 3 && P.cellsOf f.type == 1
  | none => false

theorem Gd.plain_at {P : Program} {fs : Array Field} (h : Gd.plain P fs = true) : ∀ j, j < 4 → ∃ f, fs[j]? = some f ∧ f.offset = j ∧ f.type = 3 ∧ P.cellsOf f.type = 1 := by
  intro j hj
  unfold Gd.plain at h
  rw [Bool.and_eq_true] at h
  have := List.all_eq_true.1 h.2 j (List.mem_range.2 hj)
  cases hf : fs[j]? with
  | none => rw [hf] at this; cases this
  | some f =>
    rw [hf] at this
    simp only [Bool.and_eq_true, beq_iff_eq] at this
    exact ⟨f, rfl, this.1.1, this.1.2, this.2⟩

/-- The cells of one item. -/
theorem open_plain4 {H : Type} {enc : TypeId × Value → H} {w : World} {base : Nat} {sp : Nat → Bool} {held : Bool} {P : Program} {t : TypeId} {fs : Array Field} {fuel : Nat} {cs : List Value} {x : DataW H × List MemPlace} (ht : P.underlying t = some (.struct fs)) (hp : Gd.plain P fs = true) (hi : P.underlying 3 = some (.int .i64)) (hl : cs.length = 4) (h : DataW.trod enc P w base sp held fuel t cs = some x) :
    ∃ e : Nat → Int, ∀ j, j < 4 → cs[j]? = some (.int .i64 (e j)) := by
  obtain ⟨xs, n, _, _, _, hxl, hf⟩ := DataW.trod_struct ht h
  have hsz : fs.size = 4 := by
    unfold Gd.plain at hp
    rw [Bool.and_eq_true] at hp
    exact beq_iff_eq.1 hp.1
  refine Go.Deep.choose_lt (α := Int) (p := fun j z => cs[j]? = some (.int .i64 z)) fun j hj => ?_
  obtain ⟨f, h1, h2, h3, h4⟩ := Gd.plain_at hp j hj
  have g := hf j f h1
  rw [h4, h2, Go.Deep.take1_drop cs j undef (by omega), List.getElem?_eq_getElem (by omega), h3] at g
  obtain ⟨z, hz, _, _⟩ := DataW.trod_int hi g
  refine ⟨z, ?_⟩
  rw [List.getElem?_eq_getElem (by omega)]
  simp only [List.getD_eq_getElem?_getD, List.getElem?_eq_getElem (show j < cs.length by omega), Option.getD_some, List.cons.injEq, and_true] at hz
  rw [hz]

/-- A list of items that came in. -/
structure ItArg (w : World) (a : Option Addr) (len cap : Nat) (M : Nat → Nat → Int) : Prop where
  most : len ≤ maxLen
  cap : len ≤ cap
  rows : len = 0 ∨ ∃ b o, a = some ⟨b, o, none⟩ ∧ b < w.heap.size ∧ ∀ i j, i < len → j < 4 → w.cell? ⟨b, o + i * 4 + j, none⟩ = some (.int .i64 (M i j))

theorem ItArg.on {w w' : World} {a : Option Addr} {len cap : Nat} {M : Nat → Nat → Int} (h : ItArg w a len cap M) (hg : w.grownBy w' none) : ItArg w' a len cap M :=
  ⟨h.most, h.cap, h.rows.imp id fun ⟨b, o, ha, hb, hc⟩ => ⟨b, o, ha, Nat.lt_of_lt_of_le hb hg.size, fun i j hi hj => (grown_cell hg b _ hb (by simp)).trans (hc i j hi hj)⟩⟩

/-- Its first rows. -/
theorem ItArg.some {w : World} {a : Option Addr} {len cap : Nat} {M : Nat → Nat → Int} (h : ItArg w a len cap M) (n : Nat) (hn : n ≤ len) (h100 : n ≤ 100) : Gd.Some w a n M := by
  refine ⟨h100, ?_⟩
  rcases h.rows with h0 | ⟨b, o, ha, hb, hc⟩
  · exact .inl (by omega)
  · exact .inr ⟨b, o, ha, h100, hb, fun i j hi hj => hc i j (by omega) hj⟩

theorem open_items {H : Type} {enc : TypeId × Value → H} {w : World} {base : Nat} {sp : Nat → Bool} {held : Bool} {fuel : Nat} {a : Option Addr} {len cap : Nat} {x : DataW H × List MemPlace} (h : DataW.trod enc Try.prog w base sp held fuel 23 [.slice a len cap] = some x) : ∃ M, ItArg w a len cap M := by
  rcases Go.Deep.open_slice Try.underlying23 h with ⟨hcs, _⟩ | ⟨a', len', cap', m, n, D, Pl, hcs, _, hl, hm, hmm, _, hx⟩
  · simp only [List.cons.injEq, Value.slice.injEq, and_true] at hcs
    obtain ⟨rfl, rfl, rfl⟩ := hcs
    exact ⟨fun _ _ => 0, Nat.zero_le _, Nat.zero_le _, .inl rfl⟩
  · simp only [List.cons.injEq, Value.slice.injEq, and_true] at hcs
    obtain ⟨rfl, rfl, rfl⟩ := hcs
    have hc4 : Try.prog.cellsOf 57 = 4 := by kernel_rfl
    rw [hc4] at hx
    have hlm : len ≤ m := by rw [hmm]; split <;> omega
    obtain ⟨E, hE⟩ : ∃ E : Nat → Nat → Int, ∀ i, i < len → ∀ j, j < 4 → w.cell? ((a'.add (i * 4)).add j) = some (.int .i64 (E i j)) := by
      refine Go.Deep.choose_lt (α := Nat → Int) (p := fun i e => ∀ j, j < 4 → w.cell? ((a'.add (i * 4)).add j) = some (.int .i64 (e j))) fun i hi => ?_
      obtain ⟨cs', h1, h2⟩ := hx i (by omega)
      obtain ⟨_, hlen, hcell⟩ := World.cells?_some h1
      obtain ⟨e, he⟩ := open_plain4 Try.underlying57 (by kernel_rfl) Try.underlying3 hlen h2
      exact ⟨e, fun j hj => (hcell j hj).trans (he j hj)⟩
    refine ⟨E, Nat.le_trans hl hm, hl, ?_⟩
    by_cases h0 : len = 0
    · exact .inl h0
    · right
      obtain ⟨b, off, spot⟩ := a'
      have hc0 := hE 0 (by omega) 0 (by omega)
      have hspot : spot = none := by simpa [Addr.add] using World.cell?_spot hc0
      subst hspot
      have hadd : ∀ i j, ((⟨b, off, none⟩ : Addr).add (i * 4)).add j = ⟨b, off + i * 4 + j, none⟩ := fun i j => by rw [add_plain, add_plain]
      refine ⟨b, off, rfl, ?_, fun i j hi hj => by rw [← hadd]; exact hE i hi j hj⟩
      have h := Go.block_lt_of_cell hc0
      rw [hadd] at h
      exact h

/-- A row of numbers that came in. -/
structure NumArg (w : World) (a : Option Addr) (len : Nat) (f : Nat → Int) : Prop where
  most : len ≤ maxLen
  rows : len = 0 ∨ ∃ b o, a = some ⟨b, o, none⟩ ∧ b < w.heap.size ∧ ∀ i, i < len → w.cell? ⟨b, o + i, none⟩ = some (.int .i64 (f i))

theorem NumArg.on {w w' : World} {a : Option Addr} {len : Nat} {f : Nat → Int} (h : NumArg w a len f) (hg : w.grownBy w' none) : NumArg w' a len f :=
  ⟨h.most, h.rows.imp id fun ⟨b, o, ha, hb, hc⟩ => ⟨b, o, ha, Nat.lt_of_lt_of_le hb hg.size, fun i hi => (grown_cell hg b _ hb (by simp)).trans (hc i hi)⟩⟩

theorem NumArg.at {w : World} {a : Option Addr} {len : Nat} {f : Nat → Int} (h : NumArg w a len f) {k : Nat} (hk : k < len) : ∃ b o, a = some ⟨b, o, none⟩ ∧ b < w.heap.size ∧ w.cell? ⟨b, o + k, none⟩ = some (.int .i64 (f k)) := by
  rcases h.rows with h0 | ⟨b, o, ha, hb, hc⟩
  · omega
  · exact ⟨b, o, ha, hb, hc k hk⟩

end Go.Proofs.Ytbploaihicakeaa

namespace Go.Proofs.Ytbploaihicakeaa
open Go.RowKit

/-- A world within its bounds whose heroes stand on cells that can be walked on. -/
structure Gd.Live (c g : Nat → Int) (E I : Nat → Nat → Int) : Prop where
  fine : Gd.Fine c g E I
  stand : ∀ k, k < 32 → E k 0 = 1 → Gr.inB (E k 3) (E k 4) = true ∧ Gr.walkB (Gr.at 384 c (E k 3) (E k 4)) = true ∧ 0 ≤ E k 6 ∧ E k 6 ≤ 1000

theorem Gd.gold_in {c g : Nat → Int} {E I : Nat → Nat → Int} (h : Gd.Fine c g E I) {t : Nat} (ht : t < 4) (X Y : Int) (shop : Bool) (input : Int) : 0 ≤ Gd.goldOf I (t : Int) X Y shop (g t) input ∧ Gd.goldOf I (t : Int) X Y shop (g t) input ≤ 999 := by
  obtain ⟨g0, g9⟩ := h.gold t ht
  unfold Gd.goldOf
  split
  · split
    · omega
    · exact ⟨g0, g9⟩
  · split
    · split
      · rename_i hb
        simp only [Gd.buys, Bool.and_eq_true, decide_eq_true_eq] at hb
        omega
      · exact ⟨g0, g9⟩
    · exact ⟨g0, g9⟩

theorem Gd.Live.next {c g : Nat → Int} {E I : Nat → Nat → Int} (h : Gd.Live c g E I) (seat input : Int) : Gd.Live c (Gd.nextG c g E I seat input) (Gd.nextE E I seat input) (Gd.nextI c g E I seat input) := by
  by_cases hc : 0 ≤ seat ∧ seat < 4 ∧ 0 ≤ Gd.hero E seat
  · obtain ⟨s0, s4, h0⟩ := hc
    obtain ⟨t, rfl⟩ : ∃ t : Nat, seat = (t : Int) := ⟨seat.toNat, by omega⟩
    obtain ⟨k, hk, hh, he, hk0⟩ := Gd.hero_pos h0
    have ht : t < 4 := by omega
    have hc : 0 ≤ (t : Int) ∧ (t : Int) < 4 ∧ 0 ≤ Gd.hero E (t : Int) := ⟨s0, s4, h0⟩
    obtain ⟨hin, hw, m0, m9⟩ := h.stand k hk hk0
    unfold Gd.nextG Gd.nextE Gd.nextI
    rw [if_pos hc, if_pos hc, if_pos hc, hh, Int.toNat_natCast, Int.toNat_natCast]
    have hg := Gd.gold_in h.fine ht (E k 3) (E k 4) (decide (Gr.at 384 c (E k 3) (E k 4) = 5)) input
    have hE : ∀ (i l : Nat), l ≠ 5 → l ≠ 9 → Gd.entsOf E I k (t : Int) input i l = E i l := fun i l h5 h9 => by
      unfold Gd.entsOf
      split
      · unfold Gd.heal
        rw [Gd.set_other (by omega), Gd.set_other (by omega)]
      · rfl
    refine ⟨⟨h.fine.cells, fun i hi => ?_, fun i hi => ?_, h.fine.ok.act s0 s4 hin hw _ _ _⟩, fun i hi h1 => ?_⟩
    · unfold Gd.give
      split
      · exact hg
      · exact h.fine.gold i hi
    · unfold Gd.entsOf
      split
      · unfold Gd.heal
        rw [Gd.set_other (by omega)]
        by_cases e : i = k
        · subst e
          rw [Gd.set_same]
          have := h.fine.hp i hi
          omega
        · rw [Gd.set_other (by omega)]
          exact h.fine.hp i hi
      · exact h.fine.hp i hi
    · rw [hE i 0 (by omega) (by omega)] at h1
      rw [hE i 3 (by omega) (by omega), hE i 4 (by omega) (by omega), hE i 6 (by omega) (by omega)]
      exact h.stand i hi h1
  · unfold Gd.nextG Gd.nextE Gd.nextI
    rw [if_neg hc, if_neg hc, if_neg hc]
    exact h

theorem Gd.next_few (c g : Nat → Int) (E I : Nat → Nat → Int) (seat input : Int) : Gd.Few I (Gd.nextI c g E I seat input) := by
  unfold Gd.nextI
  split
  · exact Gd.act_few _ _ _ _ _ _ _ _
  · exact Gd.few_same I

/-- The law's own world is such a one. -/
theorem Gd.told_live {c : Nat → Int} {I : Nat → Nat → Int} {sn r kc : Nat} {gd st h : Int} (hF : Nv.Floor c) (hOk : Gd.Ok c 40 I) (hkc : kc < 384) (hw : Gr.walkB (c kc) = true) (g0 : 0 ≤ gd) (g9 : gd ≤ 999) (h0 : 0 ≤ h) (h9 : h < 20) : Gd.Live c (Gd.give (fun _ => 0) sn gd) (En.put (fun _ _ => 0) r (Gd.folk st kc h)) I := by
  refine ⟨Gd.told_fine hF hOk g0 g9 h0 h9, fun k hk h1 => ?_⟩
  by_cases e : k = r
  · subst e
    rw [En.put_same]
    show Gr.inB ((kc : Int) % 24) ((kc : Int) / 24) = true ∧ Gr.walkB (Gr.at 384 c ((kc : Int) % 24) ((kc : Int) / 24)) = true ∧ (0 : Int) ≤ 20 ∧ (20 : Int) ≤ 1000
    rw [Gr.at_cell c kc hkc]
    exact ⟨by unfold Gr.inB; exact decide_eq_true ⟨by omega, by omega, by omega, by omega⟩, hw, by omega, by omega⟩
  · rw [En.put_other e] at h1
    have : (0 : Int) = 1 := h1
    omega

/-- The law's World, whatever it is told. -/
theorem world_live (seed floor seat at_ gold : Int) (aL : Option Addr) (nL cL : Nat) (M : Nat → Nat → Int) (w : World) (hM : ItArg w aL nL cL M) :
    Calls Try.prog 23 #[.int .i64 seed, .int .i64 floor, .int .i64 seat, .int .i64 at_, .slice aL nL cL, .int .i64 gold] w fun e w' => ∃ (c s g : Nat → Int) (E I : Nat → Nat → Int), Gd.Live c g E I ∧ Gd.Worlds w s g c E I e w' := by
  refine (world_any seed floor seat at_ gold aL nL cL M w (hM.some (min nL 20) (by omega) (by omega))).mono ?_
  rintro e w' ⟨c, kc, hF, hkc, hkw, hshop, I, hW, hOk, hKn⟩
  exact ⟨c, _, _, _, I, Gd.told_live hF hOk hkc hkw (by omega) (by omega) (by omega) (by omega), hW⟩

/-- What a call has answered, laid into a box that was there. -/
theorem Gd.law_laid {w x x' : World} {V gC gE gI cC cE cI : Nat} {s g c : Nat → Int} {E I : Nat → Nat → Int} {F : Nat → Value} (hgx : w.grownBy x none) (hV : w.heap.size ≤ V) (hB : Lie x V 29 11 F) (hcap : 32 ≤ cE) (l1 : x.heap.size ≤ gC) (l2 : x.heap.size ≤ gE) (l3 : x.heap.size ≤ gI) (n1 : gC ≠ gE) (n2 : gC ≠ gI) (n3 : gE ≠ gI) (hL : Gd.Lists x' gC gE gI c E I) (hg : x.grownBy x' none) :
    Gd.Law w (x'.setCells V 0 (Gd.world s gC gE gI cC cE cI g).toList) V gC gE gI cC cE cI s g c E I := by
  have h1 := hB.lt
  have h2 := hgx.size
  have r := grown_sets (g := V) (Gd.world s gC gE gI cC cE cI g).toList 0 x' (World.grownBy.refl _ _)
  exact ⟨⟨(hB.on hg).whole s g gC gE gI cC cE cI, ⟨hL.cells.grown r (by simp; omega), hL.ents.grown r (by simp; omega), hL.items.grown r (by simp; omega)⟩, by omega, by omega, by omega, n1, n2, n3⟩, hV, by omega, by omega, hcap, own_sets hV _ 0 x' (grown_trans hgx hg)⟩

/-- A law's world stays where another box is laid over. -/
theorem Gd.Law.aside {w x : World} {T V gC gE gI cC cE cI : Nat} {s g c : Nat → Int} {E I : Nat → Nat → Int} (h : Gd.Law w x T gC gE gI cC cE cI s g c E I) (hV : w.heap.size ≤ V) (n0 : V ≠ T) (n1 : V ≠ gC) (n2 : V ≠ gE) (n3 : V ≠ gI) (vs : List Value) : Gd.Law w (x.setCells V 0 vs) T gC gE gI cC cE cI s g c E I := by
  have r := grown_sets (g := V) vs 0 x (World.grownBy.refl _ _)
  exact { h with hold := { h.hold with box := h.hold.box.grown r (by simpa using n0), lists := ⟨h.hold.lists.cells.grown r (by simpa using n1), h.hold.lists.ents.grown r (by simpa using n2), h.hold.lists.items.grown r (by simpa using n3)⟩ }, grown := own_sets hV _ 0 x h.grown }

/-- A law's world takes the place of another one: w = v. -/
theorem Gd.Law.take {w x : World} {T T2 gC gE gI cC cE cI jC jE jI dC dE dI : Nat} {s g c s' g' c' : Nat → Int} {E I F J : Nat → Nat → Int} (h : Gd.Law w x T gC gE gI cC cE cI s g c E I) (h2 : Gd.Law w x T2 jC jE jI dC dE dI s' g' c' F J) : Gd.Law w (x.setCells T 0 (Gd.world s' jC jE jI dC dE dI g').toList) T jC jE jI dC dE dI s' g' c' F J := by
  have n1 := h.hold.box.type_ne h2.hold.lists.cells (by decide)
  have n2 := h.hold.box.type_ne h2.hold.lists.ents (by decide)
  have n3 := h.hold.box.type_ne h2.hold.lists.items (by decide)
  have r := grown_sets (g := T) (Gd.world s' jC jE jI dC dE dI g').toList 0 x (World.grownBy.refl _ _)
  exact ⟨⟨h.hold.box.whole s' g' jC jE jI dC dE dI, ⟨h2.hold.lists.cells.grown r (by simpa using n1), h2.hold.lists.ents.grown r (by simpa using n2), h2.hold.lists.items.grown r (by simpa using n3)⟩, n1, n2, n3, h2.hold.cE, h2.hold.cI, h2.hold.eI⟩, h.lT, h2.lE, h2.lI, h2.cap, own_sets h.lT _ 0 x h.grown⟩

/-- The gold of a seat, in a law's box. -/
theorem Gd.Law.purse {w x : World} {T gC gE gI cC cE cI : Nat} {s g c : Nat → Int} {E I : Nat → Nat → Int} (h : Gd.Law w x T gC gE gI cC cE cI s g c E I) {t : Nat} (ht : t < 4) : x.cell? ⟨T, 7 + t, none⟩ = some (.int .i64 (g t)) := by
  rw [h.hold.box.cell (by omega), Gd.box_gold _ _ _ _ _ _ _ _ _ ht]

theorem Gd.sweep_clean (I : Nat → Nat → Int) (seat : Int) (k : Nat) : ¬ ((Gd.sweep I seat k 1 = 2 ∨ Gd.sweep I seat k 1 = 3) ∧ Gd.sweep I seat k 2 = seat) := by
  unfold Gd.sweep
  split
  · intro h
    have h' : ((0 : Int) = 2 ∨ (0 : Int) = 3) := h.1
    omega
  · assumption

theorem Gd.Few.kept {I J : Nat → Nat → Int} (h : Gd.Few I J) (k : Nat) : J k 0 = I k 0 ∨ Gd.Zero (J k) := by
  obtain ⟨i, j, _, h2⟩ := h
  exact h2 k

end Go.Proofs.Ytbploaihicakeaa
