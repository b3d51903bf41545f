/-
  What a hero does with items, in goods: all inputs.
  What a seat wants with items, in goods: Do.
  Whether an item may be where it is, and whether all may, in goods.
  Whether all items may be where they are, in goods: Check.
  Two worlds that hold the same are the same.
-/
import Derived.Test.YtbploaihicakeaaPart16
import Derived.Test.YtbploaihicakeaaPart17
import Derived.Test.YtbploaihicakeaaPart09
import Derived.Test.YtbploaihicakeaaPart14
import Derived.Laws.BytesArg
import Derived.ChangeKeysEq
namespace Go.Proofs.Ytbploaihicakeaa
open Go.RowKit

/-- A world's numbers are within their bounds. -/
structure Gd.Fine (c g : Nat → Int) (E I : Nat → Nat → Int) : Prop where
  cells : ∀ i, 0 ≤ c i ∧ c i ≤ 255
  gold : ∀ t, t < 4 → 0 ≤ g t ∧ g t ≤ 999
  hp : ∀ k, k < 32 → 0 ≤ E k 5 ∧ E k 5 ≤ 1000
  ok : Gd.Ok c 40 I

/-- The gold of the seat behind an input. -/
def Gd.goldOf (I : Nat → Nat → Int) (s X Y : Int) (shop : Bool) (G input : Int) : Int :=
  if input = 5 then (if 0 ≤ Gd.find I 40 1 X Y ∧ I (Gd.find I 40 1 X Y).toNat 0 = 4 then min (G + 5) 999 else G)
  else if input = 10 then (if Gd.buys I 40 s shop G = true then G - 5 else G) else G

/-- The entities behind an input. -/
def Gd.entsOf (E I : Nat → Nat → Int) (k : Nat) (s input : Int) : Nat → Nat → Int := if input = 6 ∧ 0 ≤ Gd.has I 40 s 1 1 then Gd.heal E k else E

theorem Gd.give_same (g : Nat → Int) (t : Nat) : Gd.give g t (g t) = g := by
  funext i
  unfold Gd.give
  split
  · rename_i h; rw [h]
  · rfl

theorem Gd.serves6 (I : Nat → Nat → Int) (s : Int) : Gd.car I 40 s (fun k => Gd.serves k 6) = Gd.has I 40 s 1 1 := by
  rw [Gd.has_car]
  refine Gd.car_congr fun k _ _ => ?_
  show (if (6 : Int) = 6 then decide (I k 0 = 1) else _) = _
  rw [if_pos rfl]
  by_cases h : I k 0 = 1
  · simp [h]
  · rw [decide_eq_false h]
    by_cases h1 : 1 ≤ I k 0
    · rw [decide_eq_false (show ¬ I k 0 ≤ 1 by omega), Bool.and_false]
    · rw [decide_eq_false h1, Bool.false_and]

theorem Gd.serves7 (I : Nat → Nat → Int) (s : Int) : Gd.car I 40 s (fun k => Gd.serves k 7) = Gd.has I 40 s 2 3 := by
  rw [Gd.has_car]
  refine Gd.car_congr fun k _ _ => ?_
  show (if (7 : Int) = 6 then _ else if (7 : Int) = 7 then decide (I k 0 = 2) || decide (I k 0 = 3) else true) = _
  rw [if_neg (by decide), if_pos rfl]
  by_cases h : I k 0 = 2 ∨ I k 0 = 3
  · rcases h with h | h <;> simp [h]
  · rw [decide_eq_false (show ¬ I k 0 = 2 by omega), decide_eq_false (show ¬ I k 0 = 3 by omega)]
    by_cases h1 : 2 ≤ I k 0
    · rw [decide_eq_false (show ¬ I k 0 ≤ 3 by omega), Bool.and_false]; rfl
    · rw [decide_eq_false h1, Bool.false_and]; rfl

theorem Gd.serves8 {c : Nat → Int} {I : Nat → Nat → Int} (h : Gd.Ok c 40 I) (s : Int) : Gd.car I 40 s (fun k => Gd.serves k 8) = Gd.has I 40 s 1 3 := by
  rw [Gd.has_car]
  refine Gd.car_congr fun k hk hw => ?_
  show (if (8 : Int) = 6 then _ else if (8 : Int) = 7 then _ else true) = _
  rw [if_neg (by decide), if_neg (by decide)]
  obtain ⟨h1, h2, h3⟩ := h.of hk (by omega)
  have : I k 0 ≤ 3 := by rcases h3 with h3 | h3 | h3 | h3 <;> omega
  rw [decide_eq_true h1, decide_eq_true this]
  rfl

theorem Gd.Hold.eq {x : World} {B gC gE gI cC cE cI : Nat} {s g c : Nat → Int} {E I : Nat → Nat → Int} {g' : Nat → Int} {E' I' : Nat → Nat → Int} (h : Gd.Hold x B gC gE gI cC cE cI s g c E I) (h1 : g = g') (h2 : E = E') (h3 : I = I') : Gd.Hold x B gC gE gI cC cE cI s g' c E' I' := by
  subst h1; subst h2; subst h3; exact h

end Go.Proofs.Ytbploaihicakeaa

namespace Go.Proofs.Ytbploaihicakeaa
open Go.RowKit

/-- A world's box and, behind it, the place of what is answered, in new blocks. -/
structure Gd.Boxed (w x : World) (B gC gE gI cC cE cI : Nat) (s g c : Nat → Int) (E I : Nat → Nat → Int) : Prop where
  hold : Gd.Hold x B gC gE gI cC cE cI s g c E I
  at_ : w.heap.size = B
  lC : B + 2 ≤ gC
  lE : B + 2 ≤ gE
  lI : B + 2 ≤ gI
  cap : 32 ≤ cE
  res : Lie x (B + 1) 29 11 (fun j => #[.int .i64 0, .int .i64 0, .int .i64 0, .int .i64 0, .slice none 0 0, .slice none 0 0, .slice none 0 0, .int .i64 0, .int .i64 0, .int .i64 0, Value.int .i64 0][j]?.getD undef)
  grown : w.grownBy x none

theorem Gd.Boxed.on {w x y : World} {B gC gE gI cC cE cI : Nat} {s g c : Nat → Int} {E I : Nat → Nat → Int} (h : Gd.Boxed w x B gC gE gI cC cE cI s g c E I) (hg : x.grownBy y none) : Gd.Boxed w y B gC gE gI cC cE cI s g c E I :=
  { h with hold := h.hold.on hg, res := h.res.on hg, grown := grown_trans h.grown hg }

/-- What is answered: the box's eleven cells, laid into the place for it. -/
theorem Gd.Boxed.worlds {w x : World} {B gC gE gI cC cE cI : Nat} {s g c : Nat → Int} {E I : Nat → Nat → Int} (h : Gd.Boxed w x B gC gE gI cC cE cI s g c E I) (vs : List Value) : Gd.Worlds w s g c E I (.returned (.agg (Gd.world s gC gE gI cC cE cI g))) (x.setCells (B + 1) 0 vs) := by
  have hB := h.at_
  have lC := h.lC
  have lE := h.lE
  have lI := h.lI
  have r := grown_sets (g := B + 1) vs 0 x (World.grownBy.refl _ _)
  exact ⟨gC, gE, gI, cC, cE, cI, rfl, h.cap, by omega, by omega, by omega, h.hold.cE, h.hold.cI, h.hold.eI, ⟨h.hold.lists.cells.grown r (by simp; omega), h.hold.lists.ents.grown r (by simp; omega), h.hold.lists.items.grown r (by simp; omega)⟩, own_sets (by omega) vs 0 x h.grown⟩

/-- The box and the place of what is answered, made. -/
theorem Gd.boxes (w : World) (gC gE gI cC cE cI : Nat) (s g : Nat → Int) : ∃ x, x = (w.alloc (.cells (Gd.world s gC gE gI cC cE cI g) 29)).alloc (.cells #[.int .i64 0, .int .i64 0, .int .i64 0, .int .i64 0, .slice none 0 0, .slice none 0 0, .slice none 0 0, .int .i64 0, .int .i64 0, .int .i64 0, .int .i64 0] 29) ∧ Lie x w.heap.size 29 11 (Gd.box s gC gE gI cC cE cI g) ∧ Lie x (w.heap.size + 1) 29 11 (fun j => #[.int .i64 0, .int .i64 0, .int .i64 0, .int .i64 0, .slice none 0 0, .slice none 0 0, .slice none 0 0, .int .i64 0, .int .i64 0, .int .i64 0, Value.int .i64 0][j]?.getD undef) ∧ w.grownBy x none ∧ x.heap.size = w.heap.size + 2 := by
  refine ⟨_, rfl, ((Arr.world (heap_alloc_new w (.cells (Gd.world s gC gE gI cC cE cI g) 29))).alloc _).lie, ?_, grown_alloc (World.grownBy_alloc _ _ _) _, by simp⟩
  have h := Arr.lit (heap_alloc_new (w.alloc (.cells (Gd.world s gC gE gI cC cE cI g) 29)) (.cells #[.int .i64 0, .int .i64 0, .int .i64 0, .int .i64 0, .slice none 0 0, .slice none 0 0, .slice none 0 0, .int .i64 0, .int .i64 0, .int .i64 0, .int .i64 0] 29))
  rw [show (w.alloc (.cells (Gd.world s gC gE gI cC cE cI g) 29)).heap.size = w.heap.size + 1 by simp] at h
  exact h.lie

/-- A whole world laid into a box. -/
theorem Lie.whole {x : World} {B : Nat} {T : TypeId} {F : Nat → Value} (h : Lie x B T 11 F) (s g : Nat → Int) (gC gE gI cC cE cI : Nat) : Lie (x.setCells B 0 (Gd.world s gC gE gI cC cE cI g).toList) B T 11 (Gd.box s gC gE gI cC cE cI g) := by
  refine (h.stores 0 _).congr fun j hj => ?_
  show (if 0 ≤ j ∧ j < 0 + 11 then (Gd.world s gC gE gI cC cE cI g).toList[j - 0]?.getD undef else F j) = _
  rw [if_pos (by omega), Nat.sub_zero, Array.getElem?_toList, Gd.world_at s gC gE gI cC cE cI g j hj]
  rfl

theorem Gd.res_cells {x : World} {R : Nat} (h : Lie x R 29 11 (fun j => #[.int .i64 0, .int .i64 0, .int .i64 0, .int .i64 0, .slice none 0 0, .slice none 0 0, .slice none 0 0, .int .i64 0, .int .i64 0, .int .i64 0, Value.int .i64 0][j]?.getD undef)) :
    x.cell? ⟨R, 0, none⟩ = some (.int .i64 0) ∧ x.cell? ⟨R, 1, none⟩ = some (.int .i64 0) ∧ x.cell? ⟨R, 2, none⟩ = some (.int .i64 0) ∧ x.cell? ⟨R, 3, none⟩ = some (.int .i64 0) ∧ x.cell? ⟨R, 4, none⟩ = some (.slice none 0 0) ∧ x.cell? ⟨R, 5, none⟩ = some (.slice none 0 0) ∧ x.cell? ⟨R, 6, none⟩ = some (.slice none 0 0) ∧ x.cell? ⟨R, 7, none⟩ = some (.int .i64 0) ∧ x.cell? ⟨R, 8, none⟩ = some (.int .i64 0) ∧ x.cell? ⟨R, 9, none⟩ = some (.int .i64 0) ∧ x.cell? ⟨R, 10, none⟩ = some (.int .i64 0) :=
  ⟨h.cell (by omega), h.cell (by omega), h.cell (by omega), h.cell (by omega), h.cell (by omega), h.cell (by omega), h.cell (by omega), h.cell (by omega), h.cell (by omega), h.cell (by omega), h.cell (by omega)⟩

/-- The row of a seat's hero; -1: there is none. -/
def Gd.hero (E : Nat → Nat → Int) (seat : Int) : Int := En.first (En.heroQ E seat) 32

/-- The world behind an input of a seat: items, entities, gold. -/
def Gd.nextI (c g : Nat → Int) (E I : Nat → Nat → Int) (seat input : Int) : Nat → Nat → Int :=
  if 0 ≤ seat ∧ seat < 4 ∧ 0 ≤ Gd.hero E seat then Gd.act I 40 seat (E (Gd.hero E seat).toNat 3) (E (Gd.hero E seat).toNat 4) (decide (Gr.at 384 c (E (Gd.hero E seat).toNat 3) (E (Gd.hero E seat).toNat 4) = 5)) (g seat.toNat) input else I

def Gd.nextE (E I : Nat → Nat → Int) (seat input : Int) : Nat → Nat → Int :=
  if 0 ≤ seat ∧ seat < 4 ∧ 0 ≤ Gd.hero E seat then Gd.entsOf E I (Gd.hero E seat).toNat seat input else E

def Gd.nextG (c g : Nat → Int) (E I : Nat → Nat → Int) (seat input : Int) : Nat → Int :=
  if 0 ≤ seat ∧ seat < 4 ∧ 0 ≤ Gd.hero E seat then Gd.give g seat.toNat (Gd.goldOf I seat (E (Gd.hero E seat).toNat 3) (E (Gd.hero E seat).toNat 4) (decide (Gr.at 384 c (E (Gd.hero E seat).toNat 3) (E (Gd.hero E seat).toNat 4) = 5)) (g seat.toNat) input) else g

theorem Gd.hero_pos {E : Nat → Nat → Int} {seat : Int} (h : 0 ≤ Gd.hero E seat) : ∃ k : Nat, k < 32 ∧ Gd.hero E seat = (k : Int) ∧ E k 2 = seat ∧ E k 0 = 1 := by
  unfold Gd.hero at *
  rcases En.first_cases (En.heroQ E seat) 32 with ⟨h', _⟩ | ⟨k, hk, h', hq, _⟩
  · omega
  · simp only [En.heroQ, Bool.and_eq_true, decide_eq_true_eq] at hq
    exact ⟨k, hk, h', hq.2, hq.1⟩

end Go.Proofs.Ytbploaihicakeaa

namespace Go.Proofs.Ytbploaihicakeaa
open Go.RowKit

/-- May an item be where it is? -/
def Gd.fitsB (c : Nat → Int) (k p a b : Int) : Bool :=
  decide (1 ≤ k ∧ k ≤ 4) && (if p = 1 then Gr.walkB (Gr.at 384 c a b) else if p = 2 then Gd.isSeat a && (decide (0 ≤ b) && (decide (b < 4) && decide (k ≠ 4)))
    else if p = 3 then Gd.isSeat a && (Gd.serves k 7 && decide (b = k - 2)) else if p = 4 then decide (0 ≤ a) && (decide (a < 3) && (decide (b = 0) && decide (k ≠ 4))) else false)

theorem Gd.serves_7 (k : Int) : Gd.serves k 7 = (decide (k = 2) || decide (k = 3)) := by
  unfold Gd.serves
  rw [if_neg (by decide), if_pos rfl]

theorem Gd.at_out {c : Nat → Int} {x y : Int} (h : Gr.inB x y = false) : Gr.at 384 c x y = 0 := by
  unfold Gr.at
  rw [if_neg (by rw [h]; simp)]

theorem Gd.fits_iff (c r : Nat → Int) : Gd.fitsB c (r 0) (r 1) (r 2) (r 3) = true ↔ Gd.Placed c r := by
  unfold Gd.fitsB Gd.Placed
  rw [Bool.and_eq_true, decide_eq_true_eq]
  constructor
  · rintro ⟨⟨h1, h2⟩, h⟩
    refine ⟨h1, h2, ?_⟩
    by_cases p1 : r 1 = 1
    · rw [if_pos p1] at h
      refine .inl ⟨p1, ?_, h⟩
      cases hin : Gr.inB (r 2) (r 3) with
      | true => rfl
      | false => rw [Gd.at_out hin] at h; simp [Gr.walkB] at h
    · rw [if_neg p1] at h
      by_cases p2 : r 1 = 2
      · rw [if_pos p2] at h
        simp only [Gd.isSeat, Bool.and_eq_true, decide_eq_true_eq] at h
        exact .inr (.inl ⟨p2, h.1.1, h.1.2, h.2.1, h.2.2.1, h.2.2.2⟩)
      · rw [if_neg p2] at h
        by_cases p3 : r 1 = 3
        · rw [if_pos p3] at h
          simp only [Gd.isSeat, Gd.serves_7, Bool.and_eq_true, Bool.or_eq_true, decide_eq_true_eq] at h
          obtain ⟨⟨s0, s1⟩, hs, hb⟩ := h
          exact .inr (.inr (.inl ⟨p3, s0, s1, by omega⟩))
        · rw [if_neg p3] at h
          by_cases p4 : r 1 = 4
          · rw [if_pos p4] at h
            simp only [Bool.and_eq_true, decide_eq_true_eq] at h
            exact .inr (.inr (.inr ⟨p4, h.1, h.2.1, h.2.2.1, h.2.2.2⟩))
          · rw [if_neg p4] at h
            cases h
  · rintro ⟨h1, h2, h | h | h | h⟩
    · exact ⟨⟨h1, h2⟩, by rw [if_pos h.1]; exact h.2.2⟩
    · refine ⟨⟨h1, h2⟩, ?_⟩
      rw [if_neg (by omega), if_pos h.1]
      simp only [Gd.isSeat, Bool.and_eq_true, decide_eq_true_eq]
      exact ⟨⟨h.2.1, h.2.2.1⟩, h.2.2.2.1, h.2.2.2.2.1, h.2.2.2.2.2⟩
    · refine ⟨⟨h1, h2⟩, ?_⟩
      rw [if_neg (by omega), if_neg (by omega), if_pos h.1]
      simp only [Gd.isSeat, Gd.serves_7, Bool.and_eq_true, Bool.or_eq_true, decide_eq_true_eq]
      exact ⟨⟨h.2.1, h.2.2.1⟩, by omega, by omega⟩
    · refine ⟨⟨h1, h2⟩, ?_⟩
      rw [if_neg (by omega), if_neg (by omega), if_neg (by omega), if_pos h.1]
      simp only [Bool.and_eq_true, decide_eq_true_eq]
      exact ⟨h.2.1, h.2.2.1, h.2.2.2.1, h.2.2.2.2⟩

theorem ret_says {w w' : World} {a b : Bool} (h : a = b) (hg : w.grownBy w' none) : Says w (.bool b) (.returned (.bool a)) w' := ⟨ret_bool h, hg⟩

end Go.Proofs.Ytbploaihicakeaa

namespace Go.Proofs.Ytbploaihicakeaa
open Go.RowKit

/-- An item is gone, or it may be where it is, and none below is there. -/
def Gd.good (c : Nat → Int) (I : Nat → Nat → Int) (j : Nat) : Prop := Gd.zeroB (I j 0) (I j 1) (I j 2) (I j 3) = true ∨ (Gd.fitsB c (I j 0) (I j 1) (I j 2) (I j 3) = true ∧ Gd.find I 40 (I j 1) (I j 2) (I j 3) = (j : Int))

theorem Gd.zero_iff (r : Nat → Int) : Gd.zeroB (r 0) (r 1) (r 2) (r 3) = true ↔ Gd.Zero r := by
  unfold Gd.zeroB Gd.Zero
  rw [decide_eq_true_eq]

theorem Gd.ok_good {c : Nat → Int} {I : Nat → Nat → Int} (h : Gd.Ok c 40 I) {k : Nat} (hk : k < 40) : Gd.good c I k := by
  rcases h.each k hk with hz | hp
  · exact .inl ((Gd.zero_iff (I k)).2 hz)
  · refine .inr ⟨(Gd.fits_iff c (I k)).2 hp, ?_⟩
    rcases Gd.find_cases I 40 (I k 1) (I k 2) (I k 3) with ⟨_, hno⟩ | ⟨m, hm, e, h1, h2, h3, _⟩
    · exact absurd ⟨rfl, rfl, rfl⟩ (hno k hk)
    · by_cases em : m = k
      · rw [e, em]
      · exact absurd (⟨h1, h2, h3⟩ : Gd.Share (I m) (I k)) (h.one k m hk hm (fun e => em e.symm) hp.where_ne)

theorem Gd.good_ok {c : Nat → Int} {I : Nat → Nat → Int} (h : ∀ k, k < 40 → Gd.good c I k) : Gd.Ok c 40 I := by
  refine ⟨fun i hi => ?_, fun i k hi hk hik hw hs => ?_⟩
  · rcases h i hi with hz | ⟨hp, _⟩
    · exact .inl ((Gd.zero_iff (I i)).1 hz)
    · exact .inr ((Gd.fits_iff c (I i)).1 hp)
  · have fi : Gd.find I 40 (I i 1) (I i 2) (I i 3) = (i : Int) := by
      rcases h i hi with hz | ⟨_, hf⟩
      · exact absurd ((Gd.zero_iff (I i)).1 hz).2.1 hw
      · exact hf
    have fk : Gd.find I 40 (I k 1) (I k 2) (I k 3) = (k : Int) := by
      rcases h k hk with hz | ⟨_, hf⟩
      · exact absurd (hs.1 ▸ ((Gd.zero_iff (I k)).1 hz).2.1) hw
      · exact hf
    rw [hs.1, hs.2.1, hs.2.2, fi] at fk
    omega

/-- A call tells a truth; nothing that was there has turned. -/
def Tells7 (w : World) (p : Prop) (e : Ending) (w' : World) : Prop := ∃ r : Bool, e = .returned (.bool r) ∧ (r = true ↔ p) ∧ w.grownBy w' none

end Go.Proofs.Ytbploaihicakeaa

namespace Go.Proofs.Ytbploaihicakeaa
open Go.RowKit

def Gd.text (c : Nat → Int) : ByteArray := strOfNums ((List.range 384).map c)

theorem Lie.text {w : World} {G cap : Nat} {c : Nat → Int} (h : Lie w G 5 384 (Byts c)) : (convert 25 9 (.slice (some ⟨G, 0, none⟩) 384 cap)).run Try.prog w = .ok (.string (Gd.text c)) w := by
  refine run_convert_bytes_arg w 25 5 Try.underlying25 Try.underlying5 G 0 384 cap ((List.range 384).map c) (by simp) (fun i hi => ?_) 9 Try.underlying9
  rw [Nat.zero_add, h.cell hi]
  show some (Value.int .u8 (c i)) = _
  simp [List.getD, List.getElem?_map, List.getElem?_range hi]

theorem run_eq_gold (a b c d : Int) (w : World) : (Op.equalIn 10000 27 (.agg #[.int .i64 a, .int .i64 b, .int .i64 c, .int .i64 d]) (.agg #[.int .i64 a, .int .i64 b, .int .i64 c, .int .i64 d])).run Try.prog w = .ok true w := by
  obtain ⟨i0, hi, _, _, _⟩ := info_parts info_int
  have hc : Try.prog.cellsOf 3 = 1 := by kernel_rfl
  have h := run_equalIn_array (P := Try.prog) (w := w) 9999 #[.int .i64 a, .int .i64 b, .int .i64 c, .int .i64 d] #[.int .i64 a, .int .i64 b, .int .i64 c, .int .i64 d] Try.underlying27 hi
  have hr : (Op.eqItems 9999 3 (Try.prog.cellsOf 3) #[Value.int .i64 a, .int .i64 b, .int .i64 c, .int .i64 d] #[.int .i64 a, .int .i64 b, .int .i64 c, .int .i64 d] (List.range 4)).run Try.prog w = .ok true w := by
    rw [hc]
    simp [List.range, List.range.loop, Op.eqItems, go_sem]
  rw [hr] at h
  exact h

set_option maxRecDepth 8000 in
set_option maxHeartbeats 6400000 in
theorem same7_any (s g c : Nat → Int) (E I : Nat → Nat → Int) (gC gE gI cC cE cI hC hE hI dC dE dI : Nat) (w : World) (hL : Gd.Lists w gC gE gI c E I) (hL2 : Gd.Lists w hC hE hI c E I) :
    Calls Try.prog 15 #[.agg (Gd.world s gC gE gI cC cE cI g), .agg (Gd.world s hC hE hI dC dE dI g)] w (Says w (.bool true)) := by
  obtain ⟨W, hW⟩ : ∃ W, W = (w.alloc (.cells (Gd.world s gC gE gI cC cE cI g) 29)).alloc (.cells (Gd.world s hC hE hI dC dE dI g) 29) := ⟨_, rfl⟩
  have hg : w.grownBy W none := by rw [hW]; exact grown_alloc (World.grownBy_alloc _ _ _) _
  have x1 : Lie W w.heap.size 29 11 (Gd.box s gC gE gI cC cE cI g) := by
    rw [hW]
    exact ((Arr.world (heap_alloc_new w _)).alloc _).lie
  have x2 : Lie W (w.heap.size + 1) 29 11 (Gd.box s hC hE hI dC dE dI g) := by
    rw [hW]
    have h := heap_alloc_new (w.alloc (.cells (Gd.world s gC gE gI cC cE cI g) 29)) (.cells (Gd.world s hC hE hI dC dE dI g) 29)
    rw [show (w.alloc (.cells (Gd.world s gC gE gI cC cE cI g) 29)).heap.size = w.heap.size + 1 by simp] at h
    exact (Arr.world h).lie
  obtain ⟨B, hB⟩ : ∃ B, w.heap.size = B := ⟨_, rfl⟩
  rw [hB] at x1 x2
  have x1' := hide x1
  have x2' := hide x2
  have hL' := hide (hL.on hg)
  have hL2' := hide (hL2.on hg)
  have hg' := hide hg
  have t1 := (unhide hL').cells.text (cap := cC)
  have t2 := (unhide hL2').cells.text (cap := dC)
  obtain ⟨T, hT⟩ : ∃ T, T = Gd.text c := ⟨_, rfl⟩
  rw [← hT] at t1 t2
  obtain ⟨a0, a1, a2, a3, a4, a5, a6, a7, a8, a9, a10⟩ := x1.eleven
  obtain ⟨b0, b1, b2, b3, b4, b5, b6, b7, b8, b9, b10⟩ := x2.eleven
  have keep : Hid (∀ x, W.grownBy x none → (x.cell? ⟨B, 5, none⟩ = some (.slice (some ⟨gE, 0, none⟩) 32 cE) ∧ x.cell? ⟨B, 6, none⟩ = some (.slice (some ⟨gI, 0, none⟩) 40 cI) ∧ x.cell? ⟨B + 1, 5, none⟩ = some (.slice (some ⟨hE, 0, none⟩) 32 dE) ∧ x.cell? ⟨B + 1, 6, none⟩ = some (.slice (some ⟨hI, 0, none⟩) 40 dI))) := fun x h =>
    ⟨((unhide x1').on h).eleven.2.2.2.2.2.1, ((unhide x1').on h).eleven.2.2.2.2.2.2.1, ((unhide x2').on h).eleven.2.2.2.2.2.1, ((unhide x2').on h).eleven.2.2.2.2.2.2.1⟩
  have hgold := fun wx => run_eq_gold (g 0) (g 1) (g 2) (g 3) wx
  clear hL hL2 hg hT x1 x2
  unfold Gd.world at hW ⊢
  go_enter Try.func15, Try.ntmps15
  go_upto_region 1 with fail
  rw [← hW]
  clear hW hB
  go_wp2_with fail
  go_loopw [5] (fun vi wr => ∃ k : Nat, k ≤ 32 ∧ vi = .int .i64 (k : Int) ∧ W.grownBy wr none) (fun vi _ => 200 - (intOf vi).toNat)
  case atStart => exact ⟨0, by omega, rfl, World.grownBy.refl _ _⟩
  case round =>
    clear hgold t1 t2 a0 a1 a2 a3 a4 a5 a6 a7 a8 a9 a10 b0 b1 b2 b3 b4 b5 b6 b7 b8 b9 b10
    obtain ⟨k, hk, rfl, hgr⟩ := hrel
    have hgr' := hide hgr
    obtain ⟨k1, k2, k3, k4⟩ := unhide keep wr hgr
    clear hgr
    by_cases hlt : k < 32
    · have hlt' : (k : Int) < 32 := by omega
      obtain ⟨u0, u1, u2, u3, u4, u5, u6, u7, u8, u9, u10⟩ := ((unhide hL').on (unhide hgr')).own.ents.row hlt
      obtain ⟨s0, s1, s2, s3, s4, s5, s6, s7, s8, s9, s10⟩ := ((unhide hL2').on (unhide hgr')).own.ents.row hlt
      have hdr : Hid (∀ m, W.grownBy (wr.drewN m) none) := fun m => grown_drew (unhide hgr') m
      have HL := hide hlt
      clear hlt
      go_wp2_with fail
      go_quiet (fail)
      go_wp2
      go_roundw
      case rel => exact ⟨k + 1, by have := unhide HL; omega, by go_num, unhide hdr _⟩
      case measure => simp [intOf]; omega
    · have hge : ¬ (k : Int) < 32 := by omega
      clear hlt
      go_wp2_with fail
      go_loopw [6] (fun vi wr => ∃ k : Nat, k ≤ 40 ∧ vi = .int .i64 (k : Int) ∧ W.grownBy wr none) (fun vi _ => 200 - (intOf vi).toNat)
      case atStart => exact ⟨0, by omega, rfl, unhide hgr'⟩
      case round =>
        clear k1 k2 k3 k4 hge hgr'
        obtain ⟨k, hk, rfl, hgr⟩ := hrel
        have hgr' := hide hgr
        obtain ⟨k1, k2, k3, k4⟩ := unhide keep wr hgr
        clear hgr
        by_cases hlt : k < 40
        · have hlt' : (k : Int) < 40 := by omega
          obtain ⟨u0, u1, u2, u3⟩ := ((unhide hL').on (unhide hgr')).its.row hlt
          obtain ⟨s0, s1, s2, s3⟩ := ((unhide hL2').on (unhide hgr')).its.row hlt
          have hdr : Hid (∀ m, W.grownBy (wr.drewN m) none) := fun m => grown_drew (unhide hgr') m
          have HL := hide hlt
          clear hlt
          go_wp2_with fail
          go_quiet (fail)
          go_wp2
          go_roundw
          case rel => exact ⟨k + 1, by have := unhide HL; omega, by go_num, unhide hdr _⟩
          case measure => simp [intOf]; omega
        · have hge : ¬ (k : Int) < 40 := by omega
          have hfin := hide (grown_trans (unhide hg') (unhide hgr'))
          go_wp2
          go_ret
          exact ⟨rfl, unhide hfin⟩

end Go.Proofs.Ytbploaihicakeaa
