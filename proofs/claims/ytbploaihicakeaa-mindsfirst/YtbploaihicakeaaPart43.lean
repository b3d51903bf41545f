/-
  A hero with mages about it, and what it has, as numbers.
-/
import Derived.Test.YtbploaihicakeaaPart42
import Derived.Test.YtbploaihicakeaaPart36
import Derived.Test.YtbploaihicakeaaPart23
namespace Go.Proofs.Ytbploaihicakeaa
open Go.RowKit

/-- The cell one step that way can be walked on. -/
def Md.wk (c : Nat → Int) (m j : Nat) : Bool := Gr.walkB (Gr.at 384 c ((m : Int) % 24 + (Fx.way (j : Int)).1) ((m : Int) / 24 + (Fx.way (j : Int)).2))

/-- A hero at cell m; on each cell beside it by a way above d that can be walked on a mage; nobody else. -/
structure Md.Camp (c : Nat → Int) (E : Nat → Nat → Int) (r m d : Nat) : Prop where
  r32 : r < 32
  m4 : m < 384
  kind : E r 0 = 1
  seat : E r 2 = 0
  x : E r 3 = (m : Int) % 24
  y : E r 4 = (m : Int) / 24
  most : E r 6 = 20
  gens : En.Gens 32 E
  free : ∀ k, k < 32 → E k 0 = 0 → E k 3 = 0 ∧ E k 4 = 0
  mage : ∀ k, k < 32 → k ≠ r → E k 0 ≠ 0 → E k 0 = 4 ∧ (0 ≤ E k 6 ∧ E k 6 ≤ 20) ∧ ∃ j : Nat, d < j ∧ j ≤ 4 ∧ Md.wk c m j = true ∧ E k 3 = (m : Int) % 24 + (Fx.way (j : Int)).1 ∧ E k 4 = (m : Int) / 24 + (Fx.way (j : Int)).2
  all : ∀ j : Nat, d < j → j ≤ 4 → Md.wk c m j = true → ∃ k, k < 32 ∧ k ≠ r ∧ E k 0 = 4 ∧ E k 3 = (m : Int) % 24 + (Fx.way (j : Int)).1 ∧ E k 4 = (m : Int) / 24 + (Fx.way (j : Int)).2
  room : ∀ k, k < 32 → k ≠ r → 9 ≤ k + 2 * d → E k 0 = 0

theorem Md.Lone.camp {c : Nat → Int} {E : Nat → Nat → Int} {r m : Nat} (h : Md.Lone E r 0 m) : Md.Camp c E r m 4 :=
  ⟨h.r32, h.m4, h.kind, h.seat, h.x, h.y, h.most, fun k _ => by
    by_cases e : k = r
    · rw [e, h.gen]; omega
    · rw [h.rest k 1 e]; omega, fun k _ k0 => by
    by_cases e : k = r
    · rw [e, h.kind] at k0; omega
    · exact ⟨h.rest k 3 e, h.rest k 4 e⟩, fun k _ hk k0 => absurd (h.rest k 0 hk) k0, fun j h1 h2 => by omega, fun k _ hk _ => h.rest k 0 hk⟩

theorem Md.Camp.skip {c : Nat → Int} {E : Nat → Nat → Int} {r m d : Nat} (h : Md.Camp c E r m (d + 1)) (hw : Md.wk c m (d + 1) = false) : Md.Camp c E r m d :=
  { h with
    mage := fun k hk hkr k0 => by
      obtain ⟨h0, h6, j, h1, h2, h3⟩ := h.mage k hk hkr k0
      exact ⟨h0, h6, j, by omega, h2, h3⟩
    all := fun j h1 h2 h3 => by
      by_cases e : j = d + 1
      · rw [e, hw] at h3; cases h3
      · exact h.all j (by omega) h2 h3
    room := fun k hk hkr hb => h.room k hk hkr (by omega) }

/-- The lowest free row. -/
theorem Md.Camp.spare {c : Nat → Int} {E : Nat → Nat → Int} {r m d : Nat} (h : Md.Camp c E r m (d + 1)) (hd : d + 1 ≤ 4) : ∃ f : Nat, f < 32 ∧ f + 2 * d < 9 ∧ En.first (En.freeQ E) 32 = (f : Int) ∧ E f 0 = 0 ∧ f ≠ r ∧ ∀ j, j < f → E j 0 ≠ 0 := by
  have hcand : ∃ f, f < 32 ∧ f + 2 * d < 9 ∧ E f 0 = 0 := by
    by_cases e : r = 7 - 2 * d
    · exact ⟨8 - 2 * d, by omega, by omega, h.room _ (by omega) (by omega) (by omega)⟩
    · exact ⟨7 - 2 * d, by omega, by omega, h.room _ (by omega) (by omega) (by omega)⟩
  obtain ⟨f, hf, hf9, hf0⟩ := hcand
  rcases En.first_cases (En.freeQ E) 32 with ⟨_, hno⟩ | ⟨k, hk, he, hq, hno⟩
  · have := hno f hf
    simp [En.freeQ, hf0] at this
  · have hk0 : E k 0 = 0 := by simpa [En.freeQ] using hq
    have hno' : ∀ j, j < k → E j 0 ≠ 0 := fun j hj => by simpa [En.freeQ] using hno j hj
    have hkf : k ≤ f := by
      by_cases e : f < k
      · exact absurd hf0 (hno' f e)
      · omega
    refine ⟨k, hk, by omega, he, hk0, ?_, hno'⟩
    rintro rfl
    have := h.kind
    omega

theorem Md.Camp.join {c : Nat → Int} {E : Nat → Nat → Int} {r m d f : Nat} {e : Nat → Int} {gn : Int} (h : Md.Camp c E r m (d + 1)) (hd : d + 1 ≤ 4) (hw : Md.wk c m (d + 1) = true) (hf : f < 32) (hf9 : f + 2 * d < 9) (hf0 : E f 0 = 0) (hfr : f ≠ r) (e0 : e 0 = 4) (e3 : e 3 = (m : Int) % 24 + (Fx.way ((d + 1 : Nat) : Int)).1) (e4 : e 4 = (m : Int) / 24 + (Fx.way ((d + 1 : Nat) : Int)).2) (e6 : 0 ≤ e 6 ∧ e 6 ≤ 20) (g0 : 0 ≤ gn ∧ gn ≤ 255) : Md.Camp c (En.put E f (En.gen e gn)) r m d := by
  have er : En.put E f (En.gen e gn) r = E r := En.put_other (by omega)
  have ef : En.put E f (En.gen e gn) f = En.gen e gn := En.put_same _ _ _
  have f0 : En.gen e gn 0 = 4 := e0
  have f1 : En.gen e gn 1 = gn := rfl
  have f3 : En.gen e gn 3 = (m : Int) % 24 + (Fx.way ((d + 1 : Nat) : Int)).1 := e3
  have f4 : En.gen e gn 4 = (m : Int) / 24 + (Fx.way ((d + 1 : Nat) : Int)).2 := e4
  have f6 : 0 ≤ En.gen e gn 6 ∧ En.gen e gn 6 ≤ 20 := e6
  refine ⟨h.r32, h.m4, by rw [er]; exact h.kind, by rw [er]; exact h.seat, by rw [er]; exact h.x, by rw [er]; exact h.y, by rw [er]; exact h.most, fun k hk => ?_, fun k hk k0 => ?_, fun k hk hkr k0 => ?_, fun j h1 h2 h3 => ?_, fun k hk hkr hb => ?_⟩
  · by_cases x : k = f
    · rw [x, ef, f1]; exact g0
    · rw [En.put_other x]; exact h.gens k hk
  · by_cases x : k = f
    · rw [x, ef, f0] at k0; omega
    · rw [En.put_other x] at k0 ⊢; exact h.free k hk k0
  · by_cases x : k = f
    · rw [x, ef]
      exact ⟨f0, f6, d + 1, by omega, hd, hw, f3, f4⟩
    · rw [En.put_other x] at k0 ⊢
      obtain ⟨h0, h6, j, h1, h2, h3⟩ := h.mage k hk hkr k0
      exact ⟨h0, h6, j, by omega, h2, h3⟩
  · by_cases x : j = d + 1
    · refine ⟨f, hf, hfr, ?_⟩
      rw [ef, x]
      exact ⟨f0, f3, f4⟩
    · obtain ⟨k, hk, hkr, k0, k3, k4⟩ := h.all j (by omega) h2 h3
      by_cases y : k = f
      · rw [y, hf0] at k0; omega
      · exact ⟨k, hk, hkr, by rw [En.put_other y]; exact ⟨k0, k3, k4⟩⟩
  · rw [En.put_other (by omega)]
    exact h.room k hk hkr (by omega)

theorem Md.way_one {i j : Nat} (i1 : 1 ≤ i) (i4 : i ≤ 4) (j1 : 1 ≤ j) (j4 : j ≤ 4) {x y : Int} (h1 : x + (Fx.way (i : Int)).1 = x + (Fx.way (j : Int)).1) (h2 : y + (Fx.way (i : Int)).2 = y + (Fx.way (j : Int)).2) : i = j := by
  have a1 : Fx.way ((1 : Nat) : Int) = (0, -1) := rfl
  have a2 : Fx.way ((2 : Nat) : Int) = (1, 0) := rfl
  have a3 : Fx.way ((3 : Nat) : Int) = (0, 1) := rfl
  have a4 : Fx.way ((4 : Nat) : Int) = (-1, 0) := rfl
  rcases (show i = 1 ∨ i = 2 ∨ i = 3 ∨ i = 4 by omega) with rfl | rfl | rfl | rfl <;> rcases (show j = 1 ∨ j = 2 ∨ j = 3 ∨ j = 4 by omega) with rfl | rfl | rfl | rfl <;> simp only [a1, a2, a3, a4] at h1 h2 <;> omega

theorem Md.Camp.hero {c : Nat → Int} {E : Nat → Nat → Int} {r m d : Nat} (h : Md.Camp c E r m d) : Gd.hero E 0 = (r : Int) := by
  unfold Gd.hero
  refine En.first_hit (fun j hj => ?_) ?_ h.r32
  · unfold En.heroQ
    by_cases j0 : E j 0 = 0
    · simp [j0]
    · have := (h.mage j (by have := h.r32; omega) (by omega) j0).1
      simp [this]
  · unfold En.heroQ
    rw [h.kind, h.seat]
    simp

theorem Md.Camp.fine {c : Nat → Int} {E : Nat → Nat → Int} {r m d : Nat} (h : Md.Camp c E r m d) : Md.Fine E := fun k hk k0 => by
  by_cases e : k = r
  · rw [e, h.x, h.y, h.most]
    have := h.m4
    omega
  · obtain ⟨_, h6, j, _, _, hw, h3, h4⟩ := h.mage k hk e k0
    unfold Md.wk at hw
    rw [← h3, ← h4] at hw
    have hin : Gr.inB (E k 3) (E k 4) = true := by
      by_cases hi : Gr.inB (E k 3) (E k 4) = true
      · exact hi
      · unfold Gr.at at hw
        rw [if_neg (fun hh => hi hh.1)] at hw
        cases hw
    have := (Gr.inB_iff _ _).1 hin
    omega

theorem Md.Camp.good {c : Nat → Int} {E I : Nat → Nat → Int} {r m d : Nat} (h : Md.Camp c E r m d) (hok : Gd.Ok c 40 I) : Md.Good c E I :=
  Md.good_of h.fine (fun k hk => ⟨h.gens k hk, h.free k hk⟩) hok

theorem Md.at_iff (E : Nat → Nat → Int) (x y : Int) (k : Nat) : En.atQ E x y k = true ↔ E k 0 ≠ 0 ∧ E k 3 = x ∧ E k 4 = y := by
  simp [En.atQ]

/-- Whom the hero meets: a mage on each cell that can be walked on. -/
theorem Md.Camp.foe {c : Nat → Int} {E : Nat → Nat → Int} {r m j : Nat} (h : Md.Camp c E r m 0) (j1 : 1 ≤ j) (j4 : j ≤ 4) : Md.foe E (E r 3) (E r 4) j = Md.wk c m j := by
  unfold Md.foe Md.who
  rw [h.x, h.y]
  have notr : ∀ k, En.atQ E ((m : Int) % 24 + (Fx.way (j : Int)).1) ((m : Int) / 24 + (Fx.way (j : Int)).2) k = true → k ≠ r := fun k hq e => by
    obtain ⟨_, q3, q4⟩ := (Md.at_iff _ _ _ _).1 hq
    rw [e, h.x] at q3
    rw [e, h.y] at q4
    exact Md.way_some j1 j4 _ _ ⟨q3.symm, q4.symm⟩
  rcases En.first_cases (En.atQ E ((m : Int) % 24 + (Fx.way (j : Int)).1) ((m : Int) / 24 + (Fx.way (j : Int)).2)) 32 with ⟨he, hno⟩ | ⟨k, hk, he, hq, _⟩
  · rw [he]
    cases hw : Md.wk c m j
    · rfl
    · obtain ⟨k, hk, _, k0, k3, k4⟩ := h.all j (by omega) j4 hw
      have := hno k hk
      rw [(Md.at_iff _ _ _ _).2 ⟨by omega, k3, k4⟩] at this
      cases this
  · rw [he, Int.toNat_natCast]
    obtain ⟨q0, q3, q4⟩ := (Md.at_iff _ _ _ _).1 hq
    obtain ⟨k0, _, i, i1, i4, hw, h3, h4⟩ := h.mage k hk (notr k hq) q0
    have hij : i = j := Md.way_one (by omega) i4 j1 j4 (h3.symm.trans q3) (h4.symm.trans q4)
    rw [← hij, hw, k0]
    simp

/-- The lowest way to a cell that can be walked on. -/
def Md.Way (c : Nat → Int) (m d : Nat) (v : Int) : Prop := (v = 0 ∧ ∀ j, d < j → j ≤ 4 → Md.wk c m j = false) ∨ ∃ j : Nat, v = (j : Int) ∧ d < j ∧ j ≤ 4 ∧ Md.wk c m j = true ∧ ∀ i, d < i → i < j → Md.wk c m i = false

theorem Md.Way.skip {c : Nat → Int} {m d : Nat} {v : Int} (h : Md.Way c m (d + 1) v) (hw : Md.wk c m (d + 1) = false) : Md.Way c m d v := by
  rcases h with ⟨h0, hno⟩ | ⟨j, hj, h1, h4, hq, hno⟩
  · refine .inl ⟨h0, fun j h1 h2 => ?_⟩
    by_cases e : j = d + 1
    · rw [e]; exact hw
    · exact hno j (by omega) h2
  · refine .inr ⟨j, hj, by omega, h4, hq, fun i h1 h2 => ?_⟩
    by_cases e : i = d + 1
    · rw [e]; exact hw
    · exact hno i (by omega) h2

theorem Md.Way.take {c : Nat → Int} {m d : Nat} (hd : d + 1 ≤ 4) (hw : Md.wk c m (d + 1) = true) : Md.Way c m d ((d + 1 : Nat) : Int) :=
  .inr ⟨d + 1, rfl, by omega, hd, hw, fun i h1 h2 => by omega⟩

theorem Md.Camp.way {c : Nat → Int} {E : Nat → Nat → Int} {r m : Nat} {v : Int} (h : Md.Camp c E r m 0) (hv : Md.Way c m 0 v) (hF : Nv.Floor c) (hw : Gr.walkB (c m) = true) : Nv.wayFrom (Md.foe E (E r 3) (E r 4)) 4 1 = v ∧ v ≠ 0 := by
  rcases hv with ⟨h0, hno⟩ | ⟨j, hj, h1, h4, hq, hno⟩
  · obtain ⟨d, d1, d4, hd⟩ := Md.neighbour hF h.m4 hw
    have := hno d (by omega) d4
    unfold Md.wk at this
    rw [hd] at this
    cases this
  · refine ⟨?_, by omega⟩
    rw [hj]
    exact Nv.way_hit 4 j 1 (fun i h5 h6 => by rw [h.foe h5 (by omega)]; exact hno i (by omega) h6) (by rw [h.foe (by omega) h4]; exact hq) (by omega) (by omega)

/-- What it has: a potion in the last slot of its bag; a sword at its feet. -/
def Md.kit (p q : Bool) (x y : Int) : Nat → Nat → Int := fun i => if i = 0 ∧ p = true then Gd.row 1 2 0 3 else if i = 1 ∧ q = true then Gd.row 2 1 x y else fun _ => 0

theorem Md.kit_zero (x y : Int) : Md.kit false false x y = fun _ _ => 0 := by
  funext i
  unfold Md.kit
  rw [if_neg (by simp), if_neg (by simp)]

theorem Md.kit_potion (x y : Int) : En.put (fun _ _ => 0) 0 (Gd.row 1 2 0 3) = Md.kit true false x y := by
  funext i
  unfold Md.kit En.put
  by_cases e : i = 0
  · rw [if_pos e, if_pos ⟨e, rfl⟩]
  · rw [if_neg e, if_neg (fun h => e h.1), if_neg (by simp)]

theorem Md.kit_sword (p : Bool) (x y : Int) : En.put (Md.kit p false x y) 1 (Gd.row 2 1 x y) = Md.kit p true x y := by
  funext i
  by_cases e : i = 1
  · rw [e, En.put_same]
    unfold Md.kit
    rw [if_neg (fun h => by omega), if_pos ⟨rfl, rfl⟩]
  · rw [En.put_other e]
    unfold Md.kit
    by_cases e0 : i = 0 ∧ p = true
    · rw [if_pos e0, if_pos e0]
    · rw [if_neg e0, if_neg e0, if_neg (by simp), if_neg (fun h => e h.1)]

theorem Md.kit_at (p q : Bool) (x y : Int) (i : Nat) : (i = 0 ∧ p = true ∧ Md.kit p q x y i = Gd.row 1 2 0 3) ∨ (i = 1 ∧ q = true ∧ Md.kit p q x y i = Gd.row 2 1 x y) ∨ (Md.kit p q x y i = (fun _ => 0) ∧ ¬ (i = 0 ∧ p = true) ∧ ¬ (i = 1 ∧ q = true)) := by
  unfold Md.kit
  by_cases e0 : i = 0 ∧ p = true
  · rw [if_pos e0]; exact .inl ⟨e0.1, e0.2, rfl⟩
  · rw [if_neg e0]
    by_cases e1 : i = 1 ∧ q = true
    · rw [if_pos e1]; exact .inr (.inl ⟨e1.1, e1.2, rfl⟩)
    · rw [if_neg e1]; exact .inr (.inr ⟨rfl, e0, e1⟩)

theorem Md.kit_ok {c : Nat → Int} {p q : Bool} {x y : Int} (hin : Gr.inB x y = true) (hw : Gr.walkB (Gr.at 384 c x y) = true) : Gd.Ok c 40 (Md.kit p q x y) := by
  refine ⟨fun i _ => ?_, fun i k _ _ hik h0 hs => ?_⟩
  · rcases Md.kit_at p q x y i with ⟨_, _, h⟩ | ⟨_, _, h⟩ | ⟨h, _⟩
    · rw [h]; exact .inr ⟨by show (1 : Int) ≤ 1; omega, by show (1 : Int) ≤ 4; omega, .inr (.inl ⟨rfl, by show (0 : Int) ≤ 0; omega, by show (0 : Int) < 4; omega, by show (0 : Int) ≤ 3; omega, by show (3 : Int) < 4; omega, by show ¬ (1 : Int) = 4; omega⟩)⟩
    · rw [h]; exact .inr ⟨by show (1 : Int) ≤ 2; omega, by show (2 : Int) ≤ 4; omega, .inl ⟨rfl, hin, hw⟩⟩
    · rw [h]; exact .inl ⟨rfl, rfl, rfl, rfl⟩
  · have s1 := hs.1
    rcases Md.kit_at p q x y i with ⟨i0, _, hi⟩ | ⟨i1, _, hi⟩ | ⟨hi, _⟩
    · rcases Md.kit_at p q x y k with ⟨k0, _, hk⟩ | ⟨k1, _, hk⟩ | ⟨hk, _⟩
      · omega
      · rw [hi, hk] at s1; exact absurd s1 (by show ¬ (1 : Int) = 2; omega)
      · rw [hi, hk] at s1; exact absurd s1 (by show ¬ (0 : Int) = 2; omega)
    · rcases Md.kit_at p q x y k with ⟨k0, _, hk⟩ | ⟨k1, _, hk⟩ | ⟨hk, _⟩
      · rw [hi, hk] at s1; exact absurd s1 (by show ¬ (2 : Int) = 1; omega)
      · omega
      · rw [hi, hk] at s1; exact absurd s1 (by show ¬ (0 : Int) = 1; omega)
    · rw [hi] at h0; exact absurd rfl h0

theorem Md.kit_bag (p q : Bool) (x y : Int) {b : Nat} (h3 : b = 3 → p = false) : Gd.find (Md.kit p q x y) 40 2 0 (b : Int) = -1 := by
  rcases Gd.find_cases (Md.kit p q x y) 40 2 0 (b : Int) with ⟨h, _⟩ | ⟨k, _, _, k1, k2, k3, _⟩
  · exact h
  · rcases Md.kit_at p q x y k with ⟨_, hp, hk⟩ | ⟨_, _, hk⟩ | ⟨hk, _⟩
    · rw [hk] at k3
      have k3' : (3 : Int) = (b : Int) := k3
      rw [h3 (by omega)] at hp
      cases hp
    · rw [hk] at k1; exact absurd k1 (by show ¬ (1 : Int) = 2; omega)
    · rw [hk] at k1; exact absurd k1 (by show ¬ (0 : Int) = 2; omega)

theorem Md.kit_has (p q : Bool) (x y : Int) : 0 ≤ Gd.has (Md.kit p q x y) 40 0 1 1 ↔ p = true := by
  constructor
  · intro h
    obtain ⟨k, _, _, k1, _, _, _, k5, _⟩ := Gd.has_pos h
    rcases Md.kit_at p q x y k with ⟨_, hp, _⟩ | ⟨_, _, hk⟩ | ⟨hk, _⟩
    · exact hp
    · rw [hk] at k1; exact absurd k1 (by show ¬ (1 : Int) = 2; omega)
    · rw [hk] at k1; exact absurd k1 (by show ¬ (0 : Int) = 2; omega)
  · rintro rfl
    have hr : Md.kit true q x y 0 = Gd.row 1 2 0 3 := if_pos ⟨rfl, rfl⟩
    have hf : Gd.find (Md.kit true q x y) 40 2 0 ((3 : Nat) : Int) = ((0 : Nat) : Int) := by
      rcases Gd.find_cases (Md.kit true q x y) 40 2 0 ((3 : Nat) : Int) with ⟨_, hno⟩ | ⟨k, _, he, _, _, _, hno⟩
      · exact absurd ⟨by rw [hr]; rfl, by rw [hr]; rfl, by rw [hr]; rfl⟩ (hno 0 (by omega))
      · by_cases k0 : k = 0
        · rw [he, k0]
        · exact absurd ⟨by rw [hr]; rfl, by rw [hr]; rfl, by rw [hr]; rfl⟩ (hno 0 (by omega))
    rw [Gd.has_at (b := 3) (k := 0) (by omega) hf (by rw [hr]; show (1 : Int) ≤ 1; omega) (by rw [hr]; show (1 : Int) ≤ 1; omega) (fun j hj => by rw [Md.kit_bag true q x y (by omega)]; omega)]
    omega

theorem Md.kit_slot (p q : Bool) (x y : Int) : 0 ≤ Gd.slot (Md.kit p q x y) 40 0 := by
  unfold Gd.slot
  rw [En.first_hit (k := 0) (fun j hj => by omega) (decide_eq_true (by rw [Md.kit_bag p q x y (by omega)]; omega)) (by omega)]
  omega

theorem Md.kit_lies (p q : Bool) (x y : Int) : (0 ≤ Gd.find (Md.kit p q x y) 40 1 x y) ↔ q = true := by
  constructor
  · intro h
    obtain ⟨k, _, _, k1, _⟩ := Gd.find_pos h
    rcases Md.kit_at p q x y k with ⟨_, _, hk⟩ | ⟨_, hq, _⟩ | ⟨hk, _⟩
    · rw [hk] at k1; exact absurd k1 (by show ¬ (2 : Int) = 1; omega)
    · exact hq
    · rw [hk] at k1; exact absurd k1 (by show ¬ (0 : Int) = 1; omega)
  · rintro rfl
    have hr : Md.kit p true x y 1 = Gd.row 2 1 x y := by
      unfold Md.kit
      rw [if_neg (by omega), if_pos ⟨rfl, rfl⟩]
    rcases Gd.find_cases (Md.kit p true x y) 40 1 x y with ⟨_, hno⟩ | ⟨k, _, he, _⟩
    · exact absurd ⟨by rw [hr]; rfl, by rw [hr]; rfl, by rw [hr]; rfl⟩ (hno 1 (by omega))
    · omega

/-- The robot of a hero with mages about it. -/
theorem Md.Camp.first {c : Nat → Int} {E : Nat → Nat → Int} {r m : Nat} {p q weak : Bool} {v way : Int} (h : Md.Camp c E r m 0) (hw : Md.Way c m 0 way) (hF : Nv.Floor c) (hk : Gr.walkB (c m) = true) (hp : E r 5 = if weak = true then 6 else 7) (hr : Md.IsRobot c E (Md.kit p q ((m : Int) % 24) ((m : Int) / 24)) 0 v) : v = if weak = true ∧ p = true then 6 else way := by
  obtain ⟨hfoe, hne⟩ := h.way hw hF hk
  unfold Md.IsRobot at hr
  rw [h.hero, if_neg (by omega), Int.toNat_natCast] at hr
  unfold Md.robotAt at hr
  rw [hfoe, h.most, hp] at hr
  by_cases e : weak = true ∧ p = true
  · rw [if_pos e]
    rw [if_pos ⟨by rw [if_pos e.1]; omega, (Md.kit_has p q _ _).2 e.2⟩] at hr
    exact hr
  · rw [if_neg e]
    rw [if_neg (fun hh => e ⟨by
      by_cases hwk : weak = true
      · exact hwk
      · have := hh.1
        rw [if_neg hwk] at this
        omega, (Md.kit_has p q _ _).1 hh.2⟩), if_pos hne] at hr
    exact hr

/-- The robot of a hero alone. -/
theorem Md.Lone.first {c : Nat → Int} {E : Nat → Nat → Int} {r m : Nat} {p q weak : Bool} {v : Int} (h : Md.Lone E r 0 m) (hF : Nv.Floor c) (hk : Gr.walkB (c m) = true) (hp : E r 5 = if weak = true then 6 else 7) (hr : Md.IsRobot c E (Md.kit p q ((m : Int) % 24) ((m : Int) / 24)) 0 v) : if weak = true ∧ p = true then v = 6 else if q = true then v = 5 else (v = 9 ∨ (1 ≤ v ∧ v ≤ 4)) := by
  unfold Md.IsRobot at hr
  rw [h.hero, if_neg (by omega), Int.toNat_natCast] at hr
  unfold Md.robotAt at hr
  rw [h.foe, h.most, hp] at hr
  by_cases e : weak = true ∧ p = true
  · rw [if_pos e]
    rw [if_pos ⟨by rw [if_pos e.1]; omega, (Md.kit_has p q _ _).2 e.2⟩] at hr
    exact hr
  rw [if_neg e]
  rw [if_neg (fun hh => e ⟨by
    by_cases hwk : weak = true
    · exact hwk
    · have := hh.1
      rw [if_neg hwk] at this
      omega, (Md.kit_has p q _ _).1 hh.2⟩), if_neg (by simp), h.x, h.y] at hr
  by_cases hq : q = true
  · rw [if_pos hq]
    rw [if_pos ⟨(Md.kit_lies p q _ _).2 hq, .inr (Md.kit_slot p q _ _)⟩] at hr
    exact hr
  rw [if_neg hq]
  rw [if_neg (fun hh => hq ((Md.kit_lies p q _ _).1 hh.1))] at hr
  have hat : Gr.at 384 c ((m : Int) % 24) ((m : Int) / 24) = c m := by
    have := h.m4
    exact Gr.at_in ((Gr.inB_iff _ _).2 (by omega)) (by omega)
  rw [hat] at hr
  by_cases h4 : c m = 4
  · rw [if_pos h4] at hr; exact .inl hr
  rw [if_neg h4] at hr
  obtain ⟨d, hd, hfd, hcd, hone⟩ := Md.stair hF
  rw [hfd] at hr
  obtain ⟨F, hFl, _⟩ := hr.at (Md.num_cell h.m4)
  have hF2 : Gr.IsField (fun i => Gr.openB c 0 (fun _ => false) i = true) (Gr.tgt c (fun _ => (d : Int)) 1) F := Gn.isField_congr hFl (fun i _ => by
    have hb : Nv.blk E 32 m i = false := by
      unfold Nv.blk
      by_cases e : i = m
      · rw [if_pos e]
      · rw [if_neg e, h.st e]
    show Gr.openB c 384 (Nv.blk E 32 m) i = true ↔ Gr.openB c 0 (fun _ => false) i = true
    unfold Gr.openB
    rw [hb]
    simp) (fun _ _ => Iff.rfl) (fun _ _ => rfl)
  have h0 : 0 ≤ F m := Nv.Floor.all hF hd (by rw [hcd]; omega) hF2 m h.m4 ((Gn.walk_nz (hF.five m)).1 hk)
  have h1 : F m ≠ 0 := fun e0 => by
    obtain ⟨_, j, _, hj⟩ := (hF2.zero m h.m4).1 e0
    have hj' : (d : Int) = (m : Int) := hj
    obtain rfl : d = m := by omega
    exact h4 hcd
  have hv := Md.toward_step hr (Md.num_cell h.m4) hF2 (fun i _ hi hs => by rw [h.st hi] at hs; cases hs)
  obtain ⟨k, p', k1, k4, hk', _⟩ := Md.step_on (st := Nv.st E 32) hF2 h.m4 (by omega) (fun i _ hi _ => h.st hi)
  rw [hk'] at hv
  exact .inr (by omega)

end Go.Proofs.Ytbploaihicakeaa
