/-
  A rat beside a hero, as numbers: what each of them does.
-/
import Derived.Test.YtbploaihicakeaaPart31
import Derived.Test.YtbploaihicakeaaPart27
namespace Go.Proofs.Ytbploaihicakeaa
open Go.RowKit

/-- The hero of the law's bare world, and a rat one step that way. -/
def Md.pair (kc : Nat) (e : Nat → Int) : Nat → Nat → Int := En.put (En.put (fun _ _ => 0) 1 (Gd.folk 0 kc 1)) 0 e

theorem Md.pair_zero (kc : Nat) (e : Nat → Int) : Md.pair kc e 0 = e := En.put_same _ _ _

theorem Md.pair_one (kc : Nat) (e : Nat → Int) : Md.pair kc e 1 = Gd.folk 0 kc 1 := by
  unfold Md.pair
  rw [En.put_other (by omega), En.put_same]

theorem Md.pair_more (kc : Nat) (e : Nat → Int) {k : Nat} (h : 2 ≤ k) : Md.pair kc e k = fun _ => 0 := by
  unfold Md.pair
  rw [En.put_other (by omega), En.put_other (by omega)]

/-- What is asked of the rat. -/
structure Md.Rat (kc d : Nat) (e : Nat → Int) : Prop where
  kind : e 0 = 2
  x : e 3 = (kc : Int) % 24 + (Fx.way (d : Int)).1
  y : e 4 = (kc : Int) / 24 + (Fx.way (d : Int)).2

theorem Md.four {d : Nat} (h1 : 1 ≤ d) (h4 : d ≤ 4) : (d = 1 ∧ (Fx.way (d : Int)) = (0, -1)) ∨ (d = 2 ∧ (Fx.way (d : Int)) = (1, 0)) ∨ (d = 3 ∧ (Fx.way (d : Int)) = (0, 1)) ∨ (d = 4 ∧ (Fx.way (d : Int)) = (-1, 0)) := by
  rcases (show d = 1 ∨ d = 2 ∨ d = 3 ∨ d = 4 by omega) with rfl | rfl | rfl | rfl
  · exact .inl ⟨rfl, rfl⟩
  · exact .inr (.inl ⟨rfl, rfl⟩)
  · exact .inr (.inr (.inl ⟨rfl, rfl⟩))
  · exact .inr (.inr (.inr ⟨rfl, rfl⟩))

theorem Md.pair_hero {kc d : Nat} {e : Nat → Int} (h : Md.Rat kc d e) (t : Nat) : Gd.hero (Md.pair kc e) (t : Int) = if t = 0 then 1 else -1 := by
  unfold Gd.hero
  by_cases h0 : t = 0
  · rw [if_pos h0, h0]
    refine En.first_hit (k := 1) (fun j hj => ?_) ?_ (by omega)
    · obtain rfl : j = 0 := by omega
      simp [En.heroQ, Md.pair_zero, h.kind]
    · simp [En.heroQ, Md.pair_one, Gd.folk]
  · rw [if_neg h0]
    refine En.first_none fun j _ => ?_
    rcases (show j = 0 ∨ j = 1 ∨ 2 ≤ j by omega) with rfl | rfl | hj
    · simp [En.heroQ, Md.pair_zero, h.kind]
    · simp [En.heroQ, Md.pair_one, Gd.folk]
      omega
    · simp [En.heroQ, Md.pair_more kc e hj]

theorem Md.has_none (seat : Int) : Gd.has (fun _ _ => 0) 40 seat 1 1 = -1 := by
  have hf : ∀ b : Int, Gd.find (fun _ _ => 0) 40 2 seat b = -1 := fun b => by
    rcases Gd.find_cases (fun _ _ => 0) 40 2 seat b with ⟨h, _⟩ | ⟨k, _, _, h, _⟩
    · exact h
    · exact absurd h (by omega)
  unfold Gd.has
  rw [if_neg]
  rw [En.first_none fun j _ => ?_]
  · omega
  · unfold Gd.hasQ
    rw [hf]
    rfl

theorem Md.pair_who {kc d : Nat} {e : Nat → Int} (h : Md.Rat kc d e) (h1 : 1 ≤ d) (h4 : d ≤ 4) {j : Nat} (j1 : 1 ≤ j) (j4 : j ≤ 4) : Md.who (Md.pair kc e) ((kc : Int) % 24) ((kc : Int) / 24) j = if j = d then 0 else -1 := by
  have hx := h.x
  have hy := h.y
  unfold Md.who
  by_cases e' : j = d
  · rw [if_pos e', e']
    refine En.first_hit (k := 0) (fun i hi => by omega) ?_ (by omega)
    simp [En.atQ, Md.pair_zero, h.kind, hx, hy]
  · rw [if_neg e']
    refine En.first_none fun i _ => ?_
    rcases (show i = 0 ∨ i = 1 ∨ 2 ≤ i by omega) with rfl | rfl | hi
    · have hne : ¬ (e 3 = (kc : Int) % 24 + (Fx.way (j : Int)).1 ∧ e 4 = (kc : Int) / 24 + (Fx.way (j : Int)).2) := by
        rw [hx, hy]
        rcases Md.four h1 h4 with ⟨a, b⟩ | ⟨a, b⟩ | ⟨a, b⟩ | ⟨a, b⟩ <;> rcases Md.four j1 j4 with ⟨a', b'⟩ | ⟨a', b'⟩ | ⟨a', b'⟩ | ⟨a', b'⟩ <;> rw [b, b'] <;> simp only <;> omega
      unfold En.atQ
      rw [Md.pair_zero]
      by_cases h3 : e 3 = (kc : Int) % 24 + (Fx.way (j : Int)).1
      · have h4' : ¬ e 4 = (kc : Int) / 24 + (Fx.way (j : Int)).2 := fun h' => hne ⟨h3, h'⟩
        simp [h4']
      · simp [h3]
    · have hne : ¬ ((kc : Int) % 24 = (kc : Int) % 24 + (Fx.way (j : Int)).1 ∧ (kc : Int) / 24 = (kc : Int) / 24 + (Fx.way (j : Int)).2) := by
        rcases Md.four j1 j4 with ⟨a', b'⟩ | ⟨a', b'⟩ | ⟨a', b'⟩ | ⟨a', b'⟩ <;> rw [b'] <;> simp only <;> omega
      unfold En.atQ
      rw [Md.pair_one]
      show (!(decide ((1 : Int) = 0)) && (decide ((kc : Int) % 24 = (kc : Int) % 24 + (Fx.way (j : Int)).1) && decide ((kc : Int) / 24 = (kc : Int) / 24 + (Fx.way (j : Int)).2))) = false
      by_cases h3 : (kc : Int) % 24 = (kc : Int) % 24 + (Fx.way (j : Int)).1
      · have h4' : ¬ (kc : Int) / 24 = (kc : Int) / 24 + (Fx.way (j : Int)).2 := fun h' => hne ⟨h3, h'⟩
        rw [decide_eq_false h4']
        simp
      · rw [decide_eq_false h3]
        simp
    · simp [En.atQ, Md.pair_more kc e hi]

theorem Md.robot_meets {c : Nat → Int} {kc d : Nat} {e : Nat → Int} {v : Int} (h : Md.Rat kc d e) (h1 : 1 ≤ d) (h4 : d ≤ 4) (hv : Md.IsRobot c (Md.pair kc e) (fun _ _ => 0) 0 v) : v = (d : Int) := by
  have hh : Gd.hero (Md.pair kc e) 0 = 1 := Md.pair_hero h 0
  have hfoe : ∀ j : Nat, 1 ≤ j → j ≤ 4 → Md.foe (Md.pair kc e) ((kc : Int) % 24) ((kc : Int) / 24) j = decide (j = d) := fun j j1 j4 => by
    unfold Md.foe
    rw [Md.pair_who h h1 h4 j1 j4]
    by_cases e' : j = d
    · simp [e', Md.pair_zero, h.kind]
    · simp [e']
  have hw : Nv.wayFrom (Md.foe (Md.pair kc e) ((kc : Int) % 24) ((kc : Int) / 24)) 4 1 = (d : Int) :=
    Nv.way_hit 4 d 1 (fun j j1 jd => by rw [hfoe j j1 (by omega)]; simp; omega) (by rw [hfoe d h1 h4]; simp) h1 (by omega)
  unfold Md.IsRobot at hv
  rw [hh, if_neg (by omega)] at hv
  unfold Md.robotAt at hv
  rw [if_neg (by rw [Md.has_none]; omega)] at hv
  rw [show (1 : Int).toNat = 1 from rfl, Md.pair_one] at hv
  have hv' : (if Nv.wayFrom (Md.foe (Md.pair kc e) ((kc : Int) % 24) ((kc : Int) / 24)) 4 1 ≠ 0 then v = Nv.wayFrom (Md.foe (Md.pair kc e) ((kc : Int) % 24) ((kc : Int) / 24)) 4 1 else _) := hv
  rw [hw, if_pos (by omega)] at hv'
  exact hv'

/-- The way back. -/
def Md.back (d : Nat) : Int := if 4 < (d : Int) + 2 then (d : Int) + 2 - 4 else (d : Int) + 2

theorem Md.seen_pair {c : Nat → Int} {kc d : Nat} {e : Nat → Int} (h : Md.Rat kc d e) (h1 : 1 ≤ d) (h4 : d ≤ 4) (hk : kc < 384) (hin : Gr.inB (e 3) (e 4) = true) : Md.Seen c (Md.pair kc e) (e 3) (e 4) 4 256 1 := by
  have hx := h.x
  have hy := h.y
  have hone : ∀ t : Nat, t ≠ 0 → Gd.hero (Md.pair kc e) (t : Int) < 0 := fun t ht => by
    rw [Md.pair_hero h t, if_neg ht]
    omega
  have e3 : Md.pair kc e 1 3 = (kc : Int) % 24 := by rw [Md.pair_one]; rfl
  have e4 : Md.pair kc e 1 4 = (kc : Int) / 24 := by rw [Md.pair_one]; rfl
  have hin2 : Gr.inB ((kc : Int) % 24) ((kc : Int) / 24) = true := (Gr.inB_iff _ _).2 (by omega)
  have hd : ((kc : Int) % 24 - e 3 = 0 ∧ ((kc : Int) / 24 - e 4 = 1 ∨ (kc : Int) / 24 - e 4 = -1)) ∨ (((kc : Int) % 24 - e 3 = 1 ∨ (kc : Int) % 24 - e 3 = -1) ∧ (kc : Int) / 24 - e 4 = 0) := by
    rw [hx, hy]
    rcases Md.four h1 h4 with ⟨a, b⟩ | ⟨a, b⟩ | ⟨a, b⟩ | ⟨a, b⟩ <;> rw [b] <;> simp only <;> omega
  have hsee : Gr.Sees 384 c (e 3) (e 4) ((kc : Int) % 24) ((kc : Int) / 24) := by
    refine ⟨hin, hin2, fun k k0 ks => ?_⟩
    have : Gr.span (e 3) (e 4) ((kc : Int) % 24) ((kc : Int) / 24) ≤ 1 := by
      unfold Gr.span
      omega
    omega
  have s1 : Md.Seen c (Md.pair kc e) (e 3) (e 4) 1 256 1 := by
    refine ⟨0, -1, ⟨rfl, rfl⟩, .inr ⟨1, 256, Md.pair_hero h 0, ?_, .inl ⟨⟨by omega, ?_, .inl (by omega)⟩, rfl, rfl⟩⟩⟩
    · rw [e3, e4]
      rcases hd with ⟨a, b | b⟩ | ⟨a | a, b⟩ <;> rw [a, b] <;> exact ⟨by omega, by omega, by omega⟩
    · rw [e3, e4]
      exact hsee
  have s2 : Md.Seen c (Md.pair kc e) (e 3) (e 4) 2 256 1 := ⟨256, 1, s1, .inl ⟨hone 1 (by omega), rfl, rfl⟩⟩
  have s3 : Md.Seen c (Md.pair kc e) (e 3) (e 4) 3 256 1 := ⟨256, 1, s2, .inl ⟨hone 2 (by omega), rfl, rfl⟩⟩
  exact ⟨256, 1, s3, .inl ⟨hone 3 (by omega), rfl, rfl⟩⟩

theorem Md.monster_meets {s c : Nat → Int} {kc d : Nat} {e : Nat → Int} {v : Int} (h : Md.Rat kc d e) (h1 : 1 ≤ d) (h4 : d ≤ 4) (hk : kc < 384) (hin : Gr.inB (e 3) (e 4) = true) (hv : Md.IsMonster s c (Md.pair kc e) 0 v) : v = Md.back d := by
  have hx := h.x
  have hy := h.y
  have hb : Nv.beside ((kc : Int) % 24 - e 3) ((kc : Int) / 24 - e 4) = Md.back d := by
    rw [hx, hy]
    unfold Md.back
    rcases Md.four h1 h4 with ⟨a, b⟩ | ⟨a, b⟩ | ⟨a, b⟩ | ⟨a, b⟩ <;> rw [b] <;> simp only
    · rw [show (kc : Int) % 24 - ((kc : Int) % 24 + 0) = 0 by omega, show (kc : Int) / 24 - ((kc : Int) / 24 + -1) = 1 by omega, a]
      rfl
    · rw [show (kc : Int) % 24 - ((kc : Int) % 24 + 1) = -1 by omega, show (kc : Int) / 24 - ((kc : Int) / 24 + 0) = 0 by omega, a]
      rfl
    · rw [show (kc : Int) % 24 - ((kc : Int) % 24 + 0) = 0 by omega, show (kc : Int) / 24 - ((kc : Int) / 24 + 1) = -1 by omega, a]
      rfl
    · rw [show (kc : Int) % 24 - ((kc : Int) % 24 + -1) = 1 by omega, show (kc : Int) / 24 - ((kc : Int) / 24 + 0) = 0 by omega, a]
      rfl
  have hpos : 0 < Md.back d := by
    unfold Md.back
    split <;> omega
  unfold Md.IsMonster at hv
  rw [show (0 : Int).toNat = 0 from rfl, Md.pair_zero, h.kind, if_neg (by omega)] at hv
  obtain ⟨b, a, hs, hc⟩ := hv
  rw [Md.pair_zero] at hs hc
  obtain ⟨rfl, rfl⟩ := Md.Seen.one (Md.seen_pair h h1 h4 hk hin) hs
  rcases hc with ⟨h0, _⟩ | ⟨i, hi, hv⟩
  · omega
  · obtain rfl : i = 1 := by omega
    rw [Md.pair_one] at hv
    have hv' : (if 0 < Nv.beside ((kc : Int) % 24 - e 3) ((kc : Int) / 24 - e 4) then v = Nv.beside ((kc : Int) % 24 - e 3) ((kc : Int) / 24 - e 4) else _) := hv
    rw [hb, if_pos hpos] at hv'
    exact hv'

/-- Beside a cell of a floor that can be walked on there is another one. -/
theorem Md.neighbour {c : Nat → Int} {kc : Nat} (hF : Nv.Floor c) (hk : kc < 384) (hw : Gr.walkB (c kc) = true) : ∃ d : Nat, 1 ≤ d ∧ d ≤ 4 ∧ Gr.walkB (Gr.at 384 c ((kc : Int) % 24 + (Fx.way (d : Int)).1) ((kc : Int) / 24 + (Fx.way (d : Int)).2)) = true := by
  have hkw := (Gr.walkB_iff _).1 hw
  obtain ⟨u, v, hu, hv, h3, h4⟩ := hF.stairs
  have huv : u ≠ v := by
    rintro rfl
    have a := (h3 u).2 rfl
    have b := (h4 u).2 rfl
    omega
  obtain ⟨i, hi, hne, hci⟩ : ∃ i, i < 384 ∧ i ≠ kc ∧ c i ≠ 0 := by
    by_cases e : u = kc
    · exact ⟨v, hv, by omega, by rw [(h4 v).2 rfl]; omega⟩
    · exact ⟨u, hu, e, by rw [(h3 u).2 rfl]; omega⟩
  by_cases hcl : Gn.Closed c (fun j => j = kc)
  · exact absurd (hF.hang _ hcl kc hk (by omega) rfl i hi hci) hne
  · unfold Gn.Closed at hcl
    obtain ⟨j, hj⟩ := Classical.not_forall.1 hcl
    obtain ⟨d, hd⟩ := Classical.not_forall.1 hj
    obtain ⟨hj4, hd⟩ := Classical.not_imp.1 hd
    obtain ⟨hd4, hd⟩ := Classical.not_imp.1 hd
    obtain ⟨hjk, hd⟩ := Classical.not_imp.1 hd
    obtain ⟨hnb, hd⟩ := Classical.not_imp.1 hd
    obtain ⟨hc0, _⟩ := Classical.not_imp.1 hd
    have hjk' : j = kc := hjk
    subst hjk'
    have hfive := hF.five (Gr.nbOf j d)
    have hnum := Gr.nb_eq hnb
    unfold Gr.nbIn at hnb
    have hway : (Fx.way ((d + 1 : Nat) : Int)).1 = Gr.dxOf d ∧ (Fx.way ((d + 1 : Nat) : Int)).2 = Gr.dyOf d := by
      rcases (show d = 0 ∨ d = 1 ∨ d = 2 ∨ d = 3 by omega) with rfl | rfl | rfl | rfl <;> exact ⟨rfl, rfl⟩
    refine ⟨d + 1, by omega, by omega, ?_⟩
    rw [hway.1, hway.2]
    rw [Gr.at_in (k := Gr.nbOf j d) ((Gr.inB_iff _ _).2 (by omega)) (by omega)]
    exact (Gr.walkB_iff _).2 (by omega)

end Go.Proofs.Ytbploaihicakeaa
