/-
  A hero and an orc, alone on a floor.
-/
import Derived.Test.YtbploaihicakeaaPart42
namespace Go.Proofs.Ytbploaihicakeaa
open Go.RowKit

structure Md.Duo (E : Nat → Nat → Int) (r f m k : Nat) : Prop where
  r32 : r < 32
  f32 : f < 32
  rf : r ≠ f
  m4 : m < 384
  k4 : k < 384
  off : m ≠ k
  hk : E r 0 = 1
  hs : E r 2 = 0
  hx : E r 3 = (m : Int) % 24
  hy : E r 4 = (m : Int) / 24
  h6 : E r 6 = 20
  fk : E f 0 = 3
  fx : E f 3 = (k : Int) % 24
  fy : E f 4 = (k : Int) / 24
  f6 : 0 ≤ E f 6 ∧ E f 6 ≤ 20
  gens : En.Gens 32 E
  rest : ∀ j, j ≠ r → j ≠ f → E j 0 = 0 ∧ E j 3 = 0 ∧ E j 4 = 0

theorem Md.Lone.duo {E : Nat → Nat → Int} {r m f k : Nat} {e : Nat → Int} {gn : Int} (h : Md.Lone E r 0 m) (hf : f < 32) (hfr : f ≠ r) (hk : k < 384) (hmk : m ≠ k) (e0 : e 0 = 3) (e3 : e 3 = (k : Int) % 24) (e4 : e 4 = (k : Int) / 24) (e6 : 0 ≤ e 6 ∧ e 6 ≤ 20) (g0 : 0 ≤ gn ∧ gn ≤ 255) : Md.Duo (En.put E f (En.gen e gn)) r f m k := by
  have er : En.put E f (En.gen e gn) r = E r := En.put_other (Ne.symm hfr)
  have ef : En.put E f (En.gen e gn) f = En.gen e gn := En.put_same _ _ _
  refine ⟨h.r32, hf, Ne.symm hfr, h.m4, hk, hmk, by rw [er]; exact h.kind, by rw [er]; exact h.seat, by rw [er]; exact h.x, by rw [er]; exact h.y, by rw [er]; exact h.most, by rw [ef]; exact e0, by rw [ef]; exact e3, by rw [ef]; exact e4, by rw [ef]; exact e6, fun j _ => ?_, fun j h1 h2 => ?_⟩
  · by_cases x : j = f
    · rw [x, ef]; exact g0
    · rw [En.put_other x]
      by_cases y : j = r
      · rw [y, h.gen]; omega
      · rw [h.rest j 1 y]; omega
  · rw [En.put_other h2]
    exact ⟨h.rest j 0 h1, h.rest j 3 h1, h.rest j 4 h1⟩

theorem Md.Duo.fine {E : Nat → Nat → Int} {r f m k : Nat} (h : Md.Duo E r f m k) : Md.Fine E := fun j _ j0 => by
  have := h.m4
  have := h.k4
  by_cases e : j = r
  · rw [e, h.hx, h.hy, h.h6]; omega
  · by_cases e2 : j = f
    · rw [e2, h.fx, h.fy]
      have := h.f6
      omega
    · exact absurd (h.rest j e e2).1 j0

theorem Md.Duo.good {E I : Nat → Nat → Int} {c : Nat → Int} {r f m k : Nat} (h : Md.Duo E r f m k) (hok : Gd.Ok c 40 I) : Md.Good c E I :=
  Md.good_of h.fine (fun j hj => ⟨h.gens j hj, fun j0 => by
    by_cases e : j = r
    · rw [e, h.hk] at j0; omega
    · by_cases e2 : j = f
      · rw [e2, h.fk] at j0; omega
      · exact (h.rest j e e2).2⟩) hok

theorem Md.Duo.hero {E : Nat → Nat → Int} {r f m k : Nat} (h : Md.Duo E r f m k) : Gd.hero E 0 = (r : Int) := by
  unfold Gd.hero
  refine En.first_hit (fun j hj => ?_) ?_ h.r32
  · unfold En.heroQ
    by_cases e2 : j = f
    · rw [e2, h.fk]; rfl
    · rw [(h.rest j (by omega) e2).1]; rfl
  · unfold En.heroQ
    rw [h.hk, h.hs]
    simp

theorem Md.Duo.none {E : Nat → Nat → Int} {r f m k : Nat} {t : Int} (h : Md.Duo E r f m k) (ht : t ≠ 0) : Gd.hero E t = -1 := by
  unfold Gd.hero
  refine En.first_none fun j _ => ?_
  unfold En.heroQ
  by_cases e : j = r
  · rw [e, h.hs]
    simp [Ne.symm ht]
  · by_cases e2 : j = f
    · rw [e2, h.fk]; rfl
    · rw [(h.rest j e e2).1]; rfl

theorem Md.Duo.st {E : Nat → Nat → Int} {r f m k i : Nat} (h : Md.Duo E r f m k) (hs : Nv.st E 32 i = true) : i = m ∨ i = k := by
  unfold Nv.st at hs
  simp only [decide_eq_true_eq] at hs
  rcases En.first_cases (En.atQ E ((i % 24 : Nat) : Int) ((i / 24 : Nat) : Int)) 32 with ⟨he, _⟩ | ⟨j, _, _, hq, _⟩
  · omega
  · have hq' : E j 0 ≠ 0 ∧ E j 3 = ((i % 24 : Nat) : Int) ∧ E j 4 = ((i / 24 : Nat) : Int) := by simpa [En.atQ] using hq
    by_cases e : j = r
    · rw [e, h.hx, h.hy] at hq'; omega
    · by_cases e2 : j = f
      · rw [e2, h.fx, h.fy] at hq'; omega
      · exact absurd (h.rest j e e2).1 hq'.1

/-- The orc sees the hero. -/
def Md.Spots (c : Nat → Int) (m k : Nat) (R : Int) : Prop := R ≤ 1536 ∧ Gr.Sees 384 c ((k : Int) % 24) ((k : Int) / 24) ((m : Int) % 24) ((m : Int) / 24)

theorem Md.Duo.seen {c : Nat → Int} {E : Nat → Nat → Int} {r f m k : Nat} {R b a : Int} (h : Md.Duo E r f m k) (hR : Fx.isRoot ((((m : Int) % 24 - (k : Int) % 24) * ((m : Int) % 24 - (k : Int) % 24) + ((m : Int) / 24 - (k : Int) / 24) * ((m : Int) / 24 - (k : Int) / 24)) * 65536) R) (hs : Md.Seen c E ((k : Int) % 24) ((k : Int) / 24) 4 b a) : (Md.Spots c m k R ∧ a = (r : Int)) ∨ (¬ Md.Spots c m k R ∧ a = -1) := by
  have none : ∀ (t : Nat) (b a : Int), t ≠ 0 → Md.Seen c E ((k : Int) % 24) ((k : Int) / 24) (t + 1) b a → Md.Seen c E ((k : Int) % 24) ((k : Int) / 24) t b a := fun t b a ht hs => by
    obtain ⟨b0, a0, hs0, hc⟩ := hs
    have hn := h.none (t := (t : Int)) (by omega)
    rcases hc with ⟨_, hb, ha⟩ | ⟨j, _, hj, _⟩
    · rw [hb, ha]; exact hs0
    · omega
  have h1 := none 1 b a (by omega) (none 2 b a (by omega) (none 3 b a (by omega) hs))
  obtain ⟨b0, a0, ⟨hb0, ha0⟩, hc⟩ := h1
  rcases hc with ⟨hn, _, _⟩ | ⟨j, R', hj, hR', hc⟩
  · have := h.hero
    have hn' : Gd.hero E ((0 : Nat) : Int) < 0 := hn
    rw [show ((0 : Nat) : Int) = 0 from rfl, this] at hn'
    omega
  · have hj' : Gd.hero E 0 = (j : Int) := hj
    rw [h.hero] at hj'
    obtain rfl : r = j := by omega
    rw [h.hx, h.hy] at hR' hc
    obtain rfl := Fx.root_one hR' hR
    rcases hc with ⟨hT, _, ha⟩ | ⟨hT, _, ha⟩
    · exact .inl ⟨⟨hT.1, hT.2.1⟩, ha⟩
    · exact .inr ⟨fun hS => hT ⟨hS.1, hS.2, .inl (by omega)⟩, by omega⟩

theorem Nv.from_zero {dx dy : Int} : ∀ (n i : Nat), 1 ≤ i → Nv.besideFrom dx dy n i = 0 → ∀ j, i ≤ j → j < i + n → ¬ ((Fx.way (j : Int)).1 = dx ∧ (Fx.way (j : Int)).2 = dy)
  | 0, _, _, _, j, h1, h2 => by omega
  | n + 1, i, hi, h, j, h1, h2 => by
      unfold Nv.besideFrom at h
      by_cases e : (Fx.way (i : Int)).1 = dx ∧ (Fx.way (i : Int)).2 = dy
      · rw [if_pos e] at h; omega
      · rw [if_neg e] at h
        by_cases ej : j = i
        · rw [ej]; exact e
        · exact Nv.from_zero n (i + 1) (by omega) h j (by omega) (by omega)

/-- By chance, any way or none. -/
theorem Md.stray_bd (s c : Nat → Int) (E : Nat → Nat → Int) (k : Nat) : 0 ≤ Md.stray s c E k ∧ Md.stray s c E k ≤ 4 := by
  unfold Md.stray
  generalize Dc.die 8 (s 0) [s 1, (k : Int), 90] = d
  split
  · rename_i h; omega
  · omega

/-- What the orc does. -/
theorem Md.Duo.orc {s c F : Nat → Int} {E : Nat → Nat → Int} {r f m k : Nat} {R v : Int} (h : Md.Duo E r f m k) (hFl : Nv.Floor c) (hm : Gr.walkB (c m) = true) (hkw : Gr.walkB (c k) = true) (hR : Fx.isRoot ((((m : Int) % 24 - (k : Int) % 24) * ((m : Int) % 24 - (k : Int) % 24) + ((m : Int) / 24 - (k : Int) / 24) * ((m : Int) / 24 - (k : Int) / 24)) * 65536) R) (hF : Gr.IsField (fun i => Gr.openB c 0 (fun _ => false) i = true) (Gr.tgt c (fun _ => (m : Int)) 1) F) (hv : Md.IsMonster s c E (f : Int) v) :
    (Md.Spots c m k R → ∃ p : Nat, 1 ≤ v ∧ v ≤ 4 ∧ p < 384 ∧ (k : Int) % 24 + (Fx.way v).1 = (p : Int) % 24 ∧ (k : Int) / 24 + (Fx.way v).2 = (p : Int) / 24 ∧ F p = F k - 1) ∧ (¬ Md.Spots c m k R → 0 ≤ v ∧ v ≤ 4) := by
  have hm4 := h.m4
  have hk4 := h.k4
  have ht : Gr.tgt c (fun _ => (m : Int)) 1 m := ⟨hm, 0, by omega, rfl⟩
  have tone : ∀ i, Gr.tgt c (fun _ => (m : Int)) 1 i → i = m := fun i hi => by
    obtain ⟨_, j, _, hj⟩ := hi
    have hj' : (m : Int) = (i : Int) := hj
    omega
  have hFm : F m = 0 := (hF.zero m hm4).2 ht
  have hFk0 : 0 ≤ F k := Nv.Floor.all hFl hm4 ((Gn.walk_nz (hFl.five m)).1 hm) hF k hk4 ((Gn.walk_nz (hFl.five k)).1 hkw)
  have hFk : F k ≠ 0 := fun e => h.off (tone k ((hF.zero k hk4).1 e)).symm
  unfold Md.IsMonster at hv
  rw [Int.toNat_natCast, if_neg (by have := h.fk; have := h.f32; omega)] at hv
  obtain ⟨b, a, hs, hc⟩ := hv
  rw [h.fx, h.fy] at hs hc
  rcases h.seen hR hs with ⟨hS, ha⟩ | ⟨hS, ha⟩
  · refine ⟨fun _ => ?_, fun hn => absurd hS hn⟩
    rcases hc with ⟨hn, _⟩ | ⟨j, hj, hc⟩
    · omega
    obtain rfl : r = j := by omega
    rw [h.hx, h.hy] at hc
    by_cases hb : 0 < Nv.beside ((m : Int) % 24 - (k : Int) % 24) ((m : Int) / 24 - (k : Int) / 24)
    · rw [if_pos hb] at hc
      unfold Nv.beside at hb hc
      rcases Nv.from_is ((m : Int) % 24 - (k : Int) % 24) ((m : Int) / 24 - (k : Int) / 24) 4 1 with h0 | ⟨d, d1, d5, hd, w1, w2⟩
      · omega
      · rw [hd] at hc
        rw [hc]
        refine ⟨m, by omega, by omega, hm4, by omega, by omega, ?_⟩
        obtain ⟨e, rfl⟩ : ∃ e, d = e + 1 := ⟨d - 1, by omega⟩
        rw [Nv.way_dir (by omega)] at w1 w2
        have w1' : Gr.dxOf e = (m : Int) % 24 - (k : Int) % 24 := w1
        have w2' : Gr.dyOf e = (m : Int) / 24 - (k : Int) / 24 := w2
        have hin : Gr.nbIn k e := by unfold Gr.nbIn; omega
        have hnb : Gr.nbOf k e = m := by have := Gr.nb_eq hin; omega
        obtain ⟨b1, b2⟩ := Gr.nb_back hk4 (by omega) hin
        rw [hnb] at b1 b2
        have := hF.fwd m hm4 (by omega) (Gr.opp e) (Gr.opp_lt (by omega)) b1 (by rw [b2]; show Gr.openB c 0 (fun _ => false) k = true; exact Gr.open_past hkw (by omega))
        rw [b2] at this
        omega
    · rw [if_neg hb] at hc
      have hc' : Nv.IsToward c (fun _ => (m : Int)) 1 E 32 ((k : Int) % 24) ((k : Int) / 24) v := by
        have e : (m : Int) / 24 * 24 + (m : Int) % 24 = (m : Int) := by omega
        rw [e] at hc
        exact hc
      have hv := Md.toward_step hc' (Md.num_cell hk4) hF (fun i _ hi hs => by
        rcases h.st hs with e | e
        · rw [e]; exact ht
        · exact absurd e hi)
      obtain ⟨d, p, d1, d4, hd, hn, hp, hFp⟩ := Md.step_on (st := Nv.st E 32) hF hk4 (by omega) (fun i _ hi hFi => by
        cases hst : Nv.st E 32 i
        · rfl
        · exfalso
          rcases h.st hst with e | e
          · rw [e, hFm] at hFi
            obtain ⟨_, j, d, hj, hd, hn, hjk, he⟩ := hF.back k hk4 (by omega)
            obtain rfl := tone j ((hF.zero j hj).1 (by omega))
            obtain ⟨b1, b2⟩ := Gr.nb_back hj hd hn
            rw [hjk] at b1 b2
            have hq := Gr.nb_eq b1
            rw [b2] at hq
            have hz : Nv.beside ((j : Int) % 24 - (k : Int) % 24) ((j : Int) / 24 - (k : Int) / 24) = 0 := by
              rcases Nv.from_is ((j : Int) % 24 - (k : Int) % 24) ((j : Int) / 24 - (k : Int) / 24) 4 1 with h0 | ⟨d', _, _, h0, _⟩
              · exact h0
              · unfold Nv.beside at hb; omega
            have hno := Nv.from_zero 4 1 (by omega) hz (Gr.opp d + 1) (by omega) (by have := Gr.opp_lt hd; omega)
            rw [Nv.way_dir (Gr.opp_lt hd)] at hno
            unfold Gr.nbIn at b1
            exact hno ⟨by show Gr.dxOf (Gr.opp d) = _; omega, by show Gr.dyOf (Gr.opp d) = _; omega⟩
          · exact hi e)
      unfold Nv.next at hn
      obtain ⟨e1, e2, _⟩ := Nv.num_at hn
      rw [hd] at hv
      rw [hv]
      exact ⟨p, by omega, by omega, hp, by omega, by omega, hFp⟩
  · refine ⟨fun hn => absurd hn hS, fun _ => ?_⟩
    rcases hc with ⟨_, hv⟩ | ⟨j, hj, _⟩
    · rw [hv]; exact Md.stray_bd s c E f
    · omega

/-- There is another cell that can be walked on. -/
theorem Md.other_cell {c : Nat → Int} (hF : Nv.Floor c) (m : Nat) : ∃ u, u < 384 ∧ u ≠ m ∧ Gr.walkB (c u) = true := by
  obtain ⟨u, v, hu, hv, h3, h4⟩ := hF.stairs
  have hcu : c u = 3 := (h3 u).2 rfl
  have hcv : c v = 4 := (h4 v).2 rfl
  by_cases e : u = m
  · refine ⟨v, hv, ?_, by rw [hcv]; rfl⟩
    rintro rfl
    rw [e, hcv] at hcu
    omega
  · exact ⟨u, hu, e, by rw [hcu]; rfl⟩

theorem Md.Lone.self {E : Nat → Nat → Int} {r m : Nat} {seat : Int} (h : Md.Lone E r seat m) : En.first (En.atQ E (E r 3) (E r 4)) 32 = (r : Int) := by
  refine En.first_hit (fun j hj => ?_) ?_ h.r32
  · unfold En.atQ
    rw [h.rest j 0 (by omega)]
    simp
  · simp [En.atQ, h.kind]

/-- The lowest free row beside one hero. -/
theorem Md.Lone.spare {E : Nat → Nat → Int} {r m : Nat} {seat : Int} (h : Md.Lone E r seat m) : ∃ f : Nat, f < 32 ∧ f ≠ r ∧ E f 0 = 0 ∧ E f 1 = 0 ∧ ∀ j, j < f → E j 0 ≠ 0 := by
  by_cases e : r = 0
  · refine ⟨1, by omega, by omega, h.rest 1 0 (by omega), h.rest 1 1 (by omega), fun j hj => ?_⟩
    obtain rfl : j = r := by omega
    rw [h.kind]
    omega
  · exact ⟨0, by omega, by omega, h.rest 0 0 (by omega), h.rest 0 1 (by omega), fun j hj => by omega⟩

end Go.Proofs.Ytbploaihicakeaa
