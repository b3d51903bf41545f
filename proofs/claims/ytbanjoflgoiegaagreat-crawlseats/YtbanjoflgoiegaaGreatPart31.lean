/-
  CrawlLand CrawlStep CrawlStage
-/
import Derived.Test.YtbanjoflgoiegaaGreatPart30
import Derived.Test.YtbanjoflgoiegaaGreatPart29
namespace Go.Proofs.YtbanjoflgoiegaaGreat
open Go.RowKit

theorem Cr.nz_last (c : Nat → Int) : ∀ n k : Nat, k + 1 ≤ Gn.nzs c n → ∃ q, q < n ∧ c q ≠ 0 ∧ k ≤ Gn.nzs c q
  | 0, k, h => by unfold Gn.nzs at h; omega
  | n + 1, k, h => by
    by_cases e : c n = 0
    · have h' : k + 1 ≤ Gn.nzs c n := by
        unfold Gn.nzs at h
        simp [e] at h
        omega
      obtain ⟨q, hq, h1, h2⟩ := Cr.nz_last c n k h'
      exact ⟨q, by omega, h1, h2⟩
    · refine ⟨n, by omega, e, ?_⟩
      unfold Gn.nzs at h
      simp [e] at h
      omega

def Cr.Four (c : Nat → Int) : Prop := ∃ q0 q1 q2 q3 : Nat, q0 < q1 ∧ q1 < q2 ∧ q2 < q3 ∧ q3 < 384 ∧ c q0 ≠ 0 ∧ c q1 ≠ 0 ∧ c q2 ≠ 0 ∧ c q3 ≠ 0

theorem Cr.Lev.four {seed f : Int} {c : Nat → Int} {es : List (Int × Nat)} {is : List Gn.Itm} (h : Cr.Lev seed f c es is) : Cr.Four c := by
  obtain ⟨d, F, _, hF, hL, _⟩ := h
  obtain ⟨far, hfa⟩ := hL.facts hF
  have h6 := hfa.six hF
  obtain ⟨q3, h3, c3, n3⟩ := Cr.nz_last c 384 3 (by omega)
  obtain ⟨q2, h2, c2, n2⟩ := Cr.nz_last c q3 2 (by omega)
  obtain ⟨q1, h1, c1, n1⟩ := Cr.nz_last c q2 1 (by omega)
  obtain ⟨q0, h0, c0, _⟩ := Cr.nz_last c q1 0 (by omega)
  exact ⟨q0, q1, q2, q3, h0, h1, h2, h3, c0, c1, c2, c3⟩

theorem Cr.best_pos {F : Nat → Int} {st : Nat → Bool} {q : Nat} (h0 : 0 ≤ F q) (hs : st q = false) : ∀ n, q < n → 0 ≤ Nv.best F st n
  | 0, h => by omega
  | n + 1, h => by
    by_cases e : q = n
    · unfold Nv.best
      split
      · omega
      · rename_i hn
        rw [← e] at hn ⊢
        rcases Nv.best_cases F st q with hb | ⟨p, _, hb⟩
        · exact absurd ⟨h0, hs, .inl (by omega)⟩ hn
        · omega
    · have := Cr.best_pos h0 hs n (by omega)
      unfold Nv.best
      split <;> omega

theorem Cr.spot_some {c : Nat → Int} {E : Nat → Nat → Int} {v : Int} (hF : Nv.Floor c) {q : Nat} (hq : q < 384) (hc : c q ≠ 0) (hst : Nv.st E 32 q = false) (h : Nv.IsSpot c E 32 (Gr.find 384 c 3 % 24) (Gr.find 384 c 3 / 24) v) : 0 ≤ v := by
  obtain ⟨u, hu, hfu, hcu, _⟩ := Cr.up_stair hF
  obtain ⟨F, hfld, rfl⟩ := h
  rw [hfu, Md.num_cell hu] at hfld
  exact Cr.best_pos (Nv.Floor.all hF hu (by rw [hcu]; omega) hfld q hq hc) hst 384 hq

theorem Cr.Sane.put {c : Nat → Int} {E I : Nat → Nat → Int} (h : Cr.Sane c E I) {r q : Nat} {e : Nat → Int} (hq : q < 384) (hr : Ft.Room c E q) (hrow : Ft.Row e) (h0 : e 0 = 1) (hx : e 3 = (q : Int) % 24) (hy : e 4 = (q : Int) / 24) (hst : e 6 = En.stats 1 6 ∧ e 7 = En.stats 1 7 ∧ e 8 = En.stats 1 8) (s0 : 0 ≤ e 2) (s4 : e 2 < 4) (hno : ∀ j, j < 32 → E j 0 = 1 → E j 2 ≠ e 2) : Cr.Sane c (En.put E r e) I := by
  obtain ⟨m1, m2, m3, m4, m5⟩ := Ft.cell_num hq
  have hn := Ft.room_none hr.2
  refine ⟨h.fit.put hrow, ⟨h.set.born.put (by rw [h0]; exact hst), ⟨fun k hk k0 => ?_, fun i j hi hj i0 j0 ex ey => ?_⟩⟩, ⟨fun j hj j1 => ?_, fun i j hi hj i1 j1 hij => ?_, fun j hj j0 j1 => ?_⟩⟩
  · by_cases x : k = r
    · rw [x, En.put_same, hx, hy, m5]
      exact ⟨m1, m2, m3, m4, hr.1⟩
    · rw [En.put_other x] at k0 ⊢; exact h.set.stands.on k hk k0
  · by_cases xi : i = r
    · by_cases xj : j = r
      · omega
      · rw [xi, En.put_same, En.put_other xj, hx] at ex
        rw [xi, En.put_same, En.put_other xj, hy] at ey
        rw [En.put_other xj] at j0
        exact absurd ⟨ex.symm, ey.symm⟩ (hn j hj j0)
    · by_cases xj : j = r
      · rw [xj, En.put_same, En.put_other xi, hx] at ex
        rw [xj, En.put_same, En.put_other xi, hy] at ey
        rw [En.put_other xi] at i0
        exact absurd ⟨ex, ey⟩ (hn i hi i0)
      · rw [En.put_other xi] at i0 ex ey
        rw [En.put_other xj] at j0 ex ey
        exact h.set.stands.apart i j hi hj i0 j0 ex ey
  · by_cases x : j = r
    · rw [x, En.put_same]; exact ⟨s0, s4⟩
    · rw [En.put_other x] at j1 ⊢; exact h.seats.seat j hj j1
  · by_cases xi : i = r
    · by_cases xj : j = r
      · omega
      · rw [xi, En.put_same, En.put_other xj] at hij
        rw [En.put_other xj] at j1
        exact absurd hij.symm (hno j hj j1)
    · by_cases xj : j = r
      · rw [xj, En.put_same, En.put_other xi] at hij
        rw [En.put_other xi] at i1
        exact absurd hij (hno i hi i1)
      · rw [En.put_other xi] at i1 hij
        rw [En.put_other xj] at j1 hij
        exact h.seats.one i j hi hj i1 j1 hij
  · by_cases x : j = r
    · rw [x, En.put_same] at j1; exact absurd h0 j1
    · rw [En.put_other x] at j0 j1 ⊢; exact h.seats.none j hj j0 j1

def Cr.bare (E : Nat → Nat → Int) : Nat → Nat → Int := fun k => En.hole (E k 1)

theorem Cr.bare_sane {c : Nat → Int} {E I : Nat → Nat → Int} (hc : ∀ i, 0 ≤ c i ∧ c i ≤ 255) (hI : Gd.Ok c 40 I) (hG : En.Gens 32 E) : Cr.Sane c (Cr.bare E) I := by
  have z : ∀ k, Cr.bare E k 0 = 0 := fun _ => rfl
  refine ⟨⟨hc, hI, fun k hk => Ft.row_hole (hG k hk).1 (hG k hk).2⟩, ⟨fun k _ k0 => absurd (z k) k0, ⟨fun k _ k0 => absurd (z k) k0, fun j k _ _ j0 => absurd (z j) j0⟩⟩, ⟨fun k _ k1 => ?_, fun j k _ _ j1 => ?_, fun k _ k0 => absurd (z k) k0⟩⟩
  · rw [z] at k1; omega
  · rw [z] at j1; omega

def Cr.Lands (c : Nat → Int) (old : Nat → Nat → Int) (t : Int) (E F : Nat → Nat → Int) : Prop :=
  if Gd.hero old t < 0 then F = E
  else ∃ v, Nv.IsSpot c E 32 (Gr.find 384 c 3 % 24) (Gr.find 384 c 3 / 24) v ∧ F = En.put E (Gd.hero old t).toNat (if v < 0 then old (Gd.hero old t).toNat else En.upd (En.upd (old (Gd.hero old t).toNat) 3 (v % 24)) 4 (v / 24))

theorem Cr.Lands.one {c : Nat → Int} {old : Nat → Nat → Int} {t : Int} {E F G : Nat → Nat → Int} (h : Cr.Lands c old t E F) (h' : Cr.Lands c old t E G) : G = F := by
  unfold Cr.Lands at h h'
  split at h
  · rename_i hc
    rw [if_pos hc] at h'
    rw [h, h']
  · rename_i hc
    rw [if_neg hc] at h'
    obtain ⟨v, hv, rfl⟩ := h
    obtain ⟨v', hv', rfl⟩ := h'
    rw [hv.one hv']

def Cr.LandTo (c : Nat → Int) (old : Nat → Nat → Int) : Nat → (Nat → Nat → Int) → (Nat → Nat → Int) → Prop
  | 0, E, F => F = E
  | t + 1, E, F => ∃ G, Cr.LandTo c old t E G ∧ Cr.Lands c old (t : Int) G F

theorem Cr.LandTo.one {c : Nat → Int} {old : Nat → Nat → Int} : ∀ {t : Nat} {E F G : Nat → Nat → Int}, Cr.LandTo c old t E F → Cr.LandTo c old t E G → G = F
  | 0, _, _, _, h, h' => by rw [h, h']
  | t + 1, _, _, _, h, h' => by
    obtain ⟨A, hA, hF⟩ := h
    obtain ⟨B, hB, hG⟩ := h'
    obtain rfl := Cr.LandTo.one hA hB
    exact hF.one hG

def Cr.Landed (old E : Nat → Nat → Int) (t : Nat) : Prop := ∀ k, k < 32 → E k 0 ≠ 0 → ∃ j : Nat, j < t ∧ Gd.hero old (j : Int) = (k : Int) ∧ E k 2 = (j : Int)

theorem Cr.landed_room {c : Nat → Int} {old G : Nat → Nat → Int} {t : Nat} (h4 : Cr.Four c) (ht : t + 1 ≤ 4) (lG : Cr.Landed old G t) : ∃ q, q < 384 ∧ c q ≠ 0 ∧ Nv.st G 32 q = false := by
  obtain ⟨q0, q1, q2, q3, a1, a2, a3, a4, c0, c1, c2, c3⟩ := h4
  have occ : ∀ q, q < 384 → Nv.st G 32 q = true → ∃ (k j : Nat), k < 32 ∧ j < t ∧ G k 0 ≠ 0 ∧ G k 2 = (j : Int) ∧ G k 3 = ((q % 24 : Nat) : Int) ∧ G k 4 = ((q / 24 : Nat) : Int) := fun q _ hst => by
    unfold Nv.st at hst
    simp only [decide_eq_true_eq] at hst
    rcases En.first_cases (En.atQ G ((q % 24 : Nat) : Int) ((q / 24 : Nat) : Int)) 32 with ⟨hh, _⟩ | ⟨k, hk, _, hqq, _⟩
    · omega
    · have hq' : G k 0 ≠ 0 ∧ G k 3 = ((q % 24 : Nat) : Int) ∧ G k 4 = ((q / 24 : Nat) : Int) := by simpa [En.atQ] using hqq
      obtain ⟨j, hj, _, h2⟩ := lG k hk hq'.1
      exact ⟨k, j, hk, hj, hq'.1, h2, hq'.2.1, hq'.2.2⟩
  have same : ∀ (k k' j : Nat), k < 32 → k' < 32 → G k 0 ≠ 0 → G k' 0 ≠ 0 → G k 2 = (j : Int) → G k' 2 = (j : Int) → k = k' := fun k k' j hk hk' k0 k0' e e' => by
    obtain ⟨i, _, h1, h2⟩ := lG k hk k0
    obtain ⟨i', _, h1', h2'⟩ := lG k' hk' k0'
    obtain rfl : i = i' := by omega
    omega
  by_cases s0 : Nv.st G 32 q0 = true
  · by_cases s1 : Nv.st G 32 q1 = true
    · by_cases s2 : Nv.st G 32 q2 = true
      · by_cases s3 : Nv.st G 32 q3 = true
        · exfalso
          obtain ⟨k0, j0, b0, d0, e0, f0, x0, y0⟩ := occ q0 (by omega) s0
          obtain ⟨k1, j1, b1, d1, e1, f1, x1, y1⟩ := occ q1 (by omega) s1
          obtain ⟨k2, j2, b2, d2, e2, f2, x2, y2⟩ := occ q2 (by omega) s2
          obtain ⟨k3, j3, b3, d3, e3, f3, x3, y3⟩ := occ q3 (by omega) s3
          have ne : ∀ (k k' j j' q q' : Nat), q < q' → k < 32 → k' < 32 → G k 0 ≠ 0 → G k' 0 ≠ 0 → G k 2 = (j : Int) → G k' 2 = (j' : Int) → G k 3 = ((q % 24 : Nat) : Int) → G k 4 = ((q / 24 : Nat) : Int) → G k' 3 = ((q' % 24 : Nat) : Int) → G k' 4 = ((q' / 24 : Nat) : Int) → j ≠ j' := fun k k' j j' q q' hqq hk hk' g0 g0' g2 g2' g3 g4 g3' g4' hjj => by
            subst hjj
            have := same k k' j hk hk' g0 g0' g2 g2'
            subst this
            rw [g3] at g3'
            rw [g4] at g4'
            omega
          have n01 := ne k0 k1 j0 j1 q0 q1 a1 b0 b1 e0 e1 f0 f1 x0 y0 x1 y1
          have n02 := ne k0 k2 j0 j2 q0 q2 (by omega) b0 b2 e0 e2 f0 f2 x0 y0 x2 y2
          have n03 := ne k0 k3 j0 j3 q0 q3 (by omega) b0 b3 e0 e3 f0 f3 x0 y0 x3 y3
          have n12 := ne k1 k2 j1 j2 q1 q2 a2 b1 b2 e1 e2 f1 f2 x1 y1 x2 y2
          have n13 := ne k1 k3 j1 j3 q1 q3 (by omega) b1 b3 e1 e3 f1 f3 x1 y1 x3 y3
          have n23 := ne k2 k3 j2 j3 q2 q3 a3 b2 b3 e2 e3 f2 f3 x2 y2 x3 y3
          omega
        · exact ⟨q3, a4, c3, by simpa using s3⟩
      · exact ⟨q2, by omega, c2, by simpa using s2⟩
    · exact ⟨q1, by omega, c1, by simpa using s1⟩
  · exact ⟨q0, by omega, c0, by simpa using s0⟩

theorem Cr.landing {c c0 : Nat → Int} {old I I0 : Nat → Nat → Int} (ho : Cr.Sane c0 old I0) (hF : Nv.Floor c) (h4 : Cr.Four c) : ∀ {t : Nat} {E F : Nat → Nat → Int}, t ≤ 4 → Cr.Sane c E I → Cr.Landed old E 0 → Cr.LandTo c old t E F → Cr.Sane c F I ∧ Cr.Landed old F t
  | 0, _, _, _, hs, hl, h => by rw [h]; exact ⟨hs, hl⟩
  | t + 1, E, F, ht, hs, hl, h => by
    obtain ⟨G, hG, hL⟩ := h
    obtain ⟨sG, lG⟩ := Cr.landing ho hF h4 (by omega) hs hl hG
    unfold Cr.Lands at hL
    split at hL
    · rw [hL]
      exact ⟨sG, fun k hk k0 => by
        obtain ⟨j, hj, h1, h2⟩ := lG k hk k0
        exact ⟨j, by omega, h1, h2⟩⟩
    · rename_i hn
      obtain ⟨v, hv, rfl⟩ := hL
      obtain ⟨r, hr, he, r1, r2⟩ := Md.hero_row hn
      have hroom := Cr.landed_room h4 ht lG
      obtain ⟨q, hq, hcq, hst⟩ := hroom
      have hv0 := Cr.spot_some hF hq hcq hst hv
      obtain ⟨p, rfl⟩ : ∃ p : Nat, v = (p : Int) := ⟨v.toNat, by omega⟩
      obtain ⟨hp, hrm⟩ := Cr.spot_room hv
      rw [he, Int.toNat_natCast, if_neg (by omega)]
      have hrow0 := ho.fit.rows r hr
      have ht0 := hrow0.taken (by omega)
      have eo : ∀ j, j ≠ 3 → j ≠ 4 → En.upd (En.upd (old r) 3 ((p : Int) % 24)) 4 ((p : Int) / 24) j = old r j := fun j h3 h4 => by rw [En.upd_other h4, En.upd_other h3]
      have hrow : Ft.Row (En.upd (En.upd (old r) 3 ((p : Int) % 24)) 4 ((p : Int) / 24)) := by
        refine ⟨by rw [eo 1 (by omega) (by omega)]; exact hrow0.1, by rw [eo 1 (by omega) (by omega)]; exact hrow0.2.1, .inr ?_⟩
        rw [eo 0 (by omega) (by omega), eo 5 (by omega) (by omega), eo 6 (by omega) (by omega), eo 7 (by omega) (by omega), eo 8 (by omega) (by omega), eo 9 (by omega) (by omega), eo 10 (by omega) (by omega)]
        exact ht0
      have hb := ho.set.born r hr (by omega)
      rw [r1] at hb
      refine ⟨sG.put hp hrm hrow (by rw [eo 0 (by omega) (by omega)]; exact r1) (by rw [En.upd_other (by omega), En.upd_same]) (by rw [En.upd_same]) (by rw [eo 6 (by omega) (by omega), eo 7 (by omega) (by omega), eo 8 (by omega) (by omega)]; exact hb) (by rw [eo 2 (by omega) (by omega), r2]; omega) (by rw [eo 2 (by omega) (by omega), r2]; omega) (fun j hj j1 => ?_), fun k hk k0 => ?_⟩
      · rw [eo 2 (by omega) (by omega), r2]
        obtain ⟨i, hi, _, h2⟩ := lG j hj (by omega)
        omega
      · by_cases x : k = r
        · refine ⟨t, by omega, by rw [x]; exact he, ?_⟩
          rw [x, En.put_same, eo 2 (by omega) (by omega), r2]
        · rw [En.put_other x] at k0 ⊢
          obtain ⟨j, hj, h1, h2⟩ := lG k hk k0
          exact ⟨j, by omega, h1, h2⟩

end Go.Proofs.YtbanjoflgoiegaaGreat

namespace Go.Proofs.YtbanjoflgoiegaaGreat
open Go.RowKit

structure Cr.W where
  s : Nat → Int
  g : Nat → Int
  c : Nat → Int
  E : Nat → Nat → Int
  I : Nat → Nat → Int

def Cr.num (s : Nat → Int) (k : Nat) (v : Int) : Nat → Int := fun j => if j = k then v else s j

def Cr.Below (s g : Nat → Int) (E I : Nat → Nat → Int) (T : Cr.W) : Prop :=
  ∃ (c : Nat → Int) (es : List (Int × Nat)) (is : List Gn.Itm) (F : Nat → Nat → Int), Cr.Lev (s 0) (s 2 + 1) c es is ∧ Cr.LandTo c E 4 (Cr.bare E) F ∧ T = ⟨Cr.num s 2 (s 2 + 1), g, c, Cr.stockE F es, Cr.stockI (Cr.kept I) is⟩

theorem Cr.Below.one {s g : Nat → Int} {E I : Nat → Nat → Int} {T U : Cr.W} (h : Cr.Below s g E I T) (h' : Cr.Below s g E I U) : U = T := by
  obtain ⟨c, es, is, F, hl, hF, rfl⟩ := h
  obtain ⟨c', es', is', F', hl', hF', rfl⟩ := h'
  obtain ⟨rfl, rfl, rfl⟩ := hl.one hl'
  obtain rfl := hF.one hF'
  rfl

def Cr.Ends (s g c : Nat → Int) (E I : Nat → Nat → Int) (had left : Bool) (T : Cr.W) : Prop :=
  if Cr.manned E = false then T = ⟨if had = true then Cr.num s 3 2 else s, g, c, E, I⟩
  else if left = true then (if s 2 = 3 then T = ⟨Cr.num s 3 1, g, c, E, I⟩ else Cr.Below s g E I T) else T = ⟨s, g, c, E, I⟩

theorem Cr.Ends.one {s g c : Nat → Int} {E I : Nat → Nat → Int} {had left : Bool} {T U : Cr.W} (h : Cr.Ends s g c E I had left T) (h' : Cr.Ends s g c E I had left U) : U = T := by
  unfold Cr.Ends at h h'
  split at h
  · rename_i hc
    rw [if_pos hc] at h'
    rw [h, h']
  · rename_i hc
    rw [if_neg hc] at h'
    split at h
    · rename_i hl
      rw [if_pos hl] at h'
      split at h
      · rename_i h3
        rw [if_pos h3] at h'
        rw [h, h']
      · rename_i h3
        rw [if_neg h3] at h'
        exact h.one h'
    · rename_i hl
      rw [if_neg hl] at h'
      rw [h, h']

def Cr.IsStep (how input : Nat → Int) (sp : Nat → Bool) (S T : Cr.W) : Prop :=
  if S.s 3 ≠ 0 then T = ⟨Cr.num S.s 1 (S.s 1 + 1), S.g, S.c, S.E, S.I⟩
  else ∃ (A : Nat → Nat → Int) (m : Cr.M) (F J : Nat → Nat → Int), Cr.ComesTo S.c sp 4 S.E A ∧ Cr.MovedTo (Cr.num S.s 1 (S.s 1 + 1)) S.c how input 4 ⟨S.g, A, S.I, false⟩ m ∧ Cr.ProwlTo (Cr.num S.s 1 (S.s 1 + 1)) S.c 32 m.E m.I F J ∧
    Cr.Ends (Cr.num S.s 1 (S.s 1 + 1)) m.g S.c (Cr.rats (Cr.num S.s 1 (S.s 1 + 1)) S.c (Ft.ailE F J 32).1) (Ft.ailE F J 32).2 (Cr.manned S.E || Cr.manned A) m.left T

theorem Cr.IsStep.one {how input : Nat → Int} {sp : Nat → Bool} {S T U : Cr.W} (h : Cr.IsStep how input sp S T) (h' : Cr.IsStep how input sp S U) : U = T := by
  unfold Cr.IsStep at h h'
  split at h
  · rename_i hc
    rw [if_pos hc] at h'
    rw [h, h']
  · rename_i hc
    rw [if_neg hc] at h'
    obtain ⟨A, m, F, J, hA, hm, hF, hE⟩ := h
    obtain ⟨A', m', F', J', hA', hm', hF', hE'⟩ := h'
    obtain rfl := hA.one hA'
    obtain rfl := hm.one hm'
    obtain ⟨rfl, rfl⟩ := hF.one hF'
    exact hE.one hE'

structure Cr.Good (S : Cr.W) : Prop where
  sane : Cr.Sane S.c S.E S.I
  floor : Nv.Floor S.c
  gold : Cr.Gold S.g
  f1 : 1 ≤ S.s 2
  f3 : S.s 2 ≤ 3
  s0 : 0 ≤ S.s 3
  s2 : S.s 3 ≤ 2

theorem Cr.num_at (s : Nat → Int) (k : Nat) (v : Int) : Cr.num s k v k = v := if_pos rfl

theorem Cr.num_else (s : Nat → Int) {k j : Nat} (v : Int) (h : j ≠ k) : Cr.num s k v j = s j := if_neg h

theorem Cr.IsStep.good {how input : Nat → Int} {sp : Nat → Bool} {S T : Cr.W} (h : Cr.IsStep how input sp S T) (hS : Cr.Good S) : Cr.Good T ∧ T.s 0 = S.s 0 ∧ T.s 1 = S.s 1 + 1 ∧ (T.s 2 = S.s 2 ∨ T.s 2 = S.s 2 + 1) ∧ (S.s 3 ≠ 0 → T = ⟨Cr.num S.s 1 (S.s 1 + 1), S.g, S.c, S.E, S.I⟩) := by
  unfold Cr.IsStep at h
  have n0 : Cr.num S.s 1 (S.s 1 + 1) 0 = S.s 0 := Cr.num_else _ _ (by omega)
  have n1 : Cr.num S.s 1 (S.s 1 + 1) 1 = S.s 1 + 1 := Cr.num_at _ _ _
  have n2 : Cr.num S.s 1 (S.s 1 + 1) 2 = S.s 2 := Cr.num_else _ _ (by omega)
  have n3 : Cr.num S.s 1 (S.s 1 + 1) 3 = S.s 3 := Cr.num_else _ _ (by omega)
  split at h
  · rename_i hc
    rw [h]
    exact ⟨⟨hS.sane, hS.floor, hS.gold, by show 1 ≤ Cr.num S.s 1 (S.s 1 + 1) 2; rw [n2]; exact hS.f1, by show Cr.num S.s 1 (S.s 1 + 1) 2 ≤ 3; rw [n2]; exact hS.f3, by show 0 ≤ Cr.num S.s 1 (S.s 1 + 1) 3; rw [n3]; exact hS.s0, by show Cr.num S.s 1 (S.s 1 + 1) 3 ≤ 2; rw [n3]; exact hS.s2⟩, n0, n1, .inl n2, fun _ => rfl⟩
  rename_i hc
  obtain ⟨A, m, F, J, hA, hm, hF, hE⟩ := h
  have sA := hS.sane.comesTo (by omega) hA
  have sm : Cr.MFit S.c m := Cr.MFit.movedTo (m := ⟨S.g, A, S.I, false⟩) ⟨sA, hS.gold⟩ hm
  have sF := sm.1.prowlTo (by omega) hF
  have sR := (sF.ail).rats (s := Cr.num S.s 1 (S.s 1 + 1)) hS.floor
  generalize Cr.rats (Cr.num S.s 1 (S.s 1 + 1)) S.c (Ft.ailE F J 32).1 = E2 at hE sR
  generalize (Ft.ailE F J 32).2 = I2 at hE sR
  generalize Cr.num S.s 1 (S.s 1 + 1) = s1 at *
  have hz : S.s 3 = 0 := by
    by_cases e : S.s 3 = 0
    · exact e
    · exact absurd e hc
  have d0 : ∀ v, Cr.num s1 3 v 0 = s1 0 := fun v => Cr.num_else _ _ (by omega)
  have d1 : ∀ v, Cr.num s1 3 v 1 = s1 1 := fun v => Cr.num_else _ _ (by omega)
  have d2 : ∀ v, Cr.num s1 3 v 2 = s1 2 := fun v => Cr.num_else _ _ (by omega)
  have d3 : ∀ v, Cr.num s1 3 v 3 = v := fun v => Cr.num_at _ _ _
  have f1 := hS.f1
  have f3 := hS.f3
  unfold Cr.Ends at hE
  split at hE
  · rw [hE]
    cases Cr.manned S.E || Cr.manned A
    · exact ⟨⟨sR, hS.floor, sm.2, by show 1 ≤ s1 2; omega, by show s1 2 ≤ 3; omega, by show 0 ≤ s1 3; omega, by show s1 3 ≤ 2; omega⟩, n0, n1, .inl n2, fun h => absurd hz h⟩
    · exact ⟨⟨sR, hS.floor, sm.2, by show 1 ≤ Cr.num s1 3 2 2; rw [d2]; omega, by show Cr.num s1 3 2 2 ≤ 3; rw [d2]; omega, by show 0 ≤ Cr.num s1 3 2 3; rw [d3]; omega, by show Cr.num s1 3 2 3 ≤ 2; rw [d3]; omega⟩, by show Cr.num s1 3 2 0 = _; rw [d0]; exact n0, by show Cr.num s1 3 2 1 = _; rw [d1]; exact n1, .inl (by show Cr.num s1 3 2 2 = _; rw [d2]; exact n2), fun h => absurd hz h⟩
  · split at hE
    · split at hE
      · rw [hE]
        exact ⟨⟨sR, hS.floor, sm.2, by show 1 ≤ Cr.num s1 3 1 2; rw [d2]; omega, by show Cr.num s1 3 1 2 ≤ 3; rw [d2]; omega, by show 0 ≤ Cr.num s1 3 1 3; rw [d3]; omega, by show Cr.num s1 3 1 3 ≤ 2; rw [d3]; omega⟩, by show Cr.num s1 3 1 0 = _; rw [d0]; exact n0, by show Cr.num s1 3 1 1 = _; rw [d1]; exact n1, .inl (by show Cr.num s1 3 1 2 = _; rw [d2]; exact n2), fun h => absurd hz h⟩
      · rename_i h3
        obtain ⟨c, es, is, G, hl, hG, rfl⟩ := hE
        have hc8 : ∀ i, 0 ≤ c i ∧ c i ≤ 255 := fun i => ⟨(hl.floor.five i).1, by have := (hl.floor.five i).2; omega⟩
        obtain ⟨hk, hk1⟩ := Cr.kept_ok (c' := c) sR.fit.ok
        have hI := hl.lay hk hk1
        have hb := Cr.bare_sane (c := c) (E := E2) hc8 hI sR.good.gens
        have hland := (Cr.landing sR hl.floor hl.four (by omega) hb (fun k _ k0 => absurd rfl k0) hG).1
        have hst := hland.stockE es (hl.mons (by omega))
        have e0 : Cr.num s1 2 (s1 2 + 1) 0 = s1 0 := Cr.num_else _ _ (by omega)
        have e1 : Cr.num s1 2 (s1 2 + 1) 1 = s1 1 := Cr.num_else _ _ (by omega)
        have e2 : Cr.num s1 2 (s1 2 + 1) 2 = s1 2 + 1 := Cr.num_at _ _ _
        have e3 : Cr.num s1 2 (s1 2 + 1) 3 = s1 3 := Cr.num_else _ _ (by omega)
        exact ⟨⟨hst, hl.floor, sm.2, by show 1 ≤ Cr.num s1 2 (s1 2 + 1) 2; rw [e2]; omega, by show Cr.num s1 2 (s1 2 + 1) 2 ≤ 3; rw [e2]; omega, by show 0 ≤ Cr.num s1 2 (s1 2 + 1) 3; rw [e3]; omega, by show Cr.num s1 2 (s1 2 + 1) 3 ≤ 2; rw [e3]; omega⟩, by show Cr.num s1 2 (s1 2 + 1) 0 = _; rw [e0]; exact n0, by show Cr.num s1 2 (s1 2 + 1) 1 = _; rw [e1]; exact n1, .inr (by show Cr.num s1 2 (s1 2 + 1) 2 = _; rw [e2]; omega), fun h => absurd hz h⟩
    · rw [hE]
      exact ⟨⟨sR, hS.floor, sm.2, by show 1 ≤ s1 2; omega, by show s1 2 ≤ 3; omega, by show 0 ≤ s1 3; omega, by show s1 3 ≤ 2; omega⟩, n0, n1, .inl n2, fun h => absurd hz h⟩

def Cr.first (seed : Int) : Nat → Int
  | 0 => seed
  | 2 => 1
  | _ => 0

def Cr.IsNew (seed : Int) (T : Cr.W) : Prop :=
  ∃ (c : Nat → Int) (es : List (Int × Nat)) (is : List Gn.Itm), Cr.Lev seed 1 c es is ∧ T = ⟨Cr.first seed, fun _ => 0, c, Cr.stockE (fun _ _ => 0) es, Cr.stockI (fun _ _ => 0) is⟩

theorem Cr.IsNew.one {seed : Int} {T U : Cr.W} (h : Cr.IsNew seed T) (h' : Cr.IsNew seed U) : U = T := by
  obtain ⟨c, es, is, hl, rfl⟩ := h
  obtain ⟨c', es', is', hl', rfl⟩ := h'
  obtain ⟨rfl, rfl, rfl⟩ := hl.one hl'
  rfl

theorem Cr.IsNew.good {seed : Int} {T : Cr.W} (h : Cr.IsNew seed T) : Cr.Good T := by
  obtain ⟨c, es, is, hl, rfl⟩ := h
  have hc8 : ∀ i, 0 ≤ c i ∧ c i ≤ 255 := fun i => ⟨(hl.floor.five i).1, by have := (hl.floor.five i).2; omega⟩
  have hI := hl.lay (Md.ok_none c) (fun k _ => ⟨by show ¬ (0 : Int) = 1; omega, by show ¬ (0 : Int) = 4; omega⟩)
  have hb : Cr.Sane c (fun _ _ => 0) (Cr.stockI (fun _ _ => 0) is) := by
    refine ⟨⟨hc8, hI, fun k _ => ⟨by show (0 : Int) ≤ 0; omega, by show (0 : Int) ≤ 255; omega, .inl fun _ _ _ => rfl⟩⟩, ⟨fun k _ k0 => absurd rfl k0, ⟨fun k _ k0 => absurd rfl k0, fun j k _ _ j0 => absurd rfl j0⟩⟩, ⟨fun k _ k1 => ?_, fun j k _ _ j1 => ?_, fun k _ k0 => absurd rfl k0⟩⟩
    · exact absurd k1 (by show ¬ (0 : Int) = 1; omega)
    · exact absurd j1 (by show ¬ (0 : Int) = 1; omega)
  exact ⟨hb.stockE es (hl.mons (by omega)), hl.floor, fun t _ => ⟨by show (0 : Int) ≤ 0; omega, by show (0 : Int) ≤ 999; omega⟩, by show (1 : Int) ≤ 1; omega, by show (1 : Int) ≤ 3; omega, by show (0 : Int) ≤ 0; omega, by show (0 : Int) ≤ 2; omega⟩

end Go.Proofs.YtbanjoflgoiegaaGreat

namespace Go.Proofs.YtbanjoflgoiegaaGreat
open Go.RowKit

theorem Cr.join_keeps {E : Nat → Nat → Int} {e : Nat → Int} {k : Nat} (k0 : E k 0 ≠ 0) : Cr.join E e k = E k := by
  rcases Cr.join_cases E e with h | ⟨f, _, f0, _, h⟩
  · rw [h]
  · rw [h, En.put_other (fun x => k0 (by rw [x]; exact f0))]

theorem Cr.manned_of {E : Nat → Nat → Int} {t k : Nat} (ht : t < 4) (hk : k < 32) (k1 : E k 0 = 1) (k2 : E k 2 = (t : Int)) : Cr.manned E = true := by
  refine decide_eq_true ⟨t, ht, ?_⟩
  unfold Gd.hero
  rcases En.first_cases (En.heroQ E (t : Int)) 32 with ⟨_, hno⟩ | ⟨j, _, hj, _⟩
  · have := hno k hk
    simp [En.heroQ, k1, k2] at this
  · omega

theorem Cr.Comes.manned {c : Nat → Int} {t : Int} {sp : Bool} {E F : Nat → Nat → Int} (h : Cr.Comes c t sp E F) (hm : Cr.manned E = true) : Cr.manned F = true := by
  unfold Cr.Comes at h
  split at h
  · obtain ⟨v, _, ⟨_, rfl⟩ | ⟨q, _, rfl⟩⟩ := h
    · exact hm
    · obtain ⟨t', ht, h0⟩ := of_decide_eq_true hm
      obtain ⟨k, hk, _, k2, k1⟩ := Gd.hero_pos h0
      have e := Cr.join_keeps (e := Cr.one 1 t q) (E := E) (k := k) (by omega)
      exact Cr.manned_of ht hk (by rw [e]; exact k1) (by rw [e]; exact k2)
  · rw [h]; exact hm

theorem Cr.ComesTo.manned {c : Nat → Int} {sp : Nat → Bool} : ∀ {t : Nat} {E F : Nat → Nat → Int}, Cr.ComesTo c sp t E F → Cr.manned E = true → Cr.manned F = true
  | 0, _, _, h, hm => by rw [h]; exact hm
  | _ + 1, _, _, ⟨_, hG, hF⟩, hm => hF.manned (hG.manned hm)

def Cr.Stage (how inp : Nat → Int) (sp : Nat → Bool) (S : Cr.W) (n : Nat) (met left : Bool) (T : Cr.W) : Prop :=
  if n = 0 then left = false ∧ T = ⟨Cr.num S.s 1 (S.s 1 + 1), S.g, S.c, S.E, S.I⟩
  else if n = 1 then ∃ A, Cr.ComesTo S.c sp 4 S.E A ∧ met = Cr.manned A ∧ left = false ∧ T = ⟨Cr.num S.s 1 (S.s 1 + 1), S.g, S.c, A, S.I⟩
  else if n = 2 then ∃ A m, Cr.ComesTo S.c sp 4 S.E A ∧ Cr.MovedTo (Cr.num S.s 1 (S.s 1 + 1)) S.c how inp 4 ⟨S.g, A, S.I, false⟩ m ∧ met = Cr.manned A ∧ left = m.left ∧ T = ⟨Cr.num S.s 1 (S.s 1 + 1), m.g, S.c, m.E, m.I⟩
  else if n = 3 then ∃ A m F J, Cr.ComesTo S.c sp 4 S.E A ∧ Cr.MovedTo (Cr.num S.s 1 (S.s 1 + 1)) S.c how inp 4 ⟨S.g, A, S.I, false⟩ m ∧ Cr.ProwlTo (Cr.num S.s 1 (S.s 1 + 1)) S.c 32 m.E m.I F J ∧ met = Cr.manned A ∧ left = m.left ∧ T = ⟨Cr.num S.s 1 (S.s 1 + 1), m.g, S.c, F, J⟩
  else if n = 4 then ∃ A m F J, Cr.ComesTo S.c sp 4 S.E A ∧ Cr.MovedTo (Cr.num S.s 1 (S.s 1 + 1)) S.c how inp 4 ⟨S.g, A, S.I, false⟩ m ∧ Cr.ProwlTo (Cr.num S.s 1 (S.s 1 + 1)) S.c 32 m.E m.I F J ∧ met = Cr.manned A ∧ left = m.left ∧ T = ⟨Cr.num S.s 1 (S.s 1 + 1), m.g, S.c, Cr.rats (Cr.num S.s 1 (S.s 1 + 1)) S.c (Ft.ailE F J 32).1, (Ft.ailE F J 32).2⟩
  else Cr.IsStep how inp sp S T

theorem Cr.Stage.fit {how inp : Nat → Int} {sp : Nat → Bool} {S T : Cr.W} {n : Nat} {met left : Bool} (h : Cr.Stage how inp sp S n met left T) (hS : Cr.Good S) (hn : n ≤ 4) : Cr.Sane T.c T.E T.I ∧ Cr.Gold T.g ∧ Nv.Floor T.c ∧ 1 ≤ T.s 2 ∧ T.s 2 ≤ 3 := by
  have n2 : Cr.num S.s 1 (S.s 1 + 1) 2 = S.s 2 := Cr.num_else _ _ (by omega)
  have f1 := hS.f1
  have f3 := hS.f3
  unfold Cr.Stage at h
  split at h
  · obtain ⟨_, rfl⟩ := h
    exact ⟨hS.sane, hS.gold, hS.floor, by show 1 ≤ Cr.num S.s 1 (S.s 1 + 1) 2; omega, by show Cr.num S.s 1 (S.s 1 + 1) 2 ≤ 3; omega⟩
  split at h
  · obtain ⟨A, hA, _, _, rfl⟩ := h
    exact ⟨hS.sane.comesTo (by omega) hA, hS.gold, hS.floor, by show 1 ≤ Cr.num S.s 1 (S.s 1 + 1) 2; omega, by show Cr.num S.s 1 (S.s 1 + 1) 2 ≤ 3; omega⟩
  split at h
  · obtain ⟨A, m, hA, hm, _, _, rfl⟩ := h
    have sm : Cr.MFit S.c m := Cr.MFit.movedTo (m := ⟨S.g, A, S.I, false⟩) ⟨hS.sane.comesTo (by omega) hA, hS.gold⟩ hm
    exact ⟨sm.1, sm.2, hS.floor, by show 1 ≤ Cr.num S.s 1 (S.s 1 + 1) 2; omega, by show Cr.num S.s 1 (S.s 1 + 1) 2 ≤ 3; omega⟩
  split at h
  · obtain ⟨A, m, F, J, hA, hm, hF, _, _, rfl⟩ := h
    have sm : Cr.MFit S.c m := Cr.MFit.movedTo (m := ⟨S.g, A, S.I, false⟩) ⟨hS.sane.comesTo (by omega) hA, hS.gold⟩ hm
    exact ⟨sm.1.prowlTo (by omega) hF, sm.2, hS.floor, by show 1 ≤ Cr.num S.s 1 (S.s 1 + 1) 2; omega, by show Cr.num S.s 1 (S.s 1 + 1) 2 ≤ 3; omega⟩
  split at h
  · obtain ⟨A, m, F, J, hA, hm, hF, _, _, rfl⟩ := h
    have sm : Cr.MFit S.c m := Cr.MFit.movedTo (m := ⟨S.g, A, S.I, false⟩) ⟨hS.sane.comesTo (by omega) hA, hS.gold⟩ hm
    exact ⟨((sm.1.prowlTo (by omega) hF).ail).rats hS.floor, sm.2, hS.floor, by show 1 ≤ Cr.num S.s 1 (S.s 1 + 1) 2; omega, by show Cr.num S.s 1 (S.s 1 + 1) 2 ≤ 3; omega⟩
  · omega

theorem Cr.Stage.come {how inp : Nat → Int} {sp : Nat → Bool} {S T : Cr.W} {met left : Bool} (h : Cr.Stage how inp sp S 0 met left T) {A : Nat → Nat → Int} (hA : Cr.ComesTo T.c sp 4 T.E A) : Cr.Stage how inp sp S 1 (Cr.manned A) left ⟨T.s, T.g, T.c, A, T.I⟩ := by
  obtain ⟨h1, rfl⟩ := h
  exact ⟨A, hA, rfl, h1, rfl⟩

theorem Cr.Stage.act {how inp : Nat → Int} {sp : Nat → Bool} {S T : Cr.W} {met left : Bool} (h : Cr.Stage how inp sp S 1 met left T) {m : Cr.M} (hm : Cr.MovedTo T.s T.c how inp 4 ⟨T.g, T.E, T.I, left⟩ m) : Cr.Stage how inp sp S 2 met m.left ⟨T.s, m.g, T.c, m.E, m.I⟩ := by
  obtain ⟨A, hA, h1, rfl, rfl⟩ := h
  exact ⟨A, m, hA, hm, h1, rfl, rfl⟩

theorem Cr.Stage.hunt {how inp : Nat → Int} {sp : Nat → Bool} {S T : Cr.W} {met left : Bool} (h : Cr.Stage how inp sp S 2 met left T) {F J : Nat → Nat → Int} (hF : Cr.ProwlTo T.s T.c 32 T.E T.I F J) : Cr.Stage how inp sp S 3 met left ⟨T.s, T.g, T.c, F, J⟩ := by
  obtain ⟨A, m, hA, hm, h1, h2, rfl⟩ := h
  exact ⟨A, m, F, J, hA, hm, hF, h1, h2, rfl⟩

theorem Cr.Stage.ail {how inp : Nat → Int} {sp : Nat → Bool} {S T : Cr.W} {met left : Bool} (h : Cr.Stage how inp sp S 3 met left T) : Cr.Stage how inp sp S 4 met left ⟨T.s, T.g, T.c, Cr.rats T.s T.c (Ft.ailE T.E T.I 32).1, (Ft.ailE T.E T.I 32).2⟩ := by
  obtain ⟨A, m, F, J, hA, hm, hF, h1, h2, rfl⟩ := h
  exact ⟨A, m, F, J, hA, hm, hF, h1, h2, rfl⟩

theorem Cr.Stage.ends {how inp : Nat → Int} {sp : Nat → Bool} {S T U : Cr.W} {met left : Bool} (h : Cr.Stage how inp sp S 4 met left T) (h0 : S.s 3 = 0) (hU : Cr.Ends T.s T.g T.c T.E T.I met left U) : Cr.Stage how inp sp S 5 met left U := by
  obtain ⟨A, m, F, J, hA, hm, hF, h1, h2, rfl⟩ := h
  show Cr.IsStep how inp sp S U
  unfold Cr.IsStep
  rw [if_neg (fun hh => hh h0)]
  refine ⟨A, m, F, J, hA, hm, hF, ?_⟩
  have e : (Cr.manned S.E || Cr.manned A) = met := by
    rw [h1]
    cases hm : Cr.manned S.E
    · rfl
    · rw [hA.manned hm]; rfl
  rw [e, ← h2]
  exact hU

end Go.Proofs.YtbanjoflgoiegaaGreat
