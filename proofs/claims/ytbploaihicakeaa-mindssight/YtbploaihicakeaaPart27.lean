/-
  A crowd, as numbers: entities that come into a world, one behind the other.
  The law's own crowd: a world with monsters about, and heroes.
-/
import Derived.Test.YtbploaihicakeaaPart26
import Derived.Test.YtbploaihicakeaaPart25
import Derived.Test.YtbploaihicakeaaPart24
import Derived.Deep.Cut
import Derived.Deep.CutRange
import Derived.Deep.CutBlock
import Derived.Deep.RegionWith
import Derived.Deep.RegionHeld3
import Derived.BigQuiet
namespace Go.Proofs.Ytbploaihicakeaa
open Go.RowKit

/-- One number of an entity is another one. -/
def En.upd (e : Nat → Int) (j : Nat) (v : Int) : Nat → Int := fun l => if l = j then v else e l

theorem En.upd_same (e : Nat → Int) (j : Nat) (v : Int) : En.upd e j v j = v := if_pos rfl
theorem En.upd_other {e : Nat → Int} {j l : Nat} {v : Int} (h : l ≠ j) : En.upd e j v l = e l := if_neg h

theorem Lie.upd {x : World} {Q : Nat} {T : TypeId} {e : Nat → Int} (h : Lie x Q T 11 (Ints e)) (j : Nat) (v : Int) : Lie (x.setCell ⟨Q, j, none⟩ (.int .i64 v)) Q T 11 (Ints (En.upd e j v)) := by
  refine (h.store j (.int .i64 v)).congr fun l _ => ?_
  unfold Ints En.upd
  split <;> rfl

theorem Lie.ent {x : World} {Q : Nat} {T : TypeId} {e : Nat → Int} (h : Lie x Q T 11 (Ints e)) : x.cell? ⟨Q, 0, none⟩ = some (.int .i64 (e 0)) ∧ x.cell? ⟨Q, 1, none⟩ = some (.int .i64 (e 1)) ∧ x.cell? ⟨Q, 2, none⟩ = some (.int .i64 (e 2)) ∧ x.cell? ⟨Q, 3, none⟩ = some (.int .i64 (e 3)) ∧ x.cell? ⟨Q, 4, none⟩ = some (.int .i64 (e 4)) ∧ x.cell? ⟨Q, 5, none⟩ = some (.int .i64 (e 5)) ∧ x.cell? ⟨Q, 6, none⟩ = some (.int .i64 (e 6)) ∧ x.cell? ⟨Q, 7, none⟩ = some (.int .i64 (e 7)) ∧ x.cell? ⟨Q, 8, none⟩ = some (.int .i64 (e 8)) ∧ x.cell? ⟨Q, 9, none⟩ = some (.int .i64 (e 9)) ∧ x.cell? ⟨Q, 10, none⟩ = some (.int .i64 (e 10)) :=
  ⟨h.cell (by omega), h.cell (by omega), h.cell (by omega), h.cell (by omega), h.cell (by omega), h.cell (by omega), h.cell (by omega), h.cell (by omega), h.cell (by omega), h.cell (by omega), h.cell (by omega)⟩

theorem Lie.born (x : World) (e : Nat → Int) (T : TypeId) : Lie (x.alloc (.cells (En.cells e) T)) x.heap.size T 11 (Ints e) :=
  Lie.congr (m := 11) (Arr.lit (heap_alloc_new x (.cells (En.cells e) T))).lie fun j hj => by
    rcases (show j = 0 ∨ j = 1 ∨ j = 2 ∨ j = 3 ∨ j = 4 ∨ j = 5 ∨ j = 6 ∨ j = 7 ∨ j = 8 ∨ j = 9 ∨ j = 10 by omega) with rfl | rfl | rfl | rfl | rfl | rfl | rfl | rfl | rfl | rfl | rfl <;> rfl

/-- The frame of a world is another one. -/
def Ft.tick (s : Nat → Int) (v : Int) : Nat → Int := fun j => if j = 1 then v else s j

theorem Gd.Law.tick {w x : World} {T gC gE gI cC cE cI : Nat} {s g c : Nat → Int} {E I : Nat → Nat → Int} (h : Gd.Law w x T gC gE gI cC cE cI s g c E I) (v : Int) : Gd.Law w (x.setCell ⟨T, 1, none⟩ (.int .i64 v)) T gC gE gI cC cE cI (Ft.tick s v) g c E I := by
  have hb : Lie (x.setCell ⟨T, 1, none⟩ (.int .i64 v)) T 29 11 (Gd.box (Ft.tick s v) gC gE gI cC cE cI g) := (h.hold.box.store 1 (.int .i64 v)).congr fun j hj => by
    rcases (show j = 0 ∨ j = 1 ∨ j = 2 ∨ j = 3 ∨ j = 4 ∨ j = 5 ∨ j = 6 ∨ j = 7 ∨ j = 8 ∨ j = 9 ∨ j = 10 by omega) with rfl | rfl | rfl | rfl | rfl | rfl | rfl | rfl | rfl | rfl | rfl <;> rfl
  exact { h with hold := { h.hold with box := hb, lists := ⟨h.hold.lists.cells.other h.hold.bC _ _, h.hold.lists.ents.other h.hold.bE _ _, h.hold.lists.items.other h.hold.bI _ _⟩ }, grown := grown_store h.grown ⟨T, 1, none⟩ h.lT _ }

/-- A new list of entities, laid into a law's box. -/
theorem Gd.Law.folk {w x x' : World} {T gC gE gI cC cE cI jE dE : Nat} {s g c : Nat → Int} {E I F : Nat → Nat → Int} (h : Gd.Law w x T gC gE gI cC cE cI s g c E I) (hcap : 32 ≤ dE) (l2 : x.heap.size ≤ jE) (hO : Own x' jE 32 F) (hg : x.grownBy x' none) :
    Gd.Law w (x'.setCell ⟨T, 5, none⟩ (.slice (some ⟨jE, 0, none⟩) 32 dE)) T gC jE gI cC dE cI s g c F I := by
  have h1 := h.hold.box.lt
  have h2 := h.hold.lists.cells.lt
  have h3 := h.hold.lists.items.lt
  have h4 := h.grown.size
  have r := grown_set0 x' T 5 (.slice (some ⟨jE, 0, none⟩) 32 dE)
  have hb := ((h.hold.box.on hg).store 5 (.slice (some ⟨jE, 0, none⟩) 32 dE)).congr (Gd.box_5 s g gC gE gI cC cE cI jE dE)
  exact ⟨⟨hb, ⟨(h.hold.lists.cells.on hg).grown r (by simpa using h.hold.bC), (hO.lie (m := 352) (by omega)).grown r (by simp; omega), (h.hold.lists.items.on hg).grown r (by simpa using h.hold.bI)⟩, h.hold.bC, by omega, h.hold.bI, by omega, h.hold.cI, by omega⟩, h.lT, by omega, h.lI, hcap, grown_store (grown_trans h.grown hg) ⟨T, 5, none⟩ h.lT _⟩

/-- What a law's function answers: the eleven cells of its box, laid into the place for it. -/
theorem Gd.Law.worlds {w x : World} {T R gC gE gI cC cE cI : Nat} {s g c : Nat → Int} {E I : Nat → Nat → Int} {F : Nat → Value} (h : Gd.Law w x T gC gE gI cC cE cI s g c E I) (lC : w.heap.size ≤ gC) (lR : w.heap.size ≤ R) (hR : Lie x R 29 11 F) (vs : List Value) : Gd.Worlds w s g c E I (.returned (.agg (Gd.world s gC gE gI cC cE cI g))) (x.setCells R 0 vs) := by
  have r := grown_sets (g := R) vs 0 x (World.grownBy.refl _ _)
  have n1 := hR.type_ne h.hold.lists.cells (by decide)
  have n2 := hR.type_ne h.hold.lists.ents (by decide)
  have n3 := hR.type_ne h.hold.lists.items (by decide)
  exact ⟨gC, gE, gI, cC, cE, cI, rfl, h.cap, lC, h.lE, h.lI, h.hold.cE, h.hold.cI, h.hold.eI, ⟨h.hold.lists.cells.grown r (by simpa using n1), h.hold.lists.ents.grown r (by simpa using n2), h.hold.lists.items.grown r (by simpa using n3)⟩, own_sets lR vs 0 x h.grown⟩

theorem within8_any (a n : Int) (w : World) (hn : 0 < n) (hn2 : n ≤ 4611686018427387904) :
    Calls Try.prog 31 #[.int .i64 a, .int .i64 n] w fun e w' => e = .returned (.int .i64 (a % n)) ∧ w' = w := by
  have t1 := Int.tmod_lt_of_pos a (b := n) hn
  have t2 := Int.lt_tmod_of_pos a (b := n) hn
  have hn0 : (n == 0) = false := by simp; omega
  by_cases h : a.tmod n < 0
  · have ha : ¬ 0 ≤ a := by
      intro h0
      have := Int.tmod_nonneg n h0
      omega
    have hd := hide (Gr.within_neg a n hn h)
    go_enter Try.func31, Try.ntmps31
    go_wp2
    go_ret
    exact ⟨ret_int (unhide hd), rfl⟩
  · have hd := hide (Gr.within_pos a n hn h)
    by_cases ha : 0 ≤ a
    · have e : a.tmod n = a % n := Int.tmod_eq_emod_of_nonneg ha
      have h' : ¬ a % n < 0 := by rw [← e]; exact h
      clear h t1 t2 e
      go_enter Try.func31, Try.ntmps31
      go_wp2
      go_ret
      exact ⟨rfl, rfl⟩
    · go_enter Try.func31, Try.ntmps31
      go_wp2
      go_ret
      exact ⟨ret_int (unhide hd), rfl⟩

/-- A fresh one of a kind, as numbers. -/
theorem En.stats_fit {k : Int} (h1 : 1 ≤ k) (h4 : k ≤ 4) : En.stats k 0 = k ∧ En.stats k 1 = 0 ∧ En.stats k 2 = 0 ∧ En.stats k 3 = 0 ∧ En.stats k 4 = 0 ∧ En.stats k 5 = En.stats k 6 ∧ 4 ≤ En.stats k 6 ∧ En.stats k 6 ≤ 20 ∧ 0 ≤ En.stats k 7 ∧ En.stats k 7 ≤ 5 ∧ 0 ≤ En.stats k 8 ∧ En.stats k 8 ≤ 1 ∧ En.stats k 9 = 0 ∧ En.stats k 10 = 0 := by
  rcases (show k = 1 ∨ k = 2 ∨ k = 3 ∨ k = 4 by omega) with rfl | rfl | rfl | rfl <;> decide

/-- Spawn, of one that may be: into a free row, or no row is free. -/
theorem refSpawn_fit (b cp : Nat) (E : Nat → Nat → Int) (e : Nat → Int) (w : World) (hE : Ents w b 32 E) (h1 : 1 ≤ e 0) (h4 : e 0 ≤ 4) (hG : En.Gens 32 E) :
    Calls Try.prog 26 #[.slice (some ⟨b, 0, none⟩) 32 cp, .agg (En.cells e)] w fun e' w' => (∃ r, r < 32 ∧ E r 0 = 0 ∧ Spawns w 32 (En.put E r (En.gen e ((E r 1 + 1) % 256))) r e' w') ∨ ((∀ j, j < 32 → E j 0 ≠ 0) ∧ Says w (.tuple #[.slice none 0 0, .int .i64 0, .int .i64 5]) e' w') := by
  rcases En.first_cases (En.freeQ E) 32 with ⟨_, hno⟩ | ⟨r, hr, _, hq, hno⟩
  · refine (refSpawn_full b 32 cp E e w hE ⟨h1, h4⟩ hno).mono fun e' w' h => .inr ⟨fun j hj => ?_, h⟩
    have := hno j hj
    simpa [En.freeQ] using this
  · have h0 : E r 0 = 0 := by simpa [En.freeQ] using hq
    exact (refSpawn_some b 32 cp r E e w hE ⟨h1, h4⟩ hr h0 hno hG).mono fun e' w' h => .inl ⟨r, hr, h0, h⟩

theorem Ft.Fit.gens {c : Nat → Int} {E I : Nat → Nat → Int} (h : Ft.Fit c E I) : En.Gens 32 E := fun i hi => ⟨(h.rows i hi).1, (h.rows i hi).2.1⟩

/-- One that is made up, of a kind, with hit points; and what blows have left, from p on. -/
structure Ft.Mon (kd : Int) (e : Nat → Int) : Prop where
  k : e 0 = kd
  hp : 1 ≤ e 5
  hpm : e 5 ≤ e 6
  m : e 6 = En.stats kd 6
  atk : e 7 = En.stats kd 7
  dfn : e 8 = En.stats kd 8
  p0 : 0 ≤ e 9
  p9 : e 9 ≤ 9
  s0 : 0 ≤ e 10
  s9 : e 10 ≤ 9

theorem Ft.Mon.row {kd : Int} {e : Nat → Int} (h : Ft.Mon kd e) (h1 : 1 ≤ kd) (h4 : kd ≤ 4) {gn : Int} (g0 : 0 ≤ gn) (g9 : gn ≤ 255) : Ft.Row (En.gen e gn) := by
  obtain ⟨_, _, _, _, _, _, f6, f6', f7, f7', f8, f8', _, _⟩ := En.stats_fit h1 h4
  obtain ⟨a1, a2, a3, a4, a5, a6, a7, a8, a9, a10⟩ := h
  refine ⟨g0, g9, .inr ?_⟩
  show 1 ≤ e 0 ∧ e 0 ≤ 4 ∧ 1 ≤ e 5 ∧ e 5 ≤ e 6 ∧ e 6 ≤ 20 ∧ 0 ≤ e 7 ∧ e 7 ≤ 5 ∧ 0 ≤ e 8 ∧ e 8 ≤ 1 ∧ 0 ≤ e 9 ∧ e 9 ≤ 9 ∧ 0 ≤ e 10 ∧ e 10 ≤ 9
  omega

theorem Ft.mon_of {kd sx X Y hp : Int} {st : Nat → Int} (hst : En.stats kd = st) (h1 : 1 ≤ kd) (h4 : kd ≤ 4) (p1 : 1 ≤ hp) (p2 : hp ≤ st 6) : Ft.Mon kd (En.upd (En.upd (En.upd (En.upd st 2 sx) 3 X) 4 Y) 5 hp) := by
  obtain ⟨f0, _, _, _, _, _, f6, f6', f7, f7', f8, f8', f9, f10⟩ := En.stats_fit h1 h4
  rw [hst] at f0 f6 f6' f7 f7' f8 f8' f9 f10
  have e : ∀ l, l ≠ 2 → l ≠ 3 → l ≠ 4 → l ≠ 5 → En.upd (En.upd (En.upd (En.upd st 2 sx) 3 X) 4 Y) 5 hp l = st l := fun l a b c d => by rw [En.upd_other d, En.upd_other c, En.upd_other b, En.upd_other a]
  exact ⟨by rw [e 0 (by omega) (by omega) (by omega) (by omega)]; exact f0, by rw [En.upd_same]; exact p1, by rw [En.upd_same, e 6 (by omega) (by omega) (by omega) (by omega)]; exact p2, by rw [hst, e 6 (by omega) (by omega) (by omega) (by omega)], by rw [hst, e 7 (by omega) (by omega) (by omega) (by omega)], by rw [hst, e 8 (by omega) (by omega) (by omega) (by omega)], by rw [e 9 (by omega) (by omega) (by omega) (by omega)]; omega, by rw [e 9 (by omega) (by omega) (by omega) (by omega)]; omega, by rw [e 10 (by omega) (by omega) (by omega) (by omega)]; omega, by rw [e 10 (by omega) (by omega) (by omega) (by omega)]; omega⟩

theorem Ft.Mon.ails {kd p r : Int} {e : Nat → Int} (h : Ft.Mon kd e) (p0 : 0 ≤ p) (p9 : p ≤ 9) (r0 : 0 ≤ r) (r9 : r ≤ 9) : Ft.Mon kd (En.upd (En.upd e 9 p) 10 r) := by
  have x : ∀ l, l ≠ 9 → l ≠ 10 → En.upd (En.upd e 9 p) 10 r l = e l := fun l a b => by rw [En.upd_other b, En.upd_other a]
  exact ⟨by rw [x 0 (by omega) (by omega)]; exact h.k, by rw [x 5 (by omega) (by omega)]; exact h.hp, by rw [x 5 (by omega) (by omega), x 6 (by omega) (by omega)]; exact h.hpm, by rw [x 6 (by omega) (by omega)]; exact h.m, by rw [x 7 (by omega) (by omega)]; exact h.atk, by rw [x 8 (by omega) (by omega)]; exact h.dfn, by rw [En.upd_other (by omega), En.upd_same]; exact p0, by rw [En.upd_other (by omega), En.upd_same]; exact p9, by rw [En.upd_same]; exact r0, by rw [En.upd_same]; exact r9⟩

/-- A block of the law's own, apart from a world's. -/
structure Ft.Off (w : World) (Q T R gC gE gI : Nat) : Prop where
  nT : Q ≠ T
  nR : Q ≠ R
  nC : Q ≠ gC
  nE : Q ≠ gE
  nI : Q ≠ gI
  l : w.heap.size ≤ Q

theorem Gd.Law.off {w x : World} {Q T R gC gE gI cC cE cI : Nat} {s g c : Nat → Int} {E I : Nat → Nat → Int} (h : Gd.Law w x T gC gE gI cC cE cI s g c E I) (hq : Ft.Off w Q T R gC gE gI) (j : Nat) (v : Value) : Gd.Law w (x.setCell ⟨Q, j, none⟩ v) T gC gE gI cC cE cI s g c E I :=
  { h with hold := { h.hold with box := h.hold.box.other hq.nT _ _, lists := ⟨h.hold.lists.cells.other hq.nC _ _, h.hold.lists.ents.other hq.nE _ _, h.hold.lists.items.other hq.nI _ _⟩ }, grown := grown_store h.grown ⟨Q, j, none⟩ hq.l _ }

/-- Each that is there has the numbers of its kind. -/
def Ft.Born (E : Nat → Nat → Int) : Prop := ∀ k, k < 32 → E k 0 ≠ 0 → E k 6 = En.stats (E k 0) 6 ∧ E k 7 = En.stats (E k 0) 7 ∧ E k 8 = En.stats (E k 0) 8

theorem Ft.Born.put {E : Nat → Nat → Int} (h : Ft.Born E) {r : Nat} {e : Nat → Int} (he : e 6 = En.stats (e 0) 6 ∧ e 7 = En.stats (e 0) 7 ∧ e 8 = En.stats (e 0) 8) : Ft.Born (En.put E r e) := fun k hk h0 => by
  by_cases x : k = r
  · rw [x, En.put_same]
    exact he
  · rw [En.put_other x] at h0 ⊢
    exact h k hk h0

/-- Those that were there stay where a free row is taken. -/
theorem Ft.stays {E : Nat → Nat → Int} {r k : Nat} {e : Nat → Int} (h0 : E r 0 = 0) (hk : E k 0 ≠ 0) : En.put E r e k = E k := En.put_other (by rintro rfl; exact hk h0)

/-- Somebody of a kind is there. -/
def Ft.Has (E : Nat → Nat → Int) (kd : Int) : Prop := ∃ r, r < 32 ∧ E r 0 = kd

theorem Ft.Has.put {E : Nat → Nat → Int} {kd : Int} (h : Ft.Has E kd) (hk : kd ≠ 0) {r : Nat} {e : Nat → Int} (h0 : E r 0 = 0) : Ft.Has (En.put E r e) kd := by
  obtain ⟨q, hq, he⟩ := h
  exact ⟨q, hq, by rw [Ft.stays h0 (by omega)]; exact he⟩

end Go.Proofs.Ytbploaihicakeaa

namespace Go.Proofs.Ytbploaihicakeaa
open Go.RowKit

theorem Gd.hero_some {E : Nat → Nat → Int} {k : Nat} {seat : Int} (hk : k < 32) (h0 : E k 0 = 1) (h2 : E k 2 = seat) : 0 ≤ Gd.hero E seat := by
  unfold Gd.hero
  rcases En.first_cases (En.heroQ E seat) 32 with ⟨_, hno⟩ | ⟨j, _, he, _⟩
  · have := hno k hk
    simp [En.heroQ, h0, h2] at this
  · omega

/-- The hero that the law's world begins with. -/
theorem Ft.first_fit {c : Nat → Int} {I : Nat → Nat → Int} {kc : Nat} (hF : Nv.Floor c) (hOk : Gd.Ok c 40 I) : Ft.Fit c (En.put (fun _ _ => 0) 1 (Gd.folk 0 kc 1)) I := by
  have h0 : Ft.Fit c (fun _ _ => 0) I := ⟨fun i => ⟨(hF.five i).1, by have := (hF.five i).2; omega⟩, hOk, fun k _ => ⟨Int.le_refl _, by show (0 : Int) ≤ 255; omega, .inl fun _ _ _ => rfl⟩⟩
  refine h0.put ⟨Int.le_refl _, by show (0 : Int) ≤ 255; omega, .inr ?_⟩
  show (1 : Int) ≤ 1 ∧ (1 : Int) ≤ 4 ∧ (1 : Int) ≤ 1 + 1 ∧ (1 : Int) + 1 ≤ 20 ∧ (20 : Int) ≤ 20 ∧ (0 : Int) ≤ 5 ∧ (5 : Int) ≤ 5 ∧ (0 : Int) ≤ 1 ∧ (1 : Int) ≤ 1 ∧ (0 : Int) ≤ 0 ∧ (0 : Int) ≤ 9 ∧ (0 : Int) ≤ 0 ∧ (0 : Int) ≤ 9
  omega

theorem Ft.first_born (kc : Nat) : Ft.Born (En.put (fun _ _ => 0) 1 (Gd.folk 0 kc 1)) := fun k _ h0 => by
  by_cases e : k = 1
  · subst e
    rw [En.put_same]
    exact ⟨rfl, rfl, rfl⟩
  · rw [En.put_other e] at h0
    exact absurd rfl h0

/-- Beside the hero there is a cell where nobody stands. -/
theorem Ft.first_room {c : Nat → Int} {kc : Nat} (hF : Nv.Floor c) : ∃ q, q < 384 ∧ Gr.walkB (c q) = true ∧ En.first (En.atQ (En.put (fun _ _ => 0) 1 (Gd.folk 0 kc 1)) ((q : Int) % 24) ((q : Int) / 24)) 32 < 0 := by
  obtain ⟨u, v, hu, hv, h3, h4⟩ := hF.stairs
  have huv : u ≠ v := by
    rintro rfl
    have a := (h3 u).2 rfl
    have b := (h4 u).2 rfl
    omega
  have hno : ∀ q : Nat, q < 384 → q ≠ kc → En.first (En.atQ (En.put (fun _ _ => 0) 1 (Gd.folk 0 kc 1)) ((q : Int) % 24) ((q : Int) / 24)) 32 < 0 := fun q hq hne => by
    rw [En.first_none fun j _ => ?_]
    · omega
    · by_cases e : j = 1
      · subst e
        simp only [En.atQ, En.put_same]
        have : ¬ ((kc : Int) % 24 = (q : Int) % 24 ∧ (kc : Int) / 24 = (q : Int) / 24) := by omega
        show (!(decide ((1 : Int) = 0)) && (decide ((kc : Int) % 24 = (q : Int) % 24) && decide ((kc : Int) / 24 = (q : Int) / 24))) = false
        by_cases h1 : (kc : Int) % 24 = (q : Int) % 24
        · have h2 : ¬ (kc : Int) / 24 = (q : Int) / 24 := fun h => this ⟨h1, h⟩
          simp [h2]
        · simp [h1]
      · simp [En.atQ, En.put_other e]
  by_cases e : u = kc
  · exact ⟨v, hv, by rw [(h4 v).2 rfl]; rfl, hno v hv (by omega)⟩
  · exact ⟨u, hu, by rw [(h3 u).2 rfl]; rfl, hno u hu e⟩

set_option maxRecDepth 8000 in
set_option maxHeartbeats 12800000 in
theorem crowd_any (seed floor frame : Int) (aK : Option Addr) (lenK capK : Nat) (f : Nat → Int) (aL : Option Addr) (nL cL : Nat) (M : Nat → Nat → Int) (w : World) (hK : NumArg w aK lenK f) (hM : ItArg w aL nL cL M) :
    Calls Try.prog 9 #[.int .i64 seed, .int .i64 floor, .slice aK lenK capK, .slice aL nL cL, .int .i64 frame] w fun e w' => ∃ (c s g : Nat → Int) (E I : Nat → Nat → Int), Ft.Fit c E I ∧ Ft.Born E ∧ 0 ≤ Gd.hero E 0 ∧ (0 < lenK → f 0 % 4 = 1 → Ft.Has E 2) ∧ Gd.Worlds w s g c E I e w' := by
  have hm6 := hK.most
  unfold maxLen at hm6
  have hN := hide hK
  have hItw := hide ((hM.on (World.grownBy_alloc w (.cells #[.int .i64 0, .int .i64 0, .int .i64 0, .int .i64 0, .slice none 0 0, .slice none 0 0, .slice none 0 0, .int .i64 0, .int .i64 0, .int .i64 0, .int .i64 0] 29) none)).some (min nL 20) (by omega) (by omega))
  have hr0 := hide (Arr.lit (heap_alloc_new w (.cells #[.int .i64 0, .int .i64 0, .int .i64 0, .int .i64 0, .slice none 0 0, .slice none 0 0, .slice none 0 0, .int .i64 0, .int .i64 0, .int .i64 0, .int .i64 0] 29))).lie
  have hg0 := hide (World.grownBy_alloc w (.cells #[.int .i64 0, .int .i64 0, .int .i64 0, .int .i64 0, .slice none 0 0, .slice none 0 0, .slice none 0 0, .int .i64 0, .int .i64 0, .int .i64 0, .int .i64 0] 29) none)
  have hs0 : Hid ((w.alloc (.cells #[.int .i64 0, .int .i64 0, .int .i64 0, .int .i64 0, .slice none 0 0, .slice none 0 0, .slice none 0 0, .int .i64 0, .int .i64 0, .int .i64 0, .int .i64 0] 29)).heap.size = w.heap.size + 1) := by
    show _ = _
    simp
  obtain ⟨W, hWb, cW⟩ : ∃ W : Int → Int → Int, Hid (∀ a n, 0 < n → 0 ≤ W a n ∧ W a n < n) ∧ Hid (∀ a n wq, 0 < n → n ≤ 1048576 → Calls Try.prog 31 #[.int .i64 a, .int .i64 n] wq fun e w' => e = .returned (.int .i64 (W a n)) ∧ w' = wq) ∧ Hid (∀ a, W a 4 = a % 4) := ⟨fun a n => a % n, fun a n hn => ⟨Int.emod_nonneg _ (by omega), Int.emod_lt_of_pos _ hn⟩, fun a n wq h1 h2 => within8_any a n wq h1 (by omega), fun _ => rfl⟩
  obtain ⟨cW, hW4⟩ := cW
  have cX : Hid (∀ a n wq, 0 < n → n ≤ 1048576 → Calls Try.prog 31 #[.int .i64 a, .int .i64 n] wq fun e w' => ∃ m : Int, 0 ≤ m ∧ m < n ∧ e = .returned (.int .i64 m) ∧ w' = wq) := fun a n wq h1 h2 => (unhide cW a n wq h1 h2).mono fun e w' ⟨he, hw⟩ => ⟨_, (unhide hWb a n h1).1, (unhide hWb a n h1).2, he, hw⟩
  clear hK hM
  go_enter Try.func9, Try.ntmps9
  go_wp2_with fail
  refine (world_any seed floor 0 1 50 aL nL cL M _ (unhide hItw)).mono ?_
  rintro e wa ⟨c, kc, hF, hkc, hkw, -, I, ⟨gC, gE, gI, cC, cE, cI, rfl, hcap, l1, l2, l3, n1, n2, n3, hL, hg⟩, hOk, -, -⟩
  have hfit : Hid (Ft.Fit c (En.put (fun _ _ => 0) 1 (Gd.folk 0 kc 1)) I) := Ft.first_fit hF hOk
  have hborn : Hid (Ft.Born (En.put (fun _ _ => 0) 1 (Gd.folk 0 kc 1))) := Ft.first_born kc
  have hroom := hide (Ft.first_room (kc := kc) hF)
  have hone : Hid (En.put (fun _ _ => 0) 1 (Gd.folk 0 kc 1) 1 0 = 1 ∧ En.put (fun _ _ => 0) 1 (Gd.folk 0 kc 1) 1 2 = 0) := ⟨rfl, rfl⟩
  have hcc : Hid (∀ i, 0 ≤ c i ∧ c i ≤ 255) := (unhide hfit).cells
  have hz0 : Hid (En.put (fun _ _ => 0) 1 (Gd.folk 0 kc 1) 0 0 = 0) := rfl
  obtain ⟨E0, hE0⟩ : ∃ E0, En.put (fun _ _ => 0) 1 (Gd.folk 0 kc 1) = E0 := ⟨_, rfl⟩
  have hL2 : Gd.Lists wa gC gE gI c E0 I := by rw [← hE0]; exact hL
  rw [hE0] at hfit hborn hroom hone hz0
  obtain ⟨s, hs⟩ : ∃ s, Gd.head seed (1 + floor % 3) = s := ⟨_, rfl⟩
  obtain ⟨g, hge⟩ : ∃ g, Gd.give (fun _ => 0) ((0 : Int) % 4).toNat ((50 : Int) % 1000) = g := ⟨_, rfl⟩
  rw [hs, hge]
  have hW := hide (Gd.law_new (s := s) (g := g) (cC := cC) (cI := cI) (unhide hg0) hcap l1 l2 l3 n1 n2 n3 hL2 hg)
  have lC : Hid (w.heap.size ≤ gC) := (show w.heap.size ≤ gC by have := unhide hs0; omega)
  have hR := hide ((unhide hr0).on (grown_trans hg (World.grownBy_alloc wa (.cells #[.int .i64 (s 0), .int .i64 (s 1), .int .i64 (s 2), .int .i64 (s 3), .slice (some ⟨gC, 0, none⟩) 384 cC, .slice (some ⟨gE, 0, none⟩) 32 cE, .slice (some ⟨gI, 0, none⟩) 40 cI, .int .i64 (g 0), .int .i64 (g 1), .int .i64 (g 2), .int .i64 (g 3)] 29) none)))
  have hRT : Hid (wa.heap.size ≠ w.heap.size) := (show wa.heap.size ≠ w.heap.size by have := unhide hs0; have := hg.size; omega)
  clear hcap l1 l2 l3 n1 n2 n3 hL hL2 hg hOk hF hkc hkw hE0 hs hge hItw hg0 hs0 hr0
  unfold Gd.world at hW ⊢
  go_upto_region 2 with fail
  obtain ⟨T, hT⟩ : ∃ T, wa.heap.size = T := ⟨_, rfl⟩
  rw [hT] at hW hRT ⊢
  generalize wa.alloc (.cells #[.int .i64 (s 0), .int .i64 (s 1), .int .i64 (s 2), .int .i64 (s 3), .slice (some ⟨gC, 0, none⟩) 384 cC, .slice (some ⟨gE, 0, none⟩) 32 cE, .slice (some ⟨gI, 0, none⟩) 40 cI, .int .i64 (g 0), .int .i64 (g 1), .int .i64 (g 2), .int .i64 (g 3)] 29) = wb at hW hR ⊢
  clear hT
  obtain ⟨R, hRe⟩ : ∃ R, w.heap.size = R := ⟨_, rfl⟩
  rw [hRe] at hR hRT ⊢
  have lR : Hid (w.heap.size ≤ R) := (show w.heap.size ≤ R by omega)
  clear hRe
  have b1 := (unhide hW).eleven.2.1
  have fT := (unhide hW).hold.box.free
  have hfr := unhide hWb frame 1048576 (by omega)
  go_wp2_with fail
  refine (unhide cW _ _ _ (by decide) (by decide)).mono ?_
  rintro e wy ⟨rfl, hy⟩
  subst wy
  obtain ⟨fr, hfe⟩ : ∃ fr, W frame 1048576 = fr := ⟨_, rfl⟩
  rw [hfe]
  have hW1 := hide ((unhide hW).tick fr)
  have hR1 := hide ((unhide hR).other (unhide hRT) 1 (.int .i64 fr))
  obtain ⟨s2, hs2⟩ : ∃ s2, Ft.tick s fr = s2 := ⟨_, rfl⟩
  rw [hs2] at hW1
  clear hfe hfr hs2
  go_upto_region 3 with fail
  generalize wb.setCell ⟨T, 1, none⟩ (.int .i64 fr) = wc at hW1 hR1 ⊢
  clear b1 fT hW hR
  go_upto_block 0 with fail
  go_cut [] from 12 (fun wx => ∃ (E : Nat → Nat → Int) (gE cE : Nat), Hid (Ft.Fit c E I) ∧ Hid (Ft.Born E) ∧ Hid (E 1 0 = 1 ∧ E 1 2 = 0) ∧ Hid (0 < lenK → f 0 % 4 = 1 → Ft.Has E 2) ∧ Hid (Gd.Law w wx T gC gE gI cC cE cI s2 g c E I) ∧ Hid (Lie wx R 29 11 (fun j => #[.int .i64 0, .int .i64 0, .int .i64 0, .int .i64 0, .slice none 0 0, .slice none 0 0, .slice none 0 0, .int .i64 0, .int .i64 0, .int .i64 0, Value.int .i64 0][j]?.getD undef)))
  case first =>
    go_wp2_with fail
    go_loopw [12, 13] (fun va vi wr => ∃ (a i : Nat) (E : Nat → Nat → Int) (gE cE : Nat), i ≤ lenK ∧ i ≤ 12 ∧ a ≤ 400 ∧ va = .int .i64 (a : Int) ∧ vi = .int .i64 (i : Int) ∧ Hid (Ft.Fit c E I) ∧ Hid (Ft.Born E) ∧ Hid (E 1 0 = 1 ∧ E 1 2 = 0) ∧ Hid ((i = 0 → a = 0 ∧ E = E0) ∧ (0 < i → f 0 % 4 = 1 → Ft.Has E 2)) ∧ Hid (Gd.Law w wr T gC gE gI cC cE cI s2 g c E I) ∧ Hid (Lie wr R 29 11 (fun j => #[.int .i64 0, .int .i64 0, .int .i64 0, .int .i64 0, .slice none 0 0, .slice none 0 0, .slice none 0 0, .int .i64 0, .int .i64 0, .int .i64 0, Value.int .i64 0][j]?.getD undef))) (fun _ vi _ => 30 - (intOf vi).toNat)
    case atStart => exact ⟨0, 0, E0, gE, cE, by omega, by omega, by omega, rfl, rfl, hfit, hborn, hone, ⟨fun _ => ⟨rfl, rfl⟩, fun h => by omega⟩, hW1, hR1⟩
    case round =>
      clear hW1 hR1 hfit hborn hone
      obtain ⟨a, i, E, gE, cE, hi, hi12, ha, rfl, rfl, hFit, hBorn, hOne, hSt, hW, hR⟩ := hrel
      by_cases hlt : i < lenK ∧ i < 12
      · have hlt' : (i : Int) < (lenK : Int) := by omega
        have hlt2 : (i : Int) < 12 := by omega
        have HL := hide hlt
        clear hi hi12
        obtain ⟨b, o, rfl, hbw, hcw⟩ := (unhide hN).at hlt.1
        have hbl : b < wr.heap.size := Nat.lt_of_lt_of_le hbw (unhide hW).grown.size
        have hcell := (grown_cell (unhide hW).grown b (o + i) hbw (by simp)).trans hcw
        have hbT : Hid (T ≠ b) := (show T ≠ b by have := (unhide hW).lT; omega)
        clear hbw hcw
        have hcl : Hid (∀ x, wr.grownBy x none → x.cell? ⟨b, o + i, none⟩ = some (.int .i64 (f i))) := fun x hx => (grown_cell hx b _ hbl (by simp)).trans hcell
        obtain ⟨v, hv⟩ : ∃ v, f i = v := ⟨_, rfl⟩
        have hv0 : Hid (i = 0 → f 0 = v) := fun h => by rw [← hv, h]
        rw [hv] at hcl hcell
        clear hlt hv
        obtain ⟨p, hp, hpw, hpf⟩ := unhide hroom
        have hp' := hide (show p < 384 ∧ Gr.walkB (c p) = true ∧ En.first (En.atQ E0 ((p : Int) % 24) ((p : Int) / 24)) 32 < 0 from ⟨hp, hpw, hpf⟩)
        clear hp hpw hpf
        go_upto_block 2 with fail
        go_cut [12] from 35 to 58 (fun va wx => ∃ q : Nat, q ≤ 400 ∧ va = .int .i64 (q : Int) ∧ wx = wr ∧ Hid (i = 0 → q < 384))
        case first =>
          have b4 := (unhide hW).eleven.2.2.2.2.1
          have b5 := (unhide hW).eleven.2.2.2.2.2.1
          go_wp2_with fail
          go_loop [12] (fun va => ∃ q : Nat, q ≤ 400 ∧ va = .int .i64 (q : Int) ∧ Hid (i = 0 → q ≤ p)) (fun va => 500 - (intOf va).toNat)
          case atStart => exact ⟨a, ha, rfl, fun h => by rw [((unhide hSt).1 h).1]; omega⟩
          case round =>
            obtain ⟨q, hq, rfl, hqp⟩ := hrel
            by_cases hq4 : q < 384
            · have hq4' : (q : Int) < 384 := by omega
              have HQ := hide hq4
              have u0 : wr.cell? ⟨gC, q, none⟩ = some (.int .u8 (c q)) := (unhide hW).hold.lists.cells.cell hq4
              have c0 := (unhide hcc q).1
              have c9 := (unhide hcc q).2
              have cw := hide (fun wx => refWalk_any (c q) wx)
              have ca := hide (fun wx (hx : Own wx gE 32 E) => entRefAt_same gE 32 cE E ((q : Int) % 24) ((q : Int) / 24) wx hx.ents)
              have hpq : Hid (i = 0 → q = p → Gr.walkB (c q) = true ∧ En.first (En.atQ E ((q : Int) % 24) ((q : Int) / 24)) 32 < 0) := fun h e => by
                rw [e, ((unhide hSt).1 h).2]
                exact (unhide hp').2
              obtain ⟨wk, hwk⟩ : ∃ b, Gr.walkB (c q) = b := ⟨_, rfl⟩
              obtain ⟨z, hz⟩ : ∃ z, En.first (En.atQ E ((q : Int) % 24) ((q : Int) / 24)) 32 = z := ⟨_, rfl⟩
              rw [hwk] at cw hpq
              rw [hz] at ca hpq
              clear hwk hz hq4 hq
              go_wp2_with fail
              refine (unhide cw _).mono ?_
              rintro e wy ⟨rfl, hy⟩
              subst wy
              cases wk
              · go_wp2
                go_round
                case rel => exact ⟨q + 1, by have := unhide HQ; omega, by go_num, fun h => by
                  have h1 := unhide hqp h
                  by_cases e : q = p
                  · have := (unhide hpq h e).1
                    simp at this
                  · omega⟩
                case measure => simp [intOf]; have := unhide HQ; omega
              · go_wp2_with fail
                refine (unhide ca _ (unhide hW).hold.lists.own).mono ?_
                rintro e wy ⟨rfl, hy⟩
                subst wy
                by_cases hz0 : z < 0
                · go_wp2_with fail
                  go_meet
                  exact ⟨q, by have := unhide HQ; omega, rfl, rfl, fun _ => unhide HQ⟩
                · go_wp2
                  go_round
                  case rel => exact ⟨q + 1, by have := unhide HQ; omega, by go_num, fun h => by
                    have h1 := unhide hqp h
                    by_cases e : q = p
                    · have := (unhide hpq h e).2
                      omega
                    · omega⟩
                  case measure => simp [intOf]; have := unhide HQ; omega
            · have hq4' : ¬ (q : Int) < 384 := by omega
              have hpl := (unhide hp').1
              go_wp2_with fail
              go_meet
              exact ⟨q, hq, rfl, rfl, fun h => by have := unhide hqp h; omega⟩
        case rest =>
          obtain ⟨q, hq, rfl, hwe, hq0⟩ := hcut
          subst hwe
          clear hp' ha
          by_cases hq4 : q < 384
          · have hq4' : (q : Int) < 384 := by omega
            have hq4n : ¬ 384 ≤ (q : Int) := by omega
            have HQ := hide hq4
            have hw4 := unhide hWb v 4 (by omega)
            have hw4v := hide (unhide hW4 v)
            go_wp2_with fail
            refine (unhide cW _ _ _ (by decide) (by decide)).mono ?_
            rintro e wy ⟨rfl, hy⟩
            subst wy
            obtain ⟨kd, hkd⟩ : ∃ kd, 1 + W v 4 = kd := ⟨_, rfl⟩
            have kd1 : 1 ≤ kd := by omega
            have kd4 : kd ≤ 4 := by omega
            have hkv : Hid (i = 0 → kd = 1 + f 0 % 4) := fun h => by rw [unhide hv0 h, ← hkd, unhide hw4v]
            have cst := hide (entRefStats_any kd wc)
            obtain ⟨st, hst⟩ : ∃ st, En.stats kd = st := ⟨_, rfl⟩
            have hsf := En.stats_fit kd1 kd4
            rw [hst] at hsf cst
            have hst' := hide hst
            obtain ⟨w40, w44⟩ := hw4
            have HSF := hide hsf
            clear hw4v hst hq4 hq hsf
            unfold En.cells at cst
            go_wp2_with fail
            refine (unhide cst).mono ?_
            rintro e w1 ⟨rfl, hg1⟩
            clear hkd w40 w44
            have hQ := hide (Lie.born w1 st 36)
            have hg2 := hide (grown_trans hg1 (World.grownBy_alloc w1 (.cells (En.cells st) 36) none))
            have hoff : Hid (Ft.Off w w1.heap.size T R gC gE gI) := by
              have q1 := ((unhide hW).on hg1).hold.box.lt
              have q2 := ((unhide hR).on hg1).lt
              have q3 := ((unhide hW).on hg1).hold.lists.cells.lt
              have q4 := ((unhide hW).on hg1).hold.lists.ents.lt
              have q5 := ((unhide hW).on hg1).hold.lists.items.lt
              have q6 := (unhide hW).grown.size
              have q7 := hg1.size
              exact ⟨by omega, by omega, by omega, by omega, by omega, by omega⟩
            have hW1 := hide ((unhide hW).on (unhide hg2))
            have hR1 := hide ((unhide hR).on (unhide hg2))
            have hcl1 : Hid (∀ x, (w1.alloc (.cells (En.cells st) 36)).grownBy x none → x.cell? ⟨b, o + i, none⟩ = some (.int .i64 v)) := fun x hx => unhide hcl x (grown_trans (unhide hg2) hx)
            have hbQ : Hid (b < w1.heap.size) := Nat.lt_of_lt_of_le hbl hg1.size
            clear hg1 cst
            unfold En.cells at hQ hg2 hW1 hR1 hcl1
            go_upto_region 11 with fail
            obtain ⟨Q, hQe⟩ : ∃ Q, w1.heap.size = Q := ⟨_, rfl⟩
            rw [hQe] at hQ hoff hbQ ⊢
            generalize w1.alloc (.cells #[.int .i64 (st 0), .int .i64 (st 1), .int .i64 (st 2), .int .i64 (st 3), .int .i64 (st 4), .int .i64 (st 5), .int .i64 (st 6), .int .i64 (st 7), .int .i64 (st 8), .int .i64 (st 9), .int .i64 (st 10)] 36) = wd at hQ hg2 hW1 hR1 hcl1 ⊢
            clear hQe hcell hcl hbl hg2
            have hnb : Q ≠ b := by have := unhide hbQ; omega
            have hbn : b ≠ Q := hnb.symm
            have z0 := (unhide hQ).ent.1
            rw [(unhide HSF).1] at z0
            obtain ⟨r1, hr1⟩ : ∃ r : Bool, (kd == 1) = r := ⟨_, rfl⟩
            go_upto_if 70 with fail
            go_cut [] from 70 to 84 (fun wx => ∃ sx : Int, Hid (Gd.Law w wx T gC gE gI cC cE cI s2 g c E I) ∧ Hid (Lie wx R 29 11 (fun j => #[.int .i64 0, .int .i64 0, .int .i64 0, .int .i64 0, .slice none 0 0, .slice none 0 0, .slice none 0 0, .int .i64 0, .int .i64 0, .int .i64 0, Value.int .i64 0][j]?.getD undef)) ∧ Hid (Lie wx Q 36 11 (Ints (En.upd st 2 sx))) ∧ Hid (∀ x, wx.grownBy x none → x.cell? ⟨b, o + i, none⟩ = some (.int .i64 v)))
            case first =>
              cases r1
              rotate_left
              · have hk1 : kd = 1 := by simpa using hr1
                have hnot : Hid (i = 0 → f 0 % 4 ≠ 1) := fun h e => by have := unhide hkv h; omega
                have hcell := unhide hcl1 wd (World.grownBy.refl _ _)
                have z2 := (unhide hQ).ent.2.2.1
                have zf := (unhide hQ).free
                clear hk1
                go_wp2_with fail
                refine (unhide cX _ _ _ (by decide) (by decide)).mono ?_
                rintro e wy ⟨m, m0, m9, rfl, hy⟩
                subst wy
                have hW2 := hide ((unhide hW1).off (unhide hoff) 2 (.int .i64 (1 + m)))
                have hR2 := hide ((unhide hR1).other (unhide hoff).nR 2 (.int .i64 (1 + m)))
                have hQ2 := hide ((unhide hQ).upd 2 (1 + m))
                have hcl2 : Hid (∀ x, (wd.setCell ⟨Q, 2, none⟩ (.int .i64 (1 + m))).grownBy x none → x.cell? ⟨b, o + i, none⟩ = some (.int .i64 v)) := fun x hx => (grown_cell hx b _ (by have := unhide hbQ; have := (unhide hQ2).lt; omega) (by simp)).trans ((grown_cell (grown_set0 wd Q 2 (.int .i64 (1 + m))) b _ (by have := unhide hbQ; have := (unhide hQ).lt; omega) (by simpa using hnb)).trans (unhide hcl1 wd (World.grownBy.refl _ _)))
                go_upto_region 13 with fail
                generalize wd.setCell ⟨Q, 2, none⟩ (.int .i64 (1 + m)) = we at hW2 hR2 hQ2 hcl2 ⊢
                clear hcell z2 zf z0 hW1 hR1
                have y2 := (unhide hQ2).ent.2.2.1
                rw [En.upd_same] at y2
                have b5 := (unhide hW2).eleven.2.2.2.2.2.1
                have ch := refHero7_any gE cE E (1 + m) we (unhide hW2).hold.lists.own
                obtain ⟨hh, hhe⟩ : ∃ hh, Gd.hero E (1 + m) = hh := ⟨_, rfl⟩
                rw [hhe] at ch
                have ch' := hide ch
                clear ch hhe
                go_wp2_with fail
                refine (unhide ch').mono ?_
                rintro e wf ⟨rfl, hg⟩
                have hW3 := hide ((unhide hW2).on hg)
                have hR3 := hide ((unhide hR2).on hg)
                have hQ3 := hide ((unhide hQ2).on hg)
                have hcl3 : Hid (∀ x, wf.grownBy x none → x.cell? ⟨b, o + i, none⟩ = some (.int .i64 v)) := fun x hx => unhide hcl2 x (grown_trans hg hx)
                clear hg ch' y2 b5 hW2 hR2
                by_cases hn : hh < 0
                · go_wp2_with fail
                  go_meet
                  exact ⟨1 + m, hW3, hR3, hQ3, hcl3⟩
                · go_wp2
                  go_roundw
                  case rel => exact ⟨q, i + 1, E, gE, cE, by have := unhide HL; omega, by have := unhide HL; omega, by have := unhide HQ; omega, rfl, by go_num, hFit, hBorn, hOne, ⟨fun h => by omega, fun _ h1 => by
                    by_cases e : i = 0
                    · exact absurd h1 (unhide hnot e)
                    · exact (unhide hSt).2 (by omega) h1⟩, hW3, hR3⟩
                  case measure => simp [intOf]; have := unhide HL; omega
              · have hQ2 : Hid (Lie wd Q 36 11 (Ints (En.upd st 2 0))) := (unhide hQ).congr fun j _ => by
                  show Value.int .i64 (st j) = .int .i64 (if j = 2 then 0 else st j)
                  split
                  · rename_i e
                    rw [e, (unhide HSF).2.2.1]
                  · rfl
                go_wp2_with fail
                go_meet
                exact ⟨0, hW1, hR1, hQ2, hcl1⟩
            case rest =>
              clear hW1 hR1 hQ hcl1 z0 hr1
              obtain ⟨sx, hW2, hR2, hQ2, hcl2⟩ := hcut
              have f6 : 4 ≤ st 6 := (unhide HSF).2.2.2.2.2.2.1
              have f6' : st 6 ≤ 20 := (unhide HSF).2.2.2.2.2.2.2.1
              go_upto_region 14 with fail
              go_cut [] from 85 to 100 (fun wx => ∃ e : Nat → Int, Hid (Ft.Mon kd e) ∧ Hid (Gd.Law w wx T gC gE gI cC cE cI s2 g c E I) ∧ Hid (Lie wx R 29 11 (fun j => #[.int .i64 0, .int .i64 0, .int .i64 0, .int .i64 0, .slice none 0 0, .slice none 0 0, .slice none 0 0, .int .i64 0, .int .i64 0, .int .i64 0, Value.int .i64 0][j]?.getD undef)) ∧ Hid (Lie wx Q 36 11 (Ints e)) ∧ Hid (wc.grownBy wx (some Q)))
              case first =>
                have hcell := unhide hcl2 wc (World.grownBy.refl _ _)
                have z6 : wc.cell? ⟨Q, 6, none⟩ = some (.int .i64 (st 6)) := by
                  have := (unhide hQ2).ent.2.2.2.2.2.2.1
                  rwa [En.upd_other (by omega)] at this
                have z3 := (unhide hQ2).ent.2.2.2.1
                have z4 := (unhide hQ2).ent.2.2.2.2.1
                have z5 := (unhide hQ2).ent.2.2.2.2.2.1
                have zf := (unhide hQ2).free
                have t1 : (q : Int).tmod 24 = (q : Int) % 24 := Int.tmod_eq_emod_of_nonneg (by omega)
                have t2 : IntKind.i64.wrap ((q : Int).tdiv 24) = (q : Int) / 24 := by
                  rw [Int.tdiv_eq_ediv_of_nonneg (by omega), IntKind.wrap_i64]
                  omega
                have hmk : Hid (∀ X Y m, 0 ≤ m → m < st 6 → Ft.Mon kd (En.upd (En.upd (En.upd (En.upd st 2 sx) 3 X) 4 Y) 5 (1 + m))) := fun X Y m h1 h2 => Ft.mon_of (unhide hst') kd1 kd4 (by omega) (by omega)
                have hput : Hid (∀ X Y m, Gd.Law w (((wc.setCell ⟨Q, 3, none⟩ (.int .i64 X)).setCell ⟨Q, 4, none⟩ (.int .i64 Y)).setCell ⟨Q, 5, none⟩ (.int .i64 (1 + m))) T gC gE gI cC cE cI s2 g c E I ∧ Lie (((wc.setCell ⟨Q, 3, none⟩ (.int .i64 X)).setCell ⟨Q, 4, none⟩ (.int .i64 Y)).setCell ⟨Q, 5, none⟩ (.int .i64 (1 + m))) R 29 11 (fun j => #[.int .i64 0, .int .i64 0, .int .i64 0, .int .i64 0, .slice none 0 0, .slice none 0 0, .slice none 0 0, .int .i64 0, .int .i64 0, .int .i64 0, Value.int .i64 0][j]?.getD undef) ∧ Lie (((wc.setCell ⟨Q, 3, none⟩ (.int .i64 X)).setCell ⟨Q, 4, none⟩ (.int .i64 Y)).setCell ⟨Q, 5, none⟩ (.int .i64 (1 + m))) Q 36 11 (Ints (En.upd (En.upd (En.upd (En.upd st 2 sx) 3 X) 4 Y) 5 (1 + m))) ∧ wc.grownBy (((wc.setCell ⟨Q, 3, none⟩ (.int .i64 X)).setCell ⟨Q, 4, none⟩ (.int .i64 Y)).setCell ⟨Q, 5, none⟩ (.int .i64 (1 + m))) (some Q)) := fun X Y m => ⟨(((unhide hW2).off (unhide hoff) 3 _).off (unhide hoff) 4 _).off (unhide hoff) 5 _, (((unhide hR2).other (unhide hoff).nR 3 _).other (unhide hoff).nR 4 _).other (unhide hoff).nR 5 _, (((unhide hQ2).upd 3 X).upd 4 Y).upd 5 (1 + m), grown_set (grown_set (grown_set (World.grownBy.refl _ _) _ _) _ _) _ _⟩
                go_region_held3 (fun x => x.cell? ⟨b, o + i, none⟩ = some (.int .i64 v) ∧ x.cell? ⟨Q, 6, none⟩ = some (.int .i64 (st 6))) (simp [*, World.cell?_setCell_far, World.cell?_setCell_other]) (first | (go_at_call 31; refine (unhide cX _ _ _ (by omega) (by omega)).mono ?_; rintro e wy ⟨m, m0, m9, rfl, hy⟩; subst wy; have hv1 : IntKind.i64.wrap (1 + m) = 1 + m := (by rw [IntKind.wrap_i64]; omega)))
                all_goals
                  go_wp2_with fail
                  go_meet
                  exact ⟨_, unhide hmk _ _ m m0 m9, (unhide hput _ _ m).1.on (grown_drew1 (World.grownBy.refl _ _)), (unhide hput _ _ m).2.1.on (grown_drew1 (World.grownBy.refl _ _)), (unhide hput _ _ m).2.2.1.on (grown_drew1 (World.grownBy.refl _ _)), grown_none (unhide hput _ _ m).2.2.2 (grown_drew1 (World.grownBy.refl _ _))⟩
              case rest =>
                obtain ⟨em, hMon, hW3, hR3, hQ3, hgQ⟩ := hcut
                have hb3 : Hid (b < wc.heap.size) := by have h1 := unhide hbQ; have h2 := (unhide hQ3).lt; exact (show b < wc.heap.size by omega)
                have hcl3 : Hid (wc.cell? ⟨b, o + i, none⟩ = some (.int .i64 v)) := by
                  show _ = _
                  rw [grown_cell (unhide hgQ) b _ (by have h1 := unhide hbQ; have h2 := (unhide hQ2).lt; omega) (by simpa using hnb)]
                  exact unhide hcl2 _ (World.grownBy.refl _ _)
                clear hQ2 hW2 hR2 hcl2 hgQ f6 f6'
                go_upto_region 15 with fail
                go_cut [] from 101 to 114 (fun wx => ∃ e : Nat → Int, Hid (Ft.Mon kd e) ∧ Hid (Gd.Law w wx T gC gE gI cC cE cI s2 g c E I) ∧ Hid (Lie wx R 29 11 (fun j => #[.int .i64 0, .int .i64 0, .int .i64 0, .int .i64 0, .slice none 0 0, .slice none 0 0, .slice none 0 0, .int .i64 0, .int .i64 0, .int .i64 0, Value.int .i64 0][j]?.getD undef)) ∧ Hid (Lie wx Q 36 11 (Ints e)) ∧ Hid (∀ x, wx.grownBy x none → x.cell? ⟨b, o + i, none⟩ = some (.int .i64 v)))
                case first =>
                  have hcell := unhide hcl3
                  have z9 := (unhide hQ3).ent.2.2.2.2.2.2.2.2.2.1
                  have z10 := (unhide hQ3).ent.2.2.2.2.2.2.2.2.2.2
                  have zf := (unhide hQ3).free
                  have hput : Hid (∀ p r, 0 ≤ p → p < 10 → 0 ≤ r → r < 10 → ∃ e : Nat → Int, Hid (Ft.Mon kd e) ∧ Hid (Gd.Law w ((wc.setCell ⟨Q, 9, none⟩ (.int .i64 p)).setCell ⟨Q, 10, none⟩ (.int .i64 r)).drew T gC gE gI cC cE cI s2 g c E I) ∧ Hid (Lie ((wc.setCell ⟨Q, 9, none⟩ (.int .i64 p)).setCell ⟨Q, 10, none⟩ (.int .i64 r)).drew R 29 11 (fun j => #[.int .i64 0, .int .i64 0, .int .i64 0, .int .i64 0, .slice none 0 0, .slice none 0 0, .slice none 0 0, .int .i64 0, .int .i64 0, .int .i64 0, Value.int .i64 0][j]?.getD undef)) ∧ Hid (Lie ((wc.setCell ⟨Q, 9, none⟩ (.int .i64 p)).setCell ⟨Q, 10, none⟩ (.int .i64 r)).drew Q 36 11 (Ints e)) ∧ Hid (∀ x, ((wc.setCell ⟨Q, 9, none⟩ (.int .i64 p)).setCell ⟨Q, 10, none⟩ (.int .i64 r)).drew.grownBy x none → x.cell? ⟨b, o + i, none⟩ = some (.int .i64 v))) := fun p r p0 p9 r0 r9 => by
                    have hdr := grown_drew1 (World.grownBy.refl ((wc.setCell ⟨Q, 9, none⟩ (.int .i64 p)).setCell ⟨Q, 10, none⟩ (.int .i64 r)) none)
                    have hgq : wc.grownBy ((wc.setCell ⟨Q, 9, none⟩ (.int .i64 p)).setCell ⟨Q, 10, none⟩ (.int .i64 r)) (some Q) := grown_set (grown_set (World.grownBy.refl _ _) _ _) _ _
                    refine ⟨_, (unhide hMon).ails p0 (by omega) r0 (by omega), (((unhide hW3).off (unhide hoff) 9 _).off (unhide hoff) 10 _).on hdr, (((unhide hR3).other (unhide hoff).nR 9 _).other (unhide hoff).nR 10 _).on hdr, (((unhide hQ3).upd 9 p).upd 10 r).on hdr, fun x hx => ?_⟩
                    rw [grown_cell (grown_trans hdr hx) b _ (Nat.lt_of_lt_of_le (unhide hb3) hgq.size) (by simp), grown_cell hgq b _ (unhide hb3) (by simpa using hnb)]
                    exact unhide hcl3
                  go_region_held3 (fun x => x.cell? ⟨b, o + i, none⟩ = some (.int .i64 v)) (go_keep) (first | (go_at_call 31; refine (unhide cX _ _ _ (by decide) (by decide)).mono ?_; rintro e wy ⟨m, m0, m9, rfl, hy⟩; subst wy))
                  all_goals
                    go_wp2_with fail
                    go_meet
                    exact unhide hput _ _ (by assumption) (by assumption) (by assumption) (by assumption)
                case rest =>
                  clear hMon hW3 hR3 hQ3 hcl3 hb3
                  obtain ⟨en, hMon, hW3, hR3, hQ3, hcl3⟩ := hcut
                  have b5 := (unhide hW3).eleven.2.2.2.2.2.1
                  obtain ⟨c0, c1, c2, c3, c4, c5, c6, c7, c8, c9, c10⟩ := (unhide hQ3).ent
                  have csp := hide (refSpawn_fit gE cE E en wc (unhide hW3).hold.lists.own.ents (by rw [(unhide hMon).k]; exact kd1) (by rw [(unhide hMon).k]; exact kd4) (unhide hFit).gens)
                  unfold En.cells at csp
                  go_wp2_with fail
                  refine (unhide csp).mono ?_
                  rintro e' wg (⟨r, hr, hr0, jE, cap, rfl, hlo, hnc, hcm, hown, hgr⟩ | ⟨hfull, rfl, hgr⟩)
                  · have hW5 := hide ((unhide hW3).folk hnc hlo hown hgr)
                    have hR5 := hide (((unhide hR3).on hgr).other (unhide hRT) 5 (.slice (some ⟨jE, 0, none⟩) 32 cap))
                    have hF5 : Hid (Ft.Fit c (En.put E r (En.gen en ((E r 1 + 1) % 256))) I) := (unhide hFit).put ((unhide hMon).row kd1 kd4 (by omega) (by omega))
                    have hB5 : Hid (Ft.Born (En.put E r (En.gen en ((E r 1 + 1) % 256)))) := (unhide hBorn).put (by
                      show en 6 = En.stats (en 0) 6 ∧ en 7 = En.stats (en 0) 7 ∧ en 8 = En.stats (en 0) 8
                      rw [(unhide hMon).k]
                      exact ⟨(unhide hMon).m, (unhide hMon).atk, (unhide hMon).dfn⟩)
                    have h1s : En.put E r (En.gen en ((E r 1 + 1) % 256)) 1 = E 1 := Ft.stays hr0 (by rw [(unhide hOne).1]; omega)
                    have hO5 : Hid (En.put E r (En.gen en ((E r 1 + 1) % 256)) 1 0 = 1 ∧ En.put E r (En.gen en ((E r 1 + 1) % 256)) 1 2 = 0) := by
                      show _ ∧ _
                      rw [h1s]
                      exact unhide hOne
                    have hS5 : Hid ((i + 1 = 0 → q + 1 = 0 ∧ En.put E r (En.gen en ((E r 1 + 1) % 256)) = E0) ∧ (0 < i + 1 → f 0 % 4 = 1 → Ft.Has (En.put E r (En.gen en ((E r 1 + 1) % 256))) 2)) := ⟨fun h => by omega, fun _ h1 => by
                      by_cases e : i = 0
                      · refine ⟨r, hr, ?_⟩
                        rw [En.put_same]
                        show en 0 = 2
                        have := unhide hkv e
                        rw [(unhide hMon).k]
                        omega
                      · exact ((unhide hSt).2 (by omega) h1).put (by omega) hr0⟩
                    have y5 := ((unhide hW3).on hgr).eleven.2.2.2.2.2.1
                    have fT := ((unhide hW3).on hgr).hold.box.free
                    have hcl5 : Hid ((wg.setCell ⟨T, 5, none⟩ (.slice (some ⟨jE, 0, none⟩) 32 cap)).cell? ⟨b, o + i, none⟩ = some (.int .i64 v)) := by
                      show _ = _
                      rw [World.cell?_setCell_far _ _ _ _ (unhide hbT)]
                      exact unhide hcl3 wg hgr
                    obtain ⟨E5, hE5⟩ : ∃ E5, En.put E r (En.gen en ((E r 1 + 1) % 256)) = E5 := ⟨_, rfl⟩
                    rw [hE5] at hW5 hF5 hB5 hO5 hS5
                    clear hlo hnc hcm hown hgr hr0 hr h1s hE5 csp b5 c0 c1 c2 c3 c4 c5 c6 c7 c8 c9 c10 hW3 hR3 hQ3 hcl3 hMon hFit hBorn hOne
                    go_upto_region 19 with fail
                    generalize wg.setCell ⟨T, 5, none⟩ (.slice (some ⟨jE, 0, none⟩) 32 cap) = wh at hW5 hR5 hcl5 ⊢
                    clear y5 fT
                    have hcell := unhide hcl5
                    clear hcl5
                    go_wp2_with fail
                    refine (unhide cX _ _ _ (by decide) (by decide)).mono ?_
                    rintro e wy ⟨m, m0, m9, rfl, hy⟩
                    subst wy
                    obtain ⟨mn, rfl⟩ : ∃ n : Nat, m = (n : Int) := ⟨m.toNat, by omega⟩
                    clear hcell
                    go_wp2
                    go_roundw
                    case rel => exact ⟨q + 1 + mn, i + 1, E5, jE, cap, by have := unhide HL; omega, by have := unhide HL; omega, by have := unhide HQ; omega, by go_num, by go_num, hF5, hB5, hO5, ⟨fun h => by omega, (unhide hS5).2⟩, hW5, hR5⟩
                    case measure => simp [intOf]; have := unhide HL; omega
                  · have hW5 := hide ((unhide hW3).on hgr)
                    have hR5 := hide ((unhide hR3).on hgr)
                    have hcl5 := hide (unhide hcl3 wg hgr)
                    have hS5 : Hid (0 < i + 1 → f 0 % 4 = 1 → Ft.Has E 2) := fun _ h1 => by
                      by_cases e : i = 0
                      · have h0 := hfull 0 (by omega)
                        rw [((unhide hSt).1 e).2] at h0
                        exact absurd (unhide hz0) h0
                      · exact (unhide hSt).2 (by omega) h1
                    clear hfull hgr csp b5 c0 c1 c2 c3 c4 c5 c6 c7 c8 c9 c10 hW3 hR3 hQ3 hcl3 hMon
                    have hcell := unhide hcl5
                    clear hcl5
                    go_wp2_with fail
                    refine (unhide cX _ _ _ (by decide) (by decide)).mono ?_
                    rintro e wy ⟨m, m0, m9, rfl, hy⟩
                    subst wy
                    obtain ⟨mn, rfl⟩ : ∃ n : Nat, m = (n : Int) := ⟨m.toNat, by omega⟩
                    clear hcell
                    go_wp2
                    go_roundw
                    case rel => exact ⟨q + 1 + mn, i + 1, E, gE, cE, by have := unhide HL; omega, by have := unhide HL; omega, by have := unhide HQ; omega, by go_num, by go_num, hFit, hBorn, hOne, ⟨fun h => by omega, unhide hS5⟩, hW5, hR5⟩
                    case measure => simp [intOf]; have := unhide HL; omega
          · have hq4' : ¬ (q : Int) < 384 := by omega
            have hq4n : 384 ≤ (q : Int) := by omega
            have hgo : Hid (0 < lenK → f 0 % 4 = 1 → Ft.Has E 2) := fun h0 h1 => (unhide hSt).2 (by
              by_cases e : i = 0
              · exact absurd (unhide hq0 e) hq4
              · omega) h1
            clear hq4 hq
            go_wp2_with fail
            go_meet
            exact ⟨E, gE, cE, hFit, hBorn, hOne, hgo, hW, hR⟩
      · have hgo : Hid (0 < lenK → f 0 % 4 = 1 → Ft.Has E 2) := fun h0 h1 => (unhide hSt).2 (by omega) h1
        by_cases hl : i < lenK
        · have hl' : (i : Int) < (lenK : Int) := by omega
          have h20 : ¬ (i : Int) < 12 := by omega
          clear hlt hi hi12
          go_wp2_with fail
          go_meet
          exact ⟨E, gE, cE, hFit, hBorn, hOne, hgo, hW, hR⟩
        · have hl' : ¬ (i : Int) < (lenK : Int) := by omega
          clear hlt hi hi12
          go_wp2_with fail
          go_meet
          exact ⟨E, gE, cE, hFit, hBorn, hOne, hgo, hW, hR⟩
  case rest =>
    clear hW1 hR1 hfit hborn hone hroom
    obtain ⟨E, gE, cE, hFit, hBorn, hOne, hgo, hW, hR⟩ := hcut
    obtain ⟨b0, b1, b2, b3, b4, b5, b6, b7, b8, b9, b10⟩ := (unhide hW).eleven
    have fz := (unhide hR).free
    obtain ⟨z0, z1, z2, z3, z4, z5, z6, z7, z8, z9, z10⟩ := Gd.res_cells (unhide hR)
    have hfin := hide (fun vs => (unhide hW).worlds (unhide lC) (unhide lR) (unhide hR) vs)
    go_wp2
    refine bodyPost_ret (v := .agg (Gd.world s2 gC gE gI cC cE cI g)) (by simp [results, Try.results9, go_sem, Gd.world, z0, z1, z2, z3, z4, z5, z6, z7, z8, z9, z10]) rfl ?_
    exact ⟨c, s2, g, E, I, unhide hFit, unhide hBorn, Gd.hero_some (by omega) (unhide hOne).1 (unhide hOne).2, unhide hgo, unhide hfin [_, _, _, _, _, _, _, _, _, _, _]⟩

end Go.Proofs.Ytbploaihicakeaa
