/-
  What monsters and robots do, as numbers.
  The document's own Robot.
  Whom a monster sees, and what it does, as numbers.
-/
import Derived.Test.YtbploaihicakeaaPart30
import Derived.Test.YtbploaihicakeaaPart19
import Derived.Test.YtbploaihicakeaaPart20
import Derived.Test.YtbploaihicakeaaPart15
import Derived.BigQuiet
import Derived.Deep.Cut
import Derived.Deep.CutRange
import Derived.Deep.CutBlock
import Derived.Deep.RegionHeld3
import Derived.Test.YtbploaihicakeaaPart02
import Derived.Test.YtbploaihicakeaaPart28
namespace Go.Proofs.Ytbploaihicakeaa
open Go.RowKit

/-- Whoever is there stands on the floor; its most is a small number. -/
def Md.Fine (E : Nat → Nat → Int) : Prop := ∀ k, k < 32 → E k 0 ≠ 0 → 0 ≤ E k 3 ∧ E k 3 < 24 ∧ 0 ≤ E k 4 ∧ E k 4 < 16 ∧ 0 ≤ E k 6 ∧ E k 6 ≤ 20

/-- Who stands one step that way. -/
def Md.who (E : Nat → Nat → Int) (x y : Int) (d : Nat) : Int := En.first (En.atQ E (x + (Fx.way (d : Int)).1) (y + (Fx.way (d : Int)).2)) 32

/-- A monster stands one step that way. -/
def Md.foe (E : Nat → Nat → Int) (x y : Int) (d : Nat) : Bool := decide (0 ≤ Md.who E x y d) && !(decide (E (Md.who E x y d).toNat 0 = 1))

/-- What the robot of the hero in row k does. -/
def Md.robotAt (c : Nat → Int) (E I : Nat → Nat → Int) (seat : Int) (k : Nat) (v : Int) : Prop :=
  if E k 5 ≤ E k 6 / 3 ∧ 0 ≤ Gd.has I 40 seat 1 1 then v = 6
  else if Nv.wayFrom (Md.foe E (E k 3) (E k 4)) 4 1 ≠ 0 then v = Nv.wayFrom (Md.foe E (E k 3) (E k 4)) 4 1
  else if 0 ≤ Gd.find I 40 1 (E k 3) (E k 4) ∧ (I (Gd.find I 40 1 (E k 3) (E k 4)).toNat 0 = 4 ∨ 0 ≤ Gd.slot I 40 seat) then v = 5
  else if Gr.at 384 c (E k 3) (E k 4) = 4 then v = 9
  else Nv.IsToward c (fun _ => Gr.find 384 c 4) 1 E 32 (E k 3) (E k 4) v

def Md.IsRobot (c : Nat → Int) (E I : Nat → Nat → Int) (seat v : Int) : Prop :=
  if Gd.hero E seat < 0 then v = 0 else Md.robotAt c E I seat (Gd.hero E seat).toNat v

theorem Md.robotAt_one {c : Nat → Int} {E I : Nat → Nat → Int} {seat : Int} {k : Nat} {u v : Int} (h : Md.robotAt c E I seat k u) (h' : Md.robotAt c E I seat k v) : v = u := by
  unfold Md.robotAt at h h'
  by_cases h1 : E k 5 ≤ E k 6 / 3 ∧ 0 ≤ Gd.has I 40 seat 1 1
  · rw [if_pos h1] at h h'; omega
  rw [if_neg h1] at h h'
  by_cases h2 : Nv.wayFrom (Md.foe E (E k 3) (E k 4)) 4 1 ≠ 0
  · rw [if_pos h2] at h h'; omega
  rw [if_neg h2] at h h'
  by_cases h3 : 0 ≤ Gd.find I 40 1 (E k 3) (E k 4) ∧ (I (Gd.find I 40 1 (E k 3) (E k 4)).toNat 0 = 4 ∨ 0 ≤ Gd.slot I 40 seat)
  · rw [if_pos h3] at h h'; omega
  rw [if_neg h3] at h h'
  by_cases h4 : Gr.at 384 c (E k 3) (E k 4) = 4
  · rw [if_pos h4] at h h'; omega
  rw [if_neg h4] at h h'
  exact h.one h'

theorem Md.IsRobot.one {c : Nat → Int} {E I : Nat → Nat → Int} {seat u v : Int} (h : Md.IsRobot c E I seat u) (h' : Md.IsRobot c E I seat v) : v = u := by
  unfold Md.IsRobot at h h'
  by_cases h1 : Gd.hero E seat < 0
  · rw [if_pos h1] at h h'; omega
  · rw [if_neg h1] at h h'
    exact Md.robotAt_one h h'

/-- A hero's row. -/
theorem Md.hero_row {E : Nat → Nat → Int} {seat : Int} (h : ¬ Gd.hero E seat < 0) : ∃ k : Nat, k < 32 ∧ Gd.hero E seat = (k : Int) ∧ E k 0 = 1 ∧ E k 2 = seat := by
  unfold Gd.hero at h ⊢
  rcases En.first_cases (En.heroQ E seat) 32 with ⟨he, _⟩ | ⟨k, hk, he, hq, _⟩
  · omega
  · simp only [En.heroQ, Bool.and_eq_true, decide_eq_true_eq] at hq
    exact ⟨k, hk, he, hq.1, hq.2⟩

theorem Md.who_row {E : Nat → Nat → Int} {x y : Int} {d : Nat} : Md.who E x y d = -1 ∨ ∃ j : Nat, j < 32 ∧ Md.who E x y d = (j : Int) := by
  unfold Md.who
  rcases En.first_cases (En.atQ E (x + (Fx.way (d : Int)).1) (y + (Fx.way (d : Int)).2)) 32 with ⟨he, _⟩ | ⟨j, hj, he, _⟩
  · exact .inl he
  · exact .inr ⟨j, hj, he⟩

theorem Md.way_small (d : Nat) : -1 ≤ (Fx.way (d : Int)).1 ∧ (Fx.way (d : Int)).1 ≤ 1 ∧ -1 ≤ (Fx.way (d : Int)).2 ∧ (Fx.way (d : Int)).2 ≤ 1 := by
  unfold Fx.way
  split
  · simp
  · split
    · simp
    · split
      · simp
      · split <;> simp

end Go.Proofs.Ytbploaihicakeaa

namespace Go.Proofs.Ytbploaihicakeaa
open Go.RowKit

/-- A row of the entities, copied into a new block. -/
theorem Lie.copied (x : World) (e : Nat → Int) (T : TypeId) : Lie (x.alloc (.cells (En.cells e) T)) x.heap.size T 11 (Ints e) :=
  Lie.congr (m := 11) (Arr.lit (heap_alloc_new x (.cells (En.cells e) T))).lie fun j hj => by
    rcases (show j = 0 ∨ j = 1 ∨ j = 2 ∨ j = 3 ∨ j = 4 ∨ j = 5 ∨ j = 6 ∨ j = 7 ∨ j = 8 ∨ j = 9 ∨ j = 10 by omega) with rfl | rfl | rfl | rfl | rfl | rfl | rfl | rfl | rfl | rfl | rfl <;> rfl

/-- The box of a world that is only read. -/
structure Gd.Shown (w x : World) (B gC gE gI cC cE cI : Nat) (s g c : Nat → Int) (E I : Nat → Nat → Int) : Prop where
  box : Lie x B 29 11 (Gd.box s gC gE gI cC cE cI g)
  lists : Gd.Lists x gC gE gI c E I
  grown : w.grownBy x none

theorem Gd.Shown.on {w x y : World} {B gC gE gI cC cE cI : Nat} {s g c : Nat → Int} {E I : Nat → Nat → Int} (h : Gd.Shown w x B gC gE gI cC cE cI s g c E I) (hg : x.grownBy y none) : Gd.Shown w y B gC gE gI cC cE cI s g c E I :=
  ⟨h.box.on hg, h.lists.on hg, grown_trans h.grown hg⟩

/-- What a call that answers a number of which something holds gives. -/
def Md.Says (w : World) (p : Int → Prop) (e : Ending) (w' : World) : Prop := ∃ v, p v ∧ e = .returned (.int .i64 v) ∧ w.grownBy w' none

theorem Md.find_bd (f : Nat → Int) (kind : Int) : ∀ (n k : Nat), -1 ≤ Gr.findFrom f kind n k ∧ Gr.findFrom f kind n k ≤ (k : Int) + n
  | 0, k => by unfold Gr.findFrom; omega
  | n + 1, k => by
    unfold Gr.findFrom
    have := Md.find_bd f kind n (k + 1)
    split <;> omega

set_option maxRecDepth 8000 in
set_option maxHeartbeats 12800000 in
theorem refRobot_any (s g c : Nat → Int) (E I : Nat → Nat → Int) (gC gE gI cC cE cI : Nat) (seat : Int) (w : World) (hL : Gd.Lists w gC gE gI c E I) (hc : ∀ i, 0 ≤ c i ∧ c i ≤ 255) (hcE : 32 ≤ cE) (hE : Md.Fine E) :
    Calls Try.prog 14 #[.agg (Gd.world s gC gE gI cC cE cI g), .int .i64 seat] w (Md.Says w (Md.IsRobot c E I seat)) := by
  obtain ⟨w0, hw0⟩ : ∃ w0, w0 = w.alloc (.cells (Gd.world s gC gE gI cC cE cI g) 29) := ⟨_, rfl⟩
  have hg0 : w.grownBy w0 none := by rw [hw0]; exact World.grownBy_alloc _ _ _
  have hO : Hid (Gd.Shown w w0 w.heap.size gC gE gI cC cE cI s g c E I) := by
    refine ⟨?_, hL.on hg0, hg0⟩
    rw [hw0]
    exact (Arr.world (heap_alloc_new w _)).lie
  have hc' := hide hc
  have hcE' := hide hcE
  have hE' := hide hE
  have hdef : Hid (∀ v, Md.IsRobot c E I seat v ↔ if Gd.hero E seat < 0 then v = 0 else Md.robotAt c E I seat (Gd.hero E seat).toNat v) := fun v => Iff.rfl
  have ch := hide (refHero7_any gE cE E seat w0 (unhide hO).lists.own)
  have hrow := hide (@Md.hero_row E seat)
  obtain ⟨h, hh⟩ : ∃ h, Gd.hero E seat = h := ⟨_, rfl⟩
  rw [hh] at ch hdef hrow
  clear hL hc hcE hE hg0 hh
  unfold Gd.world at hw0 ⊢
  go_enter Try.func14, Try.ntmps14
  go_upto_region 1 with fail
  rw [← hw0]
  clear hw0
  obtain ⟨B, hB⟩ : ∃ B, w.heap.size = B := ⟨_, rfl⟩
  rw [hB] at hO ⊢
  clear hB
  have q5 := (unhide hO).box.eleven.2.2.2.2.2.1
  go_wp2_with fail
  refine (unhide ch).mono ?_
  rintro e w1 ⟨rfl, hg1⟩
  have hO1 := hide ((unhide hO).on hg1)
  clear q5 ch hg1 hO
  by_cases hneg : h < 0
  · have hfin : Hid (Md.Says w (Md.IsRobot c E I seat) (.returned (.int .i64 0)) w1) := ⟨0, (unhide hdef 0).2 (by rw [if_pos hneg]), rfl, (unhide hO1).grown⟩
    go_wp2
    go_ret
    exact unhide hfin
  obtain ⟨k, hk, rfl, hk0, -⟩ := unhide hrow (by omega)
  have hto : Hid (∀ v, Md.robotAt c E I seat k v → Md.IsRobot c E I seat v) := fun v hv => (unhide hdef v).2 (by
    rw [if_neg (by omega), Int.toNat_natCast]
    exact hv)
  obtain ⟨x0, x9, y0, y9, m0, m9⟩ := unhide hE' k hk (by omega)
  have hk' : (k : Int) < 32 := by omega
  have HK := hide hk
  have q5 := (unhide hO1).box.eleven.2.2.2.2.2.1
  obtain ⟨u0, u1, u2, u3, u4, u5, u6, u7, u8, u9, u10⟩ := (unhide hO1).lists.own.ents.row hk
  have hQ := hide (Lie.copied w1 (E k) 36)
  have hO2 := hide ((unhide hO1).on (World.grownBy_alloc w1 (.cells (En.cells (E k)) 36) none))
  clear hk hk0 hneg hrow hE' hdef
  unfold En.cells at hQ hO2
  go_upto_region 5 with fail
  obtain ⟨Q, hQe⟩ : ∃ Q, w1.heap.size = Q := ⟨_, rfl⟩
  rw [hQe] at hQ ⊢
  generalize w1.alloc (.cells #[.int .i64 (E k 0), .int .i64 (E k 1), .int .i64 (E k 2), .int .i64 (E k 3), .int .i64 (E k 4), .int .i64 (E k 5), .int .i64 (E k 6), .int .i64 (E k 7), .int .i64 (E k 8), .int .i64 (E k 9), .int .i64 (E k 10)] 36) = w2 at hQ hO2 ⊢
  clear hQe q5 u0 u1 u2 u3 u4 u5 u6 u7 u8 u9 u10 hO1
  have q4 := (unhide hO2).box.eleven.2.2.2.2.1
  have q5 := (unhide hO2).box.eleven.2.2.2.2.2.1
  have q6 := (unhide hO2).box.eleven.2.2.2.2.2.2.1
  have z3 : w2.cell? ⟨Q, 3, none⟩ = some (.int .i64 (E k 3)) := (unhide hQ).cell (c := 3) (by omega)
  have z4 : w2.cell? ⟨Q, 4, none⟩ = some (.int .i64 (E k 4)) := (unhide hQ).cell (c := 4) (by omega)
  have z5 : w2.cell? ⟨Q, 5, none⟩ = some (.int .i64 (E k 5)) := (unhide hQ).cell (c := 5) (by omega)
  have z6 : w2.cell? ⟨Q, 6, none⟩ = some (.int .i64 (E k 6)) := (unhide hQ).cell (c := 6) (by omega)
  have hat : Hid (∀ v, Md.robotAt c E I seat k v ↔ if E k 5 ≤ E k 6 / 3 ∧ 0 ≤ Gd.has I 40 seat 1 1 then v = 6 else if Nv.wayFrom (Md.foe E (E k 3) (E k 4)) 4 1 ≠ 0 then v = Nv.wayFrom (Md.foe E (E k 3) (E k 4)) 4 1 else if 0 ≤ Gd.find I 40 1 (E k 3) (E k 4) ∧ (I (Gd.find I 40 1 (E k 3) (E k 4)).toNat 0 = 4 ∨ 0 ≤ Gd.slot I 40 seat) then v = 5 else if Gr.at 384 c (E k 3) (E k 4) = 4 then v = 9 else Nv.IsToward c (fun _ => Gr.find 384 c 4) 1 E 32 (E k 3) (E k 4) v) := fun v => Iff.rfl
  have cP := hide (refPotion_same gI 40 cI I seat w2 (unhide hO2).lists.its)
  obtain ⟨P, hP⟩ : ∃ P, Gd.has I 40 seat 1 1 = P := ⟨_, rfl⟩
  rw [hP] at cP hat
  clear hP
  obtain ⟨p, hp⟩ : ∃ p : Bool, decide (E k 5 ≤ E k 6 / 3 ∧ 0 ≤ P) = p := ⟨_, rfl⟩
  go_cut [35] from 12 to 34 (fun va wx => va = .bool p ∧ wx = w2)
  case first =>
    have hd : (E k 6).tdiv 3 = E k 6 / 3 := Int.tdiv_eq_ediv_of_nonneg m0
    by_cases h1 : E k 5 ≤ E k 6 / 3
    · by_cases h2 : 0 ≤ P
      · obtain rfl : p = true := by rw [← hp]; simp [h1, h2]
        go_wp2_with fail
        refine (unhide cP).mono ?_
        rintro e wy ⟨rfl, hy⟩
        subst wy
        go_wp2_with fail
        go_meet
        exact ⟨rfl, rfl⟩
      · obtain rfl : p = false := by rw [← hp]; simp [h2]
        go_wp2_with fail
        refine (unhide cP).mono ?_
        rintro e wy ⟨rfl, hy⟩
        subst wy
        go_wp2_with fail
        go_meet
        exact ⟨by simp [h2], rfl⟩
    · obtain rfl : p = false := by rw [← hp]; simp [h1]
      go_wp2_with fail
      go_meet
      exact ⟨rfl, rfl⟩
  case rest =>
    obtain ⟨rfl, hwe⟩ := hcut
    subst hwe
    clear z5 z6 cP m0 m9
    cases p
    rotate_left
    · have hfin : Hid (Md.Says w (Md.IsRobot c E I seat) (.returned (.int .i64 6)) wc) := ⟨6, unhide hto 6 ((unhide hat 6).2 (by rw [if_pos (by simpa using hp)])), rfl, (unhide hO2).grown⟩
      clear hp
      go_wp2
      go_ret
      exact unhide hfin
    have hat2 : Hid (∀ v, (if Nv.wayFrom (Md.foe E (E k 3) (E k 4)) 4 1 ≠ 0 then v = Nv.wayFrom (Md.foe E (E k 3) (E k 4)) 4 1 else if 0 ≤ Gd.find I 40 1 (E k 3) (E k 4) ∧ (I (Gd.find I 40 1 (E k 3) (E k 4)).toNat 0 = 4 ∨ 0 ≤ Gd.slot I 40 seat) then v = 5 else if Gr.at 384 c (E k 3) (E k 4) = 4 then v = 9 else Nv.IsToward c (fun _ => Gr.find 384 c 4) 1 E 32 (E k 3) (E k 4) v) → Md.IsRobot c E I seat v) := fun v hv => unhide hto v ((unhide hat v).2 (by rw [if_neg (by simpa using hp)]; exact hv))
    clear hp hat hto
    obtain ⟨x, hx⟩ : ∃ x, E k 3 = x := ⟨_, rfl⟩
    obtain ⟨y, hy⟩ : ∃ y, E k 4 = y := ⟨_, rfl⟩
    rw [hx] at z3 x0 x9 hat2
    rw [hy] at z4 y0 y9 hat2
    have hQ3 : Hid (∀ z, wc.grownBy z none → z.cell? ⟨Q, 3, none⟩ = some (.int .i64 x) ∧ z.cell? ⟨Q, 4, none⟩ = some (.int .i64 y)) := fun z hz => by
      have h3 := ((unhide hQ).on hz).cell (c := 3) (by omega)
      have h4 := ((unhide hQ).on hz).cell (c := 4) (by omega)
      rw [← hx, ← hy]
      exact ⟨h3, h4⟩
    clear hx hy hQ
    go_wp2_with fail
    go_loopw [7, 8, 9, 10] (fun v7 v8 v9 v10 wr => ∃ d : Nat, 1 ≤ d ∧ d ≤ 5 ∧ v7 = .int .i64 (d : Int) ∧ wr = wc ∧ Hid (∀ j, 1 ≤ j → j < d → Md.foe E x y j = false)) (fun v7 _ _ _ _ => 10 - (intOf v7).toNat)
    case atStart => exact ⟨1, by omega, by omega, rfl, rfl, fun j h1 h2 => by omega⟩
    case round =>
      obtain ⟨d, hd1, hd5, rfl, hwe, hno⟩ := hrel
      subst hwe
      by_cases hlt : d ≤ 4
      · have hlt' : (d : Int) ≤ 4 := by omega
        have HD := hide (show 1 ≤ d ∧ d ≤ 4 from ⟨hd1, hlt⟩)
        have cw := hide (fun wq => refWay_any (d : Int) wq)
        obtain ⟨s1, s2, s3, s4⟩ := Md.way_small d
        have ca := hide (entRefAt_same gE 32 cE E (x + (Fx.way (d : Int)).1) (y + (Fx.way (d : Int)).2) wr (unhide hO2).lists.own.ents)
        have hwho := hide (@Md.who_row E x y d)
        have hfd : Hid (Md.foe E x y d = (decide (0 ≤ Md.who E x y d) && !(decide (E (Md.who E x y d).toNat 0 = 1)))) := rfl
        have hwd : Hid (Md.who E x y d = En.first (En.atQ E (x + (Fx.way (d : Int)).1) (y + (Fx.way (d : Int)).2)) 32) := rfl
        rw [← unhide hwd] at ca
        obtain ⟨dx, hdx⟩ : ∃ z, (Fx.way (d : Int)).1 = z := ⟨_, rfl⟩
        obtain ⟨dy, hdy⟩ : ∃ z, (Fx.way (d : Int)).2 = z := ⟨_, rfl⟩
        obtain ⟨h, hh⟩ : ∃ z, Md.who E x y d = z := ⟨_, rfl⟩
        rw [hdx] at s1 s2 cw ca
        rw [hdy] at s3 s4 cw ca
        rw [hh] at ca hwho hfd
        clear hdx hdy hh hwd hd1 hd5 hlt
        have w1 : IntKind.i64.wrap (x + dx) = x + dx := by rw [IntKind.wrap_i64]; omega
        have w2 : IntKind.i64.wrap (y + dy) = y + dy := by rw [IntKind.wrap_i64]; omega
        go_wp2_with fail
        refine (unhide cw _).mono ?_
        rintro e wy ⟨rfl, hy⟩
        subst wy
        go_wp2_with fail
        refine (unhide ca).mono ?_
        rintro e wy ⟨rfl, hy⟩
        subst wy
        clear ca cw
        rcases unhide hwho with rfl | ⟨j, hj, rfl⟩
        · have hf : Hid (Md.foe E x y d = false) := (show Md.foe E x y d = false by rw [unhide hfd]; rfl)
          clear hfd hwho
          go_wp2
          go_roundw
          case rel => exact ⟨d + 1, by omega, by have := unhide HD; omega, by go_num, by first | rfl | trivial, fun j h1 h2 => by
            by_cases e : j = d
            · rw [e]; exact unhide hf
            · exact unhide hno j h1 (by omega)⟩
          case measure => simp [intOf]; have := unhide HD; omega
        · have u0 := ((unhide hO2).lists.own.ents.row hj).1
          have hj' : (j : Int) < 32 := by omega
          rw [Int.toNat_natCast] at hfd
          by_cases h1 : E j 0 = 1
          · have hf : Hid (Md.foe E x y d = false) := (show Md.foe E x y d = false by rw [unhide hfd, h1]; simp)
            rw [h1] at u0
            clear hfd hwho h1 hj
            go_wp2
            go_roundw
            case rel => exact ⟨d + 1, by omega, by have := unhide HD; omega, by go_num, by first | rfl | trivial, fun j h1 h2 => by
              by_cases e : j = d
              · rw [e]; exact unhide hf
              · exact unhide hno j h1 (by omega)⟩
            case measure => simp [intOf]; have := unhide HD; omega
          · have hf : Hid (Md.foe E x y d = true) := (show Md.foe E x y d = true by rw [unhide hfd]; simp [h1])
            have h1' : (E j 0 == 1) = false := by simpa using h1
            have hw : Hid (Nv.wayFrom (Md.foe E x y) 4 1 = (d : Int)) := Nv.way_hit 4 d 1 (unhide hno) (unhide hf) (unhide HD).1 (by have := (unhide HD).2; omega)
            have hfin : Hid (Md.Says w (Md.IsRobot c E I seat) (.returned (.int .i64 (d : Int))) wr) := ⟨(d : Int), unhide hat2 _ (by rw [unhide hw, if_pos (by have := (unhide HD).1; omega)]), rfl, (unhide hO2).grown⟩
            clear hfd hwho h1 hj hw hf
            go_wp2
            go_ret
            exact unhide hfin
      · obtain rfl : d = 5 := by omega
        have hge : ¬ ((5 : Nat) : Int) ≤ 4 := by omega
        have hw : Hid (Nv.wayFrom (Md.foe E x y) 4 1 = 0) := Nv.way_none 4 1 fun j h1 h2 => unhide hno j h1 (by omega)
        have hat3 : Hid (∀ v, (if 0 ≤ Gd.find I 40 1 x y ∧ (I (Gd.find I 40 1 x y).toNat 0 = 4 ∨ 0 ≤ Gd.slot I 40 seat) then v = 5 else if Gr.at 384 c x y = 4 then v = 9 else Nv.IsToward c (fun _ => Gr.find 384 c 4) 1 E 32 x y v) → Md.IsRobot c E I seat v) := fun v hv => unhide hat2 v (by rw [unhide hw, if_neg (by simp)]; exact hv)
        clear hlt hd1 hd5 hno hw hat2
        have ci := hide (refIn7_same gI 40 cI I 1 x y wr (unhide hO2).lists.its)
        have cs := hide (refSlot_same gI 40 cI I seat wr (unhide hO2).lists.its)
        have hfc := hide (Gd.find_cases I 40 1 x y)
        obtain ⟨f, hf⟩ : ∃ f, Gd.find I 40 1 x y = f := ⟨_, rfl⟩
        obtain ⟨S, hS⟩ : ∃ S, Gd.slot I 40 seat = S := ⟨_, rfl⟩
        rw [hf] at ci hat3 hfc
        rw [hS] at cs hat3
        clear hf hS
        obtain ⟨p, hp⟩ : ∃ p : Bool, decide (0 ≤ f ∧ (I f.toNat 0 = 4 ∨ 0 ≤ S)) = p := ⟨_, rfl⟩
        go_wp2_with fail
        refine (unhide ci).mono ?_
        rintro e wy ⟨rfl, hy⟩
        subst wy
        clear ci
        go_upto_region 15 with fail
        go_cut [92] from 36 to 91 (fun va wx => va = .bool p ∧ wx = wr)
        case first =>
          rcases unhide hfc with ⟨rfl, -⟩ | ⟨j, hj, rfl, -⟩
          · obtain rfl : p = false := by rw [← hp]; simp
            clear hp hfc
            go_wp2_with fail
            go_meet
            exact ⟨rfl, rfl⟩
          · have v0 := ((unhide hO2).lists.its.row hj).1
            have hj' : (j : Int) < 40 := by omega
            rw [Int.toNat_natCast] at hp
            clear hfc hj
            by_cases h4 : I j 0 = 4
            · obtain rfl : p = true := by rw [← hp]; simp [h4]
              rw [h4] at v0
              clear hp h4
              go_wp2_with fail
              go_meet
              exact ⟨rfl, rfl⟩
            · have h4' : (I j 0 == 4) = false := by simpa using h4
              by_cases h5 : 0 ≤ S
              · obtain rfl : p = true := by rw [← hp]; simp [h5]
                clear hp h4
                go_wp2_with fail
                refine (unhide cs).mono ?_
                rintro e wy ⟨rfl, hy⟩
                subst wy
                go_wp2_with fail
                go_meet
                exact ⟨by first | rfl | simp [h5], rfl⟩
              · obtain rfl : p = false := by rw [← hp]; simp [h4, h5]
                clear hp h4
                go_wp2_with fail
                refine (unhide cs).mono ?_
                rintro e wy ⟨rfl, hy⟩
                subst wy
                go_wp2_with fail
                go_meet
                exact ⟨by first | rfl | simp [h5], rfl⟩
        case rest =>
          obtain ⟨rfl, hwe⟩ := hcut
          subst hwe
          clear cs hfc
          cases p
          rotate_left
          · have hfin : Hid (Md.Says w (Md.IsRobot c E I seat) (.returned (.int .i64 5)) wc) := ⟨5, unhide hat3 5 (by rw [if_pos (by simpa using hp)]), rfl, (unhide hO2).grown⟩
            clear hp
            go_wp2
            go_ret
            exact unhide hfin
          have hat4 : Hid (∀ v, (if Gr.at 384 c x y = 4 then v = 9 else Nv.IsToward c (fun _ => Gr.find 384 c 4) 1 E 32 x y v) → Md.IsRobot c E I seat v) := fun v hv => unhide hat3 v (by rw [if_neg (by simpa using hp)]; exact hv)
          have cg := hide (refAt_any wc.heap.size (some ⟨gC, 0, none⟩) 384 cC c x y wc (unhide hO2).lists.vec (unhide hc'))
          obtain ⟨a, ha⟩ : ∃ a, Gr.at 384 c x y = a := ⟨_, rfl⟩
          rw [ha] at cg hat4
          clear hp hat3 ha
          go_wp2_with fail
          refine (unhide cg).mono ?_
          rintro e wy ⟨rfl, hy⟩
          subst wy
          clear cg
          by_cases h4 : a = 4
          · have hfin : Hid (Md.Says w (Md.IsRobot c E I seat) (.returned (.int .i64 9)) wc) := ⟨9, unhide hat4 9 (by rw [if_pos h4]), rfl, (unhide hO2).grown⟩
            subst h4
            go_wp2
            go_ret
            exact unhide hfin
          have h4' : (a == 4) = false := by simpa using h4
          have hat5 : Hid (∀ v, Nv.IsToward c (fun _ => Gr.find 384 c 4) 1 E 32 x y v → Md.IsRobot c E I seat v) := fun v hv => unhide hat4 v (by rw [if_neg h4]; exact hv)
          clear h4 hat4
          have cf := hide (fun z (hz : wc.grownBy z none) => refFind_any z.heap.size (some ⟨gC, 0, none⟩) 384 cC c 4 z ((unhide hO2).lists.on hz).vec (unhide hc'))
          have hfb := Md.find_bd c 4 384 0
          obtain ⟨F, hF⟩ : ∃ F, Gr.find 384 c 4 = F := ⟨_, rfl⟩
          have hfb' : -1 ≤ F ∧ F ≤ 384 := by rw [← hF]; exact hfb
          rw [hF] at cf hat5
          have hgz := hide (grown_drew1 (World.grownBy_alloc wc (.cells #[.int .i64 F] 3) none))
          have ct : Hid (∀ b, b = wc.heap.size → Calls Try.prog 34 #[.slice (some ⟨gC, 0, none⟩) 384 cC, .slice (some ⟨gE, 0, none⟩) 32 cE, .int .i64 x, .int .i64 y, .slice (some ⟨b, 0, none⟩) 1 1] (wc.alloc (.cells #[.int .i64 F] 3)).drew (Nv.SaysToward (wc.alloc (.cells #[.int .i64 F] 3)).drew c (fun _ => F) 1 E 32 x y)) := fun b hb => by
            subst hb
            have hL := (unhide hO2).lists.on (unhide hgz)
            exact refToward_any (some ⟨gC, 0, none⟩) (some ⟨wc.heap.size, 0, none⟩) cC gE 32 cE 1 1 c (fun _ => F) E x y _ hL.vec (unhide hc') hL.own.ents (unhide hcE') (Nv.one_row wc F 3) (fun _ => by omega)
          have hdr := hide (grown_drew1 (World.grownBy.refl wc none))
          have hkeep : Hid (∀ z, wc.grownBy z none → (z.cell? ⟨B, 4, none⟩ = some (.slice (some ⟨gC, 0, none⟩) 384 cC) ∧ z.cell? ⟨B, 5, none⟩ = some (.slice (some ⟨gE, 0, none⟩) 32 cE) ∧ z.cell? ⟨Q, 3, none⟩ = some (.int .i64 x) ∧ z.cell? ⟨Q, 4, none⟩ = some (.int .i64 y))) := fun z hz => ⟨((unhide hO2).on hz).box.eleven.2.2.2.2.1, ((unhide hO2).on hz).box.eleven.2.2.2.2.2.1, (unhide hQ3 z hz).1, (unhide hQ3 z hz).2⟩
          have hS0 := unhide hkeep wc (World.grownBy.refl _ none)
          clear hfb hF hfb'
          go_upto_region 19 with fail
          go_region_held3 (fun z => z.cell? ⟨B, 4, none⟩ = some (.slice (some ⟨gC, 0, none⟩) 384 cC) ∧ z.cell? ⟨B, 5, none⟩ = some (.slice (some ⟨gE, 0, none⟩) 32 cE) ∧ z.cell? ⟨Q, 3, none⟩ = some (.int .i64 x) ∧ z.cell? ⟨Q, 4, none⟩ = some (.int .i64 y)) (go_keep) (first
            | (go_at_call 30; refine (unhide cf _ (unhide hdr)).mono ?_; rintro e wy ⟨rfl, hy⟩; subst wy)
            | (go_at_call 34; refine (unhide ct _ rfl).mono ?_; rintro e w4 ⟨v, hv, rfl, hg⟩; have hg4 := hide (grown_trans (unhide hgz) hg); have hv' := hide hv; have hS1 := unhide hkeep _ (unhide hg4); clear hg hv))
          have hfin : Hid (Md.Says w (Md.IsRobot c E I seat) (.returned (.int .i64 v)) w4) := ⟨v, unhide hat5 v (unhide hv'), rfl, grown_trans (unhide hO2).grown (unhide hg4)⟩
          clear hS0 hS1
          go_wp2
          go_ret
          exact unhide hfin

end Go.Proofs.Ytbploaihicakeaa

namespace Go.Proofs.Ytbploaihicakeaa
open Go.RowKit

/-- A hero at (hx, hy), at a distance r, is taken in the place of the one that was nearest till now. -/
def Md.Takes (c : Nat → Int) (x y hx hy r b a : Int) : Prop := r ≤ 1536 ∧ Gr.Sees 384 c x y hx hy ∧ (a < 0 ∨ r < b)

/-- Of the seats below t, the nearest hero that is seen: its distance and its row; -1: none. -/
def Md.Seen (c : Nat → Int) (E : Nat → Nat → Int) (x y : Int) : Nat → Int → Int → Prop
  | 0, b, a => b = 0 ∧ a = -1
  | t + 1, b, a => ∃ b0 a0, Md.Seen c E x y t b0 a0 ∧
      ((Gd.hero E (t : Int) < 0 ∧ b = b0 ∧ a = a0) ∨
       ∃ (h : Nat) (r : Int), Gd.hero E (t : Int) = (h : Int) ∧ Fx.isRoot (((E h 3 - x) * (E h 3 - x) + (E h 4 - y) * (E h 4 - y)) * 65536) r ∧
         ((Md.Takes c x y (E h 3) (E h 4) r b0 a0 ∧ b = r ∧ a = (h : Int)) ∨ (¬ Md.Takes c x y (E h 3) (E h 4) r b0 a0 ∧ b = b0 ∧ a = a0)))

theorem Md.Seen.one {c : Nat → Int} {E : Nat → Nat → Int} {x y : Int} : ∀ {t : Nat} {b a b' a' : Int}, Md.Seen c E x y t b a → Md.Seen c E x y t b' a' → b' = b ∧ a' = a
  | 0, b, a, b', a', h, h' => ⟨h'.1.trans h.1.symm, h'.2.trans h.2.symm⟩
  | t + 1, b, a, b', a', h, h' => by
    obtain ⟨b0, a0, hs, hc⟩ := h
    obtain ⟨b1, a1, hs', hc'⟩ := h'
    obtain ⟨rfl, rfl⟩ := Md.Seen.one hs hs'
    rcases hc with ⟨h0, hb, ha⟩ | ⟨k, r, hk, hr, hc⟩
    · rcases hc' with ⟨_, hb', ha'⟩ | ⟨k', r', hk', _, _⟩
      · exact ⟨hb'.trans hb.symm, ha'.trans ha.symm⟩
      · omega
    · rcases hc' with ⟨h0', _, _⟩ | ⟨k', r', hk', hr', hc'⟩
      · omega
      · obtain rfl : k' = k := by omega
        obtain rfl : r' = r := Fx.root_one hr' hr
        rcases hc with ⟨ht, hb, ha⟩ | ⟨ht, hb, ha⟩
        · rcases hc' with ⟨_, hb', ha'⟩ | ⟨ht', _, _⟩
          · exact ⟨hb'.trans hb.symm, ha'.trans ha.symm⟩
          · exact absurd ht ht'
        · rcases hc' with ⟨ht', _, _⟩ | ⟨_, hb', ha'⟩
          · exact absurd ht' ht
          · exact ⟨hb'.trans hb.symm, ha'.trans ha.symm⟩

/-- Where nobody is seen: by chance. -/
def Md.stray (s c : Nat → Int) (E : Nat → Nat → Int) (k : Nat) : Int :=
  if (1 ≤ Dc.die 8 (s 0) [s 1, (k : Int), 90] ∧ Dc.die 8 (s 0) [s 1, (k : Int), 90] ≤ 4) ∧ Gr.walkB (Gr.at 384 c (E k 3 + (Fx.way (Dc.die 8 (s 0) [s 1, (k : Int), 90])).1) (E k 4 + (Fx.way (Dc.die 8 (s 0) [s 1, (k : Int), 90])).2)) = true ∧ En.first (En.atQ E (E k 3 + (Fx.way (Dc.die 8 (s 0) [s 1, (k : Int), 90])).1) (E k 4 + (Fx.way (Dc.die 8 (s 0) [s 1, (k : Int), 90])).2)) 32 < 0
  then Dc.die 8 (s 0) [s 1, (k : Int), 90] else 0

/-- What the monster in row k does. -/
def Md.monsterAt (s c : Nat → Int) (E : Nat → Nat → Int) (k : Nat) (v : Int) : Prop :=
  ∃ b a, Md.Seen c E (E k 3) (E k 4) 4 b a ∧
    ((a < 0 ∧ v = Md.stray s c E k) ∨
     ∃ h : Nat, a = (h : Int) ∧
       if 0 < Nv.beside (E h 3 - E k 3) (E h 4 - E k 4) then v = Nv.beside (E h 3 - E k 3) (E h 4 - E k 4)
       else Nv.IsToward c (fun _ => E h 4 * 24 + E h 3) 1 E 32 (E k 3) (E k 4) v)

def Md.IsMonster (s c : Nat → Int) (E : Nat → Nat → Int) (row v : Int) : Prop :=
  if (row < 0 ∨ 32 ≤ row) ∨ E row.toNat 0 = 0 ∨ E row.toNat 0 = 1 then v = 0 else Md.monsterAt s c E row.toNat v

theorem Md.IsMonster.one {s c : Nat → Int} {E : Nat → Nat → Int} {row u v : Int} (h : Md.IsMonster s c E row u) (h' : Md.IsMonster s c E row v) : v = u := by
  unfold Md.IsMonster at h h'
  by_cases h1 : (row < 0 ∨ 32 ≤ row) ∨ E row.toNat 0 = 0 ∨ E row.toNat 0 = 1
  · rw [if_pos h1] at h h'; omega
  · rw [if_neg h1] at h h'
    obtain ⟨b, a, hs, hc⟩ := h
    obtain ⟨b', a', hs', hc'⟩ := h'
    obtain ⟨rfl, rfl⟩ := Md.Seen.one hs hs'
    rcases hc with ⟨h0, hv⟩ | ⟨k, hk, hv⟩
    · rcases hc' with ⟨_, hv'⟩ | ⟨k', hk', _⟩
      · exact hv'.trans hv.symm
      · omega
    · rcases hc' with ⟨h0', _⟩ | ⟨k', hk', hv'⟩
      · omega
      · obtain rfl : k' = k := by omega
        by_cases h2 : 0 < Nv.beside (E k' 3 - E row.toNat 3) (E k' 4 - E row.toNat 4)
        · rw [if_pos h2] at hv hv'; exact hv'.trans hv.symm
        · rw [if_neg h2] at hv hv'; exact hv.one hv'

end Go.Proofs.Ytbploaihicakeaa
