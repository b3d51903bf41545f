/-
  GoodsBonus GoodsRefMore GoodsHero MindsMath MindsRobot MindsSeen GoodsFits GoodsCheck EntSpawn EntGo EntFree EntKnown EntMath EntRef MindsGood GenStr GenNear GoodsRefBox MindsPlace
-/
import Derived.Test.YtbanjoflgoiegaaGreatPart26
import Derived.Test.YtbanjoflgoiegaaGreatPart17
import Derived.Test.YtbanjoflgoiegaaGreatPart25
import Derived.Test.YtbanjoflgoiegaaGreatPart22
import Derived.BigQuiet
import Derived.Deep.Cut
import Derived.Deep.CutRange
import Derived.Deep.CutBlock
import Derived.Deep.RegionHeld3
import Derived.Test.YtbanjoflgoiegaaGreatPart06
import Derived.Test.YtbanjoflgoiegaaGreatPart02
import Derived.Test.YtbanjoflgoiegaaGreatPart16
import Derived.Test.YtbanjoflgoiegaaGreatPart19
import Derived.Test.YtbanjoflgoiegaaGreatPart15
import Derived.Deep.RegionWith
import Derived.Laws.AppendOwnNone
import Derived.Test.YtbanjoflgoiegaaGreatPart14
import Derived.Laws.BytesArg
import Derived.Test.YtbanjoflgoiegaaGreatPart13
namespace Go.Proofs.YtbanjoflgoiegaaGreat
open Go.RowKit

def Gd.wornK (I : Nat → Nat → Int) (seat kd : Int) : Nat → Bool
  | 0 => false
  | k + 1 => Gd.wornK I seat kd k || (decide (I k 1 = 3 ∧ I k 2 = seat) && decide (I k 0 = kd))

def Gd.three (b : Bool) : Int := if b = true then 3 else 0
def Gd.two (b : Bool) : Int := if b = true then 2 else 0

set_option maxHeartbeats 6400000 in
theorem bonus_any (s g c : Nat → Int) (E I : Nat → Nat → Int) (gC gE gI cC cE cI : Nat) (seat : Int) (w : World) (hL : Gd.Lists w gC gE gI c E I) :
    Calls Tryz.prog 186 #[.agg (Gd.world s gC gE gI cC cE cI g), .int .i64 seat] w (Says w (.tuple #[.int .i64 (Gd.three (Gd.wornK I seat 2 40)), .int .i64 (Gd.two (Gd.wornK I seat 3 40))])) := by
  obtain ⟨w0, hw0⟩ : ∃ w0, w0 = w.alloc (.cells (Gd.world s gC gE gI cC cE cI g) 30) := ⟨_, rfl⟩
  have hbox : Lie w0 w.heap.size 30 11 (Gd.box s gC gE gI cC cE cI g) := by rw [hw0]; exact (Arr.world (heap_alloc_new w _)).lie
  have hg0 : w.grownBy w0 none := by rw [hw0]; exact World.grownBy_alloc _ _ _
  have hL0 := hide (hL.on hg0)
  obtain ⟨B, hB⟩ : ∃ B, w.heap.size = B := ⟨_, rfl⟩
  rw [hB] at hbox
  have hbox' := hide hbox
  have hg0' := hide hg0
  obtain ⟨_, _, _, _, _, _, b6, _⟩ := hbox.eleven
  clear hL hbox hg0
  unfold Gd.world at hw0 ⊢
  go_enter Tryz.func186, Tryz.ntmps186
  go_upto_region 1 with fail
  rw [← hw0]
  clear hw0 hB
  go_wp2_with fail
  go_loopw [6, 7, 13] (fun a d i wr => ∃ k : Nat, k ≤ 40 ∧ i = .int .i64 (k : Int) ∧ a = .int .i64 (Gd.three (Gd.wornK I seat 2 k)) ∧ d = .int .i64 (Gd.two (Gd.wornK I seat 3 k)) ∧ w0.grownBy wr none) (fun _ _ i _ => 200 - (intOf i).toNat)
  case atStart => exact ⟨0, by omega, rfl, rfl, rfl, World.grownBy.refl _ _⟩
  case round =>
    obtain ⟨k, hk, rfl, rfl, rfl, hgr⟩ := hrel
    have hgr' := hide hgr
    clear hgr b6
    by_cases hlt : k < 40
    · obtain ⟨u0, u1, u2, u3⟩ := ((unhide hL0).on (unhide hgr')).its.row hlt
      have hlt' : (k : Int) < 40 := by omega
      have HL := hide hlt
      have hnx := hide (fun (o : Obj) => grown_alloc (unhide hgr') o)
      have e2 := hide (show Gd.wornK I seat 2 (k + 1) = (Gd.wornK I seat 2 k || (decide (I k 1 = 3 ∧ I k 2 = seat) && decide (I k 0 = 2))) from rfl)
      have e3 := hide (show Gd.wornK I seat 3 (k + 1) = (Gd.wornK I seat 3 k || (decide (I k 1 = 3 ∧ I k 2 = seat) && decide (I k 0 = 3))) from rfl)
      clear hlt
      by_cases h1 : I k 1 = 3
      · by_cases h2 : I k 2 = seat
        · by_cases k2 : I k 0 = 2
          · have r2 : Hid (Gd.wornK I seat 2 (k + 1) = true) := by show _ = _; rw [unhide e2]; simp [h1, h2, k2]
            have r3 : Hid (Gd.wornK I seat 3 (k + 1) = Gd.wornK I seat 3 k) := by show _ = _; rw [unhide e3]; simp [k2]
            clear e2 e3
            go_wp2
            go_roundw
            case rel => exact ⟨k + 1, by have := unhide HL; omega, by go_num, by rw [unhide r2]; rfl, by rw [unhide r3], unhide hnx _⟩
            case measure => simp [intOf]; omega
          · have m2 : (I k 0 == 2) = false := by simp [k2]
            have r2 : Hid (Gd.wornK I seat 2 (k + 1) = Gd.wornK I seat 2 k) := by show _ = _; rw [unhide e2]; simp [k2]
            by_cases k3 : I k 0 = 3
            · have r3 : Hid (Gd.wornK I seat 3 (k + 1) = true) := by show _ = _; rw [unhide e3]; simp [h1, h2, k3]
              clear e2 e3
              go_wp2
              go_roundw
              case rel => exact ⟨k + 1, by have := unhide HL; omega, by go_num, by rw [unhide r2], by rw [unhide r3]; rfl, unhide hnx _⟩
              case measure => simp [intOf]; omega
            · have m3 : (I k 0 == 3) = false := by simp [k3]
              have r3 : Hid (Gd.wornK I seat 3 (k + 1) = Gd.wornK I seat 3 k) := by show _ = _; rw [unhide e3]; simp [k3]
              clear e2 e3
              go_wp2
              go_roundw
              case rel => exact ⟨k + 1, by have := unhide HL; omega, by go_num, by rw [unhide r2], by rw [unhide r3], unhide hnx _⟩
              case measure => simp [intOf]; omega
        · have m2 : (I k 2 == seat) = false := by simp [h2]
          have r2 : Hid (Gd.wornK I seat 2 (k + 1) = Gd.wornK I seat 2 k) := by show _ = _; rw [unhide e2]; simp [h2]
          have r3 : Hid (Gd.wornK I seat 3 (k + 1) = Gd.wornK I seat 3 k) := by show _ = _; rw [unhide e3]; simp [h2]
          clear e2 e3
          go_wp2
          go_roundw
          case rel => exact ⟨k + 1, by have := unhide HL; omega, by go_num, by rw [unhide r2], by rw [unhide r3], unhide hnx _⟩
          case measure => simp [intOf]; omega
      · have m1 : (I k 1 == 3) = false := by simp [h1]
        have r2 : Hid (Gd.wornK I seat 2 (k + 1) = Gd.wornK I seat 2 k) := by show _ = _; rw [unhide e2]; simp [h1]
        have r3 : Hid (Gd.wornK I seat 3 (k + 1) = Gd.wornK I seat 3 k) := by show _ = _; rw [unhide e3]; simp [h1]
        clear e2 e3
        go_wp2
        go_roundw
        case rel => exact ⟨k + 1, by have := unhide HL; omega, by go_num, by rw [unhide r2], by rw [unhide r3], unhide hnx _⟩
        case measure => simp [intOf]; omega
    · have hge : ¬ (k : Int) < 40 := by omega
      have hfin := hide (grown_trans (unhide hg0') (unhide hgr'))
      obtain rfl : k = 40 := by omega
      go_wp2
      refine bodyPost_ret (v := .tuple #[.int .i64 (Gd.three (Gd.wornK I seat 2 40)), .int .i64 (Gd.two (Gd.wornK I seat 3 40))]) (by simp [results, Tryz.results186, go_sem]) rfl ?_
      exact ⟨rfl, unhide hfin⟩

end Go.Proofs.YtbanjoflgoiegaaGreat

namespace Go.Proofs.YtbanjoflgoiegaaGreat
open Go.RowKit

end Go.Proofs.YtbanjoflgoiegaaGreat

namespace Go.Proofs.YtbanjoflgoiegaaGreat
open Go.RowKit

set_option maxHeartbeats 800000 in
theorem refHero_any (b n c : Nat) (E : Nat → Nat → Int) (seat : Int) (w : World) (hE : Ents w b n E) :
    Calls Tryz.prog 22 #[.slice (some ⟨b, 0, none⟩) n c, .int .i64 seat] w (Says w (.int .i64 (En.first (En.heroQ E seat) n))) := by
  have hn := hE.1
  have hE' := hide hE
  skip
  clear hE
  go_enter Tryz.func22, Tryz.ntmps22
  go_wp2_with fail
  go_loop [5] (fun i => ∃ k : Nat, k ≤ n ∧ i = .int .i64 (k : Int) ∧ ∀ j, j < k → En.heroQ E seat j = false) (fun i => 40 - (intOf i).toNat)
  case atStart => exact ⟨0, by omega, rfl, fun j hj => by omega⟩
  case round =>
    obtain ⟨k, hk, rfl, hno⟩ := hrel
    have hno' := hide hno
    clear hno
    by_cases hlt : k < n
    · obtain ⟨u0, _, u2, _⟩ := (unhide hE').row hlt
      have hlt' : (k : Int) < (n : Int) := by omega
      have HL := hide hlt
      skip
      clear hlt
      by_cases hf : E k 0 = 1
      · by_cases h3 : E k 2 = seat
        · have hq : Hid (En.heroQ E seat k = true) := by show En.heroQ E seat k = true; simp [En.heroQ, hf, h3]
          have he := hide (En.first_hit (unhide hno') (unhide hq) (unhide HL))
          go_wp2
          go_ret
          exact ⟨ret_int (unhide he).symm, World.grownBy.refl _ _⟩
        · have hq : Hid (En.heroQ E seat k = false) := by show En.heroQ E seat k = false; simp [En.heroQ, h3]
          have h3' : (E k 2 == seat) = false := by simp [h3]
          go_wp2
          go_round
          case rel => exact ⟨k + 1, by have := unhide HL; omega, by go_num, fun j hj => by
            by_cases e : j = k
            · rw [e]; exact unhide hq
            · exact unhide hno' j (by omega)⟩
          case measure => simp [intOf]; omega
      · have hq : Hid (En.heroQ E seat k = false) := by show En.heroQ E seat k = false; simp [En.heroQ, hf]
        have hf' : (E k 0 == 1) = false := by simp [hf]
        go_wp2
        go_round
        case rel => exact ⟨k + 1, by have := unhide HL; omega, by go_num, fun j hj => by
          by_cases e : j = k
          · rw [e]; exact unhide hq
          · exact unhide hno' j (by omega)⟩
        case measure => simp [intOf]; omega
    · have hge : ¬ (k : Int) < (n : Int) := by omega
      have he := hide (En.first_none (n := n) (fun j hj => unhide hno' j (by omega)))
      go_wp2
      go_ret
      exact ⟨ret_int (unhide he).symm, World.grownBy.refl _ _⟩

theorem refHero7_any (g c : Nat) (E : Nat → Nat → Int) (seat : Int) (w : World) (h : Own w g 32 E) :
    Calls Tryz.prog 22 #[.slice (some ⟨g, 0, none⟩) 32 c, .int .i64 seat] w (Says w (.int .i64 (Gd.hero E seat))) := refHero_any g 32 c E seat w h.ents

end Go.Proofs.YtbanjoflgoiegaaGreat

namespace Go.Proofs.YtbanjoflgoiegaaGreat
open Go.RowKit

def Md.Fine (E : Nat → Nat → Int) : Prop := ∀ k, k < 32 → E k 0 ≠ 0 → 0 ≤ E k 3 ∧ E k 3 < 24 ∧ 0 ≤ E k 4 ∧ E k 4 < 16 ∧ 0 ≤ E k 6 ∧ E k 6 ≤ 20

def Md.who (E : Nat → Nat → Int) (x y : Int) (d : Nat) : Int := En.first (En.atQ E (x + (Fx.way (d : Int)).1) (y + (Fx.way (d : Int)).2)) 32

def Md.foe (E : Nat → Nat → Int) (x y : Int) (d : Nat) : Bool := decide (0 ≤ Md.who E x y d) && !(decide (E (Md.who E x y d).toNat 0 = 1))

def Md.robotAt (c : Nat → Int) (E I : Nat → Nat → Int) (seat : Int) (k : Nat) (v : Int) : Prop :=
  if E k 5 ≤ E k 6 / 3 ∧ 0 ≤ Gd.has I 40 seat 1 1 then v = 6
  else if Nv.wayFrom (Md.foe E (E k 3) (E k 4)) 4 1 ≠ 0 then v = Nv.wayFrom (Md.foe E (E k 3) (E k 4)) 4 1
  else if 0 ≤ Gd.find I 40 1 (E k 3) (E k 4) ∧ (I (Gd.find I 40 1 (E k 3) (E k 4)).toNat 0 = 4 ∨ 0 ≤ Gd.slot I 40 seat) then v = 5
  else if Gr.at 384 c (E k 3) (E k 4) = 4 then v = 9
  else Nv.IsToward c (fun _ => Gr.find 384 c 4) 1 E 32 (E k 3) (E k 4) v

def Md.IsRobot (c : Nat → Int) (E I : Nat → Nat → Int) (seat v : Int) : Prop :=
  if Gd.hero E seat < 0 then v = 0 else Md.robotAt c E I seat (Gd.hero E seat).toNat v

theorem Md.robotAt_one {c : Nat → Int} {E I : Nat → Nat → Int} {seat : Int} {k : Nat} {u v : Int} (h : Md.robotAt c E I seat k u) (h' : Md.robotAt c E I seat k v) : v = u := by
  unfold Md.robotAt at h h'
  by_cases h1 : E k 5 ≤ E k 6 / 3 ∧ 0 ≤ Gd.has I 40 seat 1 1
  · rw [if_pos h1] at h h'; omega
  rw [if_neg h1] at h h'
  by_cases h2 : Nv.wayFrom (Md.foe E (E k 3) (E k 4)) 4 1 ≠ 0
  · rw [if_pos h2] at h h'; omega
  rw [if_neg h2] at h h'
  by_cases h3 : 0 ≤ Gd.find I 40 1 (E k 3) (E k 4) ∧ (I (Gd.find I 40 1 (E k 3) (E k 4)).toNat 0 = 4 ∨ 0 ≤ Gd.slot I 40 seat)
  · rw [if_pos h3] at h h'; omega
  rw [if_neg h3] at h h'
  by_cases h4 : Gr.at 384 c (E k 3) (E k 4) = 4
  · rw [if_pos h4] at h h'; omega
  rw [if_neg h4] at h h'
  exact h.one h'

theorem Md.IsRobot.one {c : Nat → Int} {E I : Nat → Nat → Int} {seat u v : Int} (h : Md.IsRobot c E I seat u) (h' : Md.IsRobot c E I seat v) : v = u := by
  unfold Md.IsRobot at h h'
  by_cases h1 : Gd.hero E seat < 0
  · rw [if_pos h1] at h h'; omega
  · rw [if_neg h1] at h h'
    exact Md.robotAt_one h h'

theorem Md.hero_row {E : Nat → Nat → Int} {seat : Int} (h : ¬ Gd.hero E seat < 0) : ∃ k : Nat, k < 32 ∧ Gd.hero E seat = (k : Int) ∧ E k 0 = 1 ∧ E k 2 = seat := by
  unfold Gd.hero at h ⊢
  rcases En.first_cases (En.heroQ E seat) 32 with ⟨he, _⟩ | ⟨k, hk, he, hq, _⟩
  · omega
  · simp only [En.heroQ, Bool.and_eq_true, decide_eq_true_eq] at hq
    exact ⟨k, hk, he, hq.1, hq.2⟩

theorem Md.who_row {E : Nat → Nat → Int} {x y : Int} {d : Nat} : Md.who E x y d = -1 ∨ ∃ j : Nat, j < 32 ∧ Md.who E x y d = (j : Int) := by
  unfold Md.who
  rcases En.first_cases (En.atQ E (x + (Fx.way (d : Int)).1) (y + (Fx.way (d : Int)).2)) 32 with ⟨he, _⟩ | ⟨j, hj, he, _⟩
  · exact .inl he
  · exact .inr ⟨j, hj, he⟩

theorem Md.way_small (d : Nat) : -1 ≤ (Fx.way (d : Int)).1 ∧ (Fx.way (d : Int)).1 ≤ 1 ∧ -1 ≤ (Fx.way (d : Int)).2 ∧ (Fx.way (d : Int)).2 ≤ 1 := by
  unfold Fx.way
  split
  · simp
  · split
    · simp
    · split
      · simp
      · split <;> simp

end Go.Proofs.YtbanjoflgoiegaaGreat

namespace Go.Proofs.YtbanjoflgoiegaaGreat
open Go.RowKit

theorem Lie.copied (x : World) (e : Nat → Int) (T : TypeId) : Lie (x.alloc (.cells (En.cells e) T)) x.heap.size T 11 (Ints e) :=
  Lie.congr (m := 11) (Arr.lit (heap_alloc_new x (.cells (En.cells e) T))).lie fun j hj => by
    rcases (show j = 0 ∨ j = 1 ∨ j = 2 ∨ j = 3 ∨ j = 4 ∨ j = 5 ∨ j = 6 ∨ j = 7 ∨ j = 8 ∨ j = 9 ∨ j = 10 by omega) with rfl | rfl | rfl | rfl | rfl | rfl | rfl | rfl | rfl | rfl | rfl <;> rfl

structure Gd.Shown (w x : World) (B gC gE gI cC cE cI : Nat) (s g c : Nat → Int) (E I : Nat → Nat → Int) : Prop where
  box : Lie x B 30 11 (Gd.box s gC gE gI cC cE cI g)
  lists : Gd.Lists x gC gE gI c E I
  grown : w.grownBy x none

theorem Gd.Shown.on {w x y : World} {B gC gE gI cC cE cI : Nat} {s g c : Nat → Int} {E I : Nat → Nat → Int} (h : Gd.Shown w x B gC gE gI cC cE cI s g c E I) (hg : x.grownBy y none) : Gd.Shown w y B gC gE gI cC cE cI s g c E I :=
  ⟨h.box.on hg, h.lists.on hg, grown_trans h.grown hg⟩

def Md.Says (w : World) (p : Int → Prop) (e : Ending) (w' : World) : Prop := ∃ v, p v ∧ e = .returned (.int .i64 v) ∧ w.grownBy w' none

theorem Md.find_bd (f : Nat → Int) (kind : Int) : ∀ (n k : Nat), -1 ≤ Gr.findFrom f kind n k ∧ Gr.findFrom f kind n k ≤ (k : Int) + n
  | 0, k => by unfold Gr.findFrom; omega
  | n + 1, k => by
    unfold Gr.findFrom
    have := Md.find_bd f kind n (k + 1)
    split <;> omega

end Go.Proofs.YtbanjoflgoiegaaGreat

namespace Go.Proofs.YtbanjoflgoiegaaGreat
open Go.RowKit

def Md.Takes (c : Nat → Int) (x y hx hy r b a : Int) : Prop := r ≤ 1536 ∧ Gr.Sees 384 c x y hx hy ∧ (a < 0 ∨ r < b)

def Md.Seen (c : Nat → Int) (E : Nat → Nat → Int) (x y : Int) : Nat → Int → Int → Prop
  | 0, b, a => b = 0 ∧ a = -1
  | t + 1, b, a => ∃ b0 a0, Md.Seen c E x y t b0 a0 ∧
      ((Gd.hero E (t : Int) < 0 ∧ b = b0 ∧ a = a0) ∨
       ∃ (h : Nat) (r : Int), Gd.hero E (t : Int) = (h : Int) ∧ Fx.isRoot (((E h 3 - x) * (E h 3 - x) + (E h 4 - y) * (E h 4 - y)) * 65536) r ∧
         ((Md.Takes c x y (E h 3) (E h 4) r b0 a0 ∧ b = r ∧ a = (h : Int)) ∨ (¬ Md.Takes c x y (E h 3) (E h 4) r b0 a0 ∧ b = b0 ∧ a = a0)))

theorem Md.Seen.one {c : Nat → Int} {E : Nat → Nat → Int} {x y : Int} : ∀ {t : Nat} {b a b' a' : Int}, Md.Seen c E x y t b a → Md.Seen c E x y t b' a' → b' = b ∧ a' = a
  | 0, b, a, b', a', h, h' => ⟨h'.1.trans h.1.symm, h'.2.trans h.2.symm⟩
  | t + 1, b, a, b', a', h, h' => by
    obtain ⟨b0, a0, hs, hc⟩ := h
    obtain ⟨b1, a1, hs', hc'⟩ := h'
    obtain ⟨rfl, rfl⟩ := Md.Seen.one hs hs'
    rcases hc with ⟨h0, hb, ha⟩ | ⟨k, r, hk, hr, hc⟩
    · rcases hc' with ⟨_, hb', ha'⟩ | ⟨k', r', hk', _, _⟩
      · exact ⟨hb'.trans hb.symm, ha'.trans ha.symm⟩
      · omega
    · rcases hc' with ⟨h0', _, _⟩ | ⟨k', r', hk', hr', hc'⟩
      · omega
      · obtain rfl : k' = k := by omega
        obtain rfl : r' = r := Fx.root_one hr' hr
        rcases hc with ⟨ht, hb, ha⟩ | ⟨ht, hb, ha⟩
        · rcases hc' with ⟨_, hb', ha'⟩ | ⟨ht', _, _⟩
          · exact ⟨hb'.trans hb.symm, ha'.trans ha.symm⟩
          · exact absurd ht ht'
        · rcases hc' with ⟨ht', _, _⟩ | ⟨_, hb', ha'⟩
          · exact absurd ht' ht
          · exact ⟨hb'.trans hb.symm, ha'.trans ha.symm⟩

def Md.stray (s c : Nat → Int) (E : Nat → Nat → Int) (k : Nat) : Int :=
  if (1 ≤ Dc.die 8 (s 0) [s 1, (k : Int), 90] ∧ Dc.die 8 (s 0) [s 1, (k : Int), 90] ≤ 4) ∧ Gr.walkB (Gr.at 384 c (E k 3 + (Fx.way (Dc.die 8 (s 0) [s 1, (k : Int), 90])).1) (E k 4 + (Fx.way (Dc.die 8 (s 0) [s 1, (k : Int), 90])).2)) = true ∧ En.first (En.atQ E (E k 3 + (Fx.way (Dc.die 8 (s 0) [s 1, (k : Int), 90])).1) (E k 4 + (Fx.way (Dc.die 8 (s 0) [s 1, (k : Int), 90])).2)) 32 < 0
  then Dc.die 8 (s 0) [s 1, (k : Int), 90] else 0

def Md.monsterAt (s c : Nat → Int) (E : Nat → Nat → Int) (k : Nat) (v : Int) : Prop :=
  ∃ b a, Md.Seen c E (E k 3) (E k 4) 4 b a ∧
    ((a < 0 ∧ v = Md.stray s c E k) ∨
     ∃ h : Nat, a = (h : Int) ∧
       if 0 < Nv.beside (E h 3 - E k 3) (E h 4 - E k 4) then v = Nv.beside (E h 3 - E k 3) (E h 4 - E k 4)
       else Nv.IsToward c (fun _ => E h 4 * 24 + E h 3) 1 E 32 (E k 3) (E k 4) v)

def Md.IsMonster (s c : Nat → Int) (E : Nat → Nat → Int) (row v : Int) : Prop :=
  if (row < 0 ∨ 32 ≤ row) ∨ E row.toNat 0 = 0 ∨ E row.toNat 0 = 1 then v = 0 else Md.monsterAt s c E row.toNat v

theorem Md.IsMonster.one {s c : Nat → Int} {E : Nat → Nat → Int} {row u v : Int} (h : Md.IsMonster s c E row u) (h' : Md.IsMonster s c E row v) : v = u := by
  unfold Md.IsMonster at h h'
  by_cases h1 : (row < 0 ∨ 32 ≤ row) ∨ E row.toNat 0 = 0 ∨ E row.toNat 0 = 1
  · rw [if_pos h1] at h h'; omega
  · rw [if_neg h1] at h h'
    obtain ⟨b, a, hs, hc⟩ := h
    obtain ⟨b', a', hs', hc'⟩ := h'
    obtain ⟨rfl, rfl⟩ := Md.Seen.one hs hs'
    rcases hc with ⟨h0, hv⟩ | ⟨k, hk, hv⟩
    · rcases hc' with ⟨_, hv'⟩ | ⟨k', hk', _⟩
      · exact hv'.trans hv.symm
      · omega
    · rcases hc' with ⟨h0', _⟩ | ⟨k', hk', hv'⟩
      · omega
      · obtain rfl : k' = k := by omega
        by_cases h2 : 0 < Nv.beside (E k' 3 - E row.toNat 3) (E k' 4 - E row.toNat 4)
        · rw [if_pos h2] at hv hv'; exact hv'.trans hv.symm
        · rw [if_neg h2] at hv hv'; exact hv.one hv'

end Go.Proofs.YtbanjoflgoiegaaGreat

namespace Go.Proofs.YtbanjoflgoiegaaGreat
open Go.RowKit

def Gd.fitsB (c : Nat → Int) (k p a b : Int) : Bool :=
  decide (1 ≤ k ∧ k ≤ 4) && (if p = 1 then Gr.walkB (Gr.at 384 c a b) else if p = 2 then Gd.isSeat a && (decide (0 ≤ b) && (decide (b < 4) && decide (k ≠ 4)))
    else if p = 3 then Gd.isSeat a && (Gd.serves k 7 && decide (b = k - 2)) else if p = 4 then decide (0 ≤ a) && (decide (a < 3) && (decide (b = 0) && decide (k ≠ 4))) else false)

end Go.Proofs.YtbanjoflgoiegaaGreat

namespace Go.Proofs.YtbanjoflgoiegaaGreat
open Go.RowKit

def Gd.good (c : Nat → Int) (I : Nat → Nat → Int) (j : Nat) : Prop := Gd.zeroB (I j 0) (I j 1) (I j 2) (I j 3) = true ∨ (Gd.fitsB c (I j 0) (I j 1) (I j 2) (I j 3) = true ∧ Gd.find I 40 (I j 1) (I j 2) (I j 3) = (j : Int))

end Go.Proofs.YtbanjoflgoiegaaGreat

namespace Go.Proofs.YtbanjoflgoiegaaGreat
open Go.RowKit

theorem Ents.flat {w : World} {b n : Nat} {E : Nat → Nat → Int} (h : Ents w b n E) {c : Nat} (hc : c < n * 11) : w.cell? ⟨b, c, none⟩ = some (En.flat E c) := by
  have := h.2.2 (c / 11) (c % 11) (by omega) (by omega)
  rwa [show c / 11 * 11 + c % 11 = c by omega] at this

theorem Ents.set {w : World} {b n : Nat} {E : Nat → Nat → Int} (h : Ents w b n E) {p i : Nat} (hp : p ≠ b) (u : Value) : Ents (w.setCell ⟨p, i, none⟩ u) b n E :=
  ⟨h.1, by simpa using h.2.1, fun i' j hi hj => (World.cell?_of_block (a := ⟨b, i' * 11 + j, none⟩) (heap_setCell_other w ⟨p, i, none⟩ b u hp.symm)).trans (h.2.2 i' j hi hj)⟩

def En.list (n : Nat) (E : Nat → Nat → Int) : List Value := (List.range (n * 11)).map (En.flat E)

theorem En.list_len (n : Nat) (E : Nat → Nat → Int) : (En.list n E).length = n * 11 := by simp [En.list]

theorem En.list_at {n : Nat} {E : Nat → Nat → Int} {c : Nat} (hc : c < n * 11) : (En.list n E)[c]? = some (En.flat E c) := by
  unfold En.list
  rw [List.getElem?_map, List.getElem?_range hc]
  rfl

theorem En.list_one {n : Nat} {E : Nat → Nat → Int} : ∀ v ∈ En.list n E, v.oneCell' = true := by
  intro v hv
  unfold En.list at hv
  obtain ⟨c, _, rfl⟩ := List.mem_map.1 hv
  rfl

theorem Ents.src {w : World} {b n : Nat} {E : Nat → Nat → Int} (h : Ents w b n E) : ∀ j v, (En.list n E)[j]? = some v → w.cell? ((⟨b, 0, none⟩ : Addr).add j) = some v := by
  intro j v hj
  have hlt : j < n * 11 := by
    have := (List.getElem?_eq_some_iff.1 hj).1
    rwa [En.list_len] at this
  rw [En.list_at hlt] at hj
  rw [show (⟨b, 0, none⟩ : Addr).add j = ⟨b, j, none⟩ by rw [Go.WideShapes.add_plain, Nat.zero_add], h.flat hlt]
  exact hj

theorem Own.of_row {w : World} {g n : Nat} {E : Nat → Nat → Int} (hn : n ≤ 32) (h : w.heap[g]? = some (.cells (En.list n E).toArray 54 (0, 0))) : Own w g n E := by
  refine ⟨hn, _, _, Arr.lit h, by simp [En.list_len], fun c hc => ?_⟩
  show (En.list n E).toArray[c]?.getD undef = _
  rw [List.getElem?_toArray, En.list_at hc]
  rfl

set_option maxHeartbeats 800000 in
theorem twin_any (b n c : Nat) (E : Nat → Nat → Int) (w : World) (hE : Ents w b n E) :
    Calls Tryz.prog 146 #[.slice (some ⟨b, 0, none⟩) n c] w (Lists w n E) := by
  have hn := hE.1
  have hE' := hide hE
  obtain ⟨i0, hi, hz0, hz1, hz2⟩ := info_parts info_ent
  have hsz : (Tryz.prog.info? 54).map (·.size) = some 11 := by rw [hi]; simp [hz1]
  clear hE
  go_enter Tryz.func146, Tryz.ntmps146
  go_wp2_with (at_make; refine wpList_make_full _ rfl _ _ 26 rfl w.heap.size 54 i0 (.agg #[.int .i64 0, .int .i64 0, .int .i64 0, .int .i64 0, .int .i64 0, .int .i64 0, .int .i64 0, .int .i64 0, .int .i64 0, .int .i64 0, .int .i64 0]) 11 Tryz.underlying26 hi hz0 hz1 .i64 .i64 _ _ n rfl rfl rfl rfl ?q3 ?q4 ?q5 ?_)
  any_goals (first | (rw [hz2]; omega) | (unfold maxLen; omega) | exact Nat.le_refl _)
  intro w1 hown hgrow
  obtain ⟨cur, hg, hcs⟩ : ∃ cur, w1.heap[w.heap.size]? = some (.cells cur 54 (0, 0)) ∧ cur.size = n * 11 := by
    rcases hown.2 with ⟨h', _⟩ | ⟨g', cap', cur, h', _, hg, _, _, hcs, _⟩
    · simp at h'
    · simp only [Value.slice.injEq, Option.some.injEq, Addr.mk.injEq, and_true, true_and] at h'
      obtain ⟨rfl, rfl⟩ := h'
      exact ⟨cur, hg, hcs⟩
  have hg' := hide hg
  have hgrow' := hide hgrow
  have hcs' := hide hcs
  clear hown hg hgrow hcs hi hz0 hz1 hz2
  obtain ⟨w2, hrun, hrow, hgr2⟩ := run_copy_whole 26 26 3 54 Tryz.underlying26 11 hsz w.heap.size n n ⟨b, 0, none⟩ c cur _ (unhide hg') (En.list n E) (En.list_len n E) ((unhide hE').on (unhide hgrow')).src ((En.list_len n E).trans (unhide hcs').symm) En.list_one
  have hfin := hide (show Own w2 w.heap.size n E from Own.of_row hn hrow)
  have hgf := hide (grown_own (unhide hgrow') hgr2 (fun m e => by cases e; exact Nat.le_refl _))
  clear hrow hgr2 hg' hgrow' hcs'
  go_wp2
  go_ret
  exact ⟨w.heap.size, n, rfl, Nat.le_refl _, Nat.le_refl _, by unfold maxLen; omega, unhide hfin, unhide hgf⟩

set_option maxHeartbeats 1600000 in
theorem with_any (b n c k : Nat) (E : Nat → Nat → Int) (e : Nat → Int) (w : World) (hE : Ents w b n E) (hk : k < n) :
    Calls Tryz.prog 143 #[.slice (some ⟨b, 0, none⟩) n c, .int .i64 (k : Int), .agg (En.cells e)] w (Lists w n (En.put E k e)) := by
  have hn := hE.1
  have hk' : (k : Int) < (n : Int) := by omega
  have ct := hide (twin_any b n c E (w.alloc (.cells (En.cells e) 54)) (hE.on (World.grownBy_alloc _ _ _)))
  have hbox := hide (Arr.lit (heap_alloc_new w (.cells (En.cells e) 54)))
  have hst : Hid (∀ (x : World) (g : Nat), Own x g n E → Own (x.setCells g (k * 11) (En.cells e).toList) g n (En.put E k e)) := fun x g h => h.store k e
  have hgs : Hid (∀ (x : World) (g : Nat), w.grownBy x none → w.heap.size ≤ g → w.grownBy (x.setCells g (k * 11) (En.cells e).toList) none) := fun x g h hg => own_sets hg _ _ x h
  have hrowc : Hid (∀ (x : World) (g : Nat), Ents x g n E → _) := fun x g h => h.row hk
  clear hE
  unfold En.cells at ct hbox hst hgs ⊢
  go_enter Tryz.func143, Tryz.ntmps143
  go_wp2_with fail
  refine (unhide ct).mono ?_
  rintro _ w1 ⟨g, cap, rfl, hlo, hnc, hcm, hown, hgr⟩
  obtain ⟨u0, u1, u2, u3, u4, u5, u6, u7, u8, u9, u10⟩ := unhide hrowc w1 g hown.ents
  have f := fun i => hown.free i
  have z := fun j (hj : j < 11) => ((unhide hbox).grown hgr (by simp)).cell (i := j) hj
  have z0 := z 0 (by omega)
  have z1 := z 1 (by omega)
  have z2 := z 2 (by omega)
  have z3 := z 3 (by omega)
  have z4 := z 4 (by omega)
  have z5 := z 5 (by omega)
  have z6 := z 6 (by omega)
  have z7 := z 7 (by omega)
  have z8 := z 8 (by omega)
  have z9 := z 9 (by omega)
  have z10 := z 10 (by omega)
  simp only [List.getElem?_toArray, List.getElem?_cons_zero, List.getElem?_cons_succ, Option.getD_some] at z0 z1 z2 z3 z4 z5 z6 z7 z8 z9 z10
  have hown' := hide hown
  have hgr' := hide (grown_trans (World.grownBy_alloc w _ none) hgr)
  have hlo' : Hid (w.heap.size ≤ g) := by
    have : w.heap.size ≤ (w.alloc (.cells #[.int .i64 (e 0), .int .i64 (e 1), .int .i64 (e 2), .int .i64 (e 3), .int .i64 (e 4), .int .i64 (e 5), .int .i64 (e 6), .int .i64 (e 7), .int .i64 (e 8), .int .i64 (e 9), .int .i64 (e 10)] 54)).heap.size := (World.grownBy_alloc w _ none).size
    exact Nat.le_trans this hlo
  have hcap := hide (And.intro hnc hcm)
  clear hown hgr hlo hnc hcm z ct
  go_wp2
  go_ret
  exact ⟨g, cap, rfl, unhide hlo', (unhide hcap).1, (unhide hcap).2, unhide hst _ _ (unhide hown'), unhide hgs _ _ (unhide hgr') (unhide hlo')⟩

end Go.Proofs.YtbanjoflgoiegaaGreat

namespace Go.Proofs.YtbanjoflgoiegaaGreat
open Go.RowKit

set_option maxHeartbeats 800000 in
theorem indexFree_any (b n c : Nat) (E : Nat → Nat → Int) (w : World) (hE : Ents w b n E) :
    Calls Tryz.prog 110 #[.slice (some ⟨b, 0, none⟩) n c, .func (.func 142) #[] #[]] w (Says w (.int .i64 (En.first (En.freeQ E) n))) := by
  have hn := hE.1
  have hE' := hide hE
  clear hE
  go_enter Tryz.func110, Tryz.ntmps110
  go_wp2_with fail
  go_loopw [8] (fun i wr => ∃ k : Nat, k ≤ n ∧ i = .int .i64 (k : Int) ∧ (∀ j, j < k → En.freeQ E j = false) ∧ w.grownBy wr none) (fun i _ => 40 - (intOf i).toNat)
  case atStart => exact ⟨0, by omega, rfl, fun j hj => by omega, World.grownBy.refl _ _⟩
  case round =>
    obtain ⟨k, hk, rfl, hno, hgr⟩ := hrel
    have hno' := hide hno
    have hgr' := hide hgr
    clear hno hgr
    by_cases hlt : k < n
    · obtain ⟨u0, u1, u2, u3, u4, u5, u6, u7, u8, u9, u10⟩ := ((unhide hE').on (unhide hgr')).row hlt
      have hlt' : (k : Int) < (n : Int) := by omega
      have HL := hide hlt
      clear hlt
      go_wp2_with fail
      refine (isFree_any (E k) _).mono ?_
      rintro e w1 ⟨rfl, hg0⟩
      have hgr1 := hide (grown_trans (unhide hgr') hg0)
      clear u0 u1 u2 u3 u4 u5 u6 u7 u8 u9 u10 hg0
      obtain ⟨r, hr⟩ : ∃ r : Bool, r = decide (E k 0 = 0) := ⟨_, rfl⟩
      have hq : Hid (En.freeQ E k = r) := hr.symm
      rw [← hr]
      clear hr
      cases r
      · go_wp2
        go_roundw
        case rel => exact ⟨k + 1, by have := unhide HL; omega, by go_num, fun j hj => by
          by_cases e : j = k
          · rw [e]; exact unhide hq
          · exact unhide hno' j (by omega), unhide hgr1⟩
        case measure => simp [intOf]; omega
      · have he := hide (En.first_hit (unhide hno') (unhide hq) (unhide HL))
        go_wp2
        go_ret
        exact ⟨ret_int (unhide he).symm, unhide hgr1⟩
    · have hge : ¬ (k : Int) < (n : Int) := by omega
      have he := hide (En.first_none (n := n) (fun j hj => unhide hno' j (by omega)))
      go_wp2
      go_ret
      exact ⟨ret_int (unhide he).symm, unhide hgr'⟩

def En.gen (e : Nat → Int) (g : Int) : Nat → Int := fun j => if j = 1 then g else e j

def Spawns (w : World) (n : Nat) (E : Nat → Nat → Int) (k : Nat) (e : Ending) (w' : World) : Prop :=
  ∃ g cap, e = .returned (.tuple #[.slice (some ⟨g, 0, none⟩) n cap, .int .i64 (k : Int), .int .i64 0]) ∧ w.heap.size ≤ g ∧ n ≤ cap ∧ cap ≤ maxLen ∧ Own w' g n E ∧ w.grownBy w' none

set_option maxHeartbeats 1600000 in
theorem spawn_full (b n c : Nat) (E : Nat → Nat → Int) (e : Nat → Int) (w : World) (hE : Ents w b n E) (hc : n ≤ c) (hk : 1 ≤ e 0 ∧ e 0 ≤ 4) (hf : En.first (En.freeQ E) n = -1) :
    Calls Tryz.prog 103 #[.slice (some ⟨b, 0, none⟩) n c, .agg (En.cells e)] w (Says w (.tuple #[.slice none 0 0, .int .i64 0, .int .i64 5])) := by
  have hn := hE.1
  obtain ⟨s, hs, hs0⟩ : ∃ s, s = En.stats (e 0) ∧ ¬ s 0 = 0 := ⟨_, rfl, by show ¬ (if 1 ≤ e 0 ∧ e 0 ≤ 4 then e 0 else 0) = 0; rw [if_pos hk]; omega⟩
  have cs : Hid (∀ x : World, Calls Tryz.prog 80 #[.int .i64 (e 0)] x (Says x (.agg (En.cells s)))) := fun x => by rw [hs]; exact entStats_any (e 0) x
  have ci : Hid (∀ x : World, w.grownBy x none → Calls Tryz.prog 110 #[.slice (some ⟨b, 0, none⟩) n c, .func (.func 142) #[] #[]] x (Says x (.int .i64 (-1)))) := fun x hg => by
    have := indexFree_any b n c E x (hE.on hg)
    rwa [hf] at this
  clear hk hs hE hf
  unfold En.cells at cs ⊢
  go_enter Tryz.func103, Tryz.ntmps103
  go_wp2_with fail
  refine (unhide cs _).mono ?_
  rintro _ w1 ⟨rfl, hg⟩
  have hg1 := hide (grown_trans (World.grownBy_alloc _ _ _) hg)
  clear hg
  go_wp2_with (go_at_call 141; refine (rows_any _ _ _ _ hn hc).mono ?_; rintro e w' ⟨rfl, hw⟩; subst w')
  refine (unhide ci _ (unhide hg1)).mono ?_
  rintro _ w2 ⟨rfl, hg⟩
  have hg2 := hide (grown_trans (unhide hg1) hg)
  clear hg
  go_wp2
  go_ret3
  exact ⟨rfl, unhide hg2⟩

set_option maxHeartbeats 1600000 in
theorem spawn_some (b n c k : Nat) (E : Nat → Nat → Int) (e : Nat → Int) (w : World) (hE : Ents w b n E) (hc : n ≤ c) (hk : 1 ≤ e 0 ∧ e 0 ≤ 4) (hf : En.first (En.freeQ E) n = (k : Int)) (hkn : k < n) (hG : En.Gens n E) :
    Calls Tryz.prog 103 #[.slice (some ⟨b, 0, none⟩) n c, .agg (En.cells e)] w (Spawns w n (En.put E k (En.gen e ((E k 1 + 1) % 256))) k) := by
  have hn := hE.1
  obtain ⟨s, hs, hs0⟩ : ∃ s, s = En.stats (e 0) ∧ ¬ s 0 = 0 := ⟨_, rfl, by show ¬ (if 1 ≤ e 0 ∧ e 0 ≤ 4 then e 0 else 0) = 0; rw [if_pos hk]; omega⟩
  have cs : Hid (∀ x : World, Calls Tryz.prog 80 #[.int .i64 (e 0)] x (Says x (.agg (En.cells s)))) := fun x => by rw [hs]; exact entStats_any (e 0) x
  have ci : Hid (∀ x : World, w.grownBy x none → Calls Tryz.prog 110 #[.slice (some ⟨b, 0, none⟩) n c, .func (.func 142) #[] #[]] x (Says x (.int .i64 (k : Int)))) := fun x hg => by
    have := indexFree_any b n c E x (hE.on hg)
    rwa [hf] at this
  obtain ⟨g0, g1⟩ := hG k hkn
  have hkn' : (k : Int) < (n : Int) := by omega
  have hE' := hide hE
  have HK := hide hkn
  have hbb := hide hE.2.1
  have hbox := hide (Arr.lit (heap_alloc_new w (.cells (En.cells e) 54)))
  have cw : Hid (∀ x : World, Ents x b n E → Calls Tryz.prog 143 #[.slice (some ⟨b, 0, none⟩) n c, .int .i64 (k : Int), .agg (En.cells (En.gen e ((E k 1 + 1) % 256)))] x (Lists x n (En.put E k (En.gen e ((E k 1 + 1) % 256))))) := fun x h => with_any b n c k E _ x h hkn
  obtain ⟨F, hF⟩ : ∃ F, F = En.put E k (En.gen e ((E k 1 + 1) % 256)) := ⟨_, rfl⟩
  rw [← hF] at cw ⊢
  clear hk hs hE hf hG hkn hF
  unfold En.cells at cs hbox cw ⊢
  go_enter Tryz.func103, Tryz.ntmps103
  go_wp2_with fail
  refine (unhide cs _).mono ?_
  rintro _ w1 ⟨rfl, hg⟩
  have hg1 := hide (grown_trans (World.grownBy_alloc _ _ _) hg)
  have hbox1 := hide ((unhide hbox).grown hg (by simp))
  clear hg hbox
  go_wp2_with (go_at_call 141; refine (rows_any _ _ _ _ hn hc).mono ?_; rintro e w' ⟨rfl, hw⟩; subst w')
  refine (unhide ci _ (unhide hg1)).mono ?_
  rintro _ w2 ⟨rfl, hg⟩
  have hg2 := hide (grown_trans (unhide hg1) hg)
  have hbox2 := hide ((unhide hbox1).grown hg (by simp))
  have z := fun j (hj : j < 11) => (unhide hbox2).cell (i := j) hj
  have z0 := z 0 (by omega)
  have z1 := z 1 (by omega)
  have z2 := z 2 (by omega)
  have z3 := z 3 (by omega)
  have z4 := z 4 (by omega)
  have z5 := z 5 (by omega)
  have z6 := z 6 (by omega)
  have z7 := z 7 (by omega)
  have z8 := z 8 (by omega)
  have z9 := z 9 (by omega)
  have z10 := z 10 (by omega)
  simp only [List.getElem?_toArray, List.getElem?_cons_zero, List.getElem?_cons_succ, Option.getD_some] at z0 z1 z2 z3 z4 z5 z6 z7 z8 z9 z10
  have zf := (unhide hbox2).free 1
  have u1 : w2.cell? ⟨b, k * 11 + 1, none⟩ = some (.int .i64 (E k 1)) := ((unhide hE').on (unhide hg2)).2.2 k 1 (unhide HK) (by omega)
  have hne : Hid (w.heap.size ≠ b) := by have := unhide hbb; exact (show w.heap.size ≠ b by omega)
  have hE3 : Hid (∀ u, Ents (w2.setCell ⟨w.heap.size, 1, none⟩ u) b n E) := fun u => ((unhide hE').on (unhide hg2)).set (unhide hne) u
  have hg3 : Hid (∀ u, w.grownBy (w2.setCell ⟨w.heap.size, 1, none⟩ u) none) := fun u => grown_store (unhide hg2) ⟨w.heap.size, 1, none⟩ (Nat.le_refl _) u
  clear hg z hg1 hbox1 ci cs
  go_wp2_with fail
  refine (unhide cw _ (unhide hE3 _)).mono ?_
  rintro _ w3 ⟨g, cap, rfl, hlo, hnc, hcm, hown, hgr⟩
  have hfin := hide (show w.heap.size ≤ g ∧ n ≤ cap ∧ cap ≤ maxLen ∧ Own w3 g n F ∧ w.grownBy w3 none from ⟨Nat.le_trans (unhide hg3 _).size hlo, hnc, hcm, hown, grown_trans (unhide hg3 _) hgr⟩)
  clear hlo hnc hcm hown hgr z0 z1 z2 z3 z4 z5 z6 z7 z8 z9 z10 zf u1
  go_wp2
  go_ret3
  exact ⟨g, cap, rfl, unhide hfin⟩

end Go.Proofs.YtbanjoflgoiegaaGreat

namespace Go.Proofs.YtbanjoflgoiegaaGreat
open Go.RowKit

def En.hole (g : Int) : Nat → Int := fun j => if j = 1 then g else 0

theorem free_in (b n c k : Nat) (E : Nat → Nat → Int) (w : World) (hE : Ents w b n E) (hc : n ≤ c) (hk : k < n) :
    Calls Tryz.prog 105 #[.slice (some ⟨b, 0, none⟩) n c, .int .i64 (k : Int)] w (Lists w n (En.put E k (En.hole (E k 1)))) := by
  have hn := hE.1
  have cr : ∀ x : World, Calls Tryz.prog 145 #[.slice (some ⟨b, 0, none⟩) n c, .int .i64 (k : Int)] x fun e w' => e = .returned (.bool true) ∧ w' = x := fun x => by
    have := isRow_any (some ⟨b, 0, none⟩) n c (k : Int) x hn hc
    rwa [show En.isRow n (k : Int) = true from decide_eq_true (by omega)] at this
  have cw := hide (with_any b n c k E (En.hole (E k 1)) w hE hk)
  have u1 : w.cell? ⟨b, k * 11 + 1, none⟩ = some (.int .i64 (E k 1)) := hE.2.2 k 1 hk (by omega)
  have hk' : (k : Int) < (n : Int) := by omega
  clear hE
  go_enter Tryz.func105, Tryz.ntmps105
  go_wp2_with (go_at_call 145; refine (cr _).mono ?_; rintro e w' ⟨rfl, hw⟩; subst w')
  refine (unhide cw).mono ?_
  rintro _ w1 ⟨g, cap, rfl, hfin⟩
  have hfin' := hide hfin
  clear hfin u1
  go_wp2
  go_ret
  exact ⟨g, cap, rfl, unhide hfin'⟩

end Go.Proofs.YtbanjoflgoiegaaGreat

namespace Go.Proofs.YtbanjoflgoiegaaGreat
open Go.RowKit

def En.one : Nat → Nat → Int := En.put (fun _ _ => 0) 0 (En.gen (En.stats 2) 1)

end Go.Proofs.YtbanjoflgoiegaaGreat

namespace Go.Proofs.YtbanjoflgoiegaaGreat
open Go.RowKit

def En.Full (k : Nat) (E : Nat → Nat → Int) : Prop := (∀ j, j < k → E j 0 ≠ 0 ∧ E j 1 = 1) ∧ ∀ j, k ≤ j → E j 0 = 0 ∧ E j 1 = 0

theorem En.Full.zero : En.Full 0 (fun _ _ => 0) := ⟨fun j h => by omega, fun _ _ => ⟨rfl, rfl⟩⟩

theorem En.stats_kind {K : Int} (h : 1 ≤ K ∧ K ≤ 4) : En.stats K 0 = K := if_pos h

theorem En.Full.next {k : Nat} {E : Nat → Nat → Int} {K : Int} (h : En.Full k E) (hK : 1 ≤ K ∧ K ≤ 4) : En.Full (k + 1) (En.put E k (En.gen (En.stats K) 1)) := by
  refine ⟨fun j hj => ?_, fun j hj => ?_⟩
  · by_cases e : j = k
    · subst e
      rw [En.put_same]
      refine ⟨?_, rfl⟩
      show En.stats K 0 ≠ 0
      rw [En.stats_kind hK]
      omega
    · rw [En.put_other e]
      exact h.1 j (by omega)
  · rw [En.put_other (by omega)]
    exact h.2 j (by omega)

theorem En.Full.gens {k : Nat} {E : Nat → Nat → Int} (h : En.Full k E) : En.Gens 32 E := fun i _ => by
  by_cases e : i < k
  · rw [(h.1 i e).2]; omega
  · rw [(h.2 i (by omega)).2]; omega

theorem En.Full.first {k : Nat} {E : Nat → Nat → Int} (h : En.Full k E) (hk : k < 32) : En.first (En.freeQ E) 32 = (k : Int) :=
  En.first_hit (fun j hj => decide_eq_false (h.1 j hj).1) (decide_eq_true (h.2 k (Nat.le_refl _)).1) hk

theorem En.Gens.free {E : Nat → Nat → Int} (h : En.Gens 32 E) (k : Nat) : En.Gens 32 (En.put E k (En.hole (E k 1))) := fun i hi => by
  by_cases e1 : i = k
  · rw [e1, En.put_same]
    show 0 ≤ E k 1 ∧ E k 1 ≤ 255
    subst e1
    exact h i hi
  · rw [En.put_other e1]
    exact h i hi

end Go.Proofs.YtbanjoflgoiegaaGreat

namespace Go.Proofs.YtbanjoflgoiegaaGreat
open Go.RowKit

end Go.Proofs.YtbanjoflgoiegaaGreat

namespace Go.Proofs.YtbanjoflgoiegaaGreat
open Go.RowKit

structure Md.Good (c : Nat → Int) (E I : Nat → Nat → Int) : Prop where
  fine : Md.Fine E
  gens : En.Gens 32 E
  words : Nv.Words 32 E
  ok : Gd.Ok c 40 I

theorem Md.good_of {c : Nat → Int} {E I : Nat → Nat → Int} (hE : Md.Fine E) (hz : ∀ k, k < 32 → (0 ≤ E k 1 ∧ E k 1 ≤ 255) ∧ (E k 0 = 0 → E k 3 = 0 ∧ E k 4 = 0)) (hok : Gd.Ok c 40 I) : Md.Good c E I :=
  ⟨hE, fun k hk => (hz k hk).1, fun k hk => by
    by_cases k0 : E k 0 = 0
    · have := (hz k hk).2 k0
      omega
    · have := hE k hk k0
      omega, hok⟩

end Go.Proofs.YtbanjoflgoiegaaGreat

namespace Go.Proofs.YtbanjoflgoiegaaGreat
open Go.RowKit

theorem Arr.three {w : World} {g : Nat} {T : TypeId} {F : Nat → Value} (h : Arr w g T 3 F) : w.cell? ⟨g, 0, none⟩ = some (F 0) ∧ w.cell? ⟨g, 1, none⟩ = some (F 1) ∧ w.cell? ⟨g, 2, none⟩ = some (F 2) := ⟨h.cell (by omega), h.cell (by omega), h.cell (by omega)⟩

end Go.Proofs.YtbanjoflgoiegaaGreat

namespace Go.Proofs.YtbanjoflgoiegaaGreat
open Go.RowKit

namespace Gn

def nzs (c : Nat → Int) : Nat → Nat
  | 0 => 0
  | n + 1 => nzs c n + if c n = 0 then 0 else 1

theorem nzs_mono (c : Nat → Int) {m n : Nat} (h : m ≤ n) : nzs c m ≤ nzs c n := by
  induction n with
  | zero => obtain rfl : m = 0 := by omega
            exact Nat.le_refl _
  | succ n ih =>
    by_cases e : m = n + 1
    · rw [e]; exact Nat.le_refl _
    · have := ih (by omega)
      rw [nzs]
      omega

theorem nzs_three (c : Nat → Int) (a : Nat) (h0 : c a ≠ 0) (h1 : c (a + 1) ≠ 0) (h2 : c (a + 2) ≠ 0) : nzs c (a + 3) = nzs c a + 3 := by
  rw [show a + 3 = a + 2 + 1 by omega, nzs, show a + 2 = a + 1 + 1 by omega, nzs, nzs, if_neg h0, if_neg h1, if_neg h2]

theorem Facts.six {d : Dice} (hd : Fair d) {c F : Nat → Int} {far : Nat} (h : Facts d c F far) : 6 ≤ nzs c 384 := by
  have hb := room_bd hd 0
  obtain ⟨a, ha⟩ : ∃ a : Nat, ry d 0 * 24 + rx d 0 = (a : Int) := ⟨(ry d 0 * 24 + rx d 0).toNat, by omega⟩
  have hin : ∀ x y : Int, 0 ≤ x → x < 3 → 0 ≤ y → y < 2 → c ((ry d 0 + y) * 24 + (rx d 0 + x)).toNat ≠ 0 := by
    intro x y h1 h2 h3 h4
    exact (h.nz _).2 ((dug_nz d 5 _).2 (.inl ⟨0, by omega, inRoom_at hd (by omega) (by omega) (by omega) (by omega)⟩))
  have e : ∀ x y : Int, ∀ n : Nat, (a : Int) + y * 24 + x = (n : Int) → ((ry d 0 + y) * 24 + (rx d 0 + x)).toNat = n := by
    intro x y n hn
    omega
  have h00 := hin 0 0 (by omega) (by omega) (by omega) (by omega)
  have h10 := hin 1 0 (by omega) (by omega) (by omega) (by omega)
  have h20 := hin 2 0 (by omega) (by omega) (by omega) (by omega)
  have h01 := hin 0 1 (by omega) (by omega) (by omega) (by omega)
  have h11 := hin 1 1 (by omega) (by omega) (by omega) (by omega)
  have h21 := hin 2 1 (by omega) (by omega) (by omega) (by omega)
  rw [e 0 0 a (by omega)] at h00
  rw [e 1 0 (a + 1) (by omega)] at h10
  rw [e 2 0 (a + 2) (by omega)] at h20
  rw [e 0 1 (a + 24) (by omega)] at h01
  rw [e 1 1 (a + 24 + 1) (by omega)] at h11
  rw [e 2 1 (a + 24 + 2) (by omega)] at h21
  have n1 := nzs_three c a h00 h10 h20
  have n2 := nzs_three c (a + 24) h01 h11 h21
  have m1 := nzs_mono c (show a + 3 ≤ a + 24 by omega)
  have m2 := nzs_mono c (show a + 24 + 3 ≤ 384 by omega)
  omega

def off : Nat → Int | 0 => -24 | 1 => 1 | 2 => 24 | _ => -1

theorem off_nb {i e n : Nat} (he : e < 4) (h : Gr.nbIn i e) (hn : Gr.nbOf i e = n) : (i : Int) + off e = (n : Int) := by
  have := Gr.nb_eq h
  rw [hn] at this
  match e, he with
  | 0, _ => simp only [off, Gr.dxOf, Gr.dyOf] at *; omega
  | 1, _ => simp only [off, Gr.dxOf, Gr.dyOf] at *; omega
  | 2, _ => simp only [off, Gr.dxOf, Gr.dyOf] at *; omega
  | 3, _ => simp only [off, Gr.dxOf, Gr.dyOf] at *; omega

theorem Facts.beside {d : Dice} (hd : Fair d) {c F : Nat → Int} {far : Nat} (h : Facts d c F far) (i : Nat) (hi : i < 384) (hc : c i ≠ 0) : ∃ e n : Nat, e < 4 ∧ (i : Int) + off e = (n : Int) ∧ c n ≠ 0 := by
  have h0 := (h.reach hd i hi).2 hc
  by_cases hz : F i = 0
  · have hu := (h.fld.zero i hi).1 hz
    obtain ⟨b1, _, b3, _⟩ := beside_up hd
    refine ⟨3, up d - 1, by omega, ?_, (h.nz _).2 b1⟩
    rw [hu]
    simp only [off]
    omega
  · obtain ⟨_, j, e, hj, he, hin, hnb, hv⟩ := h.fld.back i hi (by omega)
    obtain ⟨k1, k2⟩ := Gr.nb_back hj he hin
    rw [hnb] at k1 k2
    exact ⟨Gr.opp e, j, Gr.opp_lt he, off_nb (Gr.opp_lt he) k1 k2, (h.reach hd j hj).1 (by omega)⟩

end Gn

structure LevHold (w : World) (B G nE nI cE cI : Nat) (aE aI : Option Addr) (c : Nat → Int) (wr : World) : Prop where
  box : Arr wr B 80 3 (fun j => #[Value.slice (some ⟨G, 0, none⟩) 384 384, .slice aE nE cE, .slice aI nI cI][j]?.getD undef)
  cells : Arr wr G 5 384 (Byts c)
  grown : w.grownBy wr none

theorem LevHold.on {w : World} {B G nE nI cE cI : Nat} {aE aI : Option Addr} {c : Nat → Int} {wr wx : World} (h : LevHold w B G nE nI cE cI aE aI c wr) (hg : wr.grownBy wx none) : LevHold w B G nE nI cE cI aE aI c wx :=
  ⟨h.box.grown hg (by simp), h.cells.grown hg (by simp), grown_none h.grown hg⟩

theorem LevHold.c0 {w : World} {B G nE nI cE cI : Nat} {aE aI : Option Addr} {c : Nat → Int} {wr : World} (h : LevHold w B G nE nI cE cI aE aI c wr) : wr.cell? ⟨B, 0, none⟩ = some (.slice (some ⟨G, 0, none⟩) 384 384) := h.box.cell (by omega)
theorem LevHold.c1 {w : World} {B G nE nI cE cI : Nat} {aE aI : Option Addr} {c : Nat → Int} {wr : World} (h : LevHold w B G nE nI cE cI aE aI c wr) : wr.cell? ⟨B, 1, none⟩ = some (.slice aE nE cE) := h.box.cell (by omega)
theorem LevHold.c2 {w : World} {B G nE nI cE cI : Nat} {aE aI : Option Addr} {c : Nat → Int} {wr : World} (h : LevHold w B G nE nI cE cI aE aI c wr) : wr.cell? ⟨B, 2, none⟩ = some (.slice aI nI cI) := h.box.cell (by omega)

end Go.Proofs.YtbanjoflgoiegaaGreat

namespace Go.Proofs.YtbanjoflgoiegaaGreat
open Go.RowKit

theorem Gd.ent_box (w : World) (e : Nat → Int) : (w.alloc (.cells (En.cells e) 54)).cell? ⟨w.heap.size, 3, none⟩ = some (.int .i64 (e 3)) ∧ (w.alloc (.cells (En.cells e) 54)).cell? ⟨w.heap.size, 4, none⟩ = some (.int .i64 (e 4)) ∧ (w.alloc (.cells (En.cells e) 54)).cell? ⟨w.heap.size, 5, none⟩ = some (.int .i64 (e 5)) ∧ (w.alloc (.cells (En.cells e) 54)).cell? ⟨w.heap.size, 6, none⟩ = some (.int .i64 (e 6)) := by
  have h := Arr.lit (heap_alloc_new w (.cells (En.cells e) 54))
  exact ⟨h.cell (i := 3) (by show 3 < 11; omega), h.cell (i := 4) (by show 4 < 11; omega), h.cell (i := 5) (by show 5 < 11; omega), h.cell (i := 6) (by show 6 < 11; omega)⟩

theorem Gd.ent_far {w x : World} {B gC gE gI cC cE cI : Nat} {s g c : Nat → Int} {E I : Nat → Nat → Int} (h : Gd.Boxed w x B gC gE gI cC cE cI s g c E I) : x.heap.size ≠ gE ∧ x.heap.size ≠ gI ∧ x.heap.size ≠ B := by
  have h1 := h.hold.lists.ents.lt
  have h2 := h.hold.lists.items.lt
  have h3 := h.hold.box.lt
  exact ⟨by omega, by omega, by omega⟩

theorem Gd.Boxed.items {w x y : World} {B gC gE gI cC cE cI : Nat} {s g c : Nat → Int} {E I J : Nat → Nat → Int} (h : Gd.Boxed w x B gC gE gI cC cE cI s g c E I) (hg : x.grownBy y (some gI)) (hI : Lie y gI 62 160 (Gd.flat J)) : Gd.Boxed w y B gC gE gI cC cE cI s g c E J := by
  have h1 := h.at_
  have h2 := h.lI
  exact { h with hold := h.hold.items hg hI, res := h.res.grown hg (by simp; omega), grown := grown_own h.grown hg (fun n e => by cases e; omega) }

theorem Gd.Boxed.ents {w x y : World} {B gC gE gI cC cE cI : Nat} {s g c : Nat → Int} {E I F : Nat → Nat → Int} (h : Gd.Boxed w x B gC gE gI cC cE cI s g c E I) (hg : x.grownBy y (some gE)) (hE : Lie y gE 54 352 (En.flat F)) : Gd.Boxed w y B gC gE gI cC cE cI s g c F I := by
  have h1 := h.at_
  have h2 := h.lE
  exact { h with hold := h.hold.ents hg hE, res := h.res.grown hg (by simp; omega), grown := grown_own h.grown hg (fun n e => by cases e; omega) }

theorem Gd.Boxed.gold {w x : World} {B gC gE gI cC cE cI : Nat} {s g c : Nat → Int} {E I : Nat → Nat → Int} (h : Gd.Boxed w x B gC gE gI cC cE cI s g c E I) (t : Nat) (ht : t < 4) (v : Int) : Gd.Boxed w (x.setCell ⟨B, 7 + t, none⟩ (.int .i64 v)) B gC gE gI cC cE cI s (Gd.give g t v) c E I := by
  have h1 := h.at_
  exact { h with hold := h.hold.gold t ht v, res := h.res.other (by omega) _ _, grown := grown_store h.grown ⟨B, 7 + t, none⟩ (by show w.heap.size ≤ B; omega) _ }

theorem Gd.Boxed.stat {w x : World} {B gC gE gI cC cE cI : Nat} {s g c : Nat → Int} {E I : Nat → Nat → Int} (h : Gd.Boxed w x B gC gE gI cC cE cI s g c E I) (k j : Nat) (hj : j < 11) (v : Int) : Gd.Boxed w (x.setCell ⟨gE, k * 11 + j, none⟩ (.int .i64 v)) B gC gE gI cC cE cI s g c (Gd.set E k j v) I :=
  h.ents (grown_set0 x gE (k * 11 + j) (.int .i64 v)) (h.hold.lists.ents.stat k j hj v)

theorem Gd.BoxW.ents {w x y : World} {B gC gE gI cC cE cI : Nat} {s g c : Nat → Int} {E I F : Nat → Nat → Int} (h : Gd.BoxW w x B gC gE gI cC cE cI s g c E I) (hg : x.grownBy y (some gE)) (hE : Lie y gE 54 352 (En.flat F)) : Gd.BoxW w y B gC gE gI cC cE cI s g c F I := by
  have h1 := h.at_
  have h2 := h.lE
  exact { h with hold := h.hold.ents hg hE, res := h.res.grown hg (by simp; omega), grown := grown_own h.grown hg (fun n e => by cases e; omega) }

theorem Gd.BoxW.stat {w x : World} {B gC gE gI cC cE cI : Nat} {s g c : Nat → Int} {E I : Nat → Nat → Int} (h : Gd.BoxW w x B gC gE gI cC cE cI s g c E I) (k j : Nat) (hj : j < 11) (v : Int) : Gd.BoxW w (x.setCell ⟨gE, k * 11 + j, none⟩ (.int .i64 v)) B gC gE gI cC cE cI s g c (Gd.set E k j v) I :=
  h.ents (grown_set0 x gE (k * 11 + j) (.int .i64 v)) (h.hold.lists.ents.stat k j hj v)

end Go.Proofs.YtbanjoflgoiegaaGreat

namespace Go.Proofs.YtbanjoflgoiegaaGreat
open Go.RowKit

theorem mPlace_at (x0 x1 x2 x3 x4 x5 x6 x7 x8 x9 x10 : Int) (w : World) : Calls Tryz.prog 219 #[.agg #[.int .i64 x0, .int .i64 x1, .int .i64 x2, .int .i64 x3, .int .i64 x4, .int .i64 x5, .int .i64 x6, .int .i64 x7, .int .i64 x8, .int .i64 x9, .int .i64 x10]] w fun x w' => x = .returned (.complex .f64 (floatOfInt .f64 x3) (floatOfInt .f64 x4)) ∧ w.grownBy w' none := by
  go_enter Tryz.func219, Tryz.ntmps219
  go_wp2
  go_ret
  exact ⟨rfl, World.grownBy_alloc _ _ _⟩

theorem mPlace_any (e : Nat → Int) (w : World) : Calls Tryz.prog 219 #[.agg (En.cells e)] w fun x w' => x = .returned (.complex .f64 (floatOfInt .f64 (e 3)) (floatOfInt .f64 (e 4))) ∧ w.grownBy w' none := mPlace_at _ _ _ _ _ _ _ _ _ _ _ w

theorem mParts_any (a b : Nat) (x y : Int) (w : World) (ha : Fl.Rep a x) (hb : Fl.Rep b y) (x1 : -9007199254740992 < x) (x2 : x < 9007199254740992) (y1 : -9007199254740992 < y) (y2 : y < 9007199254740992) :
    Calls Tryz.prog 218 #[.complex .f64 a b] w fun e w' => e = .returned (.tuple #[.int .i64 x, .int .i64 y]) ∧ w' = w := by
  have t1 := Fl.rep_toInt ha x1 x2
  have t2 := Fl.rep_toInt hb y1 y2
  have hr1 := fun w : World => run_convert_float_int (P := Tryz.prog) w 176 3 .f64 .i64 a _ (by kernel_rfl) (by kernel_rfl) t1
  have hr2 := fun w : World => run_convert_float_int (P := Tryz.prog) w 176 3 .f64 .i64 b _ (by kernel_rfl) (by kernel_rfl) t2
  clear t1 t2 ha hb
  go_enter Tryz.func218, Tryz.ntmps218
  go_wp2
  go_ret2
  exact ⟨rfl, rfl⟩

theorem mAhead_any (e : Nat → Int) (d : Int) (w : World) (x0 : 0 ≤ e 3) (x9 : e 3 < 24) (y0 : 0 ≤ e 4) (y9 : e 4 < 16) :
    Calls Tryz.prog 220 #[.agg (En.cells e), .int .i64 d] w fun x w' => (∃ a b, x = .returned (.complex .f64 a b) ∧ Fl.Rep a (e 3 + (Fx.way d).1) ∧ Fl.Rep b (e 4 + (Fx.way d).2)) ∧ w.grownBy w' none := by
  have wb := Fx.way_bd d
  obtain ⟨d1, d2, d3, d4⟩ := wb
  obtain ⟨r1, e1, R1⟩ := Fl.rep_add (Fl.rep_int (e 3) (by omega) (by omega)) (Fl.rep_int (Fx.way d).1 (by omega) (by omega)) (by omega) (by omega)
  obtain ⟨r2, e2, R2⟩ := Fl.rep_add (Fl.rep_int (e 4) (by omega) (by omega)) (Fl.rep_int (Fx.way d).2 (by omega) (by omega)) (by omega) (by omega)
  have hsum := fun wq : World => run_complex_sum (P := Tryz.prog) wq .add (.inl rfl) 173 .f64 (floatOfInt .f64 (e 3)) (floatOfInt .f64 (e 4)) (floatOfInt .f64 (Fx.way d).1) (floatOfInt .f64 (Fx.way d).2) r1 r2 (by unfold cSumBits; rw [e1, e2]; rfl)
  have hR := hide (And.intro R1 R2)
  have cp := hide (fun wq => mPlace_any e wq)
  have hu : Hid (En.cells e = #[.int .i64 (e 0), .int .i64 (e 1), .int .i64 (e 2), .int .i64 (e 3), .int .i64 (e 4), .int .i64 (e 5), .int .i64 (e 6), .int .i64 (e 7), .int .i64 (e 8), .int .i64 (e 9), .int .i64 (e 10)]) := rfl
  rw [unhide hu] at cp ⊢
  have hgw : Hid (w.grownBy (w.alloc (.cells #[.int .i64 (e 0), .int .i64 (e 1), .int .i64 (e 2), .int .i64 (e 3), .int .i64 (e 4), .int .i64 (e 5), .int .i64 (e 6), .int .i64 (e 7), .int .i64 (e 8), .int .i64 (e 9), .int .i64 (e 10)] 54)) none) := World.grownBy_alloc _ _ _
  clear R1 R2 e1 e2 x0 x9 y0 y9 d1 d2 d3 d4
  go_enter Tryz.func220, Tryz.ntmps220
  go_wp2_with fail
  refine (way_any _ _).mono ?_
  rintro x w1 ⟨rfl, hw⟩
  subst w1
  go_wp2_with fail
  refine (unhide cp _).mono ?_
  rintro x w1 ⟨rfl, hg⟩
  have hg1 := hide (grown_trans (unhide hgw) hg)
  clear hg hgw
  go_wp2
  go_ret
  exact ⟨⟨_, _, rfl, (unhide hR).1, (unhide hR).2⟩, unhide hg1⟩

theorem mLess (e f : Nat → Int) (x0 : 0 ≤ e 3) (x9 : e 3 < 24) (y0 : 0 ≤ e 4) (y9 : e 4 < 16) (u0 : 0 ≤ f 3) (u9 : f 3 < 24) (v0 : 0 ≤ f 4) (v9 : f 4 < 16) :
    ∃ r1 r2, (∀ wq : World, (binOp .sub 173 (.complex .f64 (floatOfInt .f64 (f 3)) (floatOfInt .f64 (f 4))) (.complex .f64 (floatOfInt .f64 (e 3)) (floatOfInt .f64 (e 4)))).run Tryz.prog wq = .ok (.complex .f64 r1 r2) wq) ∧ Fl.Rep r1 (f 3 - e 3) ∧ Fl.Rep r2 (f 4 - e 4) := by
  obtain ⟨r1, e1, R1⟩ := Fl.rep_sub (Fl.rep_int (f 3) (by omega) (by omega)) (Fl.rep_int (e 3) (by omega) (by omega)) (by omega) (by omega)
  obtain ⟨r2, e2, R2⟩ := Fl.rep_sub (Fl.rep_int (f 4) (by omega) (by omega)) (Fl.rep_int (e 4) (by omega) (by omega)) (by omega) (by omega)
  exact ⟨r1, r2, fun wq => run_complex_sum (P := Tryz.prog) wq .sub (.inr rfl) 173 .f64 _ _ _ _ r1 r2 (by unfold cSumBits; rw [e1, e2]; rfl), R1, R2⟩

end Go.Proofs.YtbanjoflgoiegaaGreat
