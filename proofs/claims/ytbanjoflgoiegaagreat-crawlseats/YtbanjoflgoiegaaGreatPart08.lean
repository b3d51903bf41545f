/-
  GenStep
-/
import Derived.Test.YtbanjoflgoiegaaGreatPart07
import Derived.Deep.RegionHeld3
namespace Go.Proofs.YtbanjoflgoiegaaGreat
open Go.RowKit

def Gn.way (x y tx ty : Int) (first : Bool) : Bool := (y == ty) || (first && x != tx)
def Gn.stepX (x y tx ty : Int) (first : Bool) : Int := if Gn.way x y tx ty first then Gn.to1 x tx else x
def Gn.stepY (x y tx ty : Int) (first : Bool) : Int := if Gn.way x y tx ty first then y else Gn.to1 y ty

theorem Gn.cmp_add (a b : Int) : a + Gn.cmp b a = Gn.to1 a b := by
  unfold Gn.cmp Gn.to1
  split
  · split <;> omega
  · split <;> omega

theorem Gn.cmp_bd (a b : Int) : -1 ≤ Gn.cmp a b ∧ Gn.cmp a b ≤ 1 := by
  unfold Gn.cmp
  split
  · omega
  · split <;> omega

theorem grown_drew1 {a b : World} {r : Option Nat} (h : a.grownBy b r) : a.grownBy b.drew r := ⟨h.os, h.tape, h.output, h.size, h.block⟩

theorem grown_three (w : World) (o1 o2 o3 : Obj) : w.grownBy (((w.alloc o1).alloc o2).alloc o3).drew none := grown_drew1 (grown_alloc (grown_alloc (World.grownBy_alloc _ _ _) _) _)

set_option maxHeartbeats 2000000 in
theorem nearer_any (x y tx ty : Int) (first : Bool) (w : World) (h1 : -1000 ≤ x) (h2 : x ≤ 1000) (h3 : -1000 ≤ y) (h4 : y ≤ 1000) :
    Calls Tryz.prog 161 #[.agg #[.int .i64 x, .int .i64 y], .agg #[.int .i64 tx, .int .i64 ty], .bool first] w
      (Says w (.agg #[.int .i64 (Gn.stepX x y tx ty first), .int .i64 (Gn.stepY x y tx ty first)])) := by
  obtain ⟨b1, b2⟩ := Gn.cmp_bd tx x
  obtain ⟨b3, b4⟩ := Gn.cmp_bd ty y
  by_cases hw : Gn.way x y tx ty first = true
  · have e1 : Gn.stepX x y tx ty first = x + Gn.cmp tx x := by unfold Gn.stepX; rw [if_pos hw, Gn.cmp_add]
    have e2 : Gn.stepY x y tx ty first = y := by unfold Gn.stepY; rw [if_pos hw]
    rw [e1, e2]
    unfold Gn.way at hw
    clear e1 e2
    by_cases hy : (y == ty) = true
    · clear hw
      go_enter Tryz.func161, Tryz.ntmps161
      go_wp2
      go_region_with (go_at_call 175; refine (cmp_any _ _ _).mono ?_; rintro e w' ⟨rfl, rfl⟩)
      all_goals go_wp2
      all_goals go_returns
      all_goals exact ⟨rfl, grown_three _ _ _ _⟩
    · have hy' : (y == ty) = false := by simpa using hy
      rw [hy', Bool.false_or, Bool.and_eq_true] at hw
      obtain ⟨rfl, hx⟩ := hw
      clear hy
      go_enter Tryz.func161, Tryz.ntmps161
      go_wp2
      go_region_with (go_at_call 175; refine (cmp_any _ _ _).mono ?_; rintro e w' ⟨rfl, rfl⟩)
      all_goals go_wp2
      all_goals go_returns
      all_goals exact ⟨rfl, grown_three _ _ _ _⟩
  · have e1 : Gn.stepX x y tx ty first = x := by unfold Gn.stepX; rw [if_neg hw]
    have e2 : Gn.stepY x y tx ty first = y + Gn.cmp ty y := by unfold Gn.stepY; rw [if_neg hw, Gn.cmp_add]
    rw [e1, e2]
    have hw' : Gn.way x y tx ty first = false := by simpa using hw
    unfold Gn.way at hw'
    rw [Bool.or_eq_false_iff] at hw'
    obtain ⟨hy, hf⟩ := hw'
    clear e1 e2 hw
    cases first with
    | false =>
      clear hf
      go_enter Tryz.func161, Tryz.ntmps161
      go_wp2
      go_region_with (go_at_call 175; refine (cmp_any _ _ _).mono ?_; rintro e w' ⟨rfl, rfl⟩)
      all_goals go_wp2
      all_goals go_returns
      all_goals exact ⟨rfl, grown_three _ _ _ _⟩
    | true =>
      rw [Bool.true_and] at hf
      go_enter Tryz.func161, Tryz.ntmps161
      go_wp2
      go_region_with (go_at_call 175; refine (cmp_any _ _ _).mono ?_; rintro e w' ⟨rfl, rfl⟩)
      all_goals go_wp2
      all_goals go_returns
      all_goals exact ⟨rfl, grown_three _ _ _ _⟩

end Go.Proofs.YtbanjoflgoiegaaGreat
