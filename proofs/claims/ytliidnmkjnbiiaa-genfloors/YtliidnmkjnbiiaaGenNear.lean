/-
  Cells beside, and how many can be walked on.
-/
import Derived.Test.YtliidnmkjnbiiaaGenStr
namespace Go.Proofs.Ytliidnmkjnbiiaa
open Go.RowKit

namespace Gn

/-- How many of the first n are no walls. -/
def nzs (c : Nat → Int) : Nat → Nat
  | 0 => 0
  | n + 1 => nzs c n + if c n = 0 then 0 else 1

theorem nzs_le (c : Nat → Int) : ∀ n, nzs c n ≤ n
  | 0 => Nat.le_refl _
  | n + 1 => by
    have := nzs_le c n
    rw [nzs]
    split <;> omega

theorem nzs_mono (c : Nat → Int) {m n : Nat} (h : m ≤ n) : nzs c m ≤ nzs c n := by
  induction n with
  | zero => obtain rfl : m = 0 := by omega
            exact Nat.le_refl _
  | succ n ih =>
    by_cases e : m = n + 1
    · rw [e]; exact Nat.le_refl _
    · have := ih (by omega)
      rw [nzs]
      omega

theorem nzs_three (c : Nat → Int) (a : Nat) (h0 : c a ≠ 0) (h1 : c (a + 1) ≠ 0) (h2 : c (a + 2) ≠ 0) : nzs c (a + 3) = nzs c a + 3 := by
  rw [show a + 3 = a + 2 + 1 by omega, nzs, show a + 2 = a + 1 + 1 by omega, nzs, nzs, if_neg h0, if_neg h1, if_neg h2]

theorem Facts.six {d : Dice} (hd : Fair d) {c F : Nat → Int} {far : Nat} (h : Facts d c F far) : 6 ≤ nzs c 384 := by
  have hb := room_bd hd 0
  obtain ⟨a, ha⟩ : ∃ a : Nat, ry d 0 * 24 + rx d 0 = (a : Int) := ⟨(ry d 0 * 24 + rx d 0).toNat, by omega⟩
  have hin : ∀ x y : Int, 0 ≤ x → x < 3 → 0 ≤ y → y < 2 → c ((ry d 0 + y) * 24 + (rx d 0 + x)).toNat ≠ 0 := by
    intro x y h1 h2 h3 h4
    exact (h.nz _).2 ((dug_nz d 5 _).2 (.inl ⟨0, by omega, inRoom_at hd (by omega) (by omega) (by omega) (by omega)⟩))
  have e : ∀ x y : Int, ∀ n : Nat, (a : Int) + y * 24 + x = (n : Int) → ((ry d 0 + y) * 24 + (rx d 0 + x)).toNat = n := by
    intro x y n hn
    omega
  have h00 := hin 0 0 (by omega) (by omega) (by omega) (by omega)
  have h10 := hin 1 0 (by omega) (by omega) (by omega) (by omega)
  have h20 := hin 2 0 (by omega) (by omega) (by omega) (by omega)
  have h01 := hin 0 1 (by omega) (by omega) (by omega) (by omega)
  have h11 := hin 1 1 (by omega) (by omega) (by omega) (by omega)
  have h21 := hin 2 1 (by omega) (by omega) (by omega) (by omega)
  rw [e 0 0 a (by omega)] at h00
  rw [e 1 0 (a + 1) (by omega)] at h10
  rw [e 2 0 (a + 2) (by omega)] at h20
  rw [e 0 1 (a + 24) (by omega)] at h01
  rw [e 1 1 (a + 24 + 1) (by omega)] at h11
  rw [e 2 1 (a + 24 + 2) (by omega)] at h21
  have n1 := nzs_three c a h00 h10 h20
  have n2 := nzs_three c (a + 24) h01 h11 h21
  have m1 := nzs_mono c (show a + 3 ≤ a + 24 by omega)
  have m2 := nzs_mono c (show a + 24 + 3 ≤ 384 by omega)
  omega

/-- How far on the four cells beside are. -/
def off : Nat → Int | 0 => -24 | 1 => 1 | 2 => 24 | _ => -1

theorem off_nb {i e n : Nat} (he : e < 4) (h : Gr.nbIn i e) (hn : Gr.nbOf i e = n) : (i : Int) + off e = (n : Int) := by
  have := Gr.nb_eq h
  rw [hn] at this
  match e, he with
  | 0, _ => simp only [off, Gr.dxOf, Gr.dyOf] at *; omega
  | 1, _ => simp only [off, Gr.dxOf, Gr.dyOf] at *; omega
  | 2, _ => simp only [off, Gr.dxOf, Gr.dyOf] at *; omega
  | 3, _ => simp only [off, Gr.dxOf, Gr.dyOf] at *; omega

/-- Beside each cell that can be walked on there is one more. -/
theorem Facts.beside {d : Dice} (hd : Fair d) {c F : Nat → Int} {far : Nat} (h : Facts d c F far) (i : Nat) (hi : i < 384) (hc : c i ≠ 0) : ∃ e n : Nat, e < 4 ∧ (i : Int) + off e = (n : Int) ∧ c n ≠ 0 := by
  have h0 := (h.reach hd i hi).2 hc
  by_cases hz : F i = 0
  · have hu := (h.fld.zero i hi).1 hz
    obtain ⟨b1, _, b3, _⟩ := beside_up hd
    refine ⟨3, up d - 1, by omega, ?_, (h.nz _).2 b1⟩
    rw [hu]
    simp only [off]
    omega
  · obtain ⟨_, j, e, hj, he, hin, hnb, hv⟩ := h.fld.back i hi (by omega)
    obtain ⟨k1, k2⟩ := Gr.nb_back hj he hin
    rw [hnb] at k1 k2
    exact ⟨Gr.opp e, j, Gr.opp_lt he, off_nb (Gr.opp_lt he) k1 k2, (h.reach hd j hj).1 (by omega)⟩

/-- A cell that can be walked on has four cells beside. -/
theorem Facts.inner {d : Dice} (hd : Fair d) {c F : Nat → Int} {far : Nat} (h : Facts d c F far) (i : Nat) (hi : i < 384) (hc : c i ≠ 0) (e : Nat) (he : e < 4) : ∃ n : Nat, (i : Int) + off e = (n : Int) ∧ n < 384 := by
  have hb := dug_in hd i ((h.nz i).1 hc)
  match e, he with
  | 0, _ => exact ⟨i - 24, by simp only [off]; omega, by omega⟩
  | 1, _ => exact ⟨i + 1, by simp only [off]; omega, by omega⟩
  | 2, _ => exact ⟨i + 24, by simp only [off]; omega, by omega⟩
  | 3, _ => exact ⟨i - 1, by simp only [off]; omega, by omega⟩

end Gn

/-- The law's floor as it lies: the box of the level, its cells. -/
structure LevHold (w : World) (B G nE nI cE cI : Nat) (aE aI : Option Addr) (c : Nat → Int) (wr : World) : Prop where
  box : Arr wr B 27 3 (fun j => #[Value.slice (some ⟨G, 0, none⟩) 384 384, .slice aE nE cE, .slice aI nI cI][j]?.getD undef)
  cells : Arr wr G 5 384 (Byts c)
  grown : w.grownBy wr none

theorem LevHold.on {w : World} {B G nE nI cE cI : Nat} {aE aI : Option Addr} {c : Nat → Int} {wr wx : World} (h : LevHold w B G nE nI cE cI aE aI c wr) (hg : wr.grownBy wx none) : LevHold w B G nE nI cE cI aE aI c wx :=
  ⟨h.box.grown hg (by simp), h.cells.grown hg (by simp), grown_none h.grown hg⟩

theorem LevHold.c0 {w : World} {B G nE nI cE cI : Nat} {aE aI : Option Addr} {c : Nat → Int} {wr : World} (h : LevHold w B G nE nI cE cI aE aI c wr) : wr.cell? ⟨B, 0, none⟩ = some (.slice (some ⟨G, 0, none⟩) 384 384) := h.box.cell (by omega)
theorem LevHold.c1 {w : World} {B G nE nI cE cI : Nat} {aE aI : Option Addr} {c : Nat → Int} {wr : World} (h : LevHold w B G nE nI cE cI aE aI c wr) : wr.cell? ⟨B, 1, none⟩ = some (.slice aE nE cE) := h.box.cell (by omega)
theorem LevHold.c2 {w : World} {B G nE nI cE cI : Nat} {aE aI : Option Addr} {c : Nat → Int} {wr : World} (h : LevHold w B G nE nI cE cI aE aI c wr) : wr.cell? ⟨B, 2, none⟩ = some (.slice aI nI cI) := h.box.cell (by omega)

end Go.Proofs.Ytliidnmkjnbiiaa
