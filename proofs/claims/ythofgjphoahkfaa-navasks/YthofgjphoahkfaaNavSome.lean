/-
  The law package's own list of entities, each at a place of its own.
-/
import Derived.Test.YthofgjphoahkfaaNavBeside
import Derived.Test.YthofgjphoahkfaaNavTaken
import Derived.Test.YthofgjphoahkfaaEntStats
import Derived.Deep.Cut
namespace Go.Proofs.Ythofgjphoahkfaa
open Go.RowKit

/-- A world under another spelling. -/
theorem in_world {p : World → Prop} {w w0 : World} (e : w = w0) (h : p w0) : p w := e ▸ h

/-- All rows of a list lie on the floor. -/
def Nv.Fits (E : Nat → Nat → Int) : Prop := ∀ i, i < 32 → 0 ≤ E i 3 ∧ E i 3 < 24 ∧ 0 ≤ E i 4 ∧ E i 4 < 16

theorem Nv.fits_none : Nv.Fits (fun _ _ => 0) := fun _ _ => by
  show (0 : Int) ≤ 0 ∧ (0 : Int) < 24 ∧ (0 : Int) ≤ 0 ∧ (0 : Int) < 16
  omega

theorem Nv.Fits.words {E : Nat → Nat → Int} (h : Nv.Fits E) : Nv.Words 32 E := fun i hi => by
  have := h i hi
  omega

/-- A rat at a place. -/
def Nv.rat (x y : Int) : Nat → Int
  | 0 => 2
  | 3 => x
  | 4 => y
  | 5 => 4
  | 6 => 4
  | 7 => 2
  | _ => 0

theorem Nv.Fits.put {E : Nat → Nat → Int} (h : Nv.Fits E) (k : Nat) (x y : Int) (h1 : 0 ≤ x) (h2 : x < 24) (h3 : 0 ≤ y) (h4 : y < 16) : Nv.Fits (En.put E k (Nv.rat x y)) := fun i hi => by
  by_cases e : i = k
  · rw [e, En.put_same]; exact ⟨h1, h2, h3, h4⟩
  · rw [En.put_other e]; exact h i hi

theorem rat_any (w : World) : Calls Try.prog 25 #[.int .i64 2] w (Says w (.agg #[.int .i64 2, .int .i64 0, .int .i64 0, .int .i64 0, .int .i64 0, .int .i64 4, .int .i64 4, .int .i64 2, .int .i64 0, .int .i64 0, .int .i64 0])) := entRefStats_any 2 w

/-- A list of 32 rows that lie on the floor, made by the call. -/
def Nv.Some (w : World) (e : Ending) (w' : World) : Prop := ∃ g E, e = .returned (.slice (some ⟨g, 0, none⟩) 32 32) ∧ w.heap.size ≤ g ∧ Own w' g 32 E ∧ Nv.Fits E ∧ w.grownBy w' none

set_option maxRecDepth 8000 in
set_option maxHeartbeats 3200000 in
theorem some_any (a : Option Addr) (len cap : Nat) (z : Nat → Int) (w : World) (h : Vec w.heap.size w a len (Ints z)) :
    Calls Try.prog 10 #[.slice a len cap] w (Nv.Some w) := by
  have h' := hide h
  have hm : len ≤ 9223372036854775807 := h.1
  obtain ⟨Z, hmk, hown⟩ := make32
  clear h
  go_enter Try.func10, Try.ntmps10
  obtain ⟨G, hG⟩ : ∃ G, G = w.heap.size := ⟨_, rfl⟩
  have hG' := hide hG
  have hO := hide (hown w)
  rw [← hG] at hO
  have hg0 : Hid (w.grownBy (w.alloc (.cells Z 44)) none) := World.grownBy_alloc _ _ _
  have hmkw := hmk w
  rw [← hG] at hmkw
  clear hG hown hmk
  go_wp2_with fail
  generalize w.alloc (.cells Z 44) = w0 at hO hg0 ⊢
  go_loopw [4] (fun i wr => ∃ (k : Nat) (E : Nat → Nat → Int), k ≤ 32 ∧ k ≤ len ∧ i = .int .i64 (k : Int) ∧ Own wr G 32 E ∧ Nv.Fits E ∧ w.grownBy wr none) (fun i _ => 40 - (intOf i).toNat)
  case atStart => exact ⟨0, fun _ _ => 0, by omega, by omega, rfl, unhide hO, Nv.fits_none, unhide hg0⟩
  case round =>
    obtain ⟨k, E, hk, hkl, rfl, hOr, hfit, hgr⟩ := hrel
    have hO' := hide hOr
    have hfit' := hide hfit
    have hgr' := hide hgr
    clear hOr hfit hgr hO hg0
    by_cases hlt : k < len
    · have hlt' : (k : Int) < (len : Int) := by omega
      by_cases h32 : k < 32
      · have h32' : (k : Int) < 32 := by omega
        obtain ⟨lb, off, rfl, hlb, hck0⟩ := (unhide h').at hlt
        have hck : wr.cell? ⟨lb, off + k, none⟩ = some (.int .i64 (z k)) := (grown_cell (unhide hgr') lb _ hlb (by simp)).trans hck0
        obtain ⟨K, hK⟩ : ∃ K : Nat, (K : Int) = z k % 384 := ⟨(z k % 384).toNat, by omega⟩
        have hK4 : K < 384 := by omega
        have cW := hide (fun wq => within_any (z k) 384 wq (by omega) (by omega))
        rw [← hK] at cW
        have HL := hide hlt
        have H32 := hide h32
        clear hck0 hK hlt h32
        go_wp2_with fail
        refine (unhide cW _).mono ?_
        rintro e wx ⟨rfl, rfl⟩
        clear hck
        go_wp2_with fail
        refine (entRefAt_any G 32 32 E _ _ _ (unhide hO').ents).mono ?_
        rintro e w1 ⟨rfl, hg1⟩
        have hO1 := hide ((unhide hO').on hg1)
        have hg1' := hide (grown_trans (unhide hgr') hg1)
        generalize En.first (En.atQ E ((K : Int) % 24) ((K : Int) / 24)) 32 = r
        clear hg1 cW
        by_cases hr : r < 0
        · go_wp2_with fail
          refine (rat_any _).mono ?_
          rintro e w2 ⟨rfl, hg2⟩
          have hO2 := hide ((unhide hO1).on hg2)
          have hg2' := hide (grown_trans (unhide hg1') hg2)
          clear hg2
          go_upto_region 9 with fail
          obtain ⟨w3, hw3⟩ : ∃ w3, w3 = w2.alloc (.cells (En.cells (Nv.rat ((K : Int) % 24) ((K : Int) / 24))) 44) := ⟨_, rfl⟩
          have hO3 := hide ((unhide hO2).on (World.grownBy_alloc w2 (.cells (En.cells (Nv.rat ((K : Int) % 24) ((K : Int) / 24))) 44) none))
          have hg3 := hide (grown_trans (unhide hg2') (World.grownBy_alloc w2 (.cells (En.cells (Nv.rat ((K : Int) % 24) ((K : Int) / 24))) 44) none))
          have hbox := Arr.lit (heap_alloc_new w2 (.cells (En.cells (Nv.rat ((K : Int) % 24) ((K : Int) / 24))) 44))
          refine in_world (p := Code.wp Try.prog _ _ _) (w0 := w2.alloc (.cells (En.cells (Nv.rat ((K : Int) % 24) ((K : Int) / 24))) 44)) rfl ?_
          rw [← hw3] at hO3 hg3 hbox ⊢
          clear hw3 hO2 hg2'
          have s := fun j (hj : j < 11) => hbox.cell (i := j) hj
          have s0 : w3.cell? ⟨w2.heap.size, 0, none⟩ = some (.int .i64 2) := s 0 (by omega)
          have s1 : w3.cell? ⟨w2.heap.size, 1, none⟩ = some (.int .i64 0) := s 1 (by omega)
          have s2 : w3.cell? ⟨w2.heap.size, 2, none⟩ = some (.int .i64 0) := s 2 (by omega)
          have s3 : w3.cell? ⟨w2.heap.size, 3, none⟩ = some (.int .i64 ((K : Int) % 24)) := s 3 (by omega)
          have s4 : w3.cell? ⟨w2.heap.size, 4, none⟩ = some (.int .i64 ((K : Int) / 24)) := s 4 (by omega)
          have s5 : w3.cell? ⟨w2.heap.size, 5, none⟩ = some (.int .i64 4) := s 5 (by omega)
          have s6 : w3.cell? ⟨w2.heap.size, 6, none⟩ = some (.int .i64 4) := s 6 (by omega)
          have s7 : w3.cell? ⟨w2.heap.size, 7, none⟩ = some (.int .i64 2) := s 7 (by omega)
          have s8 : w3.cell? ⟨w2.heap.size, 8, none⟩ = some (.int .i64 0) := s 8 (by omega)
          have s9 : w3.cell? ⟨w2.heap.size, 9, none⟩ = some (.int .i64 0) := s 9 (by omega)
          have s10 : w3.cell? ⟨w2.heap.size, 10, none⟩ = some (.int .i64 0) := s 10 (by omega)
          obtain ⟨t0, t1, t2, t3, t4, t5, t6, t7, t8, t9, t10⟩ := (unhide hO3).ents.row (unhide H32)
          have f := fun i => (unhide hO3).free i
          have hO4 := hide ((unhide hO3).store k (Nv.rat ((K : Int) % 24) ((K : Int) / 24)))
          have hg4 := hide (own_sets (Nat.le_of_eq (unhide hG').symm) (En.cells (Nv.rat ((K : Int) % 24) ((K : Int) / 24))).toList (k * 11) w3 (unhide hg3))
          have hf4 := hide ((unhide hfit').put k ((K : Int) % 24) ((K : Int) / 24) (by omega) (by omega) (by omega) (by omega))
          clear s hbox
          go_wp2
          go_roundw
          case rel => exact ⟨k + 1, _, by have := unhide H32; omega, by have := unhide HL; omega, by go_num, unhide hO4, unhide hf4, unhide hg4⟩
          case measure => have := unhide H32; simp [intOf]; omega
        · go_wp2
          go_roundw
          case rel => exact ⟨k + 1, E, by have := unhide H32; omega, by have := unhide HL; omega, by go_num, unhide hO1, unhide hfit', unhide hg1'⟩
          case measure => have := unhide H32; simp [intOf]; omega
      · have h32' : ¬ (k : Int) < 32 := by omega
        go_wp2
        go_ret
        exact ⟨G, E, rfl, Nat.le_of_eq (unhide hG').symm, unhide hO', unhide hfit', unhide hgr'⟩
    · have hlt' : ¬ (k : Int) < (len : Int) := by omega
      go_wp2
      go_ret
      exact ⟨G, E, rfl, Nat.le_of_eq (unhide hG').symm, unhide hO', unhide hfit', unhide hgr'⟩

end Go.Proofs.Ythofgjphoahkfaa
