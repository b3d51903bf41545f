/-
  Two floors that hold the same are the same.
-/
import Derived.Test.YtliidnmkjnbiiaaGenStock
import Derived.Test.YtliidnmkjnbiiaaGenRefMake
import Derived.Test.YtliidnmkjnbiiaaGenStr
import Derived.BigQuiet
import Derived.Deep.Cut
import Derived.Deep.LoopGhost
namespace Go.Proofs.Ytliidnmkjnbiiaa
open Go.RowKit

theorem owns_on {w wx : World} {b : Nat} {T : TypeId} {z m : Nat} {v : Value} {xs : List Value} (h : w.ownsRow b T z v m xs) (hg : w.grownBy wx none) : wx.ownsRow b T z v m xs := h.kept hg (by cases v.ownBlock <;> simp)

set_option maxRecDepth 8000 in
set_option maxHeartbeats 4000000 in
theorem same_any (w : World) (c : Nat → Int) (b G G2 nE nI cE cE2 cI cI2 : Nat) (aE aE2 aI aI2 : Option Addr) (es : List (Int × Nat)) (is : List Gn.Itm) (hA : Arr w G 5 384 (Byts c)) (hA2 : Arr w G2 5 384 (Byts c))
    (hnE : nE = es.length) (hnI : nI = is.length) (hlE : nE ≤ 100) (hlI : nI ≤ 100)
    (hE : w.ownsRow b 42 11 (.slice aE nE cE) nE (Gn.flat es)) (hE2 : w.ownsRow b 42 11 (.slice aE2 nE cE2) nE (Gn.flat es))
    (hI : w.ownsRow b 45 4 (.slice aI nI cI) nI (Gn.flatI is)) (hI2 : w.ownsRow b 45 4 (.slice aI2 nI cI2) nI (Gn.flatI is)) :
    Calls Try.prog 10 #[.agg #[.slice (some ⟨G, 0, none⟩) 384 384, .slice aE nE cE, .slice aI nI cI], .agg #[.slice (some ⟨G2, 0, none⟩) 384 384, .slice aE2 nE cE2, .slice aI2 nI cI2]] w (Says w (.bool true)) := by
  obtain ⟨W, hW⟩ : ∃ W, W = (w.alloc (.cells #[.slice (some ⟨G, 0, none⟩) 384 384, .slice aE nE cE, .slice aI nI cI] 27)).alloc (.cells #[.slice (some ⟨G2, 0, none⟩) 384 384, .slice aE2 nE cE2, .slice aI2 nI cI2] 32) := ⟨_, rfl⟩
  have hg : w.grownBy W none := by rw [hW]; exact grown_alloc (World.grownBy_alloc _ _ _) _
  have x1 : Hid (Arr W w.heap.size 27 3 (fun j => #[Value.slice (some ⟨G, 0, none⟩) 384 384, .slice aE nE cE, .slice aI nI cI][j]?.getD undef)) := by
    rw [hW]
    exact (Arr.lit (heap_alloc_new _ _)).alloc _
  have x2 : Hid (Arr W (w.heap.size + 1) 32 3 (fun j => #[Value.slice (some ⟨G2, 0, none⟩) 384 384, .slice aE2 nE cE2, .slice aI2 nI cI2][j]?.getD undef)) := by
    rw [hW]
    have h := Arr.lit (heap_alloc_new (w.alloc (.cells #[.slice (some ⟨G, 0, none⟩) 384 384, .slice aE nE cE, .slice aI nI cI] 27)) (.cells #[.slice (some ⟨G2, 0, none⟩) 384 384, .slice aE2 nE cE2, .slice aI2 nI cI2] 32))
    rw [show (w.alloc (.cells #[.slice (some ⟨G, 0, none⟩) 384 384, .slice aE nE cE, .slice aI nI cI] 27)).heap.size = w.heap.size + 1 by simp] at h
    exact h
  have hA' := hide (hA.grown hg (by simp))
  have hA2' := hide (hA2.grown hg (by simp))
  have hE' := hide (owns_on hE hg)
  have hE2' := hide (owns_on hE2 hg)
  have hI' := hide (owns_on hI hg)
  have hI2' := hide (owns_on hI2 hg)
  have hg' := hide hg
  have t1 := (unhide hA').text
  have t2 := (unhide hA2').text
  obtain ⟨T, hT⟩ : ∃ T, T = Gn.text c := ⟨_, rfl⟩
  rw [← hT] at t1 t2
  have keep : Hid (∀ x, W.grownBy x none → (x.cell? ⟨w.heap.size, 1, none⟩ = some (.slice aE nE cE) ∧ x.cell? ⟨w.heap.size, 2, none⟩ = some (.slice aI nI cI) ∧ x.cell? ⟨w.heap.size + 1, 1, none⟩ = some (.slice aE2 nE cE2) ∧ x.cell? ⟨w.heap.size + 1, 2, none⟩ = some (.slice aI2 nI cI2))) := fun x h =>
    ⟨((unhide x1).grown h (by simp)).cell (by omega), ((unhide x1).grown h (by simp)).cell (by omega), ((unhide x2).grown h (by simp)).cell (by omega), ((unhide x2).grown h (by simp)).cell (by omega)⟩
  obtain ⟨k1, k2, k3, k4⟩ := unhide keep W (World.grownBy.refl _ _)
  have k5 : W.cell? ⟨w.heap.size, 0, none⟩ = some (.slice (some ⟨G, 0, none⟩) 384 384) := (unhide x1).cell (by omega)
  have k6 : W.cell? ⟨w.heap.size + 1, 0, none⟩ = some (.slice (some ⟨G2, 0, none⟩) 384 384) := (unhide x2).cell (by omega)
  have hnE' := hide hnE
  have hnI' := hide hnI
  clear hA hA2 hE hE2 hI hI2 hg hT hnE hnI
  go_enter Try.func10, Try.ntmps10
  go_upto_region 1 with fail
  rw [← hW]
  clear hW
  go_wp2_with fail
  go_loopw [5] (fun vi wr => ∃ k : Nat, k ≤ nE ∧ vi = .int .i64 (k : Int) ∧ W.grownBy wr none) (fun vi _ => 200 - (intOf vi).toNat)
  case atStart => exact ⟨0, by omega, rfl, World.grownBy.refl _ _⟩
  case round =>
    clear t1 t2 k1 k2 k3 k4 k5 k6
    obtain ⟨k, hk, rfl, hgr⟩ := hrel
    have hgr' := hide hgr
    obtain ⟨k1, k2, k3, k4⟩ := unhide keep wr hgr
    clear hgr
    by_cases hlt : k < nE
    · have hlt' : (k : Int) < (nE : Int) := by omega
      obtain ⟨p, hp⟩ : ∃ p, es[k]? = some p := ⟨es[k]'(by rw [← unhide hnE']; exact hlt), List.getElem?_eq_getElem _⟩
      obtain ⟨g1, rfl, _, hc1⟩ := ents_cells (owns_on (unhide hE') (unhide hgr')) hp hlt
      obtain ⟨g2, rfl, _, hc2⟩ := ents_cells (owns_on (unhide hE2') (unhide hgr')) hp hlt
      obtain ⟨v0, v1, v2, v3, v4, v5, v6, v7, v8, v9, v10, hl⟩ : ∃ v0 v1 v2 v3 v4 v5 v6 v7 v8 v9 v10 : Int, Gn.entCells p = [.int .i64 v0, .int .i64 v1, .int .i64 v2, .int .i64 v3, .int .i64 v4, .int .i64 v5, .int .i64 v6, .int .i64 v7, .int .i64 v8, .int .i64 v9, .int .i64 v10] := ⟨_, _, _, _, _, _, _, _, _, _, _, rfl⟩
      have u0 : wr.cell? ⟨g1, k * 11, none⟩ = some (.int .i64 v0) := by have h := hc1 0 (by omega); rw [hl] at h; exact h
      have u1 : wr.cell? ⟨g1, k * 11 + 1, none⟩ = some (.int .i64 v1) := by have h := hc1 1 (by omega); rw [hl] at h; exact h
      have u2 : wr.cell? ⟨g1, k * 11 + 2, none⟩ = some (.int .i64 v2) := by have h := hc1 2 (by omega); rw [hl] at h; exact h
      have u3 : wr.cell? ⟨g1, k * 11 + 3, none⟩ = some (.int .i64 v3) := by have h := hc1 3 (by omega); rw [hl] at h; exact h
      have u4 : wr.cell? ⟨g1, k * 11 + 4, none⟩ = some (.int .i64 v4) := by have h := hc1 4 (by omega); rw [hl] at h; exact h
      have u5 : wr.cell? ⟨g1, k * 11 + 5, none⟩ = some (.int .i64 v5) := by have h := hc1 5 (by omega); rw [hl] at h; exact h
      have u6 : wr.cell? ⟨g1, k * 11 + 6, none⟩ = some (.int .i64 v6) := by have h := hc1 6 (by omega); rw [hl] at h; exact h
      have u7 : wr.cell? ⟨g1, k * 11 + 7, none⟩ = some (.int .i64 v7) := by have h := hc1 7 (by omega); rw [hl] at h; exact h
      have u8 : wr.cell? ⟨g1, k * 11 + 8, none⟩ = some (.int .i64 v8) := by have h := hc1 8 (by omega); rw [hl] at h; exact h
      have u9 : wr.cell? ⟨g1, k * 11 + 9, none⟩ = some (.int .i64 v9) := by have h := hc1 9 (by omega); rw [hl] at h; exact h
      have u10 : wr.cell? ⟨g1, k * 11 + 10, none⟩ = some (.int .i64 v10) := by have h := hc1 10 (by omega); rw [hl] at h; exact h
      have s0 : wr.cell? ⟨g2, k * 11, none⟩ = some (.int .i64 v0) := by have h := hc2 0 (by omega); rw [hl] at h; exact h
      have s1 : wr.cell? ⟨g2, k * 11 + 1, none⟩ = some (.int .i64 v1) := by have h := hc2 1 (by omega); rw [hl] at h; exact h
      have s2 : wr.cell? ⟨g2, k * 11 + 2, none⟩ = some (.int .i64 v2) := by have h := hc2 2 (by omega); rw [hl] at h; exact h
      have s3 : wr.cell? ⟨g2, k * 11 + 3, none⟩ = some (.int .i64 v3) := by have h := hc2 3 (by omega); rw [hl] at h; exact h
      have s4 : wr.cell? ⟨g2, k * 11 + 4, none⟩ = some (.int .i64 v4) := by have h := hc2 4 (by omega); rw [hl] at h; exact h
      have s5 : wr.cell? ⟨g2, k * 11 + 5, none⟩ = some (.int .i64 v5) := by have h := hc2 5 (by omega); rw [hl] at h; exact h
      have s6 : wr.cell? ⟨g2, k * 11 + 6, none⟩ = some (.int .i64 v6) := by have h := hc2 6 (by omega); rw [hl] at h; exact h
      have s7 : wr.cell? ⟨g2, k * 11 + 7, none⟩ = some (.int .i64 v7) := by have h := hc2 7 (by omega); rw [hl] at h; exact h
      have s8 : wr.cell? ⟨g2, k * 11 + 8, none⟩ = some (.int .i64 v8) := by have h := hc2 8 (by omega); rw [hl] at h; exact h
      have s9 : wr.cell? ⟨g2, k * 11 + 9, none⟩ = some (.int .i64 v9) := by have h := hc2 9 (by omega); rw [hl] at h; exact h
      have s10 : wr.cell? ⟨g2, k * 11 + 10, none⟩ = some (.int .i64 v10) := by have h := hc2 10 (by omega); rw [hl] at h; exact h
      have hdr : Hid (∀ n, W.grownBy (wr.drewN n) none) := fun n => grown_drew (unhide hgr') n
      clear hc1 hc2 hl hp hk
      go_wp2_with fail
      go_quiet (fail)
      go_wp2
      go_roundw
      case rel => exact ⟨k + 1, by omega, by go_num, unhide hdr _⟩
      case measure => simp [intOf]; omega
    · have hge : ¬ (k : Int) < (nE : Int) := by omega
      clear hlt
      go_wp2_with fail
      go_loopw [6] (fun vi wr => ∃ k : Nat, k ≤ nI ∧ vi = .int .i64 (k : Int) ∧ W.grownBy wr none) (fun vi _ => 200 - (intOf vi).toNat)
      case atStart => exact ⟨0, by omega, rfl, unhide hgr'⟩
      case round =>
        clear k1 k2 k3 k4 hge hgr'
        obtain ⟨k, hk, rfl, hgr⟩ := hrel
        have hgr' := hide hgr
        obtain ⟨k1, k2, k3, k4⟩ := unhide keep wr hgr
        clear hgr
        by_cases hlt : k < nI
        · have hlt' : (k : Int) < (nI : Int) := by omega
          obtain ⟨p, hp⟩ : ∃ p, is[k]? = some p := ⟨is[k]'(by rw [← unhide hnI']; exact hlt), List.getElem?_eq_getElem _⟩
          obtain ⟨g1, rfl, _, hc1⟩ := items_cells (owns_on (unhide hI') (unhide hgr')) hp hlt
          obtain ⟨g2, rfl, _, hc2⟩ := items_cells (owns_on (unhide hI2') (unhide hgr')) hp hlt
          obtain ⟨v0, v1, v2, v3, hl⟩ : ∃ v0 v1 v2 v3 : Int, Gn.itemCells p = [.int .i64 v0, .int .i64 v1, .int .i64 v2, .int .i64 v3] := ⟨_, _, _, _, rfl⟩
          have u0 : wr.cell? ⟨g1, k * 4, none⟩ = some (.int .i64 v0) := by have h := hc1 0 (by omega); rw [hl] at h; exact h
          have u1 : wr.cell? ⟨g1, k * 4 + 1, none⟩ = some (.int .i64 v1) := by have h := hc1 1 (by omega); rw [hl] at h; exact h
          have u2 : wr.cell? ⟨g1, k * 4 + 2, none⟩ = some (.int .i64 v2) := by have h := hc1 2 (by omega); rw [hl] at h; exact h
          have u3 : wr.cell? ⟨g1, k * 4 + 3, none⟩ = some (.int .i64 v3) := by have h := hc1 3 (by omega); rw [hl] at h; exact h
          have s0 : wr.cell? ⟨g2, k * 4, none⟩ = some (.int .i64 v0) := by have h := hc2 0 (by omega); rw [hl] at h; exact h
          have s1 : wr.cell? ⟨g2, k * 4 + 1, none⟩ = some (.int .i64 v1) := by have h := hc2 1 (by omega); rw [hl] at h; exact h
          have s2 : wr.cell? ⟨g2, k * 4 + 2, none⟩ = some (.int .i64 v2) := by have h := hc2 2 (by omega); rw [hl] at h; exact h
          have s3 : wr.cell? ⟨g2, k * 4 + 3, none⟩ = some (.int .i64 v3) := by have h := hc2 3 (by omega); rw [hl] at h; exact h
          have hdr : Hid (∀ n, W.grownBy (wr.drewN n) none) := fun n => grown_drew (unhide hgr') n
          clear hc1 hc2 hl hp hk
          go_wp2_with fail
          go_quiet (fail)
          go_wp2
          go_roundw
          case rel => exact ⟨k + 1, by omega, by go_num, unhide hdr _⟩
          case measure => simp [intOf]; omega
        · have hge : ¬ (k : Int) < (nI : Int) := by omega
          have hfin := hide (grown_none (unhide hg') (unhide hgr'))
          clear hlt
          go_wp2
          go_ret
          exact ⟨rfl, unhide hfin⟩

end Go.Proofs.Ytliidnmkjnbiiaa
