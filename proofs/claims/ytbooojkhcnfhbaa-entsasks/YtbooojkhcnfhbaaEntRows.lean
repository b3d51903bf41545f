/-
  The law package's own rows: entities such as a list has, of any that came in.
-/
import Derived.Test.YtbooojkhcnfhbaaEntRefGo
namespace Go.Proofs.Ytbooojkhcnfhbaa
open Go.RowKit

/-- A list of entities that came in, below what the call makes. -/
def Came (w : World) (a : Option Addr) (len : Nat) (E : Nat → Nat → Int) : Prop :=
  len ≤ maxLen ∧ (len = 0 ∨ ∃ b off, a = some ⟨b, off, none⟩ ∧ b < w.heap.size ∧ ∀ i j, i < len → j < 11 → w.cell? ⟨b, off + i * 11 + j, none⟩ = some (.int .i64 (E i j)))

theorem at_world {p : World → Prop} {w w0 : World} (e : w = w0) (h : p w0) : p w := e ▸ h

theorem Own.one {w : World} {g n : Nat} {E : Nat → Nat → Int} (h : Own w g n E) (k j : Nat) (v : Int) (hj : j < 11) : Own (w.setCell ⟨g, k * 11 + j, none⟩ (.int .i64 v)) g n (En.put E k (fun i => if i = j then v else E k i)) := by
  obtain ⟨hn, m, F, hA, hm, hF⟩ := h
  refine ⟨hn, m, _, hA.store (k * 11 + j) (.int .i64 v), hm, fun c hc => ?_⟩
  show (if c = k * 11 + j then Value.int .i64 v else F c) = En.flat (En.put E k (fun i => if i = j then v else E k i)) c
  unfold En.flat
  by_cases hk : c / 11 = k
  · rw [hk, En.put_same]
    by_cases hcj : c % 11 = j
    · rw [if_pos (by omega), if_pos hcj]
    · rw [if_neg (by omega), if_neg hcj, hF c hc]
      unfold En.flat
      rw [hk]
  · rw [En.put_other hk, if_neg (by omega), hF c hc]
    rfl

/-- An entity such as a list may have. -/
def En.tame (e : Nat → Int) : Nat → Int := if e 0 % 5 = 0 then En.hole (e 1 % 256) else fun j => if j = 0 then e 0 % 5 else if j = 1 then e 1 % 256 else e j

def En.tamed (k : Nat) (E : Nat → Nat → Int) : Nat → Nat → Int := fun i => if i < k then En.tame (E i) else fun _ => 0

theorem En.tamed_more {k : Nat} {E : Nat → Nat → Int} (i : Nat) : En.put (En.tamed k E) k (En.tame (E k)) i = En.tamed (k + 1) E i := by
  unfold En.put En.tamed
  by_cases e : i = k
  · rw [if_pos e, if_pos (by omega), e]
  · rw [if_neg e]
    by_cases h : i < k
    · rw [if_pos h, if_pos (by omega)]
    · rw [if_neg h, if_neg (by omega)]

theorem En.put_put {E : Nat → Nat → Int} {k : Nat} {e e' : Nat → Int} (i : Nat) : En.put (En.put E k e) k e' i = En.put E k e' i := by
  unfold En.put
  by_cases h : i = k
  · rw [if_pos h, if_pos h]
  · rw [if_neg h, if_neg h, if_neg h]

set_option maxRecDepth 8000 in
set_option maxHeartbeats 4000000 in
theorem lawRows_any (a : Option Addr) (len cap : Nat) (E : Nat → Nat → Int) (w : World) (hA : Came w a len E) :
    Calls Try.prog 24 #[.slice a len cap] w (fun e w' => ∃ g, e = .returned (.slice (some ⟨g, 0, none⟩) 32 32) ∧ Own w' g 32 (En.tamed (min len 32) E) ∧ w.grownBy w' none) := by
  have hm : len ≤ 9223372036854775807 := hA.1
  have hA' := hide hA
  obtain ⟨Z, hmk, hZ⟩ := make32
  have hZ' := hide hZ
  clear hA hZ
  go_enter Try.func24, Try.ntmps24
  go_wp2_with fail
  have hown0 : Hid (Own (w.alloc (.cells Z 24)) w.heap.size 32 (En.tamed 0 E)) := (unhide hZ' w).congr fun i j _ _ => by unfold En.tamed; rw [if_neg (by omega)]
  have hg0 := hide (World.grownBy_alloc w (.cells Z 24) none)
  obtain ⟨wb, hwb⟩ : ∃ wb, wb = w.alloc (.cells Z 24) := ⟨_, rfl⟩
  rw [← hwb] at hown0 hg0 ⊢
  obtain ⟨B, hB⟩ : ∃ B, B = w.heap.size := ⟨_, rfl⟩
  rw [← hB] at hown0 ⊢
  have hBl : Hid (w.heap.size ≤ B) := Nat.le_of_eq hB.symm
  clear hwb hmk hZ' hB
  go_loopw [4] (fun vi wr => ∃ k : Nat, k ≤ 32 ∧ k ≤ len ∧ vi = .int .i64 (k : Int) ∧ Own wr B 32 (En.tamed k E) ∧ w.grownBy wr none) (fun vi _ => 40 - (intOf vi).toNat)
  case atStart => exact ⟨0, by omega, by omega, rfl, unhide hown0, unhide hg0⟩
  case round =>
    clear hown0 hg0
    obtain ⟨k, hk1, hk2, rfl, hown, hgr⟩ := hrel
    have hown' := hide hown
    have hgr' := hide hgr
    clear hown hgr
    by_cases hend : k < len ∧ k < 32
    · obtain ⟨h1, h2⟩ := hend
      obtain ⟨b, off, rfl, hb, hc⟩ : ∃ b off, a = some ⟨b, off, none⟩ ∧ b < w.heap.size ∧ ∀ i j, i < len → j < 11 → w.cell? ⟨b, off + i * 11 + j, none⟩ = some (.int .i64 (E i j)) := by
        rcases (unhide hA').2 with h0 | h
        · omega
        · exact h
      have src : Hid (∀ x, w.grownBy x none → ∀ j, j < 11 → x.cell? ⟨b, off + k * 11 + j, none⟩ = some (.int .i64 (E k j))) := fun x hg j hj => (grown_cell hg b _ hb (by simp)).trans (hc k j h1 hj)
      have h1' : (k : Int) < (len : Int) := by omega
      have h2' : (k : Int) < 32 := by omega
      have HK := hide (And.intro h1 h2)
      have s := unhide src wr (unhide hgr')
      have s0 := s 0 (by omega)
      have s1 := s 1 (by omega)
      have s2 := s 2 (by omega)
      have s3 := s 3 (by omega)
      have s4 := s 4 (by omega)
      have s5 := s 5 (by omega)
      have s6 := s 6 (by omega)
      have s7 := s 7 (by omega)
      have s8 := s 8 (by omega)
      have s9 := s 9 (by omega)
      have s10 := s 10 (by omega)
      rw [Nat.add_zero] at s0
      obtain ⟨t0, t1, t2, t3, t4, t5, t6, t7, t8, t9, t10⟩ := (unhide hown').ents.row h2
      have f := fun i => (unhide hown').free i
      have hw1o := hide ((unhide hown').store k (E k))
      have hw1g := hide (grown_sets (unhide hBl) (En.cells (E k)).toList (k * 11) wr (unhide hgr'))
      clear hb hc h1 h2 hk1 hk2 s
      go_upto_region 6 with fail
      refine at_world (p := Code.wp Try.prog _ _ _) (w0 := wr.setCells B (k * 11) (En.cells (E k)).toList) rfl ?_
      obtain ⟨w1, hw1⟩ : ∃ w1, w1 = wr.setCells B (k * 11) (En.cells (E k)).toList := ⟨_, rfl⟩
      rw [← hw1] at hw1o hw1g ⊢
      clear s0 s1 s2 s3 s4 s5 s6 s7 s8 s9 s10 t0 t1 t2 t3 t4 t5 t6 t7 t8 t9 t10 f hw1
      have s0 := unhide src w1 (unhide hw1g) 0 (by omega)
      rw [Nat.add_zero] at s0
      obtain ⟨t0, _⟩ := (unhide hw1o).ents.row (unhide HK).2
      have f := fun i => (unhide hw1o).free i
      have hw2o := hide ((unhide hw1o).one k 0 (E k 0 % 5) (by omega))
      have hw2g := hide (grown_store (unhide hw1g) ⟨B, k * 11, none⟩ (unhide hBl) (.int .i64 (E k 0 % 5)))
      go_upto_region 7 with (go_at_call 8; refine (within_any _ _ _ (by omega) (by omega)).mono ?_; rintro e w' ⟨rfl, hw⟩; subst w')
      obtain ⟨w2, hw2⟩ : ∃ w2, w2 = w1.setCell ⟨B, k * 11, none⟩ (.int .i64 (E k 0 % 5)) := ⟨_, rfl⟩
      have hw2p : Hid (Own w2 B 32 (En.put (En.tamed k E) k (fun i => if i = 0 then E k 0 % 5 else E k i))) := by
        rw [hw2]
        exact (unhide hw2o).congr fun i j _ _ => by rw [En.put_put, En.put_same]
      rw [← hw2] at hw2g ⊢
      clear s0 t0 f hw2 hw2o hw1o hw1g
      have s1 := unhide src w2 (unhide hw2g) 1 (by omega)
      obtain ⟨t0, t1, _⟩ := (unhide hw2p).ents.row (unhide HK).2
      have f := fun i => (unhide hw2p).free i
      have hw3o := hide ((unhide hw2p).one k 1 (E k 1 % 256) (by omega))
      have hw3g := hide (grown_store (unhide hw2g) ⟨B, k * 11 + 1, none⟩ (unhide hBl) (.int .i64 (E k 1 % 256)))
      clear t0
      go_upto_region 8 with (go_at_call 8; refine (within_any _ _ _ (by omega) (by omega)).mono ?_; rintro e w' ⟨rfl, hw⟩; subst w')
      obtain ⟨w3, hw3⟩ : ∃ w3, w3 = w2.setCell ⟨B, k * 11 + 1, none⟩ (.int .i64 (E k 1 % 256)) := ⟨_, rfl⟩
      have hw3p : Hid (Own w3 B 32 (En.put (En.tamed k E) k (fun i => if i = 0 then E k 0 % 5 else if i = 1 then E k 1 % 256 else E k i))) := by
        rw [hw3]
        refine (unhide hw3o).congr fun i j _ _ => ?_
        rw [En.put_put, En.put_same]
        by_cases e : i = k
        · rw [e, En.put_same, En.put_same]
          by_cases e1 : j = 1
          · rw [if_pos e1, e1]; rfl
          · rw [if_neg e1, if_neg e1]
        · rw [En.put_other e, En.put_other e]
      rw [← hw3] at hw3g ⊢
      clear s1 t1 f hw3 hw3o hw2p hw2g
      obtain ⟨t0, t1, t2, t3, t4, t5, t6, t7, t8, t9, t10⟩ := (unhide hw3p).ents.row (unhide HK).2
      rw [En.put_same] at t0 t1
      have t0' : w3.cell? ⟨B, k * 11, none⟩ = some (.int .i64 (E k 0 % 5)) := t0
      have t1' : w3.cell? ⟨B, k * 11 + 1, none⟩ = some (.int .i64 (E k 1 % 256)) := t1
      have f := fun i => (unhide hw3p).free i
      clear t0 t1
      by_cases h5 : E k 0 % 5 = 0
      · have hfin : Hid (Own (w3.setCells B (k * 11) (En.cells (En.hole (E k 1 % 256))).toList) B 32 (En.tamed (k + 1) E)) := ((unhide hw3p).store k (En.hole (E k 1 % 256))).congr fun i j _ _ => by
          rw [En.put_put, ← En.tamed_more, show En.tame (E k) = En.hole (E k 1 % 256) from if_pos h5]
        have hfg := hide (grown_sets (unhide hBl) (En.cells (En.hole (E k 1 % 256))).toList (k * 11) w3 (unhide hw3g))
        rw [h5] at t0'
        clear h5
        go_wp2
        go_roundw
        case rel => exact ⟨k + 1, by have := unhide HK; omega, by have := unhide HK; omega, by go_num, unhide hfin, unhide hfg⟩
        case measure => simp [intOf]; omega
      · have hfin : Hid (Own w3 B 32 (En.tamed (k + 1) E)) := (unhide hw3p).congr fun i j _ _ => by
          rw [← En.tamed_more, show En.tame (E k) = (fun j => if j = 0 then E k 0 % 5 else if j = 1 then E k 1 % 256 else E k j) from if_neg h5]
        have h5' : (E k 0 % 5 == 0) = false := by simp [h5]
        clear h5
        go_wp2
        go_roundw
        case rel => exact ⟨k + 1, by have := unhide HK; omega, by have := unhide HK; omega, by go_num, unhide hfin, unhide hw3g⟩
        case measure => simp [intOf]; omega
    · have hke : Hid (min len 32 = k) := by show min len 32 = k; omega
      by_cases ha : (k : Int) < (len : Int)
      · have hb : ¬ (k : Int) < 32 := by omega
        clear hend
        go_wp2
        go_ret
        exact ⟨B, rfl, by rw [unhide hke]; exact unhide hown', unhide hgr'⟩
      · clear hend
        go_wp2
        go_ret
        exact ⟨B, rfl, by rw [unhide hke]; exact unhide hown', unhide hgr'⟩

end Go.Proofs.Ytbooojkhcnfhbaa
