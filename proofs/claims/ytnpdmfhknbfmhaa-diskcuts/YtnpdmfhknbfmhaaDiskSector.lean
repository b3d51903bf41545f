/-
  The law's own: bytes of a sector, of these; a number within bounds.
-/
import Derived.Test.YtnpdmfhknbfmhaaDiskNew
import Derived.Test.YtnpdmfhknbfmhaaChunkText
import Derived.Test.YtnpdmfhknbfmhaaChunkLaw
namespace Go.Proofs.Ytnpdmfhknbfmhaa
open Go.RowKit

/-- What sector tells. -/
def Dk.sec (l : List Int) : List Int := if l.length = 0 ∨ 63 < l.length then l else (List.range 64).map fun i => l.getD (i % l.length) 0

theorem Dk.sec_same {l : List Int} (h : l.length = 0 ∨ 63 < l.length) : Dk.sec l = l := if_pos h

theorem Dk.sec_new {l : List Int} (h : ¬ (l.length = 0 ∨ 63 < l.length)) : Dk.sec l = (List.range 64).map fun i => l.getD (i % l.length) 0 := if_neg h

theorem Dk.sec_len {l : List Int} (h : ¬ (l.length = 0 ∨ 63 < l.length)) : (Dk.sec l).length = 64 := by rw [Dk.sec_new h]; simp

/-- Bytes at an address that is no spot. -/
theorem Ck.Src.at {x : World} {a : Option Addr} {n c : Nat} {l : List Int} (h : Ck.Src x (.slice a n c) l) (h0 : 0 < l.length) : ∃ b o, a = some ⟨b, o, none⟩ ∧ n = l.length ∧ b < x.heap.size ∧ ∀ j, j < l.length → x.cell? ⟨b, o + j, none⟩ = some (.int .u8 (l.getD j 0)) := by
  rcases h with ⟨_, e⟩ | ⟨ad, cap, e, hc⟩
  · rw [e] at h0
    simp at h0
  · simp at e
    obtain ⟨rfl, rfl, rfl⟩ := e
    have key : ∀ j, j < l.length → x.cell? (ad.add j) = some (.int .u8 (l.getD j 0)) := fun j hj => hc j _ (by
      unfold Ck.bys
      rw [List.getElem?_map, List.getElem?_eq_getElem hj, List.getD, List.getElem?_eq_getElem hj]
      rfl)
    obtain ⟨b, o, spot⟩ := ad
    have hc0 := key 0 h0
    have hspot : spot = none := by simpa [Addr.add] using World.cell?_spot hc0
    subst hspot
    rw [Go.WideShapes.add_plain] at hc0
    exact ⟨b, o, rfl, rfl, Go.block_lt_of_cell hc0, fun j hj => by have := key j hj; rwa [Go.WideShapes.add_plain] at this⟩

def Dk.Secs (w : World) (a : Option Addr) (n c : Nat) (l : List Int) (e : Ending) (w' : World) : Prop :=
  (∃ g, e = .returned (.slice (some ⟨g, 0, none⟩) 64 64) ∧ (Dk.sec l).length = 64 ∧ w'.ownsRow w.heap.size 5 1 (.slice (some ⟨g, 0, none⟩) 64 64) 64 (Ck.bys (Dk.sec l)) ∧ w.grownBy w' none) ∨
  (e = .returned (.slice a n c) ∧ Dk.sec l = l ∧ (n = 0 ∨ 63 < n) ∧ w' = w)

theorem sector_same (a : Option Addr) (n c : Nat) (l : List Int) (w : World) (hl : l.length = n) (hm : n ≤ maxLen) (h : n = 0 ∨ 63 < n) :
    Calls Try.prog 11 #[.slice a n c] w (Dk.Secs w a n c l) := by
  have hfin : Hid (Dk.Secs w a n c l (.returned (.slice a n c)) w) := .inr ⟨rfl, Dk.sec_same (by rw [hl]; exact h), h, rfl⟩
  obtain ⟨D, hD⟩ : ∃ D, Dk.Secs w a n c l = D := ⟨_, rfl⟩
  rw [hD] at hfin ⊢
  have hm' : (n : Int) ≤ 9223372036854775807 := by unfold maxLen at hm; omega
  clear hD hl hm
  by_cases h0 : n = 0
  · subst h0
    clear h hm'
    go_enter Try.func11, Try.ntmps11
    go_wp2
    first | exact unhide hfin | (go_ret; exact unhide hfin)
  · have h1 : ((n : Int) == 0) = false := by simp; omega
    have h2 : (63 : Int) < (n : Int) := by omega
    clear h h0
    go_enter Try.func11, Try.ntmps11
    go_wp2
    first | exact unhide hfin | (go_ret; exact unhide hfin)

theorem Dk.sec_all {l : List Int} {ys : List Value} (hno : ¬ (l.length = 0 ∨ 63 < l.length)) (hl : ys.length = 64) (h : ∀ j, j < 64 → ys[j]? = some (.int .u8 (l.getD (j % l.length) 0))) : ys = Ck.bys (Dk.sec l) := by
  have hs := Dk.sec_len hno
  refine List.ext_getElem? fun j => ?_
  by_cases hj : j < 64
  · rw [h j hj, Dk.sec_new hno]
    unfold Ck.bys
    rw [List.getElem?_map, List.getElem?_map, List.getElem?_range hj]
    rfl
  · rw [List.getElem?_eq_none (by omega), List.getElem?_eq_none (by unfold Ck.bys; rw [List.length_map]; omega)]

set_option maxRecDepth 8000 in
set_option maxHeartbeats 3200000 in
theorem sector_new (a : Option Addr) (n c : Nat) (l : List Int) (w : World) (hl : l.length = n) (h0 : 0 < n) (h1 : n ≤ 63) (hs : Ck.Src w (.slice a n c) l) :
    Calls Try.prog 11 #[.slice a n c] w (Dk.Secs w a n c l) := by
  obtain ⟨b, o, rfl, -, hb, hcell⟩ := hs.at (by omega)
  have hno : ¬ (l.length = 0 ∨ 63 < l.length) := by omega
  have hfin : Hid (∀ (x : World) (g : Nat) (ys : List Value), x.ownsRow w.heap.size 5 1 (.slice (some ⟨g, 0, none⟩) 64 64) 64 ys → ys.length = 64 → (∀ j, j < 64 → ys[j]? = some (.int .u8 (l.getD (j % n) 0))) → w.grownBy x none → Dk.Secs w (some ⟨b, o, none⟩) n c l (.returned (.slice (some ⟨g, 0, none⟩) 64 64)) x) := fun x g ys q1 q2 q3 q4 => by
    rw [← hl] at q3
    rw [Dk.sec_all hno q2 q3] at q1
    exact .inl ⟨g, rfl, Dk.sec_len hno, q1, q4⟩
  rw [hl] at hcell
  have HC := hide hcell
  obtain ⟨D, hD⟩ : ∃ D, Dk.Secs w (some ⟨b, o, none⟩) n c l = D := ⟨_, rfl⟩
  rw [hD] at hfin ⊢
  obtain ⟨Z, hmk, hZ⟩ := Dk.make64
  have n0 : ((n : Int) == 0) = false := by simp; omega
  have n1 : ¬ (63 : Int) < (n : Int) := by omega
  have n2 : (n : Int) ≤ 63 := by omega
  have n3 : (0 : Int) < (n : Int) := by omega
  have HN := hide (And.intro h0 h1)
  obtain ⟨g, hg⟩ : ∃ g, w.heap.size = g := ⟨_, rfl⟩
  obtain ⟨x0, hx0⟩ : ∃ x, w.alloc (.cells Z 5) = x := ⟨_, rfl⟩
  have H0 : Hid (x0.ownsRow w.heap.size 5 1 (.slice (some ⟨g, 0, none⟩) 64 64) 64 (Ck.bys (List.replicate 64 0)) ∧ w.grownBy x0 none) := by
    rw [← hx0, ← hg]
    exact ⟨hZ w _ (Nat.le_refl _), World.grownBy_alloc _ _ _⟩
  have hz0 : Hid ((Ck.bys (List.replicate 64 0)).length = 64) := by unfold Hid Ck.bys; rw [List.length_map, List.length_replicate]
  have HG := hide hg
  clear hD hs hl hno hcell hZ h0 h1
  go_enter Try.func11, Try.ntmps11
  go_wp2_with fail
  clear hx0 hg
  go_loopw [4] (fun v4 wr => ∃ k : Nat, k ≤ 64 ∧ v4 = .int .i64 (k : Int) ∧ Hid (∃ ys, wr.ownsRow w.heap.size 5 1 (.slice (some ⟨g, 0, none⟩) 64 64) 64 ys ∧ ys.length = 64 ∧ (∀ j, j < k → ys[j]? = some (.int .u8 (l.getD (j % n) 0))) ∧ w.grownBy wr none)) (fun v4 _ => 100 - (intOf v4).toNat)
  case atStart => exact ⟨0, Nat.zero_le _, rfl, _, (unhide H0).1, unhide hz0, fun j hj => absurd hj (by omega), (unhide H0).2⟩
  case round =>
    clear H0 hz0
    obtain ⟨k, hk, rfl, hX⟩ := hrel
    by_cases hlt : k < 64
    · have hlt' : (k : Int) < 64 := by omega
      obtain ⟨ys, q1, q2, q3, q4⟩ := unhide hX
      obtain ⟨j, hj⟩ : ∃ j : Nat, k % n = j := ⟨_, rfl⟩
      have hjn : j < n := by rw [← hj]; exact Nat.mod_lt _ (by omega)
      have hjI : (k : Int) % (n : Int) = (j : Int) := by omega
      have hjI' : (k : Int).tmod (n : Int) = (j : Int) := by rw [Int.tmod_eq_emod_of_nonneg (by omega)]; exact hjI
      have j1 : (j : Int) < (n : Int) := by omega
      have d1 := (grown_cell q4 b (o + j) hb (by simp)).trans (unhide HC j hjn)
      have c1 := q1.cellAt k (by omega)
      rw [List.getElem?_eq_getElem (by omega)] at c1
      have f1 := fun i => q1.frozenAt i
      obtain ⟨u, hu⟩ : ∃ u, l.getD j 0 = u := ⟨_, rfl⟩
      have hgg : w.heap.size ≤ g := by rw [unhide HG]; exact Nat.le_refl _
      have hnew : Hid (∃ ys, (wr.setCell ⟨g, k, none⟩ (.int .u8 u)).ownsRow w.heap.size 5 1 (.slice (some ⟨g, 0, none⟩) 64 64) 64 ys ∧ ys.length = 64 ∧ (∀ j, j < k + 1 → ys[j]? = some (.int .u8 (l.getD (j % n) 0))) ∧ w.grownBy (wr.setCell ⟨g, k, none⟩ (.int .u8 u)) none) := by
        have h1 := (q1.stored k (.int .u8 u)).1
        refine ⟨_, h1, by rw [List.length_set]; exact q2, fun i hi => ?_, Turn.grownBy ((Turn.new (B := fun _ => False) q4).fresh g k _ hgg)⟩
        by_cases e : i = k
        · subst e
          rw [List.getElem?_set_self (by omega), hj, hu]
        · rw [List.getElem?_set_ne (by omega)]
          exact q3 i (by omega)
      rw [hu] at d1
      obtain ⟨yk, hyk⟩ : ∃ yk, ys[k] = yk := ⟨_, rfl⟩
      rw [hyk] at c1
      have HK := hide hlt
      clear hX q1 q2 q3 q4 hyk hu hj hjn hk hlt hgg
      go_wp2_with fail
      go_roundw
      case rel => exact ⟨k + 1, by have := unhide HK; omega, by go_num, hnew⟩
      case measure => simp [intOf]; have := unhide HK; omega
    · have hge : ¬ (k : Int) < 64 := by omega
      obtain rfl : k = 64 := by omega
      have hend : Hid (D (.returned (.slice (some ⟨g, 0, none⟩) 64 64)) wr) := by
        obtain ⟨ys, q1, q2, q3, q4⟩ := unhide hX
        exact unhide hfin _ _ _ q1 q2 q3 q4
      clear hX hlt hfin hk
      go_wp2
      first | exact unhide hend | (go_ret; exact unhide hend)

theorem within13_any (a n : Int) (w : World) (hn : 0 < n) (hn2 : n ≤ 4611686018427387904) :
    Calls Try.prog 21 #[.int .i64 a, .int .i64 n] w fun e w' => e = .returned (.int .i64 (a % n)) ∧ w' = w := by
  have t1 := Int.tmod_lt_of_pos a (b := n) hn
  have t2 := Int.lt_tmod_of_pos a (b := n) hn
  have hn0 : (n == 0) = false := by simp; omega
  by_cases h : a.tmod n < 0
  · have ha : ¬ 0 ≤ a := by
      intro h0
      have := Int.tmod_nonneg n h0
      omega
    have hd := hide (Ck.within_neg a n hn h)
    go_enter Try.func21, Try.ntmps21
    go_wp2
    go_ret
    exact ⟨ret_int (unhide hd), rfl⟩
  · have hd := hide (Ck.within_pos a n hn h)
    by_cases ha : 0 ≤ a
    · have e : a.tmod n = a % n := Int.tmod_eq_emod_of_nonneg ha
      have h' : ¬ a % n < 0 := by rw [← e]; exact h
      clear h t1 t2 e
      go_enter Try.func21, Try.ntmps21
      go_wp2
      go_ret
      exact ⟨rfl, rfl⟩
    · go_enter Try.func21, Try.ntmps21
      go_wp2
      go_ret
      exact ⟨ret_int (unhide hd), rfl⟩

end Go.Proofs.Ytnpdmfhknbfmhaa
