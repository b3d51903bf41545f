/-
  EntGo EntFree FightMath EntKnown EntMath EntRef EntRefGo GoodsArgs GoodsLive
-/
import Derived.Test.YtbanjoflgoiegaaGreatPart26
import Derived.Deep.RegionWith
import Derived.Test.YtbanjoflgoiegaaGreatPart22
import Derived.Laws.AppendOwnNone
import Derived.Deep.Cut
import Derived.Deep.Fields
import Derived.OpenShut
namespace Go.Proofs.YtbanjoflgoiegaaGreat
open Go.RowKit

set_option maxHeartbeats 800000 in
theorem indexFree_any (b n c : Nat) (E : Nat → Nat → Int) (w : World) (hE : Ents w b n E) :
    Calls Tryz.prog 110 #[.slice (some ⟨b, 0, none⟩) n c, .func (.func 142) #[] #[]] w (Says w (.int .i64 (En.first (En.freeQ E) n))) := by
  have hn := hE.1
  have hE' := hide hE
  clear hE
  go_enter Tryz.func110, Tryz.ntmps110
  go_wp2_with fail
  go_loopw [8] (fun i wr => ∃ k : Nat, k ≤ n ∧ i = .int .i64 (k : Int) ∧ (∀ j, j < k → En.freeQ E j = false) ∧ w.grownBy wr none) (fun i _ => 40 - (intOf i).toNat)
  case atStart => exact ⟨0, by omega, rfl, fun j hj => by omega, World.grownBy.refl _ _⟩
  case round =>
    obtain ⟨k, hk, rfl, hno, hgr⟩ := hrel
    have hno' := hide hno
    have hgr' := hide hgr
    clear hno hgr
    by_cases hlt : k < n
    · obtain ⟨u0, u1, u2, u3, u4, u5, u6, u7, u8, u9, u10⟩ := ((unhide hE').on (unhide hgr')).row hlt
      have hlt' : (k : Int) < (n : Int) := by omega
      have HL := hide hlt
      clear hlt
      go_wp2_with fail
      refine (isFree_any (E k) _).mono ?_
      rintro e w1 ⟨rfl, hg0⟩
      have hgr1 := hide (grown_trans (unhide hgr') hg0)
      clear u0 u1 u2 u3 u4 u5 u6 u7 u8 u9 u10 hg0
      obtain ⟨r, hr⟩ : ∃ r : Bool, r = decide (E k 0 = 0) := ⟨_, rfl⟩
      have hq : Hid (En.freeQ E k = r) := hr.symm
      rw [← hr]
      clear hr
      cases r
      · go_wp2
        go_roundw
        case rel => exact ⟨k + 1, by have := unhide HL; omega, by go_num, fun j hj => by
          by_cases e : j = k
          · rw [e]; exact unhide hq
          · exact unhide hno' j (by omega), unhide hgr1⟩
        case measure => simp [intOf]; omega
      · have he := hide (En.first_hit (unhide hno') (unhide hq) (unhide HL))
        go_wp2
        go_ret
        exact ⟨ret_int (unhide he).symm, unhide hgr1⟩
    · have hge : ¬ (k : Int) < (n : Int) := by omega
      have he := hide (En.first_none (n := n) (fun j hj => unhide hno' j (by omega)))
      go_wp2
      go_ret
      exact ⟨ret_int (unhide he).symm, unhide hgr'⟩

def En.gen (e : Nat → Int) (g : Int) : Nat → Int := fun j => if j = 1 then g else e j

def Spawns (w : World) (n : Nat) (E : Nat → Nat → Int) (k : Nat) (e : Ending) (w' : World) : Prop :=
  ∃ g cap, e = .returned (.tuple #[.slice (some ⟨g, 0, none⟩) n cap, .int .i64 (k : Int), .int .i64 0]) ∧ w.heap.size ≤ g ∧ n ≤ cap ∧ cap ≤ maxLen ∧ Own w' g n E ∧ w.grownBy w' none

set_option maxHeartbeats 1600000 in
theorem spawn_full (b n c : Nat) (E : Nat → Nat → Int) (e : Nat → Int) (w : World) (hE : Ents w b n E) (hc : n ≤ c) (hk : 1 ≤ e 0 ∧ e 0 ≤ 4) (hf : En.first (En.freeQ E) n = -1) :
    Calls Tryz.prog 103 #[.slice (some ⟨b, 0, none⟩) n c, .agg (En.cells e)] w (Says w (.tuple #[.slice none 0 0, .int .i64 0, .int .i64 5])) := by
  have hn := hE.1
  obtain ⟨s, hs, hs0⟩ : ∃ s, s = En.stats (e 0) ∧ ¬ s 0 = 0 := ⟨_, rfl, by show ¬ (if 1 ≤ e 0 ∧ e 0 ≤ 4 then e 0 else 0) = 0; rw [if_pos hk]; omega⟩
  have cs : Hid (∀ x : World, Calls Tryz.prog 80 #[.int .i64 (e 0)] x (Says x (.agg (En.cells s)))) := fun x => by rw [hs]; exact entStats_any (e 0) x
  have ci : Hid (∀ x : World, w.grownBy x none → Calls Tryz.prog 110 #[.slice (some ⟨b, 0, none⟩) n c, .func (.func 142) #[] #[]] x (Says x (.int .i64 (-1)))) := fun x hg => by
    have := indexFree_any b n c E x (hE.on hg)
    rwa [hf] at this
  clear hk hs hE hf
  unfold En.cells at cs ⊢
  go_enter Tryz.func103, Tryz.ntmps103
  go_wp2_with fail
  refine (unhide cs _).mono ?_
  rintro _ w1 ⟨rfl, hg⟩
  have hg1 := hide (grown_trans (World.grownBy_alloc _ _ _) hg)
  clear hg
  go_wp2_with (go_at_call 141; refine (rows_any _ _ _ _ hn hc).mono ?_; rintro e w' ⟨rfl, hw⟩; subst w')
  refine (unhide ci _ (unhide hg1)).mono ?_
  rintro _ w2 ⟨rfl, hg⟩
  have hg2 := hide (grown_trans (unhide hg1) hg)
  clear hg
  go_wp2
  go_ret3
  exact ⟨rfl, unhide hg2⟩

set_option maxHeartbeats 1600000 in
theorem spawn_some (b n c k : Nat) (E : Nat → Nat → Int) (e : Nat → Int) (w : World) (hE : Ents w b n E) (hc : n ≤ c) (hk : 1 ≤ e 0 ∧ e 0 ≤ 4) (hf : En.first (En.freeQ E) n = (k : Int)) (hkn : k < n) (hG : En.Gens n E) :
    Calls Tryz.prog 103 #[.slice (some ⟨b, 0, none⟩) n c, .agg (En.cells e)] w (Spawns w n (En.put E k (En.gen e ((E k 1 + 1) % 256))) k) := by
  have hn := hE.1
  obtain ⟨s, hs, hs0⟩ : ∃ s, s = En.stats (e 0) ∧ ¬ s 0 = 0 := ⟨_, rfl, by show ¬ (if 1 ≤ e 0 ∧ e 0 ≤ 4 then e 0 else 0) = 0; rw [if_pos hk]; omega⟩
  have cs : Hid (∀ x : World, Calls Tryz.prog 80 #[.int .i64 (e 0)] x (Says x (.agg (En.cells s)))) := fun x => by rw [hs]; exact entStats_any (e 0) x
  have ci : Hid (∀ x : World, w.grownBy x none → Calls Tryz.prog 110 #[.slice (some ⟨b, 0, none⟩) n c, .func (.func 142) #[] #[]] x (Says x (.int .i64 (k : Int)))) := fun x hg => by
    have := indexFree_any b n c E x (hE.on hg)
    rwa [hf] at this
  obtain ⟨g0, g1⟩ := hG k hkn
  have hkn' : (k : Int) < (n : Int) := by omega
  have hE' := hide hE
  have HK := hide hkn
  have hbb := hide hE.2.1
  have hbox := hide (Arr.lit (heap_alloc_new w (.cells (En.cells e) 54)))
  have cw : Hid (∀ x : World, Ents x b n E → Calls Tryz.prog 143 #[.slice (some ⟨b, 0, none⟩) n c, .int .i64 (k : Int), .agg (En.cells (En.gen e ((E k 1 + 1) % 256)))] x (Lists x n (En.put E k (En.gen e ((E k 1 + 1) % 256))))) := fun x h => with_any b n c k E _ x h hkn
  obtain ⟨F, hF⟩ : ∃ F, F = En.put E k (En.gen e ((E k 1 + 1) % 256)) := ⟨_, rfl⟩
  rw [← hF] at cw ⊢
  clear hk hs hE hf hG hkn hF
  unfold En.cells at cs hbox cw ⊢
  go_enter Tryz.func103, Tryz.ntmps103
  go_wp2_with fail
  refine (unhide cs _).mono ?_
  rintro _ w1 ⟨rfl, hg⟩
  have hg1 := hide (grown_trans (World.grownBy_alloc _ _ _) hg)
  have hbox1 := hide ((unhide hbox).grown hg (by simp))
  clear hg hbox
  go_wp2_with (go_at_call 141; refine (rows_any _ _ _ _ hn hc).mono ?_; rintro e w' ⟨rfl, hw⟩; subst w')
  refine (unhide ci _ (unhide hg1)).mono ?_
  rintro _ w2 ⟨rfl, hg⟩
  have hg2 := hide (grown_trans (unhide hg1) hg)
  have hbox2 := hide ((unhide hbox1).grown hg (by simp))
  have z := fun j (hj : j < 11) => (unhide hbox2).cell (i := j) hj
  have z0 := z 0 (by omega)
  have z1 := z 1 (by omega)
  have z2 := z 2 (by omega)
  have z3 := z 3 (by omega)
  have z4 := z 4 (by omega)
  have z5 := z 5 (by omega)
  have z6 := z 6 (by omega)
  have z7 := z 7 (by omega)
  have z8 := z 8 (by omega)
  have z9 := z 9 (by omega)
  have z10 := z 10 (by omega)
  simp only [List.getElem?_toArray, List.getElem?_cons_zero, List.getElem?_cons_succ, Option.getD_some] at z0 z1 z2 z3 z4 z5 z6 z7 z8 z9 z10
  have zf := (unhide hbox2).free 1
  have u1 : w2.cell? ⟨b, k * 11 + 1, none⟩ = some (.int .i64 (E k 1)) := ((unhide hE').on (unhide hg2)).2.2 k 1 (unhide HK) (by omega)
  have hne : Hid (w.heap.size ≠ b) := by have := unhide hbb; exact (show w.heap.size ≠ b by omega)
  have hE3 : Hid (∀ u, Ents (w2.setCell ⟨w.heap.size, 1, none⟩ u) b n E) := fun u => ((unhide hE').on (unhide hg2)).set (unhide hne) u
  have hg3 : Hid (∀ u, w.grownBy (w2.setCell ⟨w.heap.size, 1, none⟩ u) none) := fun u => grown_store (unhide hg2) ⟨w.heap.size, 1, none⟩ (Nat.le_refl _) u
  clear hg z hg1 hbox1 ci cs
  go_wp2_with fail
  refine (unhide cw _ (unhide hE3 _)).mono ?_
  rintro _ w3 ⟨g, cap, rfl, hlo, hnc, hcm, hown, hgr⟩
  have hfin := hide (show w.heap.size ≤ g ∧ n ≤ cap ∧ cap ≤ maxLen ∧ Own w3 g n F ∧ w.grownBy w3 none from ⟨Nat.le_trans (unhide hg3 _).size hlo, hnc, hcm, hown, grown_trans (unhide hg3 _) hgr⟩)
  clear hlo hnc hcm hown hgr z0 z1 z2 z3 z4 z5 z6 z7 z8 z9 z10 zf u1
  go_wp2
  go_ret3
  exact ⟨g, cap, rfl, unhide hfin⟩

end Go.Proofs.YtbanjoflgoiegaaGreat

namespace Go.Proofs.YtbanjoflgoiegaaGreat
open Go.RowKit

def En.hole (g : Int) : Nat → Int := fun j => if j = 1 then g else 0

theorem free_in (b n c k : Nat) (E : Nat → Nat → Int) (w : World) (hE : Ents w b n E) (hc : n ≤ c) (hk : k < n) :
    Calls Tryz.prog 105 #[.slice (some ⟨b, 0, none⟩) n c, .int .i64 (k : Int)] w (Lists w n (En.put E k (En.hole (E k 1)))) := by
  have hn := hE.1
  have cr : ∀ x : World, Calls Tryz.prog 145 #[.slice (some ⟨b, 0, none⟩) n c, .int .i64 (k : Int)] x fun e w' => e = .returned (.bool true) ∧ w' = x := fun x => by
    have := isRow_any (some ⟨b, 0, none⟩) n c (k : Int) x hn hc
    rwa [show En.isRow n (k : Int) = true from decide_eq_true (by omega)] at this
  have cw := hide (with_any b n c k E (En.hole (E k 1)) w hE hk)
  have u1 : w.cell? ⟨b, k * 11 + 1, none⟩ = some (.int .i64 (E k 1)) := hE.2.2 k 1 hk (by omega)
  have hk' : (k : Int) < (n : Int) := by omega
  clear hE
  go_enter Tryz.func105, Tryz.ntmps105
  go_wp2_with (go_at_call 145; refine (cr _).mono ?_; rintro e w' ⟨rfl, hw⟩; subst w')
  refine (unhide cw).mono ?_
  rintro _ w1 ⟨g, cap, rfl, hfin⟩
  have hfin' := hide hfin
  clear hfin u1
  go_wp2
  go_ret
  exact ⟨g, cap, rfl, unhide hfin'⟩

end Go.Proofs.YtbanjoflgoiegaaGreat

namespace Go.Proofs.YtbanjoflgoiegaaGreat
open Go.RowKit

namespace Ft

def there (E : Nat → Nat → Int) (row : Int) : Bool := decide (0 ≤ row ∧ row < 32) && decide (E row.toNat 0 ≠ 0)

theorem there_at {E : Nat → Nat → Int} {k : Nat} (hk : k < 32) : there E (k : Int) = decide (E k 0 ≠ 0) := by
  unfold there
  rw [Int.toNat_natCast, decide_eq_true (by omega)]
  rfl

theorem there_pos {E : Nat → Nat → Int} {row : Int} (h : there E row = true) : ∃ k : Nat, k < 32 ∧ row = (k : Int) ∧ E k 0 ≠ 0 := by
  unfold there at h
  simp only [Bool.and_eq_true, decide_eq_true_eq] at h
  exact ⟨row.toNat, by omega, by omega, h.2⟩

def hurtE (E : Nat → Nat → Int) (k : Nat) (n : Int) : Nat → Nat → Int := if n < E k 5 then Gd.set E k 5 (E k 5 - n) else En.put E k (En.hole (E k 1))

def hurtI (E I : Nat → Nat → Int) (k : Nat) (n : Int) : Nat → Nat → Int := if n < E k 5 then I else if E k 0 = 1 then Gd.sweep I (E k 2) else I

def hE (E : Nat → Nat → Int) (row n : Int) : Nat → Nat → Int := if there E row = true ∧ 1 ≤ n then hurtE E row.toNat n else E

def hI (E I : Nat → Nat → Int) (row n : Int) : Nat → Nat → Int := if there E row = true ∧ 1 ≤ n then hurtI E I row.toNat n else I

def arm (E I : Nat → Nat → Int) (k : Nat) : Int := E k 7 + if E k 0 = 1 then Gd.three (Gd.wornK I (E k 2) 2 40) else 0

def guard (E I : Nat → Nat → Int) (k : Nat) : Int := E k 8 + if E k 0 = 1 then Gd.two (Gd.wornK I (E k 2) 3 40) else 0

def force (s : Nat → Int) (E I : Nat → Nat → Int) (f t : Nat) : Int := max 1 (arm E I f - guard E I t) + Dc.die 3 (s 0) [s 1, (f : Int), (t : Int), 77]

def leaveE (s : Nat → Int) (E : Nat → Nat → Int) (f t : Nat) : Nat → Nat → Int :=
  if E f 0 = 4 then Gd.set E t 9 (min (E t 9 + 3) 9)
  else if E f 0 = 3 ∧ Dc.die 4 (s 0) [s 1, (f : Int), (t : Int), 78] = 0 then Gd.set E t 10 (min (E t 10 + 2) 9) else E

def blowE (s : Nat → Int) (E I : Nat → Nat → Int) (f t : Nat) : Nat → Nat → Int :=
  if hurtE E t (force s E I f t) t 0 ≠ 0 then leaveE s (hurtE E t (force s E I f t)) f t else hurtE E t (force s E I f t)

def blowI (s : Nat → Int) (E I : Nat → Nat → Int) (f t : Nat) : Nat → Nat → Int := hurtI E I t (force s E I f t)

def hitE (s : Nat → Int) (E I : Nat → Nat → Int) (f t : Int) : Nat → Nat → Int := if there E f = true ∧ there E t = true then blowE s E I f.toNat t.toNat else E

def hitI (s : Nat → Int) (E I : Nat → Nat → Int) (f t : Int) : Nat → Nat → Int := if there E f = true ∧ there E t = true then blowI s E I f.toNat t.toNat else I

def stunE (E : Nat → Nat → Int) (k : Nat) : Nat → Nat → Int := if 0 < E k 10 then Gd.set E k 10 (E k 10 - 1) else E

def poisE (E : Nat → Nat → Int) (k : Nat) : Nat → Nat → Int := Gd.set E k 9 (E k 9 - 1)

def oneE (E : Nat → Nat → Int) (k : Nat) : Nat → Nat → Int := if 0 < E k 9 then hurtE (poisE (stunE E k) k) k 1 else stunE E k

def oneI (E I : Nat → Nat → Int) (k : Nat) : Nat → Nat → Int := if 0 < E k 9 then hurtI (poisE (stunE E k) k) I k 1 else I

def ailE (E I : Nat → Nat → Int) : Nat → (Nat → Nat → Int) × (Nat → Nat → Int)
  | 0 => (E, I)
  | m + 1 => if (ailE E I m).1 m 0 ≠ 0 then (oneE (ailE E I m).1 m, oneI (ailE E I m).1 (ailE E I m).2 m) else ailE E I m

def Row (e : Nat → Int) : Prop := 0 ≤ e 1 ∧ e 1 ≤ 255 ∧
  ((∀ j, j < 11 → j ≠ 1 → e j = 0) ∨ (1 ≤ e 0 ∧ e 0 ≤ 4 ∧ 1 ≤ e 5 ∧ e 5 ≤ e 6 ∧ e 6 ≤ 20 ∧ 0 ≤ e 7 ∧ e 7 ≤ 5 ∧ 0 ≤ e 8 ∧ e 8 ≤ 1 ∧ 0 ≤ e 9 ∧ e 9 ≤ 9 ∧ 0 ≤ e 10 ∧ e 10 ≤ 9))

structure Fit (c : Nat → Int) (E I : Nat → Nat → Int) : Prop where
  cells : ∀ i, 0 ≤ c i ∧ c i ≤ 255
  ok : Gd.Ok c 40 I
  rows : ∀ k, k < 32 → Row (E k)

theorem Row.taken {e : Nat → Int} (h : Row e) (h0 : e 0 ≠ 0) : 1 ≤ e 0 ∧ e 0 ≤ 4 ∧ 1 ≤ e 5 ∧ e 5 ≤ e 6 ∧ e 6 ≤ 20 ∧ 0 ≤ e 7 ∧ e 7 ≤ 5 ∧ 0 ≤ e 8 ∧ e 8 ≤ 1 ∧ 0 ≤ e 9 ∧ e 9 ≤ 9 ∧ 0 ≤ e 10 ∧ e 10 ≤ 9 := by
  rcases h.2.2 with hz | ht
  · exact absurd (hz 0 (by omega) (by omega)) h0
  · exact ht

theorem row_hole {g : Int} (h0 : 0 ≤ g) (h9 : g ≤ 255) : Row (En.hole g) :=
  ⟨h0, h9, .inl fun _ _ hj => if_neg hj⟩

theorem set_row (E : Nat → Nat → Int) (k j : Nat) (v : Int) (i : Nat) (h : i ≠ k) : Gd.set E k j v i = E i := by
  funext l
  exact Gd.set_other (by omega)

theorem Fit.put {c : Nat → Int} {E I : Nat → Nat → Int} (h : Fit c E I) {k : Nat} {e : Nat → Int} (he : Row e) : Fit c (En.put E k e) I :=
  ⟨h.cells, h.ok, fun i hi => by
    by_cases x : i = k
    · rw [x, En.put_same]; exact he
    · rw [En.put_other x]; exact h.rows i hi⟩

theorem Fit.set {c : Nat → Int} {E I : Nat → Nat → Int} (h : Fit c E I) {k j : Nat} {v : Int} (he : Row (Gd.set E k j v k)) : Fit c (Gd.set E k j v) I :=
  ⟨h.cells, h.ok, fun i hi => by
    by_cases x : i = k
    · rw [x]; exact he
    · rw [set_row E k j v i x]; exact h.rows i hi⟩

theorem Fit.hurt {c : Nat → Int} {E I : Nat → Nat → Int} (h : Fit c E I) {k : Nat} (hk : k < 32) (h0 : E k 0 ≠ 0) {n : Int} (hn : 1 ≤ n) : Fit c (hurtE E k n) (hurtI E I k n) := by
  have hr := h.rows k hk
  have ht := hr.taken h0
  unfold hurtE hurtI
  by_cases hlt : n < E k 5
  · rw [if_pos hlt, if_pos hlt]
    refine h.set ⟨?_, ?_, .inr ?_⟩
    · rw [Gd.set_other (by omega)]; exact hr.1
    · rw [Gd.set_other (by omega)]; exact hr.2.1
    · rw [Gd.set_same, Gd.set_other (show ¬ (k = k ∧ 0 = 5) by omega), Gd.set_other (show ¬ (k = k ∧ 6 = 5) by omega), Gd.set_other (show ¬ (k = k ∧ 7 = 5) by omega), Gd.set_other (show ¬ (k = k ∧ 8 = 5) by omega), Gd.set_other (show ¬ (k = k ∧ 9 = 5) by omega), Gd.set_other (show ¬ (k = k ∧ 10 = 5) by omega)]
      omega
  · rw [if_neg hlt, if_neg hlt]
    have hp := h.put (k := k) (row_hole hr.1 hr.2.1)
    by_cases h1 : E k 0 = 1
    · rw [if_pos h1]
      exact { hp with ok := h.ok.sweep _ }
    · rw [if_neg h1]
      exact hp

theorem hurt_left {E : Nat → Nat → Int} {k : Nat} {n : Int} (h0 : E k 0 ≠ 0) : hurtE E k n k 0 ≠ 0 ↔ n < E k 5 := by
  unfold hurtE
  by_cases hlt : n < E k 5
  · rw [if_pos hlt, Gd.set_other (by omega)]
    exact ⟨fun _ => hlt, fun _ => h0⟩
  · rw [if_neg hlt, En.put_same]
    exact ⟨fun h => absurd rfl h, fun h => absurd h hlt⟩

theorem Fit.stat {c : Nat → Int} {E I : Nat → Nat → Int} (h : Fit c E I) {k j : Nat} (hk : k < 32) (h0 : E k 0 ≠ 0) (hj : j = 9 ∨ j = 10) {v : Int} (v0 : 0 ≤ v) (v9 : v ≤ 9) : Fit c (Gd.set E k j v) I := by
  have hr := h.rows k hk
  have ht := hr.taken h0
  have e : ∀ l, l ≠ j → Gd.set E k j v k l = E k l := fun l hl => Gd.set_other (by omega)
  refine h.set ⟨?_, ?_, .inr ?_⟩
  · rw [e 1 (by omega)]; exact hr.1
  · rw [e 1 (by omega)]; exact hr.2.1
  · rw [e 0 (by omega), e 5 (by omega), e 6 (by omega), e 7 (by omega), e 8 (by omega)]
    rcases hj with rfl | rfl
    · rw [Gd.set_same, e 10 (by omega)]
      omega
    · rw [Gd.set_same, e 9 (by omega)]
      omega

theorem Fit.leave {c : Nat → Int} {E I : Nat → Nat → Int} (h : Fit c E I) {t : Nat} (ht : t < 32) (h0 : E t 0 ≠ 0) (s : Nat → Int) (f : Nat) : Fit c (leaveE s E f t) I := by
  have hx := (h.rows t ht).taken h0
  unfold leaveE
  split
  · exact h.stat ht h0 (.inl rfl) (by omega) (by omega)
  · split
    · exact h.stat ht h0 (.inr rfl) (by omega) (by omega)
    · exact h

theorem force_pos (s : Nat → Int) (E I : Nat → Nat → Int) (f t : Nat) : 1 ≤ force s E I f t := by
  unfold force
  have := (Dc.die_bd 3 (s 0) [s 1, (f : Int), (t : Int), 77] (by omega)).1
  omega

theorem Fit.hit {c : Nat → Int} {E I : Nat → Nat → Int} (h : Fit c E I) (s : Nat → Int) (f t : Int) : Fit c (hitE s E I f t) (hitI s E I f t) := by
  unfold hitE hitI
  by_cases hc : there E f = true ∧ there E t = true
  · rw [if_pos hc, if_pos hc]
    obtain ⟨k, hk, rfl, hk0⟩ := there_pos hc.2
    rw [Int.toNat_natCast]
    have hh := h.hurt hk hk0 (force_pos s E I f.toNat k)
    unfold blowE blowI
    split
    · rename_i h0
      exact hh.leave hk h0 s f.toNat
    · exact hh
  · rw [if_neg hc, if_neg hc]
    exact h

theorem stun_other (E : Nat → Nat → Int) (k l : Nat) (hl : l ≠ 10) : stunE E k k l = E k l := by
  unfold stunE
  split
  · exact Gd.set_other (by omega)
  · rfl

theorem Fit.stun {c : Nat → Int} {E I : Nat → Nat → Int} (h : Fit c E I) {k : Nat} (hk : k < 32) (h0 : E k 0 ≠ 0) : Fit c (stunE E k) I := by
  have ht := (h.rows k hk).taken h0
  unfold stunE
  split
  · exact h.stat hk h0 (.inr rfl) (by omega) (by omega)
  · exact h

theorem Fit.one {c : Nat → Int} {E I : Nat → Nat → Int} (h : Fit c E I) {k : Nat} (hk : k < 32) (h0 : E k 0 ≠ 0) : Fit c (oneE E k) (oneI E I k) := by
  have ht := (h.rows k hk).taken h0
  have hs := h.stun hk h0
  unfold oneE oneI
  split
  · have h0' : stunE E k k 0 ≠ 0 := by rw [stun_other E k 0 (by omega)]; exact h0
    have hp : Fit c (poisE (stunE E k) k) I := hs.stat hk h0' (.inl rfl) (by rw [stun_other E k 9 (by omega)]; omega) (by rw [stun_other E k 9 (by omega)]; omega)
    exact hp.hurt hk (by unfold poisE; rw [Gd.set_other (by omega)]; exact h0') (by omega)
  · exact hs

theorem Fit.ail {c : Nat → Int} {E I : Nat → Nat → Int} (h : Fit c E I) : ∀ m, m ≤ 32 → Fit c (ailE E I m).1 (ailE E I m).2
  | 0, _ => h
  | m + 1, hm => by
    have ih := h.ail m (by omega)
    unfold ailE
    split
    · rename_i h0
      exact ih.one (by omega) h0
    · exact ih

end Ft

end Go.Proofs.YtbanjoflgoiegaaGreat

namespace Go.Proofs.YtbanjoflgoiegaaGreat
open Go.RowKit

def En.one : Nat → Nat → Int := En.put (fun _ _ => 0) 0 (En.gen (En.stats 2) 1)

end Go.Proofs.YtbanjoflgoiegaaGreat

namespace Go.Proofs.YtbanjoflgoiegaaGreat
open Go.RowKit

def En.Full (k : Nat) (E : Nat → Nat → Int) : Prop := (∀ j, j < k → E j 0 ≠ 0 ∧ E j 1 = 1) ∧ ∀ j, k ≤ j → E j 0 = 0 ∧ E j 1 = 0

theorem En.Full.zero : En.Full 0 (fun _ _ => 0) := ⟨fun j h => by omega, fun _ _ => ⟨rfl, rfl⟩⟩

theorem En.stats_kind {K : Int} (h : 1 ≤ K ∧ K ≤ 4) : En.stats K 0 = K := if_pos h

theorem En.Full.next {k : Nat} {E : Nat → Nat → Int} {K : Int} (h : En.Full k E) (hK : 1 ≤ K ∧ K ≤ 4) : En.Full (k + 1) (En.put E k (En.gen (En.stats K) 1)) := by
  refine ⟨fun j hj => ?_, fun j hj => ?_⟩
  · by_cases e : j = k
    · subst e
      rw [En.put_same]
      refine ⟨?_, rfl⟩
      show En.stats K 0 ≠ 0
      rw [En.stats_kind hK]
      omega
    · rw [En.put_other e]
      exact h.1 j (by omega)
  · rw [En.put_other (by omega)]
    exact h.2 j (by omega)

theorem En.Full.gens {k : Nat} {E : Nat → Nat → Int} (h : En.Full k E) : En.Gens 32 E := fun i _ => by
  by_cases e : i < k
  · rw [(h.1 i e).2]; omega
  · rw [(h.2 i (by omega)).2]; omega

theorem En.Full.first {k : Nat} {E : Nat → Nat → Int} (h : En.Full k E) (hk : k < 32) : En.first (En.freeQ E) 32 = (k : Int) :=
  En.first_hit (fun j hj => decide_eq_false (h.1 j hj).1) (decide_eq_true (h.2 k (Nat.le_refl _)).1) hk

theorem En.Gens.free {E : Nat → Nat → Int} (h : En.Gens 32 E) (k : Nat) : En.Gens 32 (En.put E k (En.hole (E k 1))) := fun i hi => by
  by_cases e1 : i = k
  · rw [e1, En.put_same]
    show 0 ≤ E k 1 ∧ E k 1 ≤ 255
    subst e1
    exact h i hi
  · rw [En.put_other e1]
    exact h i hi

end Go.Proofs.YtbanjoflgoiegaaGreat

namespace Go.Proofs.YtbanjoflgoiegaaGreat
open Go.RowKit

end Go.Proofs.YtbanjoflgoiegaaGreat

namespace Go.Proofs.YtbanjoflgoiegaaGreat
open Go.RowKit

end Go.Proofs.YtbanjoflgoiegaaGreat

namespace Go.Proofs.YtbanjoflgoiegaaGreat
open Go.RowKit Go.ChangeShapes Go.WideShapes

structure ItArg (w : World) (a : Option Addr) (len cap : Nat) (M : Nat → Nat → Int) : Prop where
  most : len ≤ maxLen
  cap : len ≤ cap
  rows : len = 0 ∨ ∃ b o, a = some ⟨b, o, none⟩ ∧ b < w.heap.size ∧ ∀ i j, i < len → j < 4 → w.cell? ⟨b, o + i * 4 + j, none⟩ = some (.int .i64 (M i j))

theorem ItArg.on {w w' : World} {a : Option Addr} {len cap : Nat} {M : Nat → Nat → Int} (h : ItArg w a len cap M) (hg : w.grownBy w' none) : ItArg w' a len cap M :=
  ⟨h.most, h.cap, h.rows.imp id fun ⟨b, o, ha, hb, hc⟩ => ⟨b, o, ha, Nat.lt_of_lt_of_le hb hg.size, fun i j hi hj => (grown_cell hg b _ hb (by simp)).trans (hc i j hi hj)⟩⟩

theorem ItArg.some {w : World} {a : Option Addr} {len cap : Nat} {M : Nat → Nat → Int} (h : ItArg w a len cap M) (n : Nat) (hn : n ≤ len) (h100 : n ≤ 100) : Gd.Some w a n M := by
  refine ⟨h100, ?_⟩
  rcases h.rows with h0 | ⟨b, o, ha, hb, hc⟩
  · exact .inl (by omega)
  · exact .inr ⟨b, o, ha, h100, hb, fun i j hi hj => hc i j (by omega) hj⟩

structure NumArg (w : World) (a : Option Addr) (len : Nat) (f : Nat → Int) : Prop where
  most : len ≤ maxLen
  rows : len = 0 ∨ ∃ b o, a = some ⟨b, o, none⟩ ∧ b < w.heap.size ∧ ∀ i, i < len → w.cell? ⟨b, o + i, none⟩ = some (.int .i64 (f i))

theorem NumArg.on {w w' : World} {a : Option Addr} {len : Nat} {f : Nat → Int} (h : NumArg w a len f) (hg : w.grownBy w' none) : NumArg w' a len f :=
  ⟨h.most, h.rows.imp id fun ⟨b, o, ha, hb, hc⟩ => ⟨b, o, ha, Nat.lt_of_lt_of_le hb hg.size, fun i hi => (grown_cell hg b _ hb (by simp)).trans (hc i hi)⟩⟩

theorem NumArg.at {w : World} {a : Option Addr} {len : Nat} {f : Nat → Int} (h : NumArg w a len f) {k : Nat} (hk : k < len) : ∃ b o, a = some ⟨b, o, none⟩ ∧ b < w.heap.size ∧ w.cell? ⟨b, o + k, none⟩ = some (.int .i64 (f k)) := by
  rcases h.rows with h0 | ⟨b, o, ha, hb, hc⟩
  · omega
  · exact ⟨b, o, ha, hb, hc k hk⟩

end Go.Proofs.YtbanjoflgoiegaaGreat

namespace Go.Proofs.YtbanjoflgoiegaaGreat
open Go.RowKit

structure Gd.Live (c g : Nat → Int) (E I : Nat → Nat → Int) : Prop where
  fine : Gd.Fine c g E I
  stand : ∀ k, k < 32 → E k 0 = 1 → Gr.inB (E k 3) (E k 4) = true ∧ Gr.walkB (Gr.at 384 c (E k 3) (E k 4)) = true ∧ 0 ≤ E k 6 ∧ E k 6 ≤ 1000

theorem Gd.gold_in {c g : Nat → Int} {E I : Nat → Nat → Int} (h : Gd.Fine c g E I) {t : Nat} (ht : t < 4) (X Y : Int) (shop : Bool) (input : Int) : 0 ≤ Gd.goldOf I (t : Int) X Y shop (g t) input ∧ Gd.goldOf I (t : Int) X Y shop (g t) input ≤ 999 := by
  obtain ⟨g0, g9⟩ := h.gold t ht
  unfold Gd.goldOf
  split
  · split
    · omega
    · exact ⟨g0, g9⟩
  · split
    · split
      · rename_i hb
        simp only [Gd.buys, Bool.and_eq_true, decide_eq_true_eq] at hb
        omega
      · exact ⟨g0, g9⟩
    · exact ⟨g0, g9⟩

theorem Gd.Live.next {c g : Nat → Int} {E I : Nat → Nat → Int} (h : Gd.Live c g E I) (seat input : Int) : Gd.Live c (Gd.nextG c g E I seat input) (Gd.nextE E I seat input) (Gd.nextI c g E I seat input) := by
  by_cases hc : 0 ≤ seat ∧ seat < 4 ∧ 0 ≤ Gd.hero E seat
  · obtain ⟨s0, s4, h0⟩ := hc
    obtain ⟨t, rfl⟩ : ∃ t : Nat, seat = (t : Int) := ⟨seat.toNat, by omega⟩
    obtain ⟨k, hk, hh, he, hk0⟩ := Gd.hero_pos h0
    have ht : t < 4 := by omega
    have hc : 0 ≤ (t : Int) ∧ (t : Int) < 4 ∧ 0 ≤ Gd.hero E (t : Int) := ⟨s0, s4, h0⟩
    obtain ⟨hin, hw, m0, m9⟩ := h.stand k hk hk0
    unfold Gd.nextG Gd.nextE Gd.nextI
    rw [if_pos hc, if_pos hc, if_pos hc, hh, Int.toNat_natCast, Int.toNat_natCast]
    have hg := Gd.gold_in h.fine ht (E k 3) (E k 4) (decide (Gr.at 384 c (E k 3) (E k 4) = 5)) input
    have hE : ∀ (i l : Nat), l ≠ 5 → l ≠ 9 → Gd.entsOf E I k (t : Int) input i l = E i l := fun i l h5 h9 => by
      unfold Gd.entsOf
      split
      · unfold Gd.heal
        rw [Gd.set_other (by omega), Gd.set_other (by omega)]
      · rfl
    refine ⟨⟨h.fine.cells, fun i hi => ?_, fun i hi => ?_, h.fine.ok.act s0 s4 hin hw _ _ _⟩, fun i hi h1 => ?_⟩
    · unfold Gd.give
      split
      · exact hg
      · exact h.fine.gold i hi
    · unfold Gd.entsOf
      split
      · unfold Gd.heal
        rw [Gd.set_other (by omega)]
        by_cases e : i = k
        · subst e
          rw [Gd.set_same]
          have := h.fine.hp i hi
          omega
        · rw [Gd.set_other (by omega)]
          exact h.fine.hp i hi
      · exact h.fine.hp i hi
    · rw [hE i 0 (by omega) (by omega)] at h1
      rw [hE i 3 (by omega) (by omega), hE i 4 (by omega) (by omega), hE i 6 (by omega) (by omega)]
      exact h.stand i hi h1
  · unfold Gd.nextG Gd.nextE Gd.nextI
    rw [if_neg hc, if_neg hc, if_neg hc]
    exact h

theorem Gd.Law.aside {w x : World} {T V gC gE gI cC cE cI : Nat} {s g c : Nat → Int} {E I : Nat → Nat → Int} (h : Gd.Law w x T gC gE gI cC cE cI s g c E I) (hV : w.heap.size ≤ V) (n0 : V ≠ T) (n1 : V ≠ gC) (n2 : V ≠ gE) (n3 : V ≠ gI) (vs : List Value) : Gd.Law w (x.setCells V 0 vs) T gC gE gI cC cE cI s g c E I := by
  have r := grown_sets (g := V) vs 0 x (World.grownBy.refl _ _)
  exact { h with hold := { h.hold with box := h.hold.box.grown r (by simpa using n0), lists := ⟨h.hold.lists.cells.grown r (by simpa using n1), h.hold.lists.ents.grown r (by simpa using n2), h.hold.lists.items.grown r (by simpa using n3)⟩ }, grown := own_sets hV _ 0 x h.grown }

theorem Gd.Law.take {w x : World} {T T2 gC gE gI cC cE cI jC jE jI dC dE dI : Nat} {s g c s' g' c' : Nat → Int} {E I F J : Nat → Nat → Int} (h : Gd.Law w x T gC gE gI cC cE cI s g c E I) (h2 : Gd.Law w x T2 jC jE jI dC dE dI s' g' c' F J) : Gd.Law w (x.setCells T 0 (Gd.world s' jC jE jI dC dE dI g').toList) T jC jE jI dC dE dI s' g' c' F J := by
  have n1 := h.hold.box.type_ne h2.hold.lists.cells (by decide)
  have n2 := h.hold.box.type_ne h2.hold.lists.ents (by decide)
  have n3 := h.hold.box.type_ne h2.hold.lists.items (by decide)
  have r := grown_sets (g := T) (Gd.world s' jC jE jI dC dE dI g').toList 0 x (World.grownBy.refl _ _)
  exact ⟨⟨h.hold.box.whole s' g' jC jE jI dC dE dI, ⟨h2.hold.lists.cells.grown r (by simpa using n1), h2.hold.lists.ents.grown r (by simpa using n2), h2.hold.lists.items.grown r (by simpa using n3)⟩, n1, n2, n3, h2.hold.cE, h2.hold.cI, h2.hold.eI⟩, h.lT, h2.lE, h2.lI, h2.cap, own_sets h.lT _ 0 x h.grown⟩

theorem Gd.Few.kept {I J : Nat → Nat → Int} (h : Gd.Few I J) (k : Nat) : J k 0 = I k 0 ∨ Gd.Zero (J k) := by
  obtain ⟨i, j, _, h2⟩ := h
  exact h2 k

end Go.Proofs.YtbanjoflgoiegaaGreat
