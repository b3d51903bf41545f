/-
  Entities that come and go, as the document's chapter, said again, answers; and the law package's own Same.
-/
import Derived.Test.YtbooojkhcnfhbaaEntRef
import Derived.Deep.Cut
namespace Go.Proofs.Ytbooojkhcnfhbaa
open Go.RowKit

theorem Own.of_append {w : World} {base n : Nat} {v : Value} {E : Nat → Nat → Int} (h : w.ownsRow base 24 11 v n (En.list n E)) (hv : v ≠ .slice none 0 0) (hn : n ≤ 32) :
    ∃ g cap, v = .slice (some ⟨g, 0, none⟩) n cap ∧ base ≤ g ∧ n ≤ cap ∧ cap ≤ maxLen ∧ Own w g n E := by
  rcases h.2 with ⟨h', _⟩ | ⟨g, cap, cur, rfl, hb, hg, hnc, hcm, hcs, htake⟩
  · exact absurd h' hv
  · exact ⟨g, cap, rfl, hb, hnc, hcm, Own.of_owns h hn (fun c hc => En.list_at hc)⟩

theorem En.flat_src {w w' : World} {b n : Nat} {E : Nat → Nat → Int} (h : Ents w b n E) (hg : w.grownBy w' none) : ∀ j v, (En.list n E)[j]? = some v → w'.cell? ((⟨b, 0, none⟩ : Addr).add j) = some v := (h.on hg).src

set_option maxHeartbeats 1600000 in
theorem refFree_in (b n c k : Nat) (E : Nat → Nat → Int) (w : World) (hE : Ents w b n E) (hk : k < n) :
    Calls Try.prog 13 #[.slice (some ⟨b, 0, none⟩) n c, .int .i64 (k : Int)] w (Lists w n (En.put E k (En.hole (E k 1)))) := by
  have hn := hE.1
  have hk' : (k : Int) < (n : Int) := by omega
  have hE' := hide hE
  have HK := hide hk
  obtain ⟨i0, hi, hz0, hz1, hz2⟩ := info_parts info_ent
  have hst : Hid (∀ (x : World) (g : Nat), Own x g n E → Own (x.setCells g (k * 11) (En.cells (En.hole (E k 1))).toList) g n (En.put E k (En.hole (E k 1)))) := fun x g h => h.store k _
  have hgs : Hid (∀ (x : World) (g : Nat), w.grownBy x none → w.heap.size ≤ g → w.grownBy (x.setCells g (k * 11) (En.cells (En.hole (E k 1))).toList) none) := fun x g h hg => grown_sets hg _ _ x h
  clear hE
  go_enter Try.func13, Try.ntmps13
  go_wp2_with (at_builtin; refine wpList_append_own _ rfl _ _ 22 rfl w.heap.size 24 i0 (.agg #[.int .i64 0, .int .i64 0, .int .i64 0, .int .i64 0, .int .i64 0, .int .i64 0, .int .i64 0, .int .i64 0, .int .i64 0, .int .i64 0, .int .i64 0]) 11 88 Try.underlying22 hi hz0 hz1 hz2 rfl (by decide) _ 0 [] rfl (World.ownsRow_made _ _ _ (Nat.le_refl _) (by decide) (by simp)) ⟨b, 0, none⟩ n c (En.list n E) rfl (En.list_len n E) (En.flat_src (unhide hE') (World.grownBy_alloc _ _ _)) En.list_one ?c4 ?c5 ?c6 ?_)
  case c4 => unfold maxLen; omega
  case c5 => omega
  case c6 => simp
  intro v' w1 hown hgrow hnil
  obtain ⟨g, cap, rfl, hlo, hnc, hcm, hown1⟩ := Own.of_append hown hnil hn
  have hgr1 := hide (grown_own (World.grownBy_alloc w (.cells #[] 24) none) hgrow (by intro m hm; simp [Value.ownBlock] at hm; omega))
  have hcapf := hide (And.intro hlo (And.intro hnc hcm))
  obtain ⟨u0, u1, u2, u3, u4, u5, u6, u7, u8, u9, u10⟩ := hown1.ents.row hk
  have f := fun i => hown1.free i
  have s1 : w1.cell? ⟨b, k * 11 + 1, none⟩ = some (.int .i64 (E k 1)) := ((unhide hE').on (unhide hgr1)).2.2 k 1 hk (by omega)
  have hown1' := hide hown1
  clear hown hgrow hnil hlo hnc hcm hown1 hi hz0 hz1 hz2
  go_wp2
  go_ret
  exact ⟨g, cap, rfl, (unhide hcapf).1, (unhide hcapf).2.1, (unhide hcapf).2.2, unhide hst _ _ (unhide hown1'), unhide hgs _ _ (unhide hgr1) (unhide hcapf).1⟩

set_option maxHeartbeats 1600000 in
theorem refFree_out (b n c : Nat) (E : Nat → Nat → Int) (row : Int) (w : World) (hE : Ents w b n E) (h : ¬ (0 ≤ row ∧ row < n)) :
    Calls Try.prog 13 #[.slice (some ⟨b, 0, none⟩) n c, .int .i64 row] w (Lists w n E) := by
  have hn := hE.1
  have hE' := hide hE
  obtain ⟨i0, hi, hz0, hz1, hz2⟩ := info_parts info_ent
  clear hE
  go_enter Try.func13, Try.ntmps13
  go_wp2_with (at_builtin; refine wpList_append_own _ rfl _ _ 22 rfl w.heap.size 24 i0 (.agg #[.int .i64 0, .int .i64 0, .int .i64 0, .int .i64 0, .int .i64 0, .int .i64 0, .int .i64 0, .int .i64 0, .int .i64 0, .int .i64 0, .int .i64 0]) 11 88 Try.underlying22 hi hz0 hz1 hz2 rfl (by decide) _ 0 [] rfl (World.ownsRow_made _ _ _ (Nat.le_refl _) (by decide) (by simp)) ⟨b, 0, none⟩ n c (En.list n E) rfl (En.list_len n E) (En.flat_src (unhide hE') (World.grownBy_alloc _ _ _)) En.list_one ?c4 ?c5 ?c6 ?_)
  case c4 => unfold maxLen; omega
  case c5 => omega
  case c6 => simp
  intro v' w1 hown hgrow hnil
  obtain ⟨g, cap, rfl, hlo, hnc, hcm, hown1⟩ := Own.of_append hown hnil hn
  have hgr1 := hide (grown_own (World.grownBy_alloc w (.cells #[] 24) none) hgrow (by intro m hm; simp [Value.ownBlock] at hm; omega))
  have hfin := hide (show w.heap.size ≤ g ∧ n ≤ cap ∧ cap ≤ maxLen ∧ Own w1 g n E ∧ w.grownBy w1 none from ⟨hlo, hnc, hcm, hown1, unhide hgr1⟩)
  clear hown hgrow hnil hlo hnc hcm hown1 hi hz0 hz1 hz2 hgr1
  by_cases h0 : 0 ≤ row
  · have h1 : ¬ row < (n : Int) := by omega
    clear h
    go_wp2
    go_ret
    exact ⟨g, cap, rfl, unhide hfin⟩
  · clear h
    go_wp2
    go_ret
    exact ⟨g, cap, rfl, unhide hfin⟩

set_option maxHeartbeats 800000 in
theorem refSpawn_bad (b n c : Nat) (e : Nat → Int) (w : World) (hk : ¬ (1 ≤ e 0 ∧ e 0 ≤ 4)) :
    Calls Try.prog 10 #[.slice (some ⟨b, 0, none⟩) n c, .agg (En.cells e)] w (Says w (.tuple #[.slice none 0 0, .int .i64 0, .int .i64 3])) := by
  have hg := hide (World.grownBy_alloc w (.cells (En.cells e) 24) none)
  unfold En.cells at hg ⊢
  by_cases h1 : e 0 < 1
  · clear hk
    go_enter Try.func10, Try.ntmps10
    go_wp2
    go_ret3
    exact ⟨rfl, unhide hg⟩
  · have h4 : 4 < e 0 := by omega
    clear hk
    go_enter Try.func10, Try.ntmps10
    go_wp2
    go_ret3
    exact ⟨rfl, unhide hg⟩

set_option maxHeartbeats 1600000 in
theorem refSpawn_full (b n c : Nat) (E : Nat → Nat → Int) (e : Nat → Int) (w : World) (hE : Ents w b n E) (hk : 1 ≤ e 0 ∧ e 0 ≤ 4) (hf : ∀ j, j < n → En.freeQ E j = false) :
    Calls Try.prog 10 #[.slice (some ⟨b, 0, none⟩) n c, .agg (En.cells e)] w (Says w (.tuple #[.slice none 0 0, .int .i64 0, .int .i64 5])) := by
  have hn := hE.1
  have hg := hide (World.grownBy_alloc w (.cells (En.cells e) 24) none)
  have hE' := hide (hE.on (unhide hg))
  have hf' := hide hf
  obtain ⟨W, hW⟩ : ∃ W, W = w.alloc (.cells (En.cells e) 24) := ⟨_, rfl⟩
  rw [← hW] at hg hE'
  obtain ⟨k1, k2⟩ := hk
  have k3 : ¬ e 0 < 1 := by omega
  have k4 : ¬ 4 < e 0 := by omega
  have hW' := hide hW
  clear hE hf hW
  unfold En.cells at hW' ⊢
  go_enter Try.func10, Try.ntmps10
  go_wp2_with fail
  rw [← unhide hW']
  clear hW' k1 k2 k3 k4
  go_loop [7] (fun i => ∃ k : Nat, k ≤ n ∧ i = .int .i64 (k : Int)) (fun i => 40 - (intOf i).toNat)
  case atStart => exact ⟨0, by omega, rfl⟩
  case round =>
    obtain ⟨k, hk, rfl⟩ := hrel
    by_cases hlt : k < n
    · obtain ⟨u0, _⟩ := (unhide hE').row hlt
      have hlt' : (k : Int) < (n : Int) := by omega
      have h32 : (k : Int) < 32 := by omega
      have hz : (E k 0 == 0) = false := by have := unhide hf' k hlt; simpa [En.freeQ] using this
      have HL := hide hlt
      clear hlt
      go_wp2
      go_round
      case rel => exact ⟨k + 1, by have := unhide HL; omega, by go_num⟩
      case measure => simp [intOf]; omega
    · have hge : ¬ (k : Int) < (n : Int) := by omega
      go_wp2
      go_ret3
      exact ⟨rfl, unhide hg⟩

set_option maxRecDepth 8000 in
set_option maxHeartbeats 4000000 in
theorem refSpawn_some (b n c r : Nat) (E : Nat → Nat → Int) (e : Nat → Int) (w : World) (hE : Ents w b n E) (hk : 1 ≤ e 0 ∧ e 0 ≤ 4) (hr : r < n) (hq : E r 0 = 0) (hf : ∀ j, j < r → En.freeQ E j = false) (hG : En.Gens n E) :
    Calls Try.prog 10 #[.slice (some ⟨b, 0, none⟩) n c, .agg (En.cells e)] w (Spawns w n (En.put E r (En.gen e ((E r 1 + 1) % 256))) r) := by
  have hn := hE.1
  have hg := hide (World.grownBy_alloc w (.cells (En.cells e) 24) none)
  have hE' := hide (hE.on (unhide hg))
  have hbox := hide (Arr.lit (heap_alloc_new w (.cells (En.cells e) 24)))
  have hf' := hide hf
  obtain ⟨g0, g1⟩ := hG r hr
  obtain ⟨W, hW⟩ : ∃ W, W = w.alloc (.cells (En.cells e) 24) := ⟨_, rfl⟩
  have hWs : Hid (W.heap.size = w.heap.size + 1) := by rw [hW]; simp [Hid]
  rw [← hW] at hg hE' hbox
  obtain ⟨k1, k2⟩ := hk
  have k3 : ¬ e 0 < 1 := by omega
  have k4 : ¬ 4 < e 0 := by omega
  have hW' := hide hW
  have hbw := hide hE.2.1
  obtain ⟨i0, hi, hz0, hz1, hz2⟩ := info_parts info_ent
  obtain ⟨G2, hG2⟩ : ∃ G2, G2 = (E r 1 + 1) % 256 := ⟨_, rfl⟩
  have hst : Hid (∀ (x : World) (g : Nat), Own x g n E → Own (x.setCells g (r * 11) (En.cells (En.gen e G2)).toList) g n (En.put E r (En.gen e G2))) := fun x g h => h.store r _
  have hgs : Hid (∀ (x : World) (g : Nat), w.grownBy x none → w.heap.size ≤ g → w.grownBy (x.setCells g (r * 11) (En.cells (En.gen e G2)).toList) none) := fun x g h hg => grown_sets hg _ _ x h
  obtain ⟨F, hF⟩ : ∃ F, F = En.put E r (En.gen e G2) := ⟨_, rfl⟩
  rw [← hF] at hst
  rw [← hG2, ← hF]
  have hG2' := hide hG2
  have hq' := hide hq
  clear hE hf hW hG hF hG2 hq
  unfold En.cells at hW' hbox ⊢
  go_enter Try.func10, Try.ntmps10
  go_wp2_with fail
  rw [← unhide hW']
  clear hW' k1 k2 k3 k4
  go_loop [7] (fun i => ∃ k : Nat, k ≤ r ∧ i = .int .i64 (k : Int)) (fun i => 40 - (intOf i).toNat)
  case atStart => exact ⟨0, by omega, rfl⟩
  case round =>
    obtain ⟨k, hk, rfl⟩ := hrel
    by_cases hlt : k < r
    · obtain ⟨u0, _⟩ := (unhide hE').row (k := k) (by omega)
      have hlt' : (k : Int) < (n : Int) := by omega
      have h32 : (k : Int) < 32 := by omega
      have hz : (E k 0 == 0) = false := by have := unhide hf' k hlt; simpa [En.freeQ] using this
      have HL := hide hlt
      clear hlt
      go_wp2
      go_round
      case rel => exact ⟨k + 1, by have := unhide HL; omega, by go_num⟩
      case measure => simp [intOf]; omega
    · obtain rfl : k = r := by omega
      obtain ⟨u0, u1, _⟩ := (unhide hE').row hr
      rw [unhide hq'] at u0
      have hlt' : (k : Int) < (n : Int) := by omega
      have h32 : (k : Int) < 32 := by omega
      go_wp2_with (at_builtin; refine wpList_append_own _ rfl _ _ 22 rfl W.heap.size 24 i0 (.agg #[.int .i64 0, .int .i64 0, .int .i64 0, .int .i64 0, .int .i64 0, .int .i64 0, .int .i64 0, .int .i64 0, .int .i64 0, .int .i64 0, .int .i64 0]) 11 88 Try.underlying22 hi hz0 hz1 hz2 rfl (by decide) _ 0 [] rfl (World.ownsRow_made _ _ _ (Nat.le_refl _) (by decide) (by simp)) ⟨b, 0, none⟩ n c (En.list n E) rfl (En.list_len n E) (En.flat_src (unhide hE') (World.grownBy_alloc _ _ _)) En.list_one ?c4 ?c5 ?c6 ?_)
      case c4 => unfold maxLen; omega
      case c5 => omega
      try (case c6 => simp)
      intro v' w1 hown hgrow hnil
      obtain ⟨g, cap, rfl, hlo, hnc, hcm, hown1⟩ := Own.of_append hown hnil hn
      have hgW := grown_own (World.grownBy_alloc W (.cells #[] 24) none) hgrow (by intro m hm; simp [Value.ownBlock] at hm; omega)
      have hgr1 := hide (grown_trans (unhide hg) hgW)
      have hbox1 := hide ((unhide hbox).grown hgW (by simp))
      have hlo' : w.heap.size < g := by have := unhide hWs; omega
      have hcapf := hide (And.intro hlo' (And.intro hnc hcm))
      have hs1 : w1.cell? ⟨b, k * 11 + 1, none⟩ = some (.int .i64 (E k 1)) := ((unhide hE').on hgW).2.2 k 1 hr (by omega)
      have hz := fun j (hj : j < 11) => (unhide hbox1).cell (i := j) hj
      have z0 := hz 0 (by omega)
      have z1 := hz 1 (by omega)
      have z2 := hz 2 (by omega)
      have z3 := hz 3 (by omega)
      have z4 := hz 4 (by omega)
      have z5 := hz 5 (by omega)
      have z6 := hz 6 (by omega)
      have z7 := hz 7 (by omega)
      have z8 := hz 8 (by omega)
      have z9 := hz 9 (by omega)
      have z10 := hz 10 (by omega)
      simp only [List.getElem?_toArray, List.getElem?_cons_zero, List.getElem?_cons_succ, Option.getD_some] at z0 z1 z2 z3 z4 z5 z6 z7 z8 z9 z10
      have zf := (unhide hbox1).free 1
      have hown1' := hide hown1
      clear hown hgrow hnil hlo hnc hcm hown1 hi hz0 hz1 hz2 hgW hz u0 u1
      obtain ⟨w2, hw2⟩ : ∃ w2, w2 = w1.setCell ⟨w.heap.size, 1, none⟩ (.int .i64 G2) := ⟨_, rfl⟩
      have hown2 : Hid (Own w2 g n E) := by
        have hne : w.heap.size ≠ g := by omega
        obtain ⟨hn', m, F', hA, hm, hF'⟩ := unhide hown1'
        obtain ⟨cur, q1, q2, q3⟩ := hA
        rw [hw2]
        exact ⟨hn', m, F', ⟨cur, (heap_setCell_other w1 ⟨w.heap.size, 1, none⟩ g _ hne.symm).trans q1, q2, q3⟩, hm, hF'⟩
      have hgr2 : Hid (w.grownBy w2 none) := by rw [hw2]; exact grown_store (unhide hgr1) ⟨w.heap.size, 1, none⟩ (Nat.le_refl _) _
      obtain ⟨t0, t1, t2, t3, t4, t5, t6, t7, t8, t9, t10⟩ := (unhide hown2).ents.row hr
      have f := fun i => (unhide hown2).free i
      have hb2 := (unhide hbox1).store 1 (.int .i64 G2)
      rw [← hw2] at hb2
      have y0 : w2.cell? ⟨w.heap.size, 0, none⟩ = some (.int .i64 (e 0)) := hb2.cell (i := 0) (by show 0 < 11; omega)
      have y1 : w2.cell? ⟨w.heap.size, 1, none⟩ = some (.int .i64 G2) := hb2.cell (i := 1) (by show 1 < 11; omega)
      have y2 : w2.cell? ⟨w.heap.size, 2, none⟩ = some (.int .i64 (e 2)) := hb2.cell (i := 2) (by show 2 < 11; omega)
      have y3 : w2.cell? ⟨w.heap.size, 3, none⟩ = some (.int .i64 (e 3)) := hb2.cell (i := 3) (by show 3 < 11; omega)
      have y4 : w2.cell? ⟨w.heap.size, 4, none⟩ = some (.int .i64 (e 4)) := hb2.cell (i := 4) (by show 4 < 11; omega)
      have y5 : w2.cell? ⟨w.heap.size, 5, none⟩ = some (.int .i64 (e 5)) := hb2.cell (i := 5) (by show 5 < 11; omega)
      have y6 : w2.cell? ⟨w.heap.size, 6, none⟩ = some (.int .i64 (e 6)) := hb2.cell (i := 6) (by show 6 < 11; omega)
      have y7 : w2.cell? ⟨w.heap.size, 7, none⟩ = some (.int .i64 (e 7)) := hb2.cell (i := 7) (by show 7 < 11; omega)
      have y8 : w2.cell? ⟨w.heap.size, 8, none⟩ = some (.int .i64 (e 8)) := hb2.cell (i := 8) (by show 8 < 11; omega)
      have y9 : w2.cell? ⟨w.heap.size, 9, none⟩ = some (.int .i64 (e 9)) := hb2.cell (i := 9) (by show 9 < 11; omega)
      have y10 : w2.cell? ⟨w.heap.size, 10, none⟩ = some (.int .i64 (e 10)) := hb2.cell (i := 10) (by show 10 < 11; omega)
      have hw2' := hide hw2
      clear hb2
      clear hw2
      go_upto_region 9 with fail
      rw [← unhide hG2', ← unhide hw2']
      clear hs1 z0 z1 z2 z3 z4 z5 z6 z7 z8 z9 z10 zf hw2'
      go_wp2
      go_ret3
      exact ⟨g, cap, rfl, Nat.le_of_lt (unhide hcapf).1, (unhide hcapf).2.1, (unhide hcapf).2.2, unhide hst _ _ (unhide hown2), unhide hgs _ _ (unhide hgr2) (Nat.le_of_lt (unhide hcapf).1)⟩

end Go.Proofs.Ytbooojkhcnfhbaa
