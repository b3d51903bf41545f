/-
  A list that is like another one, apart; one row of it otherwise; entities that come and go, in ents.
-/
import Derived.Test.YtbooojkhcnfhbaaEntLow
import Derived.Test.YtbooojkhcnfhbaaEntStats
namespace Go.Proofs.Ytbooojkhcnfhbaa
open Go.RowKit

theorem Ents.flat {w : World} {b n : Nat} {E : Nat → Nat → Int} (h : Ents w b n E) {c : Nat} (hc : c < n * 11) : w.cell? ⟨b, c, none⟩ = some (En.flat E c) := by
  have := h.2.2 (c / 11) (c % 11) (by omega) (by omega)
  rwa [show c / 11 * 11 + c % 11 = c by omega] at this

theorem Ents.set {w : World} {b n : Nat} {E : Nat → Nat → Int} (h : Ents w b n E) {p i : Nat} (hp : p ≠ b) (u : Value) : Ents (w.setCell ⟨p, i, none⟩ u) b n E :=
  ⟨h.1, by simpa using h.2.1, fun i' j hi hj => (World.cell?_of_block (a := ⟨b, i' * 11 + j, none⟩) (heap_setCell_other w ⟨p, i, none⟩ b u hp.symm)).trans (h.2.2 i' j hi hj)⟩

/-- The cells of a list, as they are copied. -/
def En.list (n : Nat) (E : Nat → Nat → Int) : List Value := (List.range (n * 11)).map (En.flat E)

theorem En.list_len (n : Nat) (E : Nat → Nat → Int) : (En.list n E).length = n * 11 := by simp [En.list]

theorem En.list_at {n : Nat} {E : Nat → Nat → Int} {c : Nat} (hc : c < n * 11) : (En.list n E)[c]? = some (En.flat E c) := by
  unfold En.list
  rw [List.getElem?_map, List.getElem?_range hc]
  rfl

theorem En.list_one {n : Nat} {E : Nat → Nat → Int} : ∀ v ∈ En.list n E, v.oneCell' = true := by
  intro v hv
  unfold En.list at hv
  obtain ⟨c, _, rfl⟩ := List.mem_map.1 hv
  rfl

theorem Ents.src {w : World} {b n : Nat} {E : Nat → Nat → Int} (h : Ents w b n E) : ∀ j v, (En.list n E)[j]? = some v → w.cell? ((⟨b, 0, none⟩ : Addr).add j) = some v := by
  intro j v hj
  have hlt : j < n * 11 := by
    have := (List.getElem?_eq_some_iff.1 hj).1
    rwa [En.list_len] at this
  rw [En.list_at hlt] at hj
  rw [show (⟨b, 0, none⟩ : Addr).add j = ⟨b, j, none⟩ by rw [Go.WideShapes.add_plain, Nat.zero_add], h.flat hlt]
  exact hj

theorem Own.of_row {w : World} {g n : Nat} {E : Nat → Nat → Int} (hn : n ≤ 32) (h : w.heap[g]? = some (.cells (En.list n E).toArray 24 (0, 0))) : Own w g n E := by
  refine ⟨hn, _, _, Arr.lit h, by simp [En.list_len], fun c hc => ?_⟩
  show (En.list n E).toArray[c]?.getD undef = _
  rw [List.getElem?_toArray, En.list_at hc]
  rfl

set_option maxHeartbeats 800000 in
theorem twin_any (b n c : Nat) (E : Nat → Nat → Int) (w : World) (hE : Ents w b n E) :
    Calls Try.prog 30 #[.slice (some ⟨b, 0, none⟩) n c] w (Lists w n E) := by
  have hn := hE.1
  have hE' := hide hE
  obtain ⟨i0, hi, hz0, hz1, hz2⟩ := info_parts info_ent
  have hsz : (Try.prog.info? 24).map (·.size) = some 11 := by rw [hi]; simp [hz1]
  clear hE
  go_enter Try.func30, Try.ntmps30
  go_wp2_with (at_make; refine wpList_make_full _ rfl _ _ 22 rfl w.heap.size 24 i0 (.agg #[.int .i64 0, .int .i64 0, .int .i64 0, .int .i64 0, .int .i64 0, .int .i64 0, .int .i64 0, .int .i64 0, .int .i64 0, .int .i64 0, .int .i64 0]) 11 Try.underlying22 hi hz0 hz1 .i64 .i64 _ _ n rfl rfl rfl rfl ?q3 ?q4 ?q5 ?_)
  any_goals (first | (rw [hz2]; omega) | (unfold maxLen; omega) | exact Nat.le_refl _)
  intro w1 hown hgrow
  obtain ⟨cur, hg, hcs⟩ : ∃ cur, w1.heap[w.heap.size]? = some (.cells cur 24 (0, 0)) ∧ cur.size = n * 11 := by
    rcases hown.2 with ⟨h', _⟩ | ⟨g', cap', cur, h', _, hg, _, _, hcs, _⟩
    · simp at h'
    · simp only [Value.slice.injEq, Option.some.injEq, Addr.mk.injEq, and_true, true_and] at h'
      obtain ⟨rfl, rfl⟩ := h'
      exact ⟨cur, hg, hcs⟩
  have hg' := hide hg
  have hgrow' := hide hgrow
  have hcs' := hide hcs
  clear hown hg hgrow hcs hi hz0 hz1 hz2
  obtain ⟨w2, hrun, hrow, hgr2⟩ := run_copy_whole 22 22 3 24 Try.underlying22 11 hsz w.heap.size n n ⟨b, 0, none⟩ c cur _ (unhide hg') (En.list n E) (En.list_len n E) ((unhide hE').on (unhide hgrow')).src ((En.list_len n E).trans (unhide hcs').symm) En.list_one
  have hfin := hide (show Own w2 w.heap.size n E from Own.of_row hn hrow)
  have hgf := hide (grown_own (unhide hgrow') hgr2 (fun m e => by cases e; exact Nat.le_refl _))
  clear hrow hgr2 hg' hgrow' hcs'
  go_wp2
  go_ret
  exact ⟨w.heap.size, n, rfl, Nat.le_refl _, Nat.le_refl _, by unfold maxLen; omega, unhide hfin, unhide hgf⟩

set_option maxHeartbeats 1600000 in
theorem with_any (b n c k : Nat) (E : Nat → Nat → Int) (e : Nat → Int) (w : World) (hE : Ents w b n E) (hk : k < n) :
    Calls Try.prog 28 #[.slice (some ⟨b, 0, none⟩) n c, .int .i64 (k : Int), .agg (En.cells e)] w (Lists w n (En.put E k e)) := by
  have hn := hE.1
  have hk' : (k : Int) < (n : Int) := by omega
  have ct := hide (twin_any b n c E (w.alloc (.cells (En.cells e) 24)) (hE.on (World.grownBy_alloc _ _ _)))
  have hbox := hide (Arr.lit (heap_alloc_new w (.cells (En.cells e) 24)))
  have hst : Hid (∀ (x : World) (g : Nat), Own x g n E → Own (x.setCells g (k * 11) (En.cells e).toList) g n (En.put E k e)) := fun x g h => h.store k e
  have hgs : Hid (∀ (x : World) (g : Nat), w.grownBy x none → w.heap.size ≤ g → w.grownBy (x.setCells g (k * 11) (En.cells e).toList) none) := fun x g h hg => grown_sets hg _ _ x h
  have hrowc : Hid (∀ (x : World) (g : Nat), Ents x g n E → _) := fun x g h => h.row hk
  clear hE
  unfold En.cells at ct hbox hst hgs ⊢
  go_enter Try.func28, Try.ntmps28
  go_wp2_with fail
  refine (unhide ct).mono ?_
  rintro _ w1 ⟨g, cap, rfl, hlo, hnc, hcm, hown, hgr⟩
  obtain ⟨u0, u1, u2, u3, u4, u5, u6, u7, u8, u9, u10⟩ := unhide hrowc w1 g hown.ents
  have f := fun i => hown.free i
  have z := fun j (hj : j < 11) => ((unhide hbox).grown hgr (by simp)).cell (i := j) hj
  have z0 := z 0 (by omega)
  have z1 := z 1 (by omega)
  have z2 := z 2 (by omega)
  have z3 := z 3 (by omega)
  have z4 := z 4 (by omega)
  have z5 := z 5 (by omega)
  have z6 := z 6 (by omega)
  have z7 := z 7 (by omega)
  have z8 := z 8 (by omega)
  have z9 := z 9 (by omega)
  have z10 := z 10 (by omega)
  simp only [List.getElem?_toArray, List.getElem?_cons_zero, List.getElem?_cons_succ, Option.getD_some] at z0 z1 z2 z3 z4 z5 z6 z7 z8 z9 z10
  have hown' := hide hown
  have hgr' := hide (grown_trans (World.grownBy_alloc w _ none) hgr)
  have hlo' : Hid (w.heap.size ≤ g) := by
    have : w.heap.size ≤ (w.alloc (.cells #[.int .i64 (e 0), .int .i64 (e 1), .int .i64 (e 2), .int .i64 (e 3), .int .i64 (e 4), .int .i64 (e 5), .int .i64 (e 6), .int .i64 (e 7), .int .i64 (e 8), .int .i64 (e 9), .int .i64 (e 10)] 24)).heap.size := (World.grownBy_alloc w _ none).size
    exact Nat.le_trans this hlo
  have hcap := hide (And.intro hnc hcm)
  clear hown hgr hlo hnc hcm z ct
  go_wp2
  go_ret
  exact ⟨g, cap, rfl, unhide hlo', (unhide hcap).1, (unhide hcap).2, unhide hst _ _ (unhide hown'), unhide hgs _ _ (unhide hgr') (unhide hlo')⟩

end Go.Proofs.Ytbooojkhcnfhbaa
