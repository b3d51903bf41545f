/-
  A floor, whole: as numbers, and what the program's Make hands back.
-/
import Derived.Test.YtliidnmkjnbiiaaGenItems
import Derived.Test.YtliidnmkjnbiiaaGenCorr
namespace Go.Proofs.Ytliidnmkjnbiiaa
open Go.RowKit

namespace Gn

def up (d : Dice) : Nat := (my d 0 * 24 + mx d 0).toNat

/-- The floor with rooms, corridors and the up stair. -/
def base (d : Dice) : Nat → Int := Gr.upd (dug d 5) (up d) 3

/-- c is the floor, F its field. -/
def IsLevel (d : Dice) (c F : Nat → Int) : Prop := ∃ far, Fld (base d) (up d) F ∧ IsFar F far ∧ c = stocked d (base d) F far

theorem IsLevel.one {d : Dice} {c c' F F' : Nat → Int} (h : IsLevel d c F) (h' : IsLevel d c' F') : c = c' ∧ F = F' := by
  obtain ⟨far, h1, h2, rfl⟩ := h
  obtain ⟨far', h1', h2', rfl⟩ := h'
  obtain rfl := h1.one h1'
  obtain rfl := h2.one h2'
  exact ⟨rfl, rfl⟩

def ents (d : Dice) (f : Int) (c F : Nat → Int) : List (Int × Nat) := mons d f (f + 2).toNat 0 ((those (fun i => c i == 1) 384).filter (afar F))

theorem up_eq {d : Dice} (hd : Fair d) : my d 0 * 24 + mx d 0 = ((up d : Nat) : Int) := by
  have := mid_bd hd 0
  unfold up
  omega

theorem base_5 (d : Dice) (i : Nat) : 0 ≤ base d i ∧ base d i ≤ 5 := upd_5 (dug_5 d 5) (by omega) i

theorem shopped_5 {c : Nat → Int} (h : ∀ i, 0 ≤ c i ∧ c i ≤ 5) (o : Option Nat) (i : Nat) : 0 ≤ shopped c o i ∧ shopped c o i ≤ 5 := by
  cases o with
  | none => exact h i
  | some k => exact upd_5 h (by omega) i

theorem stocked_5 (d : Dice) {c : Nat → Int} (h : ∀ i, 0 ≤ c i ∧ c i ≤ 5) (F : Nat → Int) (far i : Nat) : 0 ≤ stocked d c F far i ∧ stocked d c F far i ≤ 5 := by
  have h4 : ∀ i, 0 ≤ Gr.upd c far 4 i ∧ Gr.upd c far 4 i ≤ 5 := upd_5 h (by omega)
  unfold stocked
  split
  · exact shopped_5 h4 _ i
  · exact h4 i

theorem IsLevel.five {d : Dice} {c F : Nat → Int} (h : IsLevel d c F) (i : Nat) : 0 ≤ c i ∧ c i ≤ 5 := by
  obtain ⟨far, _, _, rfl⟩ := h
  exact stocked_5 d (base_5 d) F far i

end Gn

theorem owns_form {w : World} {b : Nat} {e : TypeId} {z n : Nat} {v : Value} {xs : List Value} (h : w.ownsRow b e z v n xs) : ∃ a cap, v = .slice a n cap := by
  rcases h.2 with ⟨rfl, rfl⟩ | ⟨g, cap, cur, rfl, _⟩
  · exact ⟨_, _, rfl⟩
  · exact ⟨_, _, rfl⟩

/-- What Make hands back of a floor that there is. -/
def LevDone (w : World) (d : Gn.Dice) (f : Int) (e : Ending) (w' : World) : Prop :=
  ∃ (c F : Nat → Int) (G nE nI cE cI : Nat) (aE aI : Option Addr), Gn.IsLevel d c F ∧ e = .returned (.tuple #[.agg #[.slice (some ⟨G, 0, none⟩) 384 384, .slice aE nE cE, .slice aI nI cI], .int .i64 0]) ∧ w.heap.size ≤ G ∧ Arr w' G 5 384 (Byts c) ∧
    nE = (Gn.ents d f c F).length ∧ nI = (Gn.items d c).length ∧ w'.ownsRow w.heap.size 42 11 (.slice aE nE cE) nE (Gn.flat (Gn.ents d f c F)) ∧ w'.ownsRow w.heap.size 45 4 (.slice aI nI cI) nI (Gn.flatI (Gn.items d c)) ∧ w.grownBy w' none

structure MakeHold (w : World) (s f : Int) (wr : World) : Prop where
  res : Arr wr w.heap.size 27 3 (fun _ => .slice none 0 0)
  plan : Arr wr (w.heap.size + 1) 48 2 (fun j => .int .i64 (if j = 0 then s else f))
  grown : w.grownBy wr none

theorem MakeHold.on {w : World} {s f : Int} {wr wx : World} (h : MakeHold w s f wr) (hg : wr.grownBy wx none) : MakeHold w s f wx :=
  ⟨h.res.grown hg (by simp), h.plan.grown hg (by simp), grown_none h.grown hg⟩

theorem MakeHold.own {w : World} {s f : Int} {wr wx : World} {G : Nat} (h : MakeHold w s f wr) (hG : w.heap.size + 2 ≤ G) (hg : wr.grownBy wx (some G)) : MakeHold w s f wx :=
  ⟨h.res.grown hg (by simp; omega), h.plan.grown hg (by simp; omega), grown_own h.grown hg (fun n e => by cases e; omega)⟩

theorem make_bad (s f : Int) (w : World) (hf : f < 1 ∨ 3 < f) :
    Calls Try.prog 9 #[.int .i64 s, .int .i64 f] w (Says w (.tuple #[.agg #[.slice none 0 0, .slice none 0 0, .slice none 0 0], .int .i64 1])) := by
  rcases hf with h | h
  · go_enter Try.func9, Try.ntmps9
    go_wp2
    refine bodyPost_ret (v := .tuple #[.agg #[.slice none 0 0, .slice none 0 0, .slice none 0 0], .int .i64 1]) (by simp [results, Try.results9, go_sem]) rfl ?_
    exact ⟨rfl, World.grownBy_alloc _ _ _⟩
  · have h1 : ¬ f < 1 := by omega
    go_enter Try.func9, Try.ntmps9
    go_wp2
    refine bodyPost_ret (v := .tuple #[.agg #[.slice none 0 0, .slice none 0 0, .slice none 0 0], .int .i64 1]) (by simp [results, Try.results9, go_sem]) rfl ?_
    exact ⟨rfl, World.grownBy_alloc _ _ _⟩

set_option maxRecDepth 8000 in
set_option maxHeartbeats 4000000 in
theorem make_any (s f : Int) (d : Gn.Dice) (hd : ∀ a b n, Gn.D s f a b n = d a b n) (hF : Gn.Fair d) (h1 : 1 ≤ f) (h3 : f ≤ 3) (w : World) :
    Calls Try.prog 9 #[.int .i64 s, .int .i64 f] w (LevDone w d f) := by
  obtain ⟨i0, hi, hz0, hz1, hz2⟩ := info_parts info_byte
  have hd' := hide hd
  have hF' := hide hF
  have hn1 : ¬ f < 1 := by omega
  have hn3 : ¬ 3 < f := by omega
  clear hd hF
  go_enter Try.func9, Try.ntmps9
  go_wp2_with (at_make; refine wpList_make_full _ rfl _ _ 23 rfl (w.heap.size + 1 + 1) 5 i0 (.int .u8 0) 1 Try.underlying23 hi hz0 hz1 .i64 .i64 _ _ 384 rfl rfl rfl rfl ?q3 ?q4 ?q5 ?_)
  case q4 => decide
  intro w2 hown hgrow
  have hA2 := hide (Arr.zero hown)
  have hH2 : Hid (MakeHold w s f w2) := by
    have h0 : MakeHold w s f ((w.alloc (.cells #[.slice none 0 0, .slice none 0 0, .slice none 0 0] 27)).alloc (.cells #[.int .i64 s, .int .i64 f] 48)) := by
      refine ⟨Arr.alloc ⟨_, heap_alloc_new _ _, rfl, fun j hj => ?_⟩ _, ?_, grown_alloc (World.grownBy_alloc _ _ _) _⟩
      · have hj3 : j < 3 := hj
        rcases (show j = 0 ∨ j = 1 ∨ j = 2 by omega) with rfl | rfl | rfl <;> rfl
      · have h := Arr.pair (w.alloc (.cells #[.slice none 0 0, .slice none 0 0, .slice none 0 0] 27)) s f 48
        simpa using h
    exact h0.on hgrow
  obtain ⟨G, hG⟩ : ∃ G, G = w.heap.size + 1 + 1 := ⟨_, rfl⟩
  rw [← hG] at hA2 ⊢
  have hGw : w.heap.size + 2 ≤ G := by omega
  have p0 := (unhide hH2).plan.cell (i := 0) (by omega)
  have p1 := (unhide hH2).plan.cell (i := 1) (by omega)
  simp only [ite_true, Nat.one_ne_zero, ite_false] at p0 p1
  clear hown hgrow hG hi hz0 hz1 hz2
  go_wp2_with fail
  clear p0 p1
  refine (rooms_any s f d (unhide hd') (unhide hF') G w2 (unhide hA2)).mono ?_
  rintro e w3 ⟨rfl, hA3, hg3⟩
  have hH3 := hide ((unhide hH2).own hGw hg3)
  obtain ⟨w4, hw4⟩ : ∃ w4, w4 = w3.alloc (.cells (Gn.mids d) 51) := ⟨_, rfl⟩
  have hA4 : Hid (Arr w4 G 5 384 (Byts (Gn.dug d 0))) := by rw [hw4]; exact hA3.alloc _
  have hH4 : Hid (MakeHold w s f w4) := by rw [hw4]; exact (unhide hH3).on (World.grownBy_alloc _ _ _)
  have hM4 : Hid (Arr w4 w3.heap.size 51 12 (fun j => (Gn.mids d)[j]?.getD undef)) := by
    rw [hw4]
    exact Arr.lit (heap_alloc_new _ _)
  have p0 := (unhide hH4).plan.cell (i := 0) (by omega)
  have p1 := (unhide hH4).plan.cell (i := 1) (by omega)
  simp only [ite_true, Nat.one_ne_zero, ite_false] at p0 p1
  obtain ⟨m0, m1, m2, m3, m4, m5, m6, m7, m8, m9, m10, m11⟩ := (unhide hM4).twelve
  simp only [Gn.mids, List.getElem?_toArray, List.getElem?_cons_zero, List.getElem?_cons_succ, Option.getD_some] at m0 m1 m2 m3 m4 m5 m6 m7 m8 m9 m10 m11
  have hww := hw4.symm
  unfold Gn.mids at hww
  have hmids : Hid (Gn.mids d = #[.int .i64 (Gn.mid d 0), .int .i64 (Gn.mid d 1), .int .i64 (Gn.mid d 2), .int .i64 (Gn.mid d 3), .int .i64 (Gn.mid d 4), .int .i64 (Gn.mid d 5), .int .i64 (Gn.mid d 6), .int .i64 (Gn.mid d 7), .int .i64 (Gn.mid d 8), .int .i64 (Gn.mid d 9), .int .i64 (Gn.mid d 10), .int .i64 (Gn.mid d 11)]) := rfl
  have hGm : G ≠ w3.heap.size := by have := hA3.lt; omega
  rw [unhide hmids]
  clear hA2 hH2 hA3 hg3 hH3 hw4
  go_wp2_with fail
  clear hww m2 m3 m4 m5 m6 m7 m8 m9 m10 m11
  have hcor := corridors_any s f d (unhide hd') (unhide hF') G w4 (unhide hA4)
  rw [unhide hmids] at hcor
  refine hcor.mono ?_
  rintro e w5 ⟨rfl, hA5, hg5⟩
  have hH5 := hide ((unhide hH4).own hGw hg5)
  have hM5 := (unhide hM4).grown hg5 (by simpa using hGm)
  have p0 := (unhide hH5).plan.cell (i := 0) (by omega)
  have p1 := (unhide hH5).plan.cell (i := 1) (by omega)
  simp only [ite_true, Nat.one_ne_zero, ite_false] at p0 p1
  have n0 : w5.cell? ⟨w3.heap.size, 0, none⟩ = some (.int .i64 (Gn.mx d 0)) := by
    have h := hM5.cell (i := 0) (by omega)
    rw [unhide hmids] at h
    exact h
  have n1 : w5.cell? ⟨w3.heap.size, 1, none⟩ = some (.int .i64 (Gn.my d 0)) := by
    have h := hM5.cell (i := 1) (by omega)
    rw [unhide hmids] at h
    exact h
  have hA5' := hide hA5
  clear hcor hA4 hH4 hg5 hM5 hM4 hA5 m0 m1
  go_wp2_with fail
  clear n0 n1 p0 p1
  have hb := Gn.mid_bd (unhide hF') 0
  refine (stairs_any s f d (unhide hd') G (Gn.dug d 5) (Gn.mx d 0) (Gn.my d 0) (Gn.up d) w5 (unhide hA5') (Gn.dug_5 d 5) (by omega) (Gn.up_eq (unhide hF'))).mono ?_
  rintro e w6 ⟨F, far, gF, hFld, hFar, rfl, hgF, hAF, hAc, hg6⟩
  obtain ⟨c, hc⟩ : ∃ c, c = Gn.stocked d (Gn.base d) F far := ⟨_, rfl⟩
  have hlev : Hid (Gn.IsLevel d c F) := ⟨far, hFld, hFar, hc⟩
  have hAc2 : Hid (Arr w6 G 5 384 (Byts c)) := by rw [hc]; exact hAc
  have hAF2 := hide hAF
  have hH6 := hide ((unhide hH5).own hGw hg6)
  have hsz6 := (unhide hH6).plan.lt
  clear hFld hFar hgF hAF hAc hg6 hc hH5 hA5' hb
  go_wp2_with fail
  have hd0 := grown_drew1 (World.grownBy.refl w6 none)
  obtain ⟨nE, hnE⟩ : ∃ n, n = (Gn.ents d f c F).length := ⟨_, rfl⟩
  obtain ⟨nI, hnI⟩ : ∃ n, n = (Gn.items d c).length := ⟨_, rfl⟩
  have cmon : Hid (Calls Try.prog 20 #[.agg #[.int .i64 s, .int .i64 f], .slice (some ⟨G, 0, none⟩) 384 384, .slice (some ⟨gF, 0, none⟩) 384 384] w6.drew
      fun e w' => ∃ a cap, e = .returned (.slice a nE cap) ∧ Hid (w'.ownsRow w6.heap.size 42 11 (.slice a nE cap) nE (Gn.flat (Gn.ents d f c F))) ∧ Hid (MakeHold w s f w') ∧ Hid (Arr w' G 5 384 (Byts c)) ∧ w6.heap.size ≤ w'.heap.size) :=
    (monsters_any s f d (unhide hd') (unhide hF') h1 h3 G gF c F w6.drew ((unhide hAc2).grown hd0 (by simp)) ((unhide hAF2).grown hd0 (by simp))).mono fun e w' ⟨v, he, ho, hg⟩ => by
      have ho' : w'.ownsRow w6.heap.size 42 11 v nE (Gn.flat (Gn.ents d f c F)) := by rw [hnE]; exact ho
      obtain ⟨a, cap, rfl⟩ := owns_form ho'
      exact ⟨a, cap, he, ho', ((unhide hH6).on hd0).on hg, ((unhide hAc2).grown hd0 (by simp)).grown hg (by simp), hg.size⟩
  have citm : Hid (∀ x v, Hid (x.ownsRow w6.heap.size 42 11 v nE (Gn.flat (Gn.ents d f c F))) → Hid (MakeHold w s f x) → Hid (Arr x G 5 384 (Byts c)) → w6.heap.size ≤ x.heap.size → Calls Try.prog 21 #[.agg #[.int .i64 s, .int .i64 f], .slice (some ⟨G, 0, none⟩) 384 384] x
      fun e w' => ∃ a cap, e = .returned (.slice a nI cap) ∧ Hid (w'.ownsRow w6.heap.size 45 4 (.slice a nI cap) nI (Gn.flatI (Gn.items d c))) ∧ Hid (w'.ownsRow w6.heap.size 42 11 v nE (Gn.flat (Gn.ents d f c F))) ∧ Hid (MakeHold w s f w') ∧ Hid (Arr w' G 5 384 (Byts c))) := fun x v hv hm hx hs =>
    (items_any s f d (unhide hd') (unhide hF') G c x (unhide hx) (unhide hlev).five).mono fun e w' ⟨u, he, ho, hg⟩ => by
      have ho' : w'.ownsRow w6.heap.size 45 4 u nI (Gn.flatI (Gn.items d c)) := by rw [hnI]; exact owns_mono ho hs
      obtain ⟨a, cap, rfl⟩ := owns_form ho'
      exact ⟨a, cap, he, ho', (unhide hv).kept hg (by cases v.ownBlock <;> simp), (unhide hm).on hg, (unhide hx).grown hg (by simp)⟩
  have keep : Hid (∀ x, Hid (MakeHold w s f x) → (x.cell? ⟨w.heap.size + 1, 0, none⟩ = some (.int .i64 s) ∧ x.cell? ⟨w.heap.size + 1, 1, none⟩ = some (.int .i64 f))) := fun x h => ⟨(unhide h).plan.cell (by omega), (unhide h).plan.cell (by omega)⟩
  have keepR : Hid (∀ x, Hid (MakeHold w s f x) → (x.cell? ⟨w.heap.size, 0, none⟩ = some (.slice none 0 0) ∧ x.cell? ⟨w.heap.size, 1, none⟩ = some (.slice none 0 0) ∧ x.cell? ⟨w.heap.size, 2, none⟩ = some (.slice none 0 0) ∧ x.frozen? ⟨w.heap.size, 0, none⟩ = false ∧ x.frozen? ⟨w.heap.size, 1, none⟩ = false ∧ x.frozen? ⟨w.heap.size, 2, none⟩ = false)) := fun x h => ⟨(unhide h).res.cell (by omega), (unhide h).res.cell (by omega), (unhide h).res.cell (by omega), (unhide h).res.free 0, (unhide h).res.free 1, (unhide h).res.free 2⟩
  obtain ⟨p0, p1⟩ := unhide keep _ hH6
  have hnE' := hide hnE
  have hnI' := hide hnI
  clear hd0 hnE hnI
  go_region_held3 (fun x => x.cell? ⟨w.heap.size + 1, 0, none⟩ = some (.int .i64 s) ∧ x.cell? ⟨w.heap.size + 1, 1, none⟩ = some (.int .i64 f)) (go_keep) (first | (go_at_call 20; refine (unhide cmon).mono ?_; rintro e w7 ⟨aE, cE, rfl, hE7, hH7, hA7, hs7⟩; obtain ⟨z1, z2⟩ := unhide keep w7 hH7) | (go_at_call 21; refine (unhide citm _ _ hE7 hH7 hA7 hs7).mono ?_; rintro e w8 ⟨aI, cI, rfl, hI8, hE8, hH8, hA8⟩; obtain ⟨z1, z2⟩ := unhide keep w8 hH8; obtain ⟨r0, r1, r2, f0, f1, f2⟩ := unhide keepR w8 hH8))
  have hg9 := grown_set (grown_set (grown_set (World.grownBy.refl w8 (some w.heap.size)) 0 (.slice (some ⟨G, 0, none⟩) 384 384)) 1 (.slice aE nE cE)) 2 (.slice aI nI cI)
  have hE9 := hide ((unhide hE8).kept hg9 (by cases aE with | none => exact .inl rfl | some x => exact .inr (fun e => by have := ((unhide hE8).lt x.block rfl).1; simp [Value.ownBlock] at e; omega)))
  have hI9 := hide ((unhide hI8).kept hg9 (by cases aI with | none => exact .inl rfl | some x => exact .inr (fun e => by have := ((unhide hI8).lt x.block rfl).1; simp [Value.ownBlock] at e; omega)))
  have hA9 := hide ((unhide hA8).grown hg9 (by simp; omega))
  have hw9 := hide (grown_own (unhide hH8).grown hg9 (fun n e => by cases e; exact Nat.le_refl _))
  clear hg9 cmon citm keep keepR
  go_wp2
  refine bodyPost_ret (v := .tuple #[.agg #[.slice (some ⟨G, 0, none⟩) 384 384, .slice aE nE cE, .slice aI nI cI], .int .i64 0]) (by simp [results, Try.results9, go_sem, r0, r1, r2]) rfl ?_
  exact ⟨c, F, G, nE, nI, cE, cI, aE, aI, unhide hlev, rfl, by omega, unhide hA9, unhide hnE', unhide hnI', owns_mono (unhide hE9) (by omega), owns_mono (unhide hI9) (by omega), unhide hw9⟩

end Go.Proofs.Ytliidnmkjnbiiaa
