/-
  GenMake EntMem EntSmall
-/
import Derived.Test.YtbanjoflgoiegaaGreatPart11
import Derived.Test.YtbanjoflgoiegaaGreatPart12
import Derived.Test.YtbanjoflgoiegaaGreatPart02
import Derived.Laws.CopyOwn
import Derived.Handy
import Derived.Deep.LoopGhost
namespace Go.Proofs.YtbanjoflgoiegaaGreat
open Go.RowKit

namespace Gn

def up (d : Dice) : Nat := (my d 0 * 24 + mx d 0).toNat

def base (d : Dice) : Nat → Int := Gr.upd (dug d 5) (up d) 3

def IsLevel (d : Dice) (c F : Nat → Int) : Prop := ∃ far, Fld (base d) (up d) F ∧ IsFar F far ∧ c = stocked d (base d) F far

theorem IsLevel.one {d : Dice} {c c' F F' : Nat → Int} (h : IsLevel d c F) (h' : IsLevel d c' F') : c = c' ∧ F = F' := by
  obtain ⟨far, h1, h2, rfl⟩ := h
  obtain ⟨far', h1', h2', rfl⟩ := h'
  obtain rfl := h1.one h1'
  obtain rfl := h2.one h2'
  exact ⟨rfl, rfl⟩

def ents (d : Dice) (f : Int) (c F : Nat → Int) : List (Int × Nat) := mons d f (f + 2).toNat 0 ((those (fun i => c i == 1) 384).filter (afar F))

theorem up_eq {d : Dice} (hd : Fair d) : my d 0 * 24 + mx d 0 = ((up d : Nat) : Int) := by
  have := mid_bd hd 0
  unfold up
  omega

theorem base_5 (d : Dice) (i : Nat) : 0 ≤ base d i ∧ base d i ≤ 5 := upd_5 (dug_5 d 5) (by omega) i

theorem shopped_5 {c : Nat → Int} (h : ∀ i, 0 ≤ c i ∧ c i ≤ 5) (o : Option Nat) (i : Nat) : 0 ≤ shopped c o i ∧ shopped c o i ≤ 5 := by
  cases o with
  | none => exact h i
  | some k => exact upd_5 h (by omega) i

theorem stocked_5 (d : Dice) {c : Nat → Int} (h : ∀ i, 0 ≤ c i ∧ c i ≤ 5) (F : Nat → Int) (far i : Nat) : 0 ≤ stocked d c F far i ∧ stocked d c F far i ≤ 5 := by
  have h4 : ∀ i, 0 ≤ Gr.upd c far 4 i ∧ Gr.upd c far 4 i ≤ 5 := upd_5 h (by omega)
  unfold stocked
  split
  · exact shopped_5 h4 _ i
  · exact h4 i

theorem IsLevel.five {d : Dice} {c F : Nat → Int} (h : IsLevel d c F) (i : Nat) : 0 ≤ c i ∧ c i ≤ 5 := by
  obtain ⟨far, _, _, rfl⟩ := h
  exact stocked_5 d (base_5 d) F far i

end Gn

theorem owns_form {w : World} {b : Nat} {e : TypeId} {z n : Nat} {v : Value} {xs : List Value} (h : w.ownsRow b e z v n xs) : ∃ a cap, v = .slice a n cap := by
  rcases h.2 with ⟨rfl, rfl⟩ | ⟨g, cap, cur, rfl, _⟩
  · exact ⟨_, _, rfl⟩
  · exact ⟨_, _, rfl⟩

def LevDone (w : World) (d : Gn.Dice) (f : Int) (e : Ending) (w' : World) : Prop :=
  ∃ (c F : Nat → Int) (G nE nI cE cI : Nat) (aE aI : Option Addr), Gn.IsLevel d c F ∧ e = .returned (.tuple #[.agg #[.slice (some ⟨G, 0, none⟩) 384 384, .slice aE nE cE, .slice aI nI cI], .int .i64 0]) ∧ w.heap.size ≤ G ∧ Arr w' G 5 384 (Byts c) ∧
    nE = (Gn.ents d f c F).length ∧ nI = (Gn.items d c).length ∧ w'.ownsRow w.heap.size 54 11 (.slice aE nE cE) nE (Gn.flat (Gn.ents d f c F)) ∧ w'.ownsRow w.heap.size 62 4 (.slice aI nI cI) nI (Gn.flatI (Gn.items d c)) ∧ w.grownBy w' none

structure MakeHold (w : World) (s f : Int) (wr : World) : Prop where
  res : Arr wr w.heap.size 80 3 (fun _ => .slice none 0 0)
  plan : Arr wr (w.heap.size + 1) 116 2 (fun j => .int .i64 (if j = 0 then s else f))
  grown : w.grownBy wr none

theorem MakeHold.on {w : World} {s f : Int} {wr wx : World} (h : MakeHold w s f wr) (hg : wr.grownBy wx none) : MakeHold w s f wx :=
  ⟨h.res.grown hg (by simp), h.plan.grown hg (by simp), grown_none h.grown hg⟩

theorem MakeHold.own {w : World} {s f : Int} {wr wx : World} {G : Nat} (h : MakeHold w s f wr) (hG : w.heap.size + 2 ≤ G) (hg : wr.grownBy wx (some G)) : MakeHold w s f wx :=
  ⟨h.res.grown hg (by simp; omega), h.plan.grown hg (by simp; omega), grown_own h.grown hg (fun n e => by cases e; omega)⟩

set_option maxRecDepth 8000 in
set_option maxHeartbeats 4000000 in
theorem make_any (s f : Int) (d : Gn.Dice) (hd : ∀ a b n, Gn.D s f a b n = d a b n) (hF : Gn.Fair d) (h1 : 1 ≤ f) (h3 : f ≤ 3) (w : World) :
    Calls Tryz.prog 53 #[.int .i64 s, .int .i64 f] w (LevDone w d f) := by
  obtain ⟨i0, hi, hz0, hz1, hz2⟩ := info_parts info_byte
  have hd' := hide hd
  have hF' := hide hF
  have hn1 : ¬ f < 1 := by omega
  have hn3 : ¬ 3 < f := by omega
  clear hd hF
  go_enter Tryz.func53, Tryz.ntmps53
  go_wp2_with (at_make; refine wpList_make_full _ rfl _ _ 25 rfl (w.heap.size + 1 + 1) 5 i0 (.int .u8 0) 1 Tryz.underlying25 hi hz0 hz1 .i64 .i64 _ _ 384 rfl rfl rfl rfl ?q3 ?q4 ?q5 ?_)
  case q4 => decide
  intro w2 hown hgrow
  have hA2 := hide (Arr.zero hown)
  have hH2 : Hid (MakeHold w s f w2) := by
    have h0 : MakeHold w s f ((w.alloc (.cells #[.slice none 0 0, .slice none 0 0, .slice none 0 0] 80)).alloc (.cells #[.int .i64 s, .int .i64 f] 116)) := by
      refine ⟨Arr.alloc ⟨_, heap_alloc_new _ _, rfl, fun j hj => ?_⟩ _, ?_, grown_alloc (World.grownBy_alloc _ _ _) _⟩
      · have hj3 : j < 3 := hj
        rcases (show j = 0 ∨ j = 1 ∨ j = 2 by omega) with rfl | rfl | rfl <;> rfl
      · have h := Arr.pair (w.alloc (.cells #[.slice none 0 0, .slice none 0 0, .slice none 0 0] 80)) s f 116
        simpa using h
    exact h0.on hgrow
  obtain ⟨G, hG⟩ : ∃ G, G = w.heap.size + 1 + 1 := ⟨_, rfl⟩
  rw [← hG] at hA2 ⊢
  have hGw : w.heap.size + 2 ≤ G := by omega
  have p0 := (unhide hH2).plan.cell (i := 0) (by omega)
  have p1 := (unhide hH2).plan.cell (i := 1) (by omega)
  simp only [ite_true, Nat.one_ne_zero, ite_false] at p0 p1
  clear hown hgrow hG hi hz0 hz1 hz2
  go_wp2_with fail
  clear p0 p1
  refine (rooms_any s f d (unhide hd') (unhide hF') G w2 (unhide hA2)).mono ?_
  rintro e w3 ⟨rfl, hA3, hg3⟩
  have hH3 := hide ((unhide hH2).own hGw hg3)
  obtain ⟨w4, hw4⟩ : ∃ w4, w4 = w3.alloc (.cells (Gn.mids d) 119) := ⟨_, rfl⟩
  have hA4 : Hid (Arr w4 G 5 384 (Byts (Gn.dug d 0))) := by rw [hw4]; exact hA3.alloc _
  have hH4 : Hid (MakeHold w s f w4) := by rw [hw4]; exact (unhide hH3).on (World.grownBy_alloc _ _ _)
  have hM4 : Hid (Arr w4 w3.heap.size 119 12 (fun j => (Gn.mids d)[j]?.getD undef)) := by
    rw [hw4]
    exact Arr.lit (heap_alloc_new _ _)
  have p0 := (unhide hH4).plan.cell (i := 0) (by omega)
  have p1 := (unhide hH4).plan.cell (i := 1) (by omega)
  simp only [ite_true, Nat.one_ne_zero, ite_false] at p0 p1
  obtain ⟨m0, m1, m2, m3, m4, m5, m6, m7, m8, m9, m10, m11⟩ := (unhide hM4).twelve
  simp only [Gn.mids, List.getElem?_toArray, List.getElem?_cons_zero, List.getElem?_cons_succ, Option.getD_some] at m0 m1 m2 m3 m4 m5 m6 m7 m8 m9 m10 m11
  have hww := hw4.symm
  unfold Gn.mids at hww
  have hmids : Hid (Gn.mids d = #[.int .i64 (Gn.mid d 0), .int .i64 (Gn.mid d 1), .int .i64 (Gn.mid d 2), .int .i64 (Gn.mid d 3), .int .i64 (Gn.mid d 4), .int .i64 (Gn.mid d 5), .int .i64 (Gn.mid d 6), .int .i64 (Gn.mid d 7), .int .i64 (Gn.mid d 8), .int .i64 (Gn.mid d 9), .int .i64 (Gn.mid d 10), .int .i64 (Gn.mid d 11)]) := rfl
  have hGm : G ≠ w3.heap.size := by have := hA3.lt; omega
  rw [unhide hmids]
  clear hA2 hH2 hA3 hg3 hH3 hw4
  go_wp2_with fail
  clear hww m2 m3 m4 m5 m6 m7 m8 m9 m10 m11
  have hcor := corridors_any s f d (unhide hd') (unhide hF') G w4 (unhide hA4)
  rw [unhide hmids] at hcor
  refine hcor.mono ?_
  rintro e w5 ⟨rfl, hA5, hg5⟩
  have hH5 := hide ((unhide hH4).own hGw hg5)
  have hM5 := (unhide hM4).grown hg5 (by simpa using hGm)
  have p0 := (unhide hH5).plan.cell (i := 0) (by omega)
  have p1 := (unhide hH5).plan.cell (i := 1) (by omega)
  simp only [ite_true, Nat.one_ne_zero, ite_false] at p0 p1
  have n0 : w5.cell? ⟨w3.heap.size, 0, none⟩ = some (.int .i64 (Gn.mx d 0)) := by
    have h := hM5.cell (i := 0) (by omega)
    rw [unhide hmids] at h
    exact h
  have n1 : w5.cell? ⟨w3.heap.size, 1, none⟩ = some (.int .i64 (Gn.my d 0)) := by
    have h := hM5.cell (i := 1) (by omega)
    rw [unhide hmids] at h
    exact h
  have hA5' := hide hA5
  clear hcor hA4 hH4 hg5 hM5 hM4 hA5 m0 m1
  go_wp2_with fail
  clear n0 n1 p0 p1
  have hb := Gn.mid_bd (unhide hF') 0
  refine (stairs_any s f d (unhide hd') G (Gn.dug d 5) (Gn.mx d 0) (Gn.my d 0) (Gn.up d) w5 (unhide hA5') (Gn.dug_5 d 5) (by omega) (Gn.up_eq (unhide hF'))).mono ?_
  rintro e w6 ⟨F, far, gF, hFld, hFar, rfl, hgF, hAF, hAc, hg6⟩
  obtain ⟨c, hc⟩ : ∃ c, c = Gn.stocked d (Gn.base d) F far := ⟨_, rfl⟩
  have hlev : Hid (Gn.IsLevel d c F) := ⟨far, hFld, hFar, hc⟩
  have hAc2 : Hid (Arr w6 G 5 384 (Byts c)) := by rw [hc]; exact hAc
  have hAF2 := hide hAF
  have hH6 := hide ((unhide hH5).own hGw hg6)
  have hsz6 := (unhide hH6).plan.lt
  clear hFld hFar hgF hAF hAc hg6 hc hH5 hA5' hb
  go_wp2_with fail
  have hd0 := grown_drew1 (World.grownBy.refl w6 none)
  obtain ⟨nE, hnE⟩ : ∃ n, n = (Gn.ents d f c F).length := ⟨_, rfl⟩
  obtain ⟨nI, hnI⟩ : ∃ n, n = (Gn.items d c).length := ⟨_, rfl⟩
  have cmon : Hid (Calls Tryz.prog 100 #[.agg #[.int .i64 s, .int .i64 f], .slice (some ⟨G, 0, none⟩) 384 384, .slice (some ⟨gF, 0, none⟩) 384 384] w6.drew
      fun e w' => ∃ a cap, e = .returned (.slice a nE cap) ∧ Hid (w'.ownsRow w6.heap.size 54 11 (.slice a nE cap) nE (Gn.flat (Gn.ents d f c F))) ∧ Hid (MakeHold w s f w') ∧ Hid (Arr w' G 5 384 (Byts c)) ∧ w6.heap.size ≤ w'.heap.size) :=
    (monsters_any s f d (unhide hd') (unhide hF') h1 h3 G gF c F w6.drew ((unhide hAc2).grown hd0 (by simp)) ((unhide hAF2).grown hd0 (by simp))).mono fun e w' ⟨v, he, ho, hg⟩ => by
      have ho' : w'.ownsRow w6.heap.size 54 11 v nE (Gn.flat (Gn.ents d f c F)) := by rw [hnE]; exact ho
      obtain ⟨a, cap, rfl⟩ := owns_form ho'
      exact ⟨a, cap, he, ho', ((unhide hH6).on hd0).on hg, ((unhide hAc2).grown hd0 (by simp)).grown hg (by simp), hg.size⟩
  have citm : Hid (∀ x v, Hid (x.ownsRow w6.heap.size 54 11 v nE (Gn.flat (Gn.ents d f c F))) → Hid (MakeHold w s f x) → Hid (Arr x G 5 384 (Byts c)) → w6.heap.size ≤ x.heap.size → Calls Tryz.prog 101 #[.agg #[.int .i64 s, .int .i64 f], .slice (some ⟨G, 0, none⟩) 384 384] x
      fun e w' => ∃ a cap, e = .returned (.slice a nI cap) ∧ Hid (w'.ownsRow w6.heap.size 62 4 (.slice a nI cap) nI (Gn.flatI (Gn.items d c))) ∧ Hid (w'.ownsRow w6.heap.size 54 11 v nE (Gn.flat (Gn.ents d f c F))) ∧ Hid (MakeHold w s f w') ∧ Hid (Arr w' G 5 384 (Byts c))) := fun x v hv hm hx hs =>
    (items_any s f d (unhide hd') (unhide hF') G c x (unhide hx) (unhide hlev).five).mono fun e w' ⟨u, he, ho, hg⟩ => by
      have ho' : w'.ownsRow w6.heap.size 62 4 u nI (Gn.flatI (Gn.items d c)) := by rw [hnI]; exact owns_mono ho hs
      obtain ⟨a, cap, rfl⟩ := owns_form ho'
      exact ⟨a, cap, he, ho', (unhide hv).kept hg (by cases v.ownBlock <;> simp), (unhide hm).on hg, (unhide hx).grown hg (by simp)⟩
  have keep : Hid (∀ x, Hid (MakeHold w s f x) → (x.cell? ⟨w.heap.size + 1, 0, none⟩ = some (.int .i64 s) ∧ x.cell? ⟨w.heap.size + 1, 1, none⟩ = some (.int .i64 f))) := fun x h => ⟨(unhide h).plan.cell (by omega), (unhide h).plan.cell (by omega)⟩
  have keepR : Hid (∀ x, Hid (MakeHold w s f x) → (x.cell? ⟨w.heap.size, 0, none⟩ = some (.slice none 0 0) ∧ x.cell? ⟨w.heap.size, 1, none⟩ = some (.slice none 0 0) ∧ x.cell? ⟨w.heap.size, 2, none⟩ = some (.slice none 0 0) ∧ x.frozen? ⟨w.heap.size, 0, none⟩ = false ∧ x.frozen? ⟨w.heap.size, 1, none⟩ = false ∧ x.frozen? ⟨w.heap.size, 2, none⟩ = false)) := fun x h => ⟨(unhide h).res.cell (by omega), (unhide h).res.cell (by omega), (unhide h).res.cell (by omega), (unhide h).res.free 0, (unhide h).res.free 1, (unhide h).res.free 2⟩
  obtain ⟨p0, p1⟩ := unhide keep _ hH6
  have hnE' := hide hnE
  have hnI' := hide hnI
  clear hd0 hnE hnI
  go_region_held3 (fun x => x.cell? ⟨w.heap.size + 1, 0, none⟩ = some (.int .i64 s) ∧ x.cell? ⟨w.heap.size + 1, 1, none⟩ = some (.int .i64 f)) (go_keep) (first | (go_at_call 100; refine (unhide cmon).mono ?_; rintro e w7 ⟨aE, cE, rfl, hE7, hH7, hA7, hs7⟩; obtain ⟨z1, z2⟩ := unhide keep w7 hH7) | (go_at_call 101; refine (unhide citm _ _ hE7 hH7 hA7 hs7).mono ?_; rintro e w8 ⟨aI, cI, rfl, hI8, hE8, hH8, hA8⟩; obtain ⟨z1, z2⟩ := unhide keep w8 hH8; obtain ⟨r0, r1, r2, f0, f1, f2⟩ := unhide keepR w8 hH8))
  have hg9 := grown_set (grown_set (grown_set (World.grownBy.refl w8 (some w.heap.size)) 0 (.slice (some ⟨G, 0, none⟩) 384 384)) 1 (.slice aE nE cE)) 2 (.slice aI nI cI)
  have hE9 := hide ((unhide hE8).kept hg9 (by cases aE with | none => exact .inl rfl | some x => exact .inr (fun e => by have := ((unhide hE8).lt x.block rfl).1; simp [Value.ownBlock] at e; omega)))
  have hI9 := hide ((unhide hI8).kept hg9 (by cases aI with | none => exact .inl rfl | some x => exact .inr (fun e => by have := ((unhide hI8).lt x.block rfl).1; simp [Value.ownBlock] at e; omega)))
  have hA9 := hide ((unhide hA8).grown hg9 (by simp; omega))
  have hw9 := hide (grown_own (unhide hH8).grown hg9 (fun n e => by cases e; exact Nat.le_refl _))
  clear hg9 cmon citm keep keepR
  go_wp2
  refine bodyPost_ret (v := .tuple #[.agg #[.slice (some ⟨G, 0, none⟩) 384 384, .slice aE nE cE, .slice aI nI cI], .int .i64 0]) (by simp [results, Tryz.results53, go_sem, r0, r1, r2]) rfl ?_
  exact ⟨c, F, G, nE, nI, cE, cI, aE, aI, unhide hlev, rfl, by omega, unhide hA9, unhide hnE', unhide hnI', owns_mono (unhide hE9) (by omega), owns_mono (unhide hI9) (by omega), unhide hw9⟩

end Go.Proofs.YtbanjoflgoiegaaGreat

namespace Go.Proofs.YtbanjoflgoiegaaGreat
open Go.RowKit

theorem own_sets {a : World} {g : Nat} (hg : a.heap.size ≤ g) : ∀ (vs : List Value) (o : Nat) (b : World), a.grownBy b none → a.grownBy (b.setCells g o vs) none
  | [], _, _, h => h
  | v :: vs, o, b, h => own_sets hg vs (o + 1) (b.setCell ⟨g, o, none⟩ v) (grown_store h ⟨g, o, none⟩ hg v)

theorem none_below {a b : World} (h : a.grownBy b none) : Below a.heap.size a b :=
  ⟨h.os, h.tape, h.output, h.size, fun i hi => h.block i hi (fun e => by cases e)⟩

theorem cell_boxed (w : World) (v : Value) (T : TypeId) (B : Nat) (hB : B = w.heap.size) : (w.alloc (.cells #[v] T)).cell? ⟨B, 0, none⟩ = some v := by
  subst hB
  exact (Arr.lit (heap_alloc_new w (.cells #[v] T))).cell (i := 0) (by simp)

theorem cell_past {w : World} {B i : Nat} {v : Value} (o : Obj) (hB : B < w.heap.size) (h : w.cell? ⟨B, i, none⟩ = some v) : (w.alloc o).cell? ⟨B, i, none⟩ = some v :=
  (grown_cell (World.grownBy_alloc w o none) B i hB (by simp)).trans h

def En.cells (e : Nat → Int) : Array Value := #[.int .i64 (e 0), .int .i64 (e 1), .int .i64 (e 2), .int .i64 (e 3), .int .i64 (e 4), .int .i64 (e 5), .int .i64 (e 6), .int .i64 (e 7), .int .i64 (e 8), .int .i64 (e 9), .int .i64 (e 10)]

def En.flat (E : Nat → Nat → Int) : Nat → Value := fun c => .int .i64 (E (c / 11) (c % 11))

theorem En.flat_at (E : Nat → Nat → Int) (i j : Nat) (hj : j < 11) : En.flat E (i * 11 + j) = .int .i64 (E i j) := by
  unfold En.flat
  rw [show (i * 11 + j) / 11 = i by omega, show (i * 11 + j) % 11 = j by omega]

def Ents (w : World) (b n : Nat) (E : Nat → Nat → Int) : Prop :=
  n ≤ 32 ∧ b < w.heap.size ∧ ∀ i j, i < n → j < 11 → w.cell? ⟨b, i * 11 + j, none⟩ = some (.int .i64 (E i j))

theorem Ents.on {w w' : World} {b n : Nat} {E : Nat → Nat → Int} (h : Ents w b n E) (hg : w.grownBy w' none) : Ents w' b n E :=
  ⟨h.1, Nat.lt_of_lt_of_le h.2.1 hg.size, fun i j hi hj => (grown_cell hg b _ h.2.1 (by simp)).trans (h.2.2 i j hi hj)⟩

theorem Ents.congr {w : World} {b n : Nat} {E E' : Nat → Nat → Int} (h : Ents w b n E) (he : ∀ i j, i < n → j < 11 → E i j = E' i j) : Ents w b n E' :=
  ⟨h.1, h.2.1, fun i j hi hj => by rw [h.2.2 i j hi hj, he i j hi hj]⟩

theorem Arr.ents {w : World} {g n : Nat} {T : TypeId} {E : Nat → Nat → Int} (h : Arr w g T (n * 11) (En.flat E)) (hn : n ≤ 32) : Ents w g n E :=
  ⟨hn, h.lt, fun i j hi hj => by rw [h.cell (i := i * 11 + j) (by omega), En.flat_at E i j hj]⟩

def Own (w : World) (g n : Nat) (E : Nat → Nat → Int) : Prop :=
  n ≤ 32 ∧ ∃ m F, Arr w g 54 m F ∧ n * 11 ≤ m ∧ ∀ c, c < n * 11 → F c = En.flat E c

theorem Own.ents {w : World} {g n : Nat} {E : Nat → Nat → Int} (h : Own w g n E) : Ents w g n E := by
  obtain ⟨hn, m, F, hA, hm, hF⟩ := h
  exact ⟨hn, hA.lt, fun i j hi hj => by rw [hA.cell (i := i * 11 + j) (by omega), hF _ (by omega), En.flat_at E i j hj]⟩

theorem Own.on {w w' : World} {g n : Nat} {E : Nat → Nat → Int} (h : Own w g n E) (hg : w.grownBy w' none) : Own w' g n E := by
  obtain ⟨hn, m, F, hA, hm, hF⟩ := h
  exact ⟨hn, m, F, hA.grown hg (by simp), hm, hF⟩

theorem Own.free {w : World} {g n : Nat} {E : Nat → Nat → Int} (h : Own w g n E) (i : Nat) : w.frozen? ⟨g, i, none⟩ = false := by
  obtain ⟨hn, m, F, hA, hm, hF⟩ := h
  exact hA.free i

theorem Own.lt {w : World} {g n : Nat} {E : Nat → Nat → Int} (h : Own w g n E) : g < w.heap.size := h.ents.2.1

theorem Own.congr {w : World} {g n : Nat} {E E' : Nat → Nat → Int} (h : Own w g n E) (he : ∀ i j, i < n → j < 11 → E i j = E' i j) : Own w g n E' := by
  obtain ⟨hn, m, F, hA, hm, hF⟩ := h
  refine ⟨hn, m, F, hA, hm, fun c hc => ?_⟩
  rw [hF c hc]
  unfold En.flat
  rw [he _ _ (by omega) (by omega)]

def En.put (E : Nat → Nat → Int) (k : Nat) (e : Nat → Int) : Nat → Nat → Int := fun i => if i = k then e else E i

theorem En.put_same (E : Nat → Nat → Int) (k : Nat) (e : Nat → Int) : En.put E k e k = e := if_pos rfl
theorem En.put_other {E : Nat → Nat → Int} {k i : Nat} {e : Nat → Int} (h : i ≠ k) : En.put E k e i = E i := if_neg h

theorem En.cells_at (e : Nat → Int) (j : Nat) (hj : j < 11) : (En.cells e).toList[j]?.getD undef = .int .i64 (e j) := by
  rcases (show j = 0 ∨ j = 1 ∨ j = 2 ∨ j = 3 ∨ j = 4 ∨ j = 5 ∨ j = 6 ∨ j = 7 ∨ j = 8 ∨ j = 9 ∨ j = 10 by omega) with rfl | rfl | rfl | rfl | rfl | rfl | rfl | rfl | rfl | rfl | rfl <;> rfl

theorem Own.store {w : World} {g n : Nat} {E : Nat → Nat → Int} (h : Own w g n E) (k : Nat) (e : Nat → Int) : Own (w.setCells g (k * 11) (En.cells e).toList) g n (En.put E k e) := by
  obtain ⟨hn, m, F, hA, hm, hF⟩ := h
  refine ⟨hn, m, _, hA.stores (En.cells e).toList (k * 11), hm, fun c hc => ?_⟩
  show (if k * 11 ≤ c ∧ c < k * 11 + 11 then (En.cells e).toList[c - k * 11]?.getD undef else F c) = En.flat (En.put E k e) c
  unfold En.flat
  by_cases hk : k * 11 ≤ c ∧ c < k * 11 + 11
  · rw [if_pos hk, En.cells_at e _ (by omega), show c / 11 = k by omega, En.put_same, show c - k * 11 = c % 11 by omega]
  · rw [if_neg hk, hF c hc, En.put_other (by omega)]
    rfl

theorem Own.of_owns {w : World} {base g n cap : Nat} {xs : List Value} {E : Nat → Nat → Int} (h : w.ownsRow base 54 11 (.slice (some ⟨g, 0, none⟩) n cap) n xs) (hn : n ≤ 32) (hx : ∀ c, c < n * 11 → xs[c]? = some (En.flat E c)) : Own w g n E := by
  rcases h.2 with ⟨h', _⟩ | ⟨g', cap', cur, h', _, hg, hnc, _, hcs, htake⟩
  · simp at h'
  · simp only [Value.slice.injEq, Option.some.injEq, Addr.mk.injEq, and_true, true_and] at h'
    obtain ⟨rfl, rfl⟩ := h'
    refine ⟨hn, cur.size, fun j => cur[j]?.getD undef, Arr.lit hg, by rw [hcs]; omega, fun c hc => ?_⟩
    show cur[c]?.getD undef = _
    have e := hx c hc
    rw [← htake, List.getElem?_take, if_pos hc, Array.getElem?_toList] at e
    rw [e]
    rfl

def Lists (w : World) (n : Nat) (E : Nat → Nat → Int) (e : Ending) (w' : World) : Prop :=
  ∃ g cap, e = .returned (.slice (some ⟨g, 0, none⟩) n cap) ∧ w.heap.size ≤ g ∧ n ≤ cap ∧ cap ≤ maxLen ∧ Own w' g n E ∧ w.grownBy w' none

theorem run_copy_many {P : Program} (w : World) (dT sT ty elem : TypeId) (z g o dLen dCap : Nat) (a : Addr) (sLen sCap : Nat) (cur : Array Value) (t : TypeId) (cs : List Value)
    (hu : P.underlying dT = some (.slice elem)) (hs : (P.info? elem).map (·.size) = some z)
    (hg : w.heap[g]? = some (.cells cur t (0, 0))) (hn : cs.length = Nat.min sLen dLen * z)
    (hsrc : ∀ j v, cs[j]? = some v → w.cell? (a.add j) = some v) (hfit : o + cs.length ≤ cur.size) (h1 : ∀ v ∈ cs, v.oneCell' = true) :
    (Builtin.copy_ #[dT, sT] ty #[.slice (some ⟨g, o, none⟩) dLen dCap, .slice (some a) sLen sCap]).run P w =
      .ok (goInt (Nat.min sLen dLen)) (w.setRow g (cur.toList.take o ++ cs ++ cur.toList.drop (o + cs.length)).toArray) := by
  have hl := run_loadCells_list (P := P) w a cs hsrc
  have hst := run_storeCells_at P g o t cs 0 cur w hg (by simpa using hfit) h1
  cases hq : P.info? elem with
  | none => simp [hq] at hs
  | some i =>
    have hi : i.size = z := by simpa [hq] using hs
    simp [Builtin.copy_, run_underlying hu, Builtin.lenOf, Builtin.firstCells, sizeOf, typeInfo, hq, hi, ← hn, hl, hst]

theorem run_copy_whole {P : Program} {w : World} (dT sT ty elem : TypeId) (hu : P.underlying dT = some (.slice elem)) (z : Nat) (hsz : (P.info? elem).map (·.size) = some z)
    (g n dCap : Nat) (ad : Addr) (sCap : Nat) (cur : Array Value) (t : TypeId) (hg : w.heap[g]? = some (.cells cur t (0, 0))) (cs : List Value) (hn : cs.length = n * z)
    (hsrc : ∀ j v, cs[j]? = some v → w.cell? (ad.add j) = some v) (hfit : cs.length = cur.size) (h1 : ∀ v ∈ cs, v.oneCell' = true) :
    ∃ w', (Builtin.copy_ #[dT, sT] ty #[.slice (some ⟨g, 0, none⟩) n dCap, .slice (some ad) n sCap]).run P w = .ok (goInt n) w' ∧ w'.heap[g]? = some (.cells cs.toArray t (0, 0)) ∧ w.grownBy w' (some g) := by
  have hrun := run_copy_many (P := P) w dT sT ty elem z g 0 n dCap ad n sCap cur t cs hu hsz hg (by rw [hn]; simp) hsrc (by omega) h1
  have hmin : Nat.min n n = n := by simp
  rw [hmin] at hrun
  refine ⟨_, hrun, ?_, ⟨rfl, rfl, rfl, by simp [World.setRow], fun k _ hr => setRow_other w g k _ (fun e => hr (by rw [e]))⟩⟩
  have e : cs ++ List.drop cs.length cur.toList = cs := by
    rw [List.drop_eq_nil_of_le (by simp; omega), List.append_nil]
  have := setRow_heap w g cur cs.toArray t _ hg
  simpa [e] using this

theorem madeCells_ent (n c : Nat) (hc : c < n * 11) : (madeCells (Value.agg #[.int .i64 0, .int .i64 0, .int .i64 0, .int .i64 0, .int .i64 0, .int .i64 0, .int .i64 0, .int .i64 0, .int .i64 0, .int .i64 0, .int .i64 0]).cells (n * 11))[c]? = some (.int .i64 0) := by
  have hm : c % 11 < 11 := by omega
  obtain ⟨m, hmm⟩ : ∃ m, m = c % 11 := ⟨_, rfl⟩
  unfold madeCells
  simp [hc, Value.cells]
  rw [← hmm] at hm ⊢
  rcases (show m = 0 ∨ m = 1 ∨ m = 2 ∨ m = 3 ∨ m = 4 ∨ m = 5 ∨ m = 6 ∨ m = 7 ∨ m = 8 ∨ m = 9 ∨ m = 10 by omega) with rfl | rfl | rfl | rfl | rfl | rfl | rfl | rfl | rfl | rfl | rfl <;> rfl

theorem make32 : ∃ Z : Array Value, (∀ w : World, (Instr.makeSlice 26 (.int .i64 32) (.int .i64 32)).run Tryz.prog w = .ok (.slice (some ⟨w.heap.size, 0, none⟩) 32 32) (w.alloc (.cells Z 54))) ∧
    ∀ w : World, Own (w.alloc (.cells Z 54)) w.heap.size 32 (fun _ _ => 0) := by
  obtain ⟨i0, hi, hz0, hz1, hz2⟩ := info_parts info_ent
  refine ⟨madeCells (Value.agg #[.int .i64 0, .int .i64 0, .int .i64 0, .int .i64 0, .int .i64 0, .int .i64 0, .int .i64 0, .int .i64 0, .int .i64 0, .int .i64 0, .int .i64 0]).cells (32 * 11), fun w => ?_, fun w => ?_⟩
  · have hr := run_make (P := Tryz.prog) w 26 54 i0 _ Tryz.underlying26 hi hz0 .i64 .i64 (32 : Nat) (32 : Nat) (by omega) (by omega) (by rw [hz2]; decide) (by decide)
    rw [hz1] at hr
    exact hr
  · refine ⟨by omega, _, _, Arr.lit (heap_alloc_new w _), by rw [size_madeCells]; omega, fun c hc => ?_⟩
    show (madeCells _ _)[c]?.getD undef = _
    rw [madeCells_ent 32 c hc]
    rfl

end Go.Proofs.YtbanjoflgoiegaaGreat

namespace Go.Proofs.YtbanjoflgoiegaaGreat
open Go.RowKit

theorem isFree_any (e : Nat → Int) (w : World) : Calls Tryz.prog 142 #[.agg (En.cells e)] w (Says w (.bool (decide (e 0 = 0)))) := by
  unfold En.cells
  go_enter Tryz.func142, Tryz.ntmps142
  go_wp2
  go_ret
  exact ⟨rfl, World.grownBy_alloc _ _ _⟩

theorem slice_ents (a : Option Addr) (len cap k : Nat) (w : World) (hk : k ≤ cap) :
    (Instr.slice 26 (.slice a len cap) none (some (.int .i64 (k : Int))) none).run Tryz.prog w = .ok (.slice a k cap) w := by
  have hs : (sizeOf (Tryz.prog.elem 26)).run Tryz.prog w = .ok 11 w := by kernel_rfl
  rw [run_slice_h w 26 a len cap (by kernel_rfl) .i64 (k : Int) (by omega) (by omega), hs]
  have e : a.map (fun x => x.add (0 * 11)) = a := by
    cases a with
    | none => rfl
    | some x => simp [Addr.add]
  simp only [Result.andThen, sliced, e, Int.toNat_natCast, Nat.sub_zero, ite_self]

theorem rows_any (a : Option Addr) (n c : Nat) (w : World) (hn : n ≤ 32) (hc : n ≤ c) :
    Calls Tryz.prog 141 #[.slice a n c] w fun e w' => e = .returned (.slice a n c) ∧ w' = w := by
  have hs := fun wx => slice_ents a n c n wx hc
  have hm : min (n : Int) 32 = (n : Int) := by omega
  go_enter Tryz.func141, Tryz.ntmps141
  go_wp2
  go_ret
  exact ⟨rfl, rfl⟩

def En.isRow (n : Nat) (row : Int) : Bool := decide (0 ≤ row ∧ row < n)

theorem isRow_any (a : Option Addr) (n c : Nat) (row : Int) (w : World) (hn : n ≤ 32) (hc : n ≤ c) :
    Calls Tryz.prog 145 #[.slice a n c, .int .i64 row] w fun e w' => e = .returned (.bool (En.isRow n row)) ∧ w' = w := by
  have hn' : (n : Int) ≤ 32 := by omega
  by_cases h : 0 ≤ row
  · by_cases h2 : row < (n : Int)
    · have hd : Hid (En.isRow n row = true) := decide_eq_true (show 0 ≤ row ∧ row < (n : Int) from ⟨h, h2⟩)
      go_enter Tryz.func145, Tryz.ntmps145
      go_wp2_with (go_at_call 141; refine (rows_any _ _ _ _ hn hc).mono ?_; rintro e w' ⟨rfl, hw⟩; subst w')
      go_ret
      exact ⟨ret_bool (unhide hd).symm, rfl⟩
    · have hd : Hid (En.isRow n row = false) := decide_eq_false (show ¬ (0 ≤ row ∧ row < (n : Int)) by omega)
      go_enter Tryz.func145, Tryz.ntmps145
      go_wp2_with (go_at_call 141; refine (rows_any _ _ _ _ hn hc).mono ?_; rintro e w' ⟨rfl, hw⟩; subst w')
      go_ret
      exact ⟨ret_bool ((decide_eq_false (show ¬ row < (n : Int) by omega)).trans (unhide hd).symm), rfl⟩
  · have hd : Hid (En.isRow n row = false) := decide_eq_false (show ¬ (0 ≤ row ∧ row < (n : Int)) by omega)
    go_enter Tryz.func145, Tryz.ntmps145
    go_wp2
    go_ret
    exact ⟨ret_bool (unhide hd).symm, rfl⟩

def En.id (n : Nat) (E : Nat → Nat → Int) (row : Int) : Int := if 0 ≤ row ∧ row < n ∧ E row.toNat 0 ≠ 0 then row + 32 * E row.toNat 1 else -1

theorem En.id_at {n : Nat} {E : Nat → Nat → Int} {k : Nat} (hk : k < n) (h : E k 0 ≠ 0) : En.id n E (k : Int) = (k : Int) + 32 * E k 1 := by
  unfold En.id
  rw [Int.toNat_natCast, if_pos ⟨by omega, by omega, h⟩]

theorem En.id_free {n : Nat} {E : Nat → Nat → Int} {k : Nat} (h : E k 0 = 0) : En.id n E (k : Int) = -1 := by
  unfold En.id
  rw [Int.toNat_natCast, if_neg (by rintro ⟨_, _, h'⟩; exact h' h)]

theorem En.id_out {n : Nat} {E : Nat → Nat → Int} {row : Int} (h : ¬ (0 ≤ row ∧ row < n)) : En.id n E row = -1 := by
  unfold En.id
  rw [if_neg (by rintro ⟨h1, h2, _⟩; exact h ⟨h1, h2⟩)]

def En.Gens (n : Nat) (E : Nat → Nat → Int) : Prop := ∀ i, i < n → 0 ≤ E i 1 ∧ E i 1 ≤ 255

set_option maxHeartbeats 800000 in
theorem id_any (b n c : Nat) (E : Nat → Nat → Int) (row : Int) (w : World) (hE : Ents w b n E) (hc : n ≤ c) (hG : En.Gens n E) :
    Calls Tryz.prog 154 #[.slice (some ⟨b, 0, none⟩) n c, .int .i64 row] w (Says w (.int .i64 (En.id n E row))) := by
  have hn := hE.1
  have cr : ∀ x : World, Calls Tryz.prog 145 #[.slice (some ⟨b, 0, none⟩) n c, .int .i64 row] x fun e w' => e = .returned (.bool (En.isRow n row)) ∧ w' = x := fun x => isRow_any _ n c row x hn hc
  by_cases h : 0 ≤ row ∧ row < (n : Int)
  · obtain ⟨k, rfl⟩ : ∃ k : Nat, row = (k : Int) := ⟨row.toNat, by omega⟩
    have hk : k < n := by omega
    have hk' : (k : Int) < (n : Int) := by omega
    have hk32 : (k : Int) < 32 := by omega
    obtain ⟨g0, g1⟩ := hG k hk
    have hd : En.isRow n (k : Int) = true := decide_eq_true h
    rw [hd] at cr
    have u : ∀ j, j < 11 → w.cell? ⟨b, k * 11 + j, none⟩ = some (.int .i64 (E k j)) := fun j hj => hE.2.2 k j hk hj
    have u0 := u 0 (by omega)
    rw [Nat.add_zero] at u0
    have u1 := u 1 (by omega)
    have u2 := u 2 (by omega)
    have u3 := u 3 (by omega)
    have u4 := u 4 (by omega)
    have u5 := u 5 (by omega)
    have u6 := u 6 (by omega)
    have u7 := u 7 (by omega)
    have u8 := u 8 (by omega)
    have u9 := u 9 (by omega)
    have u10 := u 10 (by omega)
    have hE' := hide hE
    have cf := hide (isFree_any (E k) w)
    have keep : Hid (∀ x, w.grownBy x none → x.cell? ⟨b, k * 11 + 1, none⟩ = some (.int .i64 (E k 1))) := fun x hg => (hE.on hg).2.2 k 1 hk (by omega)
    clear hE hG hd u h
    by_cases hf : E k 0 = 0
    · have he := hide (En.id_free (n := n) hf)
      have hfd := hide (decide_eq_true hf)
      clear hf
      go_enter Tryz.func154, Tryz.ntmps154
      go_wp2_with (go_at_call 145; refine (cr _).mono ?_; rintro e w' ⟨rfl, hw⟩; subst w')
      refine (unhide cf).mono ?_
      rintro e w1 ⟨rfl, hg⟩
      rw [unhide hfd]
      have hg' := hide hg
      clear u0 u1 u2 u3 u4 u5 u6 u7 u8 u9 u10 hg
      go_wp2
      go_ret
      exact ⟨ret_int (unhide he).symm, unhide hg'⟩
    · have he := hide (En.id_at hk hf)
      have hfd := hide (decide_eq_false hf)
      clear hf
      go_enter Tryz.func154, Tryz.ntmps154
      go_wp2_with (go_at_call 145; refine (cr _).mono ?_; rintro e w' ⟨rfl, hw⟩; subst w')
      refine (unhide cf).mono ?_
      rintro e w1 ⟨rfl, hg⟩
      rw [unhide hfd]
      have u := unhide keep w1 hg
      have hg' := hide hg
      clear u0 u1 u2 u3 u4 u5 u6 u7 u8 u9 u10 hg
      go_wp2
      go_ret
      exact ⟨ret_int (unhide he).symm, unhide hg'⟩
  · have he := hide (En.id_out (E := E) h)
    have hd : En.isRow n row = false := decide_eq_false h
    rw [hd] at cr
    clear hE hG hd h
    go_enter Tryz.func154, Tryz.ntmps154
    go_wp2_with (go_at_call 145; refine (cr _).mono ?_; rintro e w' ⟨rfl, hw⟩; subst w')
    go_ret
    exact ⟨ret_int (unhide he).symm, World.grownBy.refl _ _⟩

end Go.Proofs.YtbanjoflgoiegaaGreat
