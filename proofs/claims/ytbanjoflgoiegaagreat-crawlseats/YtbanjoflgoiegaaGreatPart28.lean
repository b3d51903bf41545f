/-
  GenRefCorr GenRefMake EntGo
-/
import Derived.Test.YtbanjoflgoiegaaGreatPart21
namespace Go.Proofs.YtbanjoflgoiegaaGreat
open Go.RowKit

structure RefCor (w : World) (B G X Y : Nat) (d : Gn.Dice) (c : Nat → Int) (wr : World) : Prop where
  cells : Arr wr G 5 384 (Byts c)
  xs : Arr wr X 89 6 (fun j => .int .i64 (Gn.mx d j))
  ys : Arr wr Y 89 6 (fun j => .int .i64 (Gn.my d j))
  res : Arr wr B 58 3 (fun _ => .slice none 0 0)
  grown : w.grownBy wr none
  o0 : w.heap.size ≤ B
  o1 : B < G
  o2 : G < X
  o3 : X < Y

theorem RefCor.on {w : World} {B G X Y : Nat} {d : Gn.Dice} {c : Nat → Int} {wr wx : World} (h : RefCor w B G X Y d c wr) (hg : wr.grownBy wx none) : RefCor w B G X Y d c wx :=
  ⟨h.cells.grown hg (by simp), h.xs.grown hg (by simp), h.ys.grown hg (by simp), h.res.grown hg (by simp), grown_none h.grown hg, h.o0, h.o1, h.o2, h.o3⟩

end Go.Proofs.YtbanjoflgoiegaaGreat

namespace Go.Proofs.YtbanjoflgoiegaaGreat
open Go.RowKit

structure RefRoom (w : World) (B G X Y : Nat) (d : Gn.Dice) (k : Nat) (c : Nat → Int) (wr : World) : Prop where
  cells : Arr wr G 5 384 (Byts c)
  xs : Arr wr X 89 6 (fun j => .int .i64 (if j < k then Gn.mx d j else 0))
  ys : Arr wr Y 89 6 (fun j => .int .i64 (if j < k then Gn.my d j else 0))
  res : Arr wr B 58 3 (fun _ => .slice none 0 0)
  grown : w.grownBy wr none
  o0 : w.heap.size ≤ B
  o1 : B < G
  o2 : G < X
  o3 : X < Y

theorem RefRoom.on {w : World} {B G X Y : Nat} {d : Gn.Dice} {k : Nat} {c : Nat → Int} {wr wx : World} (h : RefRoom w B G X Y d k c wr) (hg : wr.grownBy wx none) : RefRoom w B G X Y d k c wx :=
  ⟨h.cells.grown hg (by simp), h.xs.grown hg (by simp), h.ys.grown hg (by simp), h.res.grown hg (by simp), grown_none h.grown hg, h.o0, h.o1, h.o2, h.o3⟩

theorem RefRoom.congr {w : World} {B G X Y : Nat} {d : Gn.Dice} {k : Nat} {c c' : Nat → Int} {wr : World} (h : RefRoom w B G X Y d k c wr) (he : ∀ i, c i = c' i) : RefRoom w B G X Y d k c' wr := by
  obtain rfl : c = c' := funext he
  exact h

theorem RefRoom.put {w : World} {B G X Y : Nat} {d : Gn.Dice} {k : Nat} {c : Nat → Int} {wr : World} (h : RefRoom w B G X Y d k c wr) (i : Nat) (v : Int) : RefRoom w B G X Y d k (Gr.upd c i v) (wr.setCell ⟨G, i, none⟩ (.int .u8 v)) := by
  have h0 := h.o0
  have h1 := h.o1
  have h2 := h.o2
  have h3 := h.o3
  have hg := grown_put wr G i (.int .u8 v)
  exact ⟨h.cells.byte i v, h.xs.grown hg (by simp; omega), h.ys.grown hg (by simp; omega), h.res.grown hg (by simp; omega), grown_own h.grown hg (fun n e => by cases e; omega), h0, h1, h2, h3⟩

theorem RefRoom.next {w : World} {B G X Y : Nat} {d : Gn.Dice} {k : Nat} {c : Nat → Int} {wr : World} (h : RefRoom w B G X Y d k c wr) (u v : Int) (hu : u = Gn.mx d k) (hv : v = Gn.my d k) : RefRoom w B G X Y d (k + 1) c ((wr.setCell ⟨X, k, none⟩ (.int .i64 u)).setCell ⟨Y, k, none⟩ (.int .i64 v)) := by
  have h0 := h.o0
  have h1 := h.o1
  have h2 := h.o2
  have h3 := h.o3
  have g1 := grown_put wr X k (.int .i64 u)
  have g2 := grown_put (wr.setCell ⟨X, k, none⟩ (.int .i64 u)) Y k (.int .i64 v)
  refine ⟨(h.cells.grown g1 (by simp; omega)).grown g2 (by simp; omega), ((h.xs.store k (.int .i64 u)).grown g2 (by simp; omega)).congr fun j _ => fill_more hu j, ((h.ys.grown g1 (by simp; omega)).store k (.int .i64 v)).congr fun j _ => fill_more hv j, (h.res.grown g1 (by simp; omega)).grown g2 (by simp; omega), grown_own (grown_own h.grown g1 (fun n e => by cases e; omega)) g2 (fun n e => by cases e; omega), h0, h1, h2, h3⟩

end Go.Proofs.YtbanjoflgoiegaaGreat

namespace Go.Proofs.YtbanjoflgoiegaaGreat
open Go.RowKit

set_option maxHeartbeats 800000 in
theorem indexFree_any (b n c : Nat) (E : Nat → Nat → Int) (w : World) (hE : Ents w b n E) :
    Calls Tryz.prog 110 #[.slice (some ⟨b, 0, none⟩) n c, .func (.func 142) #[] #[]] w (Says w (.int .i64 (En.first (En.freeQ E) n))) := by
  have hn := hE.1
  have hE' := hide hE
  clear hE
  go_enter Tryz.func110, Tryz.ntmps110
  go_wp2_with fail
  go_loopw [8] (fun i wr => ∃ k : Nat, k ≤ n ∧ i = .int .i64 (k : Int) ∧ (∀ j, j < k → En.freeQ E j = false) ∧ w.grownBy wr none) (fun i _ => 40 - (intOf i).toNat)
  case atStart => exact ⟨0, by omega, rfl, fun j hj => by omega, World.grownBy.refl _ _⟩
  case round =>
    obtain ⟨k, hk, rfl, hno, hgr⟩ := hrel
    have hno' := hide hno
    have hgr' := hide hgr
    clear hno hgr
    by_cases hlt : k < n
    · obtain ⟨u0, u1, u2, u3, u4, u5, u6, u7, u8, u9, u10⟩ := ((unhide hE').on (unhide hgr')).row hlt
      have hlt' : (k : Int) < (n : Int) := by omega
      have HL := hide hlt
      clear hlt
      go_wp2_with fail
      refine (isFree_any (E k) _).mono ?_
      rintro e w1 ⟨rfl, hg0⟩
      have hgr1 := hide (grown_trans (unhide hgr') hg0)
      clear u0 u1 u2 u3 u4 u5 u6 u7 u8 u9 u10 hg0
      obtain ⟨r, hr⟩ : ∃ r : Bool, r = decide (E k 0 = 0) := ⟨_, rfl⟩
      have hq : Hid (En.freeQ E k = r) := hr.symm
      rw [← hr]
      clear hr
      cases r
      · go_wp2
        go_roundw
        case rel => exact ⟨k + 1, by have := unhide HL; omega, by go_num, fun j hj => by
          by_cases e : j = k
          · rw [e]; exact unhide hq
          · exact unhide hno' j (by omega), unhide hgr1⟩
        case measure => simp [intOf]; omega
      · have he := hide (En.first_hit (unhide hno') (unhide hq) (unhide HL))
        go_wp2
        go_ret
        exact ⟨ret_int (unhide he).symm, unhide hgr1⟩
    · have hge : ¬ (k : Int) < (n : Int) := by omega
      have he := hide (En.first_none (n := n) (fun j hj => unhide hno' j (by omega)))
      go_wp2
      go_ret
      exact ⟨ret_int (unhide he).symm, unhide hgr'⟩

def En.gen (e : Nat → Int) (g : Int) : Nat → Int := fun j => if j = 1 then g else e j

def Spawns (w : World) (n : Nat) (E : Nat → Nat → Int) (k : Nat) (e : Ending) (w' : World) : Prop :=
  ∃ g cap, e = .returned (.tuple #[.slice (some ⟨g, 0, none⟩) n cap, .int .i64 (k : Int), .int .i64 0]) ∧ w.heap.size ≤ g ∧ n ≤ cap ∧ cap ≤ maxLen ∧ Own w' g n E ∧ w.grownBy w' none

set_option maxHeartbeats 1600000 in
theorem spawn_full (b n c : Nat) (E : Nat → Nat → Int) (e : Nat → Int) (w : World) (hE : Ents w b n E) (hc : n ≤ c) (hk : 1 ≤ e 0 ∧ e 0 ≤ 4) (hf : En.first (En.freeQ E) n = -1) :
    Calls Tryz.prog 103 #[.slice (some ⟨b, 0, none⟩) n c, .agg (En.cells e)] w (Says w (.tuple #[.slice none 0 0, .int .i64 0, .int .i64 5])) := by
  have hn := hE.1
  obtain ⟨s, hs, hs0⟩ : ∃ s, s = En.stats (e 0) ∧ ¬ s 0 = 0 := ⟨_, rfl, by show ¬ (if 1 ≤ e 0 ∧ e 0 ≤ 4 then e 0 else 0) = 0; rw [if_pos hk]; omega⟩
  have cs : Hid (∀ x : World, Calls Tryz.prog 80 #[.int .i64 (e 0)] x (Says x (.agg (En.cells s)))) := fun x => by rw [hs]; exact entStats_any (e 0) x
  have ci : Hid (∀ x : World, w.grownBy x none → Calls Tryz.prog 110 #[.slice (some ⟨b, 0, none⟩) n c, .func (.func 142) #[] #[]] x (Says x (.int .i64 (-1)))) := fun x hg => by
    have := indexFree_any b n c E x (hE.on hg)
    rwa [hf] at this
  clear hk hs hE hf
  unfold En.cells at cs ⊢
  go_enter Tryz.func103, Tryz.ntmps103
  go_wp2_with fail
  refine (unhide cs _).mono ?_
  rintro _ w1 ⟨rfl, hg⟩
  have hg1 := hide (grown_trans (World.grownBy_alloc _ _ _) hg)
  clear hg
  go_wp2_with (go_at_call 141; refine (rows_any _ _ _ _ hn hc).mono ?_; rintro e w' ⟨rfl, hw⟩; subst w')
  refine (unhide ci _ (unhide hg1)).mono ?_
  rintro _ w2 ⟨rfl, hg⟩
  have hg2 := hide (grown_trans (unhide hg1) hg)
  clear hg
  go_wp2
  go_ret3
  exact ⟨rfl, unhide hg2⟩

set_option maxHeartbeats 1600000 in
theorem spawn_some (b n c k : Nat) (E : Nat → Nat → Int) (e : Nat → Int) (w : World) (hE : Ents w b n E) (hc : n ≤ c) (hk : 1 ≤ e 0 ∧ e 0 ≤ 4) (hf : En.first (En.freeQ E) n = (k : Int)) (hkn : k < n) (hG : En.Gens n E) :
    Calls Tryz.prog 103 #[.slice (some ⟨b, 0, none⟩) n c, .agg (En.cells e)] w (Spawns w n (En.put E k (En.gen e ((E k 1 + 1) % 256))) k) := by
  have hn := hE.1
  obtain ⟨s, hs, hs0⟩ : ∃ s, s = En.stats (e 0) ∧ ¬ s 0 = 0 := ⟨_, rfl, by show ¬ (if 1 ≤ e 0 ∧ e 0 ≤ 4 then e 0 else 0) = 0; rw [if_pos hk]; omega⟩
  have cs : Hid (∀ x : World, Calls Tryz.prog 80 #[.int .i64 (e 0)] x (Says x (.agg (En.cells s)))) := fun x => by rw [hs]; exact entStats_any (e 0) x
  have ci : Hid (∀ x : World, w.grownBy x none → Calls Tryz.prog 110 #[.slice (some ⟨b, 0, none⟩) n c, .func (.func 142) #[] #[]] x (Says x (.int .i64 (k : Int)))) := fun x hg => by
    have := indexFree_any b n c E x (hE.on hg)
    rwa [hf] at this
  obtain ⟨g0, g1⟩ := hG k hkn
  have hkn' : (k : Int) < (n : Int) := by omega
  have hE' := hide hE
  have HK := hide hkn
  have hbb := hide hE.2.1
  have hbox := hide (Arr.lit (heap_alloc_new w (.cells (En.cells e) 54)))
  have cw : Hid (∀ x : World, Ents x b n E → Calls Tryz.prog 143 #[.slice (some ⟨b, 0, none⟩) n c, .int .i64 (k : Int), .agg (En.cells (En.gen e ((E k 1 + 1) % 256)))] x (Lists x n (En.put E k (En.gen e ((E k 1 + 1) % 256))))) := fun x h => with_any b n c k E _ x h hkn
  obtain ⟨F, hF⟩ : ∃ F, F = En.put E k (En.gen e ((E k 1 + 1) % 256)) := ⟨_, rfl⟩
  rw [← hF] at cw ⊢
  clear hk hs hE hf hG hkn hF
  unfold En.cells at cs hbox cw ⊢
  go_enter Tryz.func103, Tryz.ntmps103
  go_wp2_with fail
  refine (unhide cs _).mono ?_
  rintro _ w1 ⟨rfl, hg⟩
  have hg1 := hide (grown_trans (World.grownBy_alloc _ _ _) hg)
  have hbox1 := hide ((unhide hbox).grown hg (by simp))
  clear hg hbox
  go_wp2_with (go_at_call 141; refine (rows_any _ _ _ _ hn hc).mono ?_; rintro e w' ⟨rfl, hw⟩; subst w')
  refine (unhide ci _ (unhide hg1)).mono ?_
  rintro _ w2 ⟨rfl, hg⟩
  have hg2 := hide (grown_trans (unhide hg1) hg)
  have hbox2 := hide ((unhide hbox1).grown hg (by simp))
  have z := fun j (hj : j < 11) => (unhide hbox2).cell (i := j) hj
  have z0 := z 0 (by omega)
  have z1 := z 1 (by omega)
  have z2 := z 2 (by omega)
  have z3 := z 3 (by omega)
  have z4 := z 4 (by omega)
  have z5 := z 5 (by omega)
  have z6 := z 6 (by omega)
  have z7 := z 7 (by omega)
  have z8 := z 8 (by omega)
  have z9 := z 9 (by omega)
  have z10 := z 10 (by omega)
  simp only [List.getElem?_toArray, List.getElem?_cons_zero, List.getElem?_cons_succ, Option.getD_some] at z0 z1 z2 z3 z4 z5 z6 z7 z8 z9 z10
  have zf := (unhide hbox2).free 1
  have u1 : w2.cell? ⟨b, k * 11 + 1, none⟩ = some (.int .i64 (E k 1)) := ((unhide hE').on (unhide hg2)).2.2 k 1 (unhide HK) (by omega)
  have hne : Hid (w.heap.size ≠ b) := by have := unhide hbb; exact (show w.heap.size ≠ b by omega)
  have hE3 : Hid (∀ u, Ents (w2.setCell ⟨w.heap.size, 1, none⟩ u) b n E) := fun u => ((unhide hE').on (unhide hg2)).set (unhide hne) u
  have hg3 : Hid (∀ u, w.grownBy (w2.setCell ⟨w.heap.size, 1, none⟩ u) none) := fun u => grown_store (unhide hg2) ⟨w.heap.size, 1, none⟩ (Nat.le_refl _) u
  clear hg z hg1 hbox1 ci cs
  go_wp2_with fail
  refine (unhide cw _ (unhide hE3 _)).mono ?_
  rintro _ w3 ⟨g, cap, rfl, hlo, hnc, hcm, hown, hgr⟩
  have hfin := hide (show w.heap.size ≤ g ∧ n ≤ cap ∧ cap ≤ maxLen ∧ Own w3 g n F ∧ w.grownBy w3 none from ⟨Nat.le_trans (unhide hg3 _).size hlo, hnc, hcm, hown, grown_trans (unhide hg3 _) hgr⟩)
  clear hlo hnc hcm hown hgr z0 z1 z2 z3 z4 z5 z6 z7 z8 z9 z10 zf u1
  go_wp2
  go_ret3
  exact ⟨g, cap, rfl, unhide hfin⟩

end Go.Proofs.YtbanjoflgoiegaaGreat
