/-
  Both disks side by side.
-/
import Derived.Test.YtnpdmfhknbfmhaaDiskMade
namespace Go.Proofs.Ytnpdmfhknbfmhaa
open Go.RowKit Go.Maps

theorem Dk.arr_ne {x : World} {p q n m : Nat} {T U : TypeId} {F G : Nat → Value} (h : Arr x p T n F) (k : Arr x q U m G) (hT : T ≠ U) : p ≠ q := by
  intro e
  subst e
  obtain ⟨c1, h1, _⟩ := h
  obtain ⟨c2, h2, _⟩ := k
  rw [h1] at h2
  simp only [Option.some.injEq, Obj.cells.injEq] at h2
  exact hT h2.2.1

theorem Dk.Own.map_row {x : World} {base p b cnt : Nat} {f : Int → List Int} {done : Nat} {left : Int} {dead : Bool} (H : Dk.Own x base p b cnt f done left dead) {base' n z : Nat} {T : TypeId} {v : Value} {xs : List Value} (h : x.ownsRow base' T z v n xs) : v.ownBlock ≠ some b := by
  intro e
  obtain ⟨D, ⟨es, cl, hb, _⟩, _⟩ := H.map
  rcases h.2 with ⟨rfl, _⟩ | ⟨g, cap, cur, rfl, _, hc, _⟩
  · cases e
  · simp only [Value.ownBlock, Option.some.injEq] at e
    subst e
    rw [hb] at hc
    cases hc

theorem Dk.Own.map_arr {x : World} {base p b cnt : Nat} {f : Int → List Int} {done : Nat} {left : Int} {dead : Bool} (H : Dk.Own x base p b cnt f done left dead) {q n : Nat} {T : TypeId} {F : Nat → Value} (h : Arr x q T n F) : b ≠ q := by
  intro e
  subst e
  obtain ⟨D, ⟨es, cl, hb, _⟩, _⟩ := H.map
  obtain ⟨cur, hc, _⟩ := h
  rw [hb] at hc
  cases hc

theorem Dk.Refd.and {x : World} {base p : Nat} {v : Value} {cnt : Nat} {B C : Nat → Prop} {s : Dk.St} (H : Dk.Refd x base p v cnt B s) (h : ∀ (u : Value) (l : List Int), x.ownsRow base 5 1 u l.length (Ck.bys l) → ∀ k, u.ownBlock = some k → C k) : Dk.Refd x base p v cnt (fun k => B k ∧ C k) s := by
  obtain ⟨Vs, ps, hD, hl, hf, hV⟩ := H
  refine ⟨Vs, ps, hD, hl, hf, fun u q k e => ⟨hV u q k e, ?_⟩⟩
  obtain ⟨l, hu⟩ := hD.each u q
  exact h u l hu k e

/-- The project's disk has turned, the document's is as it was. -/
theorem Dk.Refd.past {x y : World} {base base2 p b q n m : Nat} {v : Value} {B : Nat → Prop} {s s2 : Dk.St} (H : Dk.Refd x base2 q v n B s) (M : Dk.Mine x base p b m s2) (ht : Turn (fun k => k = p ∨ k = b) x y) : Dk.Refd y base2 q v n B s := by
  have hH := H
  obtain ⟨Vs, ps, hD, _⟩ := hH
  have h2 := H.and (C := fun k => k ≠ p ∧ k ≠ b) (fun u l hu k e => ⟨Dk.own_off M.box hu (by decide) k e, fun q => M.map_row hu (by rw [e, q])⟩)
  refine (h2.turn ht ?_ ?_ ?_).mono fun k e => e.1
  · rintro (e | e)
    · exact Dk.arr_ne M.box hD.box (by decide) e.symm
    · exact M.map_arr hD.box e.symm
  · rintro k e (rfl | rfl)
    · exact Dk.own_off M.box hD.rows.own (by decide) k e rfl
    · exact M.map_row hD.rows.own e
  · rintro k ⟨_, e1, e2⟩ (e | e)
    · exact e1 e
    · exact e2 e

theorem Dk.Mine.past {x y : World} {base base2 p b q n m : Nat} {v : Value} {B : Nat → Prop} {s s2 : Dk.St} (M : Dk.Mine x base p b m s2) (H : Dk.Refd x base2 q v n B s) (ht : Turn (fun k => k = q ∨ v.ownBlock = some k) x y) : Dk.Mine y base p b m s2 := by
  obtain ⟨Vs, ps, hD, _⟩ := H
  refine M.turn ht ?_ ?_
  · rintro (e | e)
    · exact Dk.arr_ne M.box hD.box (by decide) e
    · exact Dk.own_off M.box hD.rows.own (by decide) p e rfl
  · rintro (e | e)
    · exact M.map_arr hD.box e
    · exact M.map_row hD.rows.own e

/-- Both of one state. -/
def Dk.Pair (w x : World) (base base2 p b q : Nat) (v : Value) (n i : Nat) (s : Dk.St) : Prop :=
  Dk.Mine x base p b n s ∧ Dk.Refd x base2 q v n (fun k => k < x.heap.size) s ∧ s.done ≤ i ∧ s.left ≤ 9223372036854775807 ∧ Turn (fun _ => False) w x

/-- They lie in what is new since w. -/
def Dk.Highs (w : World) (p b q : Nat) (v : Value) : Prop := w.heap.size ≤ p ∧ w.heap.size ≤ b ∧ w.heap.size ≤ q ∧ ∀ k, v.ownBlock = some k → w.heap.size ≤ k

theorem Dk.still2 {w x y : World} {p b q : Nat} {v : Value} (h : Turn (fun _ => False) w x) (ht : Turn (fun k => k = q ∨ v.ownBlock = some k) x y) (hh : Dk.Highs w p b q v) : Turn (fun _ => False) w y :=
  h.trans ht (fun i hi e => by
    rcases e with rfl | e
    · have := hh.2.2.1; omega
    · have := hh.2.2.2 i e; omega)

theorem Dk.still1 {w x y : World} {p b q : Nat} {v : Value} (h : Turn (fun _ => False) w x) (ht : Turn (fun k => k = p ∨ k = b) x y) (hh : Dk.Highs w p b q v) : Turn (fun _ => False) w y := Dk.still h ht hh.1 hh.2.1

theorem Dk.Pair.on {w x y : World} {base base2 p b q : Nat} {v : Value} {n i : Nat} {s : Dk.St} (H : Dk.Pair w x base base2 p b q v n i s) (hg : x.grownBy y none) : Dk.Pair w y base base2 p b q v n i s :=
  ⟨H.1.on hg, (H.2.1.on hg).mono (fun _ e => Nat.lt_of_lt_of_le e hg.size), H.2.2.1, H.2.2.2.1, H.2.2.2.2.then hg⟩

theorem Dk.Pair.more {w x : World} {base base2 p b q : Nat} {v : Value} {n i j : Nat} {s : Dk.St} (H : Dk.Pair w x base base2 p b q v n i s) (h : i ≤ j) : Dk.Pair w x base base2 p b q v n j s :=
  ⟨H.1, H.2.1, Nat.le_trans H.2.2.1 h, H.2.2.2.1, H.2.2.2.2⟩

/-- A row of bytes of the call's own that is none of theirs is written into. -/
theorem Dk.Pair.fill {x : World} {base base2 base3 p b q : Nat} {v : Value} {n : Nat} {s : Dk.St} {G m c : Nat} {ys : List Value} (M : Dk.Mine x base p b n s) (R : Dk.Refd x base2 q v n (fun k => k ≠ G) s) (ho : x.ownsRow base3 5 1 (.slice (some ⟨G, 0, none⟩) m c) m ys) (j : Nat) (u : Value) : Dk.Mine (x.setCell ⟨G, j, none⟩ u) base p b n s ∧ Dk.Refd (x.setCell ⟨G, j, none⟩ u) base2 q v n (fun k => k ≠ G) s := by
  have ht : Turn (fun k => k = G) x (x.setCell ⟨G, j, none⟩ u) := (Turn.refl (fun k => k = G) x).store G j u rfl
  have hR := R
  obtain ⟨Vs, ps, hD, _⟩ := hR
  refine ⟨M.turn ht (fun e => Dk.own_off M.box ho (by decide) G rfl e.symm) (fun e => M.map_row ho (by rw [e]; rfl)), R.turn ht (fun e => Dk.own_off hD.box ho (by decide) G rfl e.symm) (fun k e q => ?_) (fun k e => e)⟩
  subst q
  exact Ck.apart hD.rows.own ho (by decide) k e rfl

end Go.Proofs.Ytnpdmfhknbfmhaa
