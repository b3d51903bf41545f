/-
  The document's Make, said again: what its walk holds on to, and the code from one piece on.
-/
import Derived.Test.YthofgjphoahkfaaGenPick
import Derived.Test.YthofgjphoahkfaaGenFacts
namespace Go.Proofs.Ythofgjphoahkfaa
open Go.RowKit

/-- The code behind the first n pieces. -/
def cdrop : Nat → Code → Code
  | 0, c => c
  | n + 1, .seq _ b => cdrop n b
  | _ + 1, c => c

namespace Gn

def mark (U : Nat → Bool) (k i : Nat) : Bool := if i = k then true else U i

theorem filter_erase : ∀ (l : List Nat) (n : Nat) (h : n < l.length), l.Nodup → l.filter (fun i => decide (i ≠ l[n])) = l.eraseIdx n
  | x :: l, 0, _, hn => by
    have hx : x ∉ l := (List.nodup_cons.1 hn).1
    show (x :: l).filter (fun i => decide (i ≠ x)) = l
    rw [List.filter_cons_of_neg (by simp)]
    refine List.filter_eq_self.2 fun a ha => ?_
    simp only [decide_eq_true_eq]
    rintro rfl
    exact hx ha
  | x :: l, n + 1, h, hn => by
    have hx := List.nodup_cons.1 hn
    have hl : n < l.length := by simpa using h
    show (x :: l).filter (fun i => decide (i ≠ l[n])) = x :: l.eraseIdx n
    rw [List.filter_cons_of_pos, filter_erase l n hl hx.2]
    simp only [decide_eq_true_eq]
    intro e
    exact hx.1 (e ▸ List.getElem_mem hl)

theorem those_nodup (p : Nat → Bool) (n : Nat) : (those p n).Nodup := List.Pairwise.filter _ List.nodup_range

theorem free_mark (c F : Nat → Int) (far : Int) (U : Nat → Bool) (n : Nat) (hn : n < (those (free c F far U) 384).length) :
    those (free c F far (mark U ((those (free c F far U) 384)[n]?.getD 0))) 384 = (those (free c F far U) 384).eraseIdx n := by
  rw [← filter_erase _ n hn (those_nodup _ _), List.getElem?_eq_getElem hn, Option.getD_some]
  generalize (those (free c F far U) 384)[n] = x
  unfold those
  rw [List.filter_filter]
  congr 1
  funext i
  unfold free mark
  by_cases e : i = x
  · subst e; simp
  · simp [e]

theorem free_start4 (c F : Nat → Int) : those (free c F 4 (fun _ => false)) 384 = (those (fun i => c i == 1) 384).filter (afar F) := by
  unfold those
  rw [List.filter_filter]
  congr 1
  funext i
  unfold free afar
  have h : decide (4 ≤ F i) = !decide (F i < 4) := by
    by_cases h : F i < 4
    · rw [decide_eq_true h, decide_eq_false (by omega)]; rfl
    · rw [decide_eq_false h, decide_eq_true (by omega)]; rfl
  rw [h]
  cases (c i == 1) <;> simp

theorem free_start0 {c F : Nat → Int} (h : ∀ i, i < 384 → c i = 1 → 0 ≤ F i) : those (free c F 0 (fun _ => false)) 384 = those (fun i => c i == 1) 384 := by
  unfold those
  refine List.filter_congr fun i hi => ?_
  have hi' := List.mem_range.1 hi
  unfold free
  by_cases e : c i = 1
  · rw [decide_eq_true (h i hi' e), e]; rfl
  · rw [show (c i == 1) = false by simpa using e]; rfl

theorem those_lt {p : Nat → Bool} {m n : Nat} (hn : n < (those p m).length) : (those p m)[n]?.getD 0 < m := by
  rw [List.getElem?_eq_getElem hn]
  exact List.mem_range.1 (List.mem_filter.1 (List.getElem_mem hn)).1

theorem picked_none {d : Dice} {a : Int} {l : List Nat} (h : l.length = 0) : picked d a l = -1 := if_pos h

theorem picked_some {d : Dice} {a : Int} {l : List Nat} {n : Nat} (h : l.length ≠ 0) (hn : d a 0 (l.length : Int) = (n : Int)) : picked d a l = ((l[n]?.getD 0 : Nat) : Int) := by
  unfold picked
  rw [if_neg h, hn, Int.toNat_natCast]

theorem lie_nil {d : Dice} {l : List Nat} (h : l.length = 0) (m k : Nat) : lie d m k l = [] := by
  cases m with
  | zero => rfl
  | succ m => unfold lie; rw [if_pos h]

theorem mons_nil {d : Dice} {f : Int} {l : List Nat} (h : l.length = 0) (m k : Nat) : mons d f m k l = [] := by
  cases m with
  | zero => rfl
  | succ m => unfold mons; rw [if_pos h]

end Gn

theorem Arr.mark {w : World} {g n : Nat} {T : TypeId} {U : Nat → Bool} (h : Arr w g T n (Bols U)) (i : Nat) : Arr (w.setCell ⟨g, i, none⟩ (.bool true)) g T n (Bols (Gn.mark U i)) := by
  refine (h.store i (.bool true)).congr fun j _ => ?_
  unfold Bols Gn.mark
  by_cases e : j = i
  · rw [if_pos e, if_pos e]
  · rw [if_neg e, if_neg e]

theorem info_bool : (Try.prog.info? 4).map (fun i => (i.zero, i.size, i.bytes)) = some (some (.bool false), 1, 1) := by kernel_rfl

/-- What the document's Make hands back. -/
def RefDone (w : World) (d : Gn.Dice) (f : Int) (e : Ending) (w' : World) : Prop :=
  ∃ (c F : Nat → Int) (G nE nI cE cI : Nat) (aE aI : Option Addr), Gn.IsLevel d c F ∧ e = .returned (.agg #[.slice (some ⟨G, 0, none⟩) 384 384, .slice aE nE cE, .slice aI nI cI]) ∧ w.heap.size ≤ G ∧ Arr w' G 5 384 (Byts c) ∧
    nE = (Gn.ents d f c F).length ∧ nI = (Gn.items d c).length ∧ w'.ownsRow w.heap.size 44 11 (.slice aE nE cE) nE (Gn.flat (Gn.ents d f c F)) ∧ w'.ownsRow w.heap.size 54 4 (.slice aI nI cI) nI (Gn.flatI (Gn.items d c)) ∧ w.grownBy w' none

structure RefBase (w : World) (B G gF L : Nat) (c F : Nat → Int) (vE : Value) (nE : Nat) (xs : List Value) (vI : Value) (wr : World) : Prop where
  cells : Arr wr G 5 384 (Byts c)
  fld : Arr wr gF 3 384 (Ints F)
  res : Arr wr B 28 3 (fun _ => .slice none 0 0)
  box : Arr wr L 28 3 (fun j => if j = 0 then .slice (some ⟨G, 0, none⟩) 384 384 else if j = 1 then vE else vI)
  ents : wr.ownsRow (L + 1) 44 11 vE nE xs
  grown : w.grownBy wr none
  o0 : w.heap.size ≤ B
  o1 : B < G
  o2 : G < gF
  o3 : gF < L

theorem RefBase.own {w : World} {B G gF L : Nat} {c F : Nat → Int} {vE : Value} {nE : Nat} {xs : List Value} {vI : Value} {wr wx : World} {r : Option Nat} (h : RefBase w B G gF L c F vE nE xs vI wr) (hg : wr.grownBy wx r) (hr : ∀ n, r = some n → L < n ∧ vE.ownBlock ≠ some n) : RefBase w B G gF L c F vE nE xs vI wx := by
  have h0 := h.o0
  have h1 := h.o1
  have h2 := h.o2
  have h3 := h.o3
  refine ⟨h.cells.grown hg (fun e => ?_), h.fld.grown hg (fun e => ?_), h.res.grown hg (fun e => ?_), h.box.grown hg (fun e => ?_), h.ents.kept hg ?_, grown_own h.grown hg (fun n e => ?_), h0, h1, h2, h3⟩
  · have := (hr _ e).1; omega
  · have := (hr _ e).1; omega
  · have := (hr _ e).1; omega
  · have := (hr _ e).1; omega
  · cases hv : vE.ownBlock with
    | none => exact .inl rfl
    | some n => exact .inr fun e => (hr n e.symm).2 hv
  · have := (hr _ e).1; omega

theorem RefBase.on {w : World} {B G gF L : Nat} {c F : Nat → Int} {vE : Value} {nE : Nat} {xs : List Value} {vI : Value} {wr wx : World} (h : RefBase w B G gF L c F vE nE xs vI wr) (hg : wr.grownBy wx none) : RefBase w B G gF L c F vE nE xs vI wx :=
  h.own hg (fun n e => by cases e)

theorem RefBase.setI {w : World} {B G gF L : Nat} {c F : Nat → Int} {vE : Value} {nE : Nat} {xs : List Value} {vI : Value} {wr : World} (h : RefBase w B G gF L c F vE nE xs vI wr) (vN : Value) : RefBase w B G gF L c F vE nE xs vN (wr.setCell ⟨L, 2, none⟩ vN) := by
  have h0 := h.o0
  have h1 := h.o1
  have h2 := h.o2
  have h3 := h.o3
  have hg := grown_put wr L 2 vN
  refine ⟨h.cells.grown hg (by simp; omega), h.fld.grown hg (by simp; omega), h.res.grown hg (by simp; omega), (h.box.store 2 vN).congr fun j hj => ?_, h.ents.kept hg ?_, grown_own h.grown hg (fun n e => by cases e; omega), h0, h1, h2, h3⟩
  · rcases (show j = 0 ∨ j = 1 ∨ j = 2 by omega) with rfl | rfl | rfl <;> rfl
  · cases hv : vE.ownBlock with
    | none => exact .inl rfl
    | some n => exact .inr fun e => by have := (h.ents.lt n hv).1; cases e; omega

theorem RefBase.setE {w : World} {B G gF L : Nat} {c F : Nat → Int} {vE : Value} {nE : Nat} {xs : List Value} {vI : Value} {wr wx : World} (h : RefBase w B G gF L c F vE nE xs vI wr) (hg : wr.grownBy wx vE.ownBlock) {vN : Value} {n' : Nat} {xs' : List Value} (hN : wx.ownsRow (L + 1) 44 11 vN n' xs') : RefBase w B G gF L c F vN n' xs' vI (wx.setCell ⟨L, 1, none⟩ vN) := by
  have h0 := h.o0
  have h1 := h.o1
  have h2 := h.o2
  have h3 := h.o3
  have hp := grown_put wx L 1 vN
  have hL : ∀ n, vE.ownBlock = some n → L < n := fun n e => (h.ents.lt n e).1
  refine ⟨(h.cells.grown hg (fun e => ?_)).grown hp (by simp; omega), (h.fld.grown hg (fun e => ?_)).grown hp (by simp; omega), (h.res.grown hg (fun e => ?_)).grown hp (by simp; omega), ((h.box.grown hg (fun e => ?_)).store 1 vN).congr fun j hj => ?_, hN.kept hp ?_, grown_own (grown_own h.grown hg (fun n e => ?_)) hp (fun n e => by cases e; omega), h0, h1, h2, h3⟩
  · have := hL _ e; omega
  · have := hL _ e; omega
  · have := hL _ e; omega
  · have := hL _ e; omega
  · rcases (show j = 0 ∨ j = 1 ∨ j = 2 by omega) with rfl | rfl | rfl <;> rfl
  · cases hv : vN.ownBlock with
    | none => exact .inl rfl
    | some n => exact .inr fun e => by have := (hN.lt n hv).1; cases e; omega
  · have := hL _ e; omega

structure RefItm (w : World) (B G gF L U bI : Nat) (c F : Nat → Int) (vE : Value) (nE : Nat) (xs : List Value) (vI : Value) (M : Nat → Bool) (acc : List Gn.Itm) (wr : World) : Prop where
  base : RefBase w B G gF L c F vE nE xs vI wr
  used : Arr wr U 4 384 (Bols M)
  items : wr.ownsRow bI 54 4 vI acc.length (Gn.flatI acc)
  sep : ∀ n, vE.ownBlock = some n → n < U
  o4 : L < U
  o5 : U < bI
  o6 : bI ≤ wr.heap.size

theorem RefItm.on {w : World} {B G gF L U bI : Nat} {c F : Nat → Int} {vE : Value} {nE : Nat} {xs : List Value} {vI : Value} {M : Nat → Bool} {acc : List Gn.Itm} {wr wx : World} (h : RefItm w B G gF L U bI c F vE nE xs vI M acc wr) (hg : wr.grownBy wx none) : RefItm w B G gF L U bI c F vE nE xs vI M acc wx :=
  ⟨h.base.on hg, h.used.grown hg (by simp), h.items.kept hg (by cases vI.ownBlock <;> simp), h.sep, h.o4, h.o5, Nat.le_trans h.o6 hg.size⟩

theorem RefItm.mark {w : World} {B G gF L U bI : Nat} {c F : Nat → Int} {vE : Value} {nE : Nat} {xs : List Value} {vI : Value} {M : Nat → Bool} {acc : List Gn.Itm} {wr : World} (h : RefItm w B G gF L U bI c F vE nE xs vI M acc wr) (k : Nat) : RefItm w B G gF L U bI c F vE nE xs vI (Gn.mark M k) acc (wr.setCell ⟨U, k, none⟩ (.bool true)) := by
  have hg := grown_put wr U k (.bool true)
  have h5 := h.o5
  refine ⟨h.base.own hg (fun n e => ?_), h.used.mark k, h.items.kept hg ?_, h.sep, h.o4, h.o5, Nat.le_trans h.o6 hg.size⟩
  · cases e
    exact ⟨h.o4, fun e => by have := h.sep _ e; omega⟩
  · cases hv : vI.ownBlock with
    | none => exact .inl rfl
    | some n => exact .inr fun e => by have := (h.items.lt n hv).1; cases e; omega

theorem RefItm.add {w : World} {B G gF L U bI : Nat} {c F : Nat → Int} {vE : Value} {nE : Nat} {xs : List Value} {vI vN : Value} {M : Nat → Bool} {acc : List Gn.Itm} {p : Gn.Itm} {wr wx : World} (h : RefItm w B G gF L U bI c F vE nE xs vI M acc wr) (hN : wx.ownsRow bI 54 4 vN (acc.length + 1) (Gn.flatI acc ++ Gn.itemCells p)) (hg : wr.grownBy wx vI.ownBlock) :
    RefItm w B G gF L U bI c F vE nE xs vN M (acc ++ [p]) (wx.setCell ⟨L, 2, none⟩ vN) := by
  have h4 := h.o4
  have h5 := h.o5
  have hp := grown_put wx L 2 vN
  have hb : RefBase w B G gF L c F vE nE xs vI wx := h.base.own hg (fun n e => by
    have := (h.items.lt n e).1
    refine ⟨by omega, fun e' => ?_⟩
    have := h.sep n e'
    omega)
  refine ⟨hb.setI vN, (h.used.grown hg (fun e => ?_)).grown hp (by simp; omega), ?_, h.sep, h.o4, h.o5, Nat.le_trans h.o6 (Nat.le_trans hg.size hp.size)⟩
  · have := (h.items.lt _ e).1; omega
  · rw [Gn.flatI_more, List.length_append]
    refine hN.kept hp ?_
    cases hv : vN.ownBlock with
    | none => exact .inl rfl
    | some n => exact .inr fun e => by have := (hN.lt n hv).1; cases e; omega

structure RefMon (w : World) (B G gF L U bE : Nat) (c F : Nat → Int) (vE : Value) (M : Nat → Bool) (acc : List (Int × Nat)) (wr : World) : Prop where
  base : RefBase w B G gF L c F vE acc.length (Gn.flat acc) (.slice none 0 0) wr
  used : Arr wr U 4 384 (Bols M)
  ents : wr.ownsRow bE 44 11 vE acc.length (Gn.flat acc)
  o4 : L < U
  o5 : U < bE
  o6 : bE ≤ wr.heap.size

theorem RefMon.own {w : World} {B G gF L U bE : Nat} {c F : Nat → Int} {vE : Value} {M : Nat → Bool} {acc : List (Int × Nat)} {wr wx : World} {r : Option Nat} (h : RefMon w B G gF L U bE c F vE M acc wr) (hg : wr.grownBy wx r) (hr : ∀ n, r = some n → U < n ∧ vE.ownBlock ≠ some n) : RefMon w B G gF L U bE c F vE M acc wx := by
  have h4 := h.o4
  refine ⟨h.base.own hg (fun n e => ⟨by have := (hr n e).1; omega, (hr n e).2⟩), h.used.grown hg (fun e => ?_), h.ents.kept hg ?_, h.o4, h.o5, Nat.le_trans h.o6 hg.size⟩
  · have := (hr _ e).1; omega
  · cases hv : vE.ownBlock with
    | none => exact .inl rfl
    | some n => exact .inr fun e => (hr n e.symm).2 hv

theorem RefMon.on {w : World} {B G gF L U bE : Nat} {c F : Nat → Int} {vE : Value} {M : Nat → Bool} {acc : List (Int × Nat)} {wr wx : World} (h : RefMon w B G gF L U bE c F vE M acc wr) (hg : wr.grownBy wx none) : RefMon w B G gF L U bE c F vE M acc wx :=
  h.own hg (fun n e => by cases e)

theorem RefMon.mark {w : World} {B G gF L U bE : Nat} {c F : Nat → Int} {vE : Value} {M : Nat → Bool} {acc : List (Int × Nat)} {wr : World} (h : RefMon w B G gF L U bE c F vE M acc wr) (k : Nat) : RefMon w B G gF L U bE c F vE (Gn.mark M k) acc (wr.setCell ⟨U, k, none⟩ (.bool true)) := by
  have hg := grown_put wr U k (.bool true)
  have h5 := h.o5
  have hE : ∀ n, vE.ownBlock = some n → U < n := fun n e => by have := (h.ents.lt n e).1; omega
  refine ⟨h.base.own hg (fun n e => ?_), h.used.mark k, h.ents.kept hg ?_, h.o4, h.o5, Nat.le_trans h.o6 hg.size⟩
  · cases e
    exact ⟨h.o4, fun e => by have := hE _ e; omega⟩
  · cases hv : vE.ownBlock with
    | none => exact .inl rfl
    | some n => exact .inr fun e => by have := hE n hv; cases e; omega

theorem RefMon.add {w : World} {B G gF L U bE : Nat} {c F : Nat → Int} {vE vN : Value} {M : Nat → Bool} {acc : List (Int × Nat)} {p : Int × Nat} {wr wx : World} (h : RefMon w B G gF L U bE c F vE M acc wr) (hN : wx.ownsRow bE 44 11 vN (acc.length + 1) (Gn.flat acc ++ Gn.entCells p)) (hg : wr.grownBy wx vE.ownBlock) :
    RefMon w B G gF L U bE c F vN M (acc ++ [p]) (wx.setCell ⟨L, 1, none⟩ vN) := by
  have h4 := h.o4
  have h5 := h.o5
  have hp := grown_put wx L 1 vN
  have hN' : wx.ownsRow bE 44 11 vN (acc ++ [p]).length (Gn.flat (acc ++ [p])) := by
    rw [Gn.flat_more, List.length_append]
    exact hN
  refine ⟨h.base.setE hg (owns_mono hN' (by omega)), (h.used.grown hg (fun e => ?_)).grown hp (by simp; omega), hN'.kept hp ?_, h.o4, h.o5, Nat.le_trans h.o6 (Nat.le_trans hg.size hp.size)⟩
  · have := (h.ents.lt _ e).1; omega
  · cases hv : vN.ownBlock with
    | none => exact .inl rfl
    | some n => exact .inr fun e => by have := (hN.lt n hv).1; cases e; omega

end Go.Proofs.Ythofgjphoahkfaa
