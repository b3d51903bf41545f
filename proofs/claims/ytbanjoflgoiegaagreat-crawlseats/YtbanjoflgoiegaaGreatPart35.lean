/-
  EntRefGo MindsWide GenFld GenStock Till
-/
import Derived.Test.YtbanjoflgoiegaaGreatPart27
import Derived.Deep.Cut
import Derived.Test.YtbanjoflgoiegaaGreatPart33
import Derived.Test.YtbanjoflgoiegaaGreatPart18
import Derived.Test.YtbanjoflgoiegaaGreatProg
import Derived.Deep.RegionHeld3
namespace Go.Proofs.YtbanjoflgoiegaaGreat
open Go.RowKit

end Go.Proofs.YtbanjoflgoiegaaGreat

namespace Go.Proofs.YtbanjoflgoiegaaGreat
open Go.RowKit

def Md.Wide (e : Ending) : Prop := ∃ (s : Nat → Int) (gC gE gI cC cE cI : Nat) (g : Nat → Int), 384 ≤ cC ∧ e = .returned (.agg (Gd.world s gC gE gI cC cE cI g))

theorem Md.Wide.cap {s : Nat → Int} {gC gE gI cC cE cI : Nat} {g : Nat → Int} (h : Md.Wide (.returned (.agg (Gd.world s gC gE gI cC cE cI g)))) : 384 ≤ cC := by
  obtain ⟨s', gC', gE', gI', cC', cE', cI', g', hc, he⟩ := h
  simp [Gd.world] at he
  omega

end Go.Proofs.YtbanjoflgoiegaaGreat

namespace Go.Proofs.YtbanjoflgoiegaaGreat
open Go.RowKit

end Go.Proofs.YtbanjoflgoiegaaGreat

namespace Go.Proofs.YtbanjoflgoiegaaGreat
open Go.RowKit

namespace Gn

theorem nodup_inj {l : List Nat} (h : l.Nodup) {i j : Nat} (hi : i < l.length) (hj : j < l.length) (e : l[i] = l[j]) : i = j := by
  rcases Nat.lt_trichotomy i j with g | g | g
  · exact absurd e (List.pairwise_iff_getElem.1 h i j hi hj g)
  · exact g
  · exact absurd e.symm (List.pairwise_iff_getElem.1 h j i hj hi g)

theorem erase_mem {l : List Nat} {n x : Nat} (hl : l.Nodup) (hn : n < l.length) (h : x ∈ l.eraseIdx n) : x ≠ l[n]?.getD 0 := by
  intro e
  rw [List.getElem?_eq_getElem hn] at e
  obtain ⟨i, hi, hx⟩ := List.getElem_of_mem h
  have hle : (l.eraseIdx n).length = l.length - 1 := by rw [List.length_eraseIdx, if_pos hn]
  rw [List.getElem_eraseIdx] at hx
  rw [e] at hx
  simp only [Option.getD_some] at hx
  split at hx
  · have := nodup_inj hl _ _ hx
    omega
  · have := nodup_inj hl _ _ hx
    omega

theorem pick_lt {d : Dice} (hd : Fair d) (a : Int) {l : List Nat} (hl : l.length ≠ 0) : (d a 0 (l.length : Int)).toNat < l.length := by
  have := hd a 0 (l.length : Int) (by omega)
  omega

theorem pick_mem {l : List Nat} {n : Nat} (hn : n < l.length) : l[n]?.getD 0 ∈ l := by
  rw [List.getElem?_eq_getElem hn]
  exact List.getElem_mem hn

theorem mons_all {d : Dice} (hd : Fair d) (f : Int) (h1 : 1 ≤ f) : ∀ (m k : Nat) (l : List Nat) (p : Int × Nat), p ∈ mons d f m k l → p.2 ∈ l ∧ 2 ≤ p.1 ∧ p.1 ≤ 4
  | 0, _, _, _, h => by cases h
  | m + 1, k, l, p, h => by
    unfold mons at h
    split at h
    · cases h
    · rename_i hl
      have hn := pick_lt hd (7 + (k : Int)) hl
      rcases List.mem_cons.1 h with rfl | h
      · refine ⟨pick_mem hn, ?_⟩
        have hM : 1 ≤ (if 3 < f + 1 then (3 : Int) else f + 1) ∧ (if 3 < f + 1 then (3 : Int) else f + 1) ≤ 3 := by split <;> omega
        have := hd (16 + (k : Int)) 1 (if 3 < f + 1 then 3 else f + 1) hM.1
        show 2 ≤ kind d f k ∧ kind d f k ≤ 4
        unfold kind
        omega
      · have ih := mons_all hd f h1 m (k + 1) _ p h
        exact ⟨List.mem_of_mem_eraseIdx ih.1, ih.2⟩

theorem mons_apart {d : Dice} (hd : Fair d) (f : Int) (h1 : 1 ≤ f) : ∀ (m k : Nat) (l : List Nat), l.Nodup → (mons d f m k l).Pairwise (fun p q => p.2 ≠ q.2)
  | 0, _, _, _ => List.Pairwise.nil
  | m + 1, k, l, hl => by
    unfold mons
    split
    · exact List.Pairwise.nil
    · rename_i h0
      have hn := pick_lt hd (7 + (k : Int)) h0
      refine List.Pairwise.cons (fun q hq => ?_) (mons_apart hd f h1 m (k + 1) _ (hl.sublist (List.eraseIdx_sublist l _)))
      have := (mons_all hd f h1 m (k + 1) _ q hq).1
      exact (erase_mem hl hn this).symm

theorem those_nodup (p : Nat → Bool) (n : Nat) : (those p n).Nodup := List.Nodup.sublist List.filter_sublist List.nodup_range

theorem those_mem {p : Nat → Bool} {n i : Nat} (h : i ∈ those p n) : i < n ∧ p i = true := by
  have := List.mem_filter.1 h
  exact ⟨List.mem_range.1 this.1, this.2⟩

theorem ents_at {d : Dice} (hd : Fair d) {f : Int} (h1 : 1 ≤ f) {c F : Nat → Int} {i : Nat} {p : Int × Nat} (h : (ents d f c F)[i]? = some p) : 2 ≤ p.1 ∧ p.1 ≤ 4 ∧ p.2 < 384 ∧ c p.2 = 1 ∧ 4 ≤ F p.2 := by
  have hm := List.mem_of_getElem? h
  obtain ⟨h2, h3, h4⟩ := mons_all hd f h1 _ _ _ p hm
  obtain ⟨h5, h6⟩ := List.mem_filter.1 h2
  obtain ⟨h7, h8⟩ := those_mem h5
  refine ⟨h3, h4, h7, by simpa using h8, ?_⟩
  unfold afar at h6
  simp at h6
  exact h6

theorem pair_at {α : Type} {R : α → α → Prop} {l : List α} (h : l.Pairwise R) {i j : Nat} {p q : α} (hij : i < j) (hp : l[i]? = some p) (hq : l[j]? = some q) : R p q := by
  obtain ⟨h1, rfl⟩ := List.getElem?_eq_some_iff.1 hp
  obtain ⟨h2, rfl⟩ := List.getElem?_eq_some_iff.1 hq
  exact List.pairwise_iff_getElem.1 h i j h1 h2 hij

theorem lie_all {d : Dice} (hd : Fair d) : ∀ (m k : Nat) (l : List Nat) (p : Itm), p ∈ lie d m k l → ∃ (K : Int) (cl : Nat), p = (K, 1, (cl : Int) % 24, (cl : Int) / 24) ∧ cl ∈ l ∧ 1 ≤ K ∧ K ≤ 4
  | 0, _, _, _, h => by cases h
  | m + 1, k, l, p, h => by
    unfold lie at h
    split at h
    · cases h
    · rename_i hl
      have hn := pick_lt hd (40 + (k : Int)) hl
      rcases List.mem_cons.1 h with rfl | h
      · have := hd (40 + (k : Int)) 1 4 (by omega)
        exact ⟨_, _, rfl, pick_mem hn, by omega, by omega⟩
      · obtain ⟨K, cl, he, hc, hk⟩ := lie_all hd m (k + 1) _ p h
        exact ⟨K, cl, he, List.mem_of_mem_eraseIdx hc, hk⟩

theorem lie_apart {d : Dice} (hd : Fair d) : ∀ (m k : Nat) (l : List Nat), l.Nodup → (lie d m k l).Pairwise (fun p q => ¬ (p.2.2.1 = q.2.2.1 ∧ p.2.2.2 = q.2.2.2))
  | 0, _, _, _ => List.Pairwise.nil
  | m + 1, k, l, hl => by
    unfold lie
    split
    · exact List.Pairwise.nil
    · rename_i h0
      have hn := pick_lt hd (40 + (k : Int)) h0
      refine List.Pairwise.cons (fun q hq => ?_) (lie_apart hd m (k + 1) _ (hl.sublist (List.eraseIdx_sublist l _)))
      obtain ⟨K, cl, rfl, hc, _⟩ := lie_all hd m (k + 1) _ q hq
      have := erase_mem hl hn hc
      rintro ⟨e1, e2⟩
      simp only at e1 e2
      omega

def lying (d : Dice) (c : Nat → Int) : Nat := (lie d 4 0 (those (fun i => c i == 1) 384)).length

theorem items_lie {d : Dice} (hd : Fair d) {c : Nat → Int} {i : Nat} {p : Itm} (hi : i < lying d c) (h : (items d c)[i]? = some p) : ∃ (K : Int) (cl : Nat), p = (K, 1, (cl : Int) % 24, (cl : Int) / 24) ∧ cl < 384 ∧ c cl = 1 ∧ 1 ≤ K ∧ K ≤ 4 := by
  unfold items at h
  rw [List.getElem?_append_left hi] at h
  obtain ⟨K, cl, he, hc, hk⟩ := lie_all hd _ _ _ p (List.mem_of_getElem? h)
  obtain ⟨h7, h8⟩ := those_mem hc
  exact ⟨K, cl, he, h7, by simpa using h8, hk⟩

theorem items_apart {d : Dice} (hd : Fair d) {c : Nat → Int} {i j : Nat} {p q : Itm} (hij : i < j) (hj : j < lying d c) (hp : (items d c)[i]? = some p) (hq : (items d c)[j]? = some q) : ¬ (p.2.2.1 = q.2.2.1 ∧ p.2.2.2 = q.2.2.2) := by
  unfold items at hp hq
  rw [List.getElem?_append_left (by unfold lying at hj; omega)] at hp
  rw [List.getElem?_append_left hj] at hq
  exact pair_at (lie_apart hd 4 0 _ (those_nodup _ _)) hij hp hq

theorem items_len (d : Dice) (c : Nat → Int) : (items d c).length = lying d c + (if Gr.find 384 c 5 < 0 then 0 else 3) ∧ lying d c ≤ 4 := by
  unfold items lying
  rw [List.length_append]
  refine ⟨?_, lie_len d 4 0 _⟩
  split <;> rfl

theorem flat_at (es : List (Int × Nat)) : ∀ (i j : Nat) (p : Int × Nat), es[i]? = some p → j < 11 → (flat es)[i * 11 + j]? = (entCells p)[j]? := by
  induction es with
  | nil => intro i j p h; simp at h
  | cons q es ih =>
    intro i j p h hj
    have hf : flat (q :: es) = entCells q ++ flat es := rfl
    have hq : (entCells q).length = 11 := rfl
    rw [hf]
    cases i with
    | zero =>
      simp only [List.getElem?_cons_zero, Option.some.injEq] at h
      rw [List.getElem?_append_left (by omega), h]
      congr 1
      omega
    | succ i =>
      rw [List.getElem?_cons_succ] at h
      rw [List.getElem?_append_right (by omega), hq, show (i + 1) * 11 + j - 11 = i * 11 + j by omega]
      exact ih i j p h hj

theorem flatI_at (es : List Itm) : ∀ (i j : Nat) (p : Itm), es[i]? = some p → j < 4 → (flatI es)[i * 4 + j]? = (itemCells p)[j]? := by
  induction es with
  | nil => intro i j p h; simp at h
  | cons q es ih =>
    intro i j p h hj
    have hf : flatI (q :: es) = itemCells q ++ flatI es := rfl
    have hq : (itemCells q).length = 4 := rfl
    rw [hf]
    cases i with
    | zero =>
      simp only [List.getElem?_cons_zero, Option.some.injEq] at h
      rw [List.getElem?_append_left (by omega), h]
      congr 1
      omega
    | succ i =>
      rw [List.getElem?_cons_succ] at h
      rw [List.getElem?_append_right (by omega), hq, show (i + 1) * 4 + j - 4 = i * 4 + j by omega]
      exact ih i j p h hj

end Gn

theorem ents_cells {w : World} {b nE cE : Nat} {aE : Option Addr} {es : List (Int × Nat)} (h : w.ownsRow b 54 11 (.slice aE nE cE) nE (Gn.flat es)) {i : Nat} {p : Int × Nat} (hp : es[i]? = some p) (hi : i < nE) :
    ∃ g, aE = some ⟨g, 0, none⟩ ∧ g < w.heap.size ∧ ∀ j, j < 11 → w.cell? ⟨g, i * 11 + j, none⟩ = (Gn.entCells p)[j]? := by
  rcases h.2 with ⟨h', h0⟩ | ⟨g, cap, cur, h', _, hg, _⟩
  · omega
  · simp only [Value.slice.injEq] at h'
    obtain ⟨rfl, _, rfl⟩ := h'
    refine ⟨g, rfl, lt_of_block hg, fun j hj => ?_⟩
    rw [h.cellAt (i * 11 + j) (by omega)]
    exact Gn.flat_at es i j p hp hj

theorem items_cells {w : World} {b nE cE : Nat} {aE : Option Addr} {es : List Gn.Itm} (h : w.ownsRow b 62 4 (.slice aE nE cE) nE (Gn.flatI es)) {i : Nat} {p : Gn.Itm} (hp : es[i]? = some p) (hi : i < nE) :
    ∃ g, aE = some ⟨g, 0, none⟩ ∧ g < w.heap.size ∧ ∀ j, j < 4 → w.cell? ⟨g, i * 4 + j, none⟩ = (Gn.itemCells p)[j]? := by
  rcases h.2 with ⟨h', h0⟩ | ⟨g, cap, cur, h', _, hg, _⟩
  · omega
  · simp only [Value.slice.injEq] at h'
    obtain ⟨rfl, _, rfl⟩ := h'
    refine ⟨g, rfl, lt_of_block hg, fun j hj => ?_⟩
    rw [h.cellAt (i * 4 + j) (by omega)]
    exact Gn.flatI_at es i j p hp hj

structure StkHold (w : World) (B G gF nE nI cE cI : Nat) (aE aI : Option Addr) (d : Gn.Dice) (f : Int) (c F : Nat → Int) (wr : World) : Prop where
  lev : LevHold w B G nE nI cE cI aE aI c wr
  fld : Arr wr gF 3 384 (Ints F)
  ents : wr.ownsRow w.heap.size 54 11 (.slice aE nE cE) nE (Gn.flat (Gn.ents d f c F))
  items : wr.ownsRow w.heap.size 62 4 (.slice aI nI cI) nI (Gn.flatI (Gn.items d c))

theorem StkHold.on {w : World} {B G gF nE nI cE cI : Nat} {aE aI : Option Addr} {d : Gn.Dice} {f : Int} {c F : Nat → Int} {wr wx : World} (h : StkHold w B G gF nE nI cE cI aE aI d f c F wr) (hg : wr.grownBy wx none) : StkHold w B G gF nE nI cE cI aE aI d f c F wx :=
  ⟨h.lev.on hg, h.fld.grown hg (by simp), h.ents.kept hg (by cases (Value.slice aE nE cE).ownBlock <;> simp), h.items.kept hg (by cases (Value.slice aI nI cI).ownBlock <;> simp)⟩

end Go.Proofs.YtbanjoflgoiegaaGreat

namespace Go.Proofs.YtbanjoflgoiegaaGreat

def wpTill (P : Program) (md : Region.Mode) (ops : Array Oper) (Q : Exit → Act → World → Prop) (S : World → Prop) (h : Nat) : Nat → Array Bool → Act → World → Prop
  | 0, up, a, w => Region.ready md ops up = [] ∧ Q .normal a w
  | n + 1, up, a, w => (Region.ready md ops up = [] → Q .normal a w) ∧ ∀ i ∈ Region.ready md ops up, wpOp P ops Q i (fun b x => ((up.setIfInBounds i true).getD h true = false → S x) ∧ wpTill P md ops Q S h n (up.setIfInBounds i true) b x) a w

theorem wpAny_of_till {P : Program} {ops : Array Oper} {Q : Exit → Act → World → Prop} {md : Region.Mode} {S : World → Prop} {h : Nat} : ∀ (n : Nat) (up : Array Bool) (a : Act) (w : World), wpTill P md ops Q S h n up a w → wpAny P md ops Q n up a w
  | 0, _, _, _, g => g
  | n + 1, _, _, _, g => ⟨g.1, fun i hi => wpOp_mono (fun b x k => wpAny_of_till n _ b x k.2) (g.2 i hi)⟩

def Region.waits (md : Region.Mode) (ops : Array Oper) (up : Array Bool) (i h : Nat) (ch : List Nat) : Bool :=
  ch.contains h && ch.all fun c => !(up.getD c true) && match ops[c]? with
    | some o => o.after.any fun e => Region.binds md e && (e.on == i || ch.contains e.on)
    | none => false

theorem Region.waits_spec {ops : Array Oper} {md : Region.Mode} {up : Array Bool} {i h : Nat} {ch : List Nat} (hw : Region.waits md ops up i h ch = true) :
    h ∈ ch ∧ (∀ c ∈ ch, up.getD c true = false) ∧ ∀ c ∈ ch, ∀ o, ops[c]? = some o → ∃ e ∈ o.after, Region.binds md e = true ∧ (e.on = i ∨ e.on ∈ ch) := by
  unfold Region.waits at hw
  simp only [Bool.and_eq_true, List.contains_iff_mem, List.all_eq_true, Bool.not_eq_true'] at hw
  refine ⟨hw.1, fun c hc => (hw.2 c hc).1, fun c hc o ho => ?_⟩
  have h2 := (hw.2 c hc).2
  rw [ho] at h2
  obtain ⟨e, he, hb⟩ := Array.any_eq_true'.1 h2
  simp only [Bool.and_eq_true, Bool.or_eq_true, beq_iff_eq, List.contains_iff_mem] at hb
  exact ⟨e, he, hb.1, hb.2⟩

theorem wpTill_first {P : Program} {ops : Array Oper} {Q : Exit → Act → World → Prop} {md : Region.Mode} {S : World → Prop} {i h : Nat} {oi : Oper} {v : Value} {ch : List Nat} (hi : ops[i]? = some oi) (hsel : ∀ (j : Nat) (o : Oper) cs b, ops[j]? = some o → o.op ≠ .select cs b)
    (hQ : ∀ c a w, Q (.panic c) (a.put oi.dst v) w → Q (.panic c) a w) (hh : h ∈ ch)
    (hch : ∀ c ∈ ch, ∀ o, ops[c]? = some o → ∃ e ∈ o.after, Region.binds md e = true ∧ (e.on = i ∨ e.on ∈ ch)) :
    ∀ (n : Nat) (up : Array Bool) (a : Act) (w : World),
      (∀ j oj, ops[j]? = some oj → j ≠ i → up.getD j true = false → (∀ e ∈ oj.after, Region.binds md e = true → e.on ≠ i) → oi.apart ops oj = true) →
      i ∈ Region.ready md ops up → (∀ c ∈ ch, up.getD c true = false) → YieldsIf P ops S oi v a → S w →
      wpTill P md ops Q S h n (up.setIfInBounds i true) (a.put oi.dst v) w → wpTill P md ops Q S h (n + 1) up a w := by
  have key : ∀ (up : Array Bool) (j : Nat), i ∈ Region.ready md ops up → (∀ c ∈ ch, up.getD c true = false) → j ∈ Region.ready md ops up → j ∉ ch := by
    intro up j hr hc hj hm
    obtain ⟨_, oj, hoj, hall⟩ := mem_ready.1 hj
    obtain ⟨e, he, hb, hon⟩ := hch j hm oj hoj
    have h1 := hall e he hb
    have h0 : up.getD e.on true = false := by
      rcases hon with hon | hon
      · rw [hon]; exact (mem_ready.1 hr).1
      · exact hc _ hon
    rcases Nat.lt_or_ge e.on up.size with h' | h'
    · simp [h'] at h0 h1; rw [h0] at h1; cases h1
    · simp [Array.getElem?_eq_none h'] at h1
  intro n
  induction n with
  | zero =>
    intro up a w _ hr hc hy hS H
    refine ⟨fun g => (by rw [g] at hr; cases hr), fun j hj => ?_⟩
    by_cases hji : j = i
    · subst hji; exact hy.wpOp hi hS ⟨fun _ => hS, H⟩
    · have := ready_mono hj hji
      rw [H.1] at this
      cases this
  | succ n ih =>
    intro up a w hfree hr hc hy hS H
    refine ⟨fun g => (by rw [g] at hr; cases hr), fun j hj => ?_⟩
    by_cases hji : j = i
    · subst hji; exact hy.wpOp hi hS ⟨fun _ => hS, H⟩
    · have h1 := H.2 j (ready_mono hj hji)
      have hjc := key up j hr hc hj
      have hic := key up i hr hc hr
      obtain ⟨hjun, oj, hoj, hall⟩ := mem_ready.1 hj
      have hnot : ∀ e ∈ oj.after, Region.binds md e = true → e.on ≠ i := fun e he hb heq => by
        have h1 := hall e he hb
        have h0 := (mem_ready.1 hr).1
        rw [heq] at h1
        rcases Nat.lt_or_ge i up.size with h' | h'
        · simp [h'] at h0 h1; rw [h0] at h1; cases h1
        · simp [Array.getElem?_eq_none h'] at h1
      have h2 := wpOp_putIf hoj (hfree j oj hoj hji hjun hnot) (fun cs b => hsel i oi cs b hi) (fun cs b => hsel j oj cs b hoj) hQ hy h1
      have hc' : ∀ c ∈ ch, (up.setIfInBounds j true).getD c true = false := fun c hm => by
        rw [getD_set_ne true (show j ≠ c from fun e => hjc (e ▸ hm))]
        exact hc c hm
      have hfree' : ∀ k ok, ops[k]? = some ok → k ≠ i → (up.setIfInBounds j true).getD k true = false →
          (∀ e ∈ ok.after, Region.binds md e = true → e.on ≠ i) → oi.apart ops ok = true := fun k ok hk hki hun hno => by
        refine hfree k ok hk hki ?_ hno
        by_cases hjk : j = k
        · subst hjk; exact hjun
        · rw [getD_set_ne true hjk] at hun; exact hun
      refine wpOp_mono (fun b x h3 => ?_) h2
      have hS' : S x := h3.2.1 (by
        rw [getD_set_ne true (show j ≠ h from fun e => hjc (e ▸ hh)), getD_set_ne true (show i ≠ h from fun e => hic (e ▸ hh))]
        exact hc h hh)
      refine ⟨fun _ => hS', ih (up.setIfInBounds j true) b x hfree' (ready_mono hr (Ne.symm hji)) hc' h3.1 hS' ?_⟩
      rw [Array.setIfInBounds_comm _ _ hji]
      exact h3.2.2

theorem wpTill_take {P : Program} {ops : Array Oper} {Q : Exit → Act → World → Prop} {md : Region.Mode} {S : World → Prop} {i h : Nat} {oi : Oper} {v : Value} {n : Nat} {up : Array Bool} {a : Act} {w : World} (ch : List Nat) (hi : ops[i]? = some oi)
    (hs : Region.noSelect ops = true) (hf : Region.free md ops up i = true) (hr : (Region.ready md ops up).contains i = true) (hw : Region.waits md ops up i h ch = true)
    (hQ : ∀ c a w, Q (.panic c) (a.put oi.dst v) w → Q (.panic c) a w) (hS : S w) (hy : YieldsIf P ops S oi v a)
    (H : wpTill P md ops Q S h n (up.setIfInBounds i true) (a.put oi.dst v) w) : wpTill P md ops Q S h (n + 1) up a w := by
  obtain ⟨hh, hc, hch⟩ := Region.waits_spec hw
  exact wpTill_first hi (Region.noSelect_spec hs) hQ hh hch n up a w (Region.free_spec hi hf) (by simpa using hr) hc hy hS H

theorem wpTill_only {P : Program} {ops : Array Oper} {Q : Exit → Act → World → Prop} {md : Region.Mode} {S : World → Prop} {j h : Nat} {o : Oper} {n : Nat} {up : Array Bool} {a : Act} {w : World} (hr : Region.ready md ops up = [j]) (ho : ops[j]? = some o)
    (H : ∀ K : Act → World → Prop, Shut (∀ b x, ((up.setIfInBounds j true).getD h true = false → S x) → wpTill P md ops Q S h n (up.setIfInBounds j true) b x → K b x) → if Region.wanted o (yielded ops a.tmps) = true then Oper.wp P o a w K Q else K (a.put o.dst undef) w) :
    wpTill P md ops Q S h (n + 1) up a w := by
  refine ⟨fun g => (by rw [hr] at g; cases g), fun i hi => ?_⟩
  rw [hr] at hi
  obtain rfl : i = j := by simpa using hi
  exact wpOp_step ho (fun K hK => H K (fun b x h1 h2 => hK b x ⟨h1, h2⟩))

theorem wpTill_done {P : Program} {ops : Array Oper} {Q : Exit → Act → World → Prop} {md : Region.Mode} {S : World → Prop} {h : Nat} {up : Array Bool} {a : Act} {w : World} (hr : Region.ready md ops up = []) (H : Q .normal a w) : ∀ n, wpTill P md ops Q S h n up a w
  | 0 => ⟨hr, H⟩
  | _ + 1 => ⟨fun _ => H, by rw [hr]; simp⟩

theorem wp_region_till {P : Program} {ops : Array Oper} {Q : Exit → Act → World → Prop} {S : World → Prop} {h id : Nat} {a : Act} {w : World} (hm : P.follows .mixedOrders = true)
    (H : wpTill P .any ops Q S h ops.size (Array.replicate ops.size false) a w.drew) : (Code.region id ops true).wp P Q a w :=
  wp_region_any hm (wpAny_of_till _ _ _ _ H)

end Go.Proofs.YtbanjoflgoiegaaGreat
