/-
  GenStock CrawlFloor
-/
import Derived.Test.YtbanjoflgoiegaaGreatPart29
import Derived.Test.YtbanjoflgoiegaaGreatPart26
namespace Go.Proofs.YtbanjoflgoiegaaGreat
open Go.RowKit

namespace Gn

theorem nodup_inj {l : List Nat} (h : l.Nodup) {i j : Nat} (hi : i < l.length) (hj : j < l.length) (e : l[i] = l[j]) : i = j := by
  rcases Nat.lt_trichotomy i j with g | g | g
  · exact absurd e (List.pairwise_iff_getElem.1 h i j hi hj g)
  · exact g
  · exact absurd e.symm (List.pairwise_iff_getElem.1 h j i hj hi g)

theorem erase_mem {l : List Nat} {n x : Nat} (hl : l.Nodup) (hn : n < l.length) (h : x ∈ l.eraseIdx n) : x ≠ l[n]?.getD 0 := by
  intro e
  rw [List.getElem?_eq_getElem hn] at e
  obtain ⟨i, hi, hx⟩ := List.getElem_of_mem h
  have hle : (l.eraseIdx n).length = l.length - 1 := by rw [List.length_eraseIdx, if_pos hn]
  rw [List.getElem_eraseIdx] at hx
  rw [e] at hx
  simp only [Option.getD_some] at hx
  split at hx
  · have := nodup_inj hl _ _ hx
    omega
  · have := nodup_inj hl _ _ hx
    omega

theorem pick_lt {d : Dice} (hd : Fair d) (a : Int) {l : List Nat} (hl : l.length ≠ 0) : (d a 0 (l.length : Int)).toNat < l.length := by
  have := hd a 0 (l.length : Int) (by omega)
  omega

theorem pick_mem {l : List Nat} {n : Nat} (hn : n < l.length) : l[n]?.getD 0 ∈ l := by
  rw [List.getElem?_eq_getElem hn]
  exact List.getElem_mem hn

theorem mons_all {d : Dice} (hd : Fair d) (f : Int) (h1 : 1 ≤ f) : ∀ (m k : Nat) (l : List Nat) (p : Int × Nat), p ∈ mons d f m k l → p.2 ∈ l ∧ 2 ≤ p.1 ∧ p.1 ≤ 4
  | 0, _, _, _, h => by cases h
  | m + 1, k, l, p, h => by
    unfold mons at h
    split at h
    · cases h
    · rename_i hl
      have hn := pick_lt hd (7 + (k : Int)) hl
      rcases List.mem_cons.1 h with rfl | h
      · refine ⟨pick_mem hn, ?_⟩
        have hM : 1 ≤ (if 3 < f + 1 then (3 : Int) else f + 1) ∧ (if 3 < f + 1 then (3 : Int) else f + 1) ≤ 3 := by split <;> omega
        have := hd (16 + (k : Int)) 1 (if 3 < f + 1 then 3 else f + 1) hM.1
        show 2 ≤ kind d f k ∧ kind d f k ≤ 4
        unfold kind
        omega
      · have ih := mons_all hd f h1 m (k + 1) _ p h
        exact ⟨List.mem_of_mem_eraseIdx ih.1, ih.2⟩

theorem mons_apart {d : Dice} (hd : Fair d) (f : Int) (h1 : 1 ≤ f) : ∀ (m k : Nat) (l : List Nat), l.Nodup → (mons d f m k l).Pairwise (fun p q => p.2 ≠ q.2)
  | 0, _, _, _ => List.Pairwise.nil
  | m + 1, k, l, hl => by
    unfold mons
    split
    · exact List.Pairwise.nil
    · rename_i h0
      have hn := pick_lt hd (7 + (k : Int)) h0
      refine List.Pairwise.cons (fun q hq => ?_) (mons_apart hd f h1 m (k + 1) _ (hl.sublist (List.eraseIdx_sublist l _)))
      have := (mons_all hd f h1 m (k + 1) _ q hq).1
      exact (erase_mem hl hn this).symm

theorem those_nodup (p : Nat → Bool) (n : Nat) : (those p n).Nodup := List.Nodup.sublist List.filter_sublist List.nodup_range

theorem those_mem {p : Nat → Bool} {n i : Nat} (h : i ∈ those p n) : i < n ∧ p i = true := by
  have := List.mem_filter.1 h
  exact ⟨List.mem_range.1 this.1, this.2⟩

theorem ents_at {d : Dice} (hd : Fair d) {f : Int} (h1 : 1 ≤ f) {c F : Nat → Int} {i : Nat} {p : Int × Nat} (h : (ents d f c F)[i]? = some p) : 2 ≤ p.1 ∧ p.1 ≤ 4 ∧ p.2 < 384 ∧ c p.2 = 1 ∧ 4 ≤ F p.2 := by
  have hm := List.mem_of_getElem? h
  obtain ⟨h2, h3, h4⟩ := mons_all hd f h1 _ _ _ p hm
  obtain ⟨h5, h6⟩ := List.mem_filter.1 h2
  obtain ⟨h7, h8⟩ := those_mem h5
  refine ⟨h3, h4, h7, by simpa using h8, ?_⟩
  unfold afar at h6
  simp at h6
  exact h6

theorem pair_at {α : Type} {R : α → α → Prop} {l : List α} (h : l.Pairwise R) {i j : Nat} {p q : α} (hij : i < j) (hp : l[i]? = some p) (hq : l[j]? = some q) : R p q := by
  obtain ⟨h1, rfl⟩ := List.getElem?_eq_some_iff.1 hp
  obtain ⟨h2, rfl⟩ := List.getElem?_eq_some_iff.1 hq
  exact List.pairwise_iff_getElem.1 h i j h1 h2 hij

theorem lie_all {d : Dice} (hd : Fair d) : ∀ (m k : Nat) (l : List Nat) (p : Itm), p ∈ lie d m k l → ∃ (K : Int) (cl : Nat), p = (K, 1, (cl : Int) % 24, (cl : Int) / 24) ∧ cl ∈ l ∧ 1 ≤ K ∧ K ≤ 4
  | 0, _, _, _, h => by cases h
  | m + 1, k, l, p, h => by
    unfold lie at h
    split at h
    · cases h
    · rename_i hl
      have hn := pick_lt hd (40 + (k : Int)) hl
      rcases List.mem_cons.1 h with rfl | h
      · have := hd (40 + (k : Int)) 1 4 (by omega)
        exact ⟨_, _, rfl, pick_mem hn, by omega, by omega⟩
      · obtain ⟨K, cl, he, hc, hk⟩ := lie_all hd m (k + 1) _ p h
        exact ⟨K, cl, he, List.mem_of_mem_eraseIdx hc, hk⟩

theorem lie_apart {d : Dice} (hd : Fair d) : ∀ (m k : Nat) (l : List Nat), l.Nodup → (lie d m k l).Pairwise (fun p q => ¬ (p.2.2.1 = q.2.2.1 ∧ p.2.2.2 = q.2.2.2))
  | 0, _, _, _ => List.Pairwise.nil
  | m + 1, k, l, hl => by
    unfold lie
    split
    · exact List.Pairwise.nil
    · rename_i h0
      have hn := pick_lt hd (40 + (k : Int)) h0
      refine List.Pairwise.cons (fun q hq => ?_) (lie_apart hd m (k + 1) _ (hl.sublist (List.eraseIdx_sublist l _)))
      obtain ⟨K, cl, rfl, hc, _⟩ := lie_all hd m (k + 1) _ q hq
      have := erase_mem hl hn hc
      rintro ⟨e1, e2⟩
      simp only at e1 e2
      omega

def lying (d : Dice) (c : Nat → Int) : Nat := (lie d 4 0 (those (fun i => c i == 1) 384)).length

theorem items_lie {d : Dice} (hd : Fair d) {c : Nat → Int} {i : Nat} {p : Itm} (hi : i < lying d c) (h : (items d c)[i]? = some p) : ∃ (K : Int) (cl : Nat), p = (K, 1, (cl : Int) % 24, (cl : Int) / 24) ∧ cl < 384 ∧ c cl = 1 ∧ 1 ≤ K ∧ K ≤ 4 := by
  unfold items at h
  rw [List.getElem?_append_left hi] at h
  obtain ⟨K, cl, he, hc, hk⟩ := lie_all hd _ _ _ p (List.mem_of_getElem? h)
  obtain ⟨h7, h8⟩ := those_mem hc
  exact ⟨K, cl, he, h7, by simpa using h8, hk⟩

theorem items_apart {d : Dice} (hd : Fair d) {c : Nat → Int} {i j : Nat} {p q : Itm} (hij : i < j) (hj : j < lying d c) (hp : (items d c)[i]? = some p) (hq : (items d c)[j]? = some q) : ¬ (p.2.2.1 = q.2.2.1 ∧ p.2.2.2 = q.2.2.2) := by
  unfold items at hp hq
  rw [List.getElem?_append_left (by unfold lying at hj; omega)] at hp
  rw [List.getElem?_append_left hj] at hq
  exact pair_at (lie_apart hd 4 0 _ (those_nodup _ _)) hij hp hq

theorem items_len (d : Dice) (c : Nat → Int) : (items d c).length = lying d c + (if Gr.find 384 c 5 < 0 then 0 else 3) ∧ lying d c ≤ 4 := by
  unfold items lying
  rw [List.length_append]
  refine ⟨?_, lie_len d 4 0 _⟩
  split <;> rfl

theorem flat_at (es : List (Int × Nat)) : ∀ (i j : Nat) (p : Int × Nat), es[i]? = some p → j < 11 → (flat es)[i * 11 + j]? = (entCells p)[j]? := by
  induction es with
  | nil => intro i j p h; simp at h
  | cons q es ih =>
    intro i j p h hj
    have hf : flat (q :: es) = entCells q ++ flat es := rfl
    have hq : (entCells q).length = 11 := rfl
    rw [hf]
    cases i with
    | zero =>
      simp only [List.getElem?_cons_zero, Option.some.injEq] at h
      rw [List.getElem?_append_left (by omega), h]
      congr 1
      omega
    | succ i =>
      rw [List.getElem?_cons_succ] at h
      rw [List.getElem?_append_right (by omega), hq, show (i + 1) * 11 + j - 11 = i * 11 + j by omega]
      exact ih i j p h hj

theorem flatI_at (es : List Itm) : ∀ (i j : Nat) (p : Itm), es[i]? = some p → j < 4 → (flatI es)[i * 4 + j]? = (itemCells p)[j]? := by
  induction es with
  | nil => intro i j p h; simp at h
  | cons q es ih =>
    intro i j p h hj
    have hf : flatI (q :: es) = itemCells q ++ flatI es := rfl
    have hq : (itemCells q).length = 4 := rfl
    rw [hf]
    cases i with
    | zero =>
      simp only [List.getElem?_cons_zero, Option.some.injEq] at h
      rw [List.getElem?_append_left (by omega), h]
      congr 1
      omega
    | succ i =>
      rw [List.getElem?_cons_succ] at h
      rw [List.getElem?_append_right (by omega), hq, show (i + 1) * 4 + j - 4 = i * 4 + j by omega]
      exact ih i j p h hj

end Gn

theorem ents_cells {w : World} {b nE cE : Nat} {aE : Option Addr} {es : List (Int × Nat)} (h : w.ownsRow b 54 11 (.slice aE nE cE) nE (Gn.flat es)) {i : Nat} {p : Int × Nat} (hp : es[i]? = some p) (hi : i < nE) :
    ∃ g, aE = some ⟨g, 0, none⟩ ∧ g < w.heap.size ∧ ∀ j, j < 11 → w.cell? ⟨g, i * 11 + j, none⟩ = (Gn.entCells p)[j]? := by
  rcases h.2 with ⟨h', h0⟩ | ⟨g, cap, cur, h', _, hg, _⟩
  · omega
  · simp only [Value.slice.injEq] at h'
    obtain ⟨rfl, _, rfl⟩ := h'
    refine ⟨g, rfl, lt_of_block hg, fun j hj => ?_⟩
    rw [h.cellAt (i * 11 + j) (by omega)]
    exact Gn.flat_at es i j p hp hj

theorem items_cells {w : World} {b nE cE : Nat} {aE : Option Addr} {es : List Gn.Itm} (h : w.ownsRow b 62 4 (.slice aE nE cE) nE (Gn.flatI es)) {i : Nat} {p : Gn.Itm} (hp : es[i]? = some p) (hi : i < nE) :
    ∃ g, aE = some ⟨g, 0, none⟩ ∧ g < w.heap.size ∧ ∀ j, j < 4 → w.cell? ⟨g, i * 4 + j, none⟩ = (Gn.itemCells p)[j]? := by
  rcases h.2 with ⟨h', h0⟩ | ⟨g, cap, cur, h', _, hg, _⟩
  · omega
  · simp only [Value.slice.injEq] at h'
    obtain ⟨rfl, _, rfl⟩ := h'
    refine ⟨g, rfl, lt_of_block hg, fun j hj => ?_⟩
    rw [h.cellAt (i * 4 + j) (by omega)]
    exact Gn.flatI_at es i j p hp hj

structure StkHold (w : World) (B G gF nE nI cE cI : Nat) (aE aI : Option Addr) (d : Gn.Dice) (f : Int) (c F : Nat → Int) (wr : World) : Prop where
  lev : LevHold w B G nE nI cE cI aE aI c wr
  fld : Arr wr gF 3 384 (Ints F)
  ents : wr.ownsRow w.heap.size 54 11 (.slice aE nE cE) nE (Gn.flat (Gn.ents d f c F))
  items : wr.ownsRow w.heap.size 62 4 (.slice aI nI cI) nI (Gn.flatI (Gn.items d c))

theorem StkHold.on {w : World} {B G gF nE nI cE cI : Nat} {aE aI : Option Addr} {d : Gn.Dice} {f : Int} {c F : Nat → Int} {wr wx : World} (h : StkHold w B G gF nE nI cE cI aE aI d f c F wr) (hg : wr.grownBy wx none) : StkHold w B G gF nE nI cE cI aE aI d f c F wx :=
  ⟨h.lev.on hg, h.fld.grown hg (by simp), h.ents.kept hg (by cases (Value.slice aE nE cE).ownBlock <;> simp), h.items.kept hg (by cases (Value.slice aI nI cI).ownBlock <;> simp)⟩

end Go.Proofs.YtbanjoflgoiegaaGreat

namespace Go.Proofs.YtbanjoflgoiegaaGreat
open Go.RowKit

def Cr.Lev (seed f : Int) (c : Nat → Int) (es : List (Int × Nat)) (is : List Gn.Itm) : Prop :=
  ∃ (d : Gn.Dice) (F : Nat → Int), (∀ a b n, Gn.D seed f a b n = d a b n) ∧ Gn.Fair d ∧ Gn.IsLevel d c F ∧ es = Gn.ents d f c F ∧ is = Gn.items d c

theorem Cr.Lev.one {seed f : Int} {c c' : Nat → Int} {es es' : List (Int × Nat)} {is is' : List Gn.Itm} (h : Cr.Lev seed f c es is) (h' : Cr.Lev seed f c' es' is') : c' = c ∧ es' = es ∧ is' = is := by
  obtain ⟨d, F, hd, _, hL, rfl, rfl⟩ := h
  obtain ⟨d', F', hd', _, hL', rfl, rfl⟩ := h'
  obtain rfl : d = d' := by
    funext a b n
    rw [← hd, ← hd']
  obtain ⟨rfl, rfl⟩ := hL.one hL'
  exact ⟨rfl, rfl, rfl⟩

theorem Cr.Lev.floor {seed f : Int} {c : Nat → Int} {es : List (Int × Nat)} {is : List Gn.Itm} (h : Cr.Lev seed f c es is) : Nv.Floor c := by
  obtain ⟨d, F, _, hF, hL, _⟩ := h
  exact Nv.floor_of hF hL

def Cr.stockE (E : Nat → Nat → Int) (es : List (Int × Nat)) : Nat → Nat → Int :=
  es.foldl (fun E p => if En.first (En.atQ E ((p.2 : Int) % 24) ((p.2 : Int) / 24)) 32 < 0 then Cr.join E (Cr.one p.1 0 p.2) else E) E

def Cr.itemOf (is : List Gn.Itm) (i j : Nat) : Int :=
  match is[i]? with
  | some p => Gd.row p.1 p.2.1 p.2.2.1 p.2.2.2 j
  | none => 0

def Cr.stockI (I : Nat → Nat → Int) (is : List Gn.Itm) : Nat → Nat → Int := Gd.lay I (Cr.itemOf is) is.length

theorem Cr.Sane.stockE {c : Nat → Int} {I : Nat → Nat → Int} : ∀ (es : List (Int × Nat)) {E : Nat → Nat → Int}, Cr.Sane c E I → (∀ p, p ∈ es → 2 ≤ p.1 ∧ p.1 ≤ 4 ∧ p.2 < 384 ∧ Gr.walkB (c p.2) = true) → Cr.Sane c (Cr.stockE E es) I
  | [], _, h, _ => h
  | p :: es, E, h, hp => by
    obtain ⟨k2, k4, hq, hw⟩ := hp p (List.mem_cons_self ..)
    refine Cr.Sane.stockE es (E := if En.first (En.atQ E ((p.2 : Int) % 24) ((p.2 : Int) / 24)) 32 < 0 then Cr.join E (Cr.one p.1 0 p.2) else E) ?_ (fun q hq => hp q (List.mem_cons_of_mem _ hq))
    split
    · rename_i hr
      exact h.join (by omega) (by omega) hq ⟨hw, hr⟩ (.inr ⟨by omega, rfl⟩)
    · exact h

theorem Cr.Lev.mons {seed f : Int} {c : Nat → Int} {es : List (Int × Nat)} {is : List Gn.Itm} (h : Cr.Lev seed f c es is) (hf : 1 ≤ f) (p : Int × Nat) (hp : p ∈ es) : 2 ≤ p.1 ∧ p.1 ≤ 4 ∧ p.2 < 384 ∧ Gr.walkB (c p.2) = true := by
  obtain ⟨d, F, _, hF, hL, rfl, _⟩ := h
  obtain ⟨i, hi⟩ := List.mem_iff_getElem?.1 hp
  obtain ⟨k2, k4, hq, hc, _⟩ := Gn.ents_at hF hf hi
  exact ⟨k2, k4, hq, by rw [hc]; rfl⟩

theorem Cr.ok_lay {c : Nat → Int} {I M : Nat → Nat → Int} : ∀ (n : Nat), Gd.Ok c 40 I → (∀ i, i < n → Gd.Placed c (Gd.row (M i 0) (M i 1) (M i 2) (M i 3))) → (∀ i k, i < n → k < 40 → I k 1 ≠ 0 → ¬ Gd.Share (I k) (Gd.row (M i 0) (M i 1) (M i 2) (M i 3))) → (∀ i j, i < j → j < n → ¬ Gd.Share (Gd.row (M i 0) (M i 1) (M i 2) (M i 3)) (Gd.row (M j 0) (M j 1) (M j 2) (M j 3))) →
    Gd.Ok c 40 (Gd.lay I M n) ∧ ∀ k, k < 40 → (Gd.lay I M n k = I k ∨ ∃ i, i < n ∧ Gd.lay I M n k = Gd.row (M i 0) (M i 1) (M i 2) (M i 3))
  | 0, h, _, _, _ => ⟨h, fun k _ => .inl rfl⟩
  | n + 1, h, hp, hi, hm => by
    obtain ⟨ho, hk⟩ := Cr.ok_lay n h (fun i hi' => hp i (by omega)) (fun i k hi' => hi i k (by omega)) (fun i j hij hj => hm i j hij (by omega))
    unfold Gd.lay
    split
    · rename_i hpos
      generalize (En.first (Gd.goneQ (Gd.lay I M n)) 40).toNat = r
      have hpn := hp n (by omega)
      refine ⟨ho.put (.inr ⟨hpn, fun k hk40 _ hs => ?_⟩), fun k hk40 => ?_⟩
      · rcases hk k hk40 with e | ⟨i, hin, e⟩
        · rw [e] at hs
          have h0 : I k 1 ≠ 0 := by
            have h1 := hs.1
            rw [h1]
            exact hpn.where_ne
          exact hi n k (by omega) hk40 h0 hs
        · rw [e] at hs
          exact hm i n hin (by omega) hs
      · by_cases e : k = r
        · rw [e, En.put_same]; exact .inr ⟨n, by omega, rfl⟩
        · rw [En.put_other e]
          rcases hk k hk40 with e' | ⟨i, hin, e'⟩
          · exact .inl e'
          · exact .inr ⟨i, by omega, e'⟩
    · exact ⟨ho, fun k hk40 => (hk k hk40).imp id fun ⟨i, hin, e⟩ => ⟨i, by omega, e⟩⟩

theorem Cr.item_at {is : List Gn.Itm} {i : Nat} {p : Gn.Itm} (h : is[i]? = some p) : Cr.itemOf is i 0 = p.1 ∧ Cr.itemOf is i 1 = p.2.1 ∧ Cr.itemOf is i 2 = p.2.2.1 ∧ Cr.itemOf is i 3 = p.2.2.2 := by
  unfold Cr.itemOf
  rw [h]
  exact ⟨rfl, rfl, rfl, rfl⟩

theorem Cr.Lev.items {seed f : Int} {c : Nat → Int} {es : List (Int × Nat)} {is : List Gn.Itm} (h : Cr.Lev seed f c es is) : (∀ (i : Nat) (p : Gn.Itm), is[i]? = some p → Gd.Placed c (Gd.row p.1 p.2.1 p.2.2.1 p.2.2.2) ∧ (p.2.1 = 1 ∨ p.2.1 = 4)) ∧ (∀ (i j : Nat) (p q : Gn.Itm), i < j → is[i]? = some p → is[j]? = some q → ¬ (p.2.1 = q.2.1 ∧ p.2.2.1 = q.2.2.1 ∧ p.2.2.2 = q.2.2.2)) := by
  obtain ⟨d, F, _, hF, hL, _, rfl⟩ := h
  have hw : ∀ i p, Gn.lying d c ≤ i → (Gn.items d c)[i]? = some p → ∃ j : Nat, j = i - Gn.lying d c ∧ j < 3 ∧ p = (1 + d (50 + (j : Int)) 1 3, 4, (j : Int), 0) := fun i p hi hp => by
    have e : Gn.items d c = Gn.lie d 4 0 (Gn.those (fun i => c i == 1) 384) ++ if Gr.find 384 c 5 < 0 then [] else Gn.wares d 3 := rfl
    rw [e, List.getElem?_append_right hi] at hp
    split at hp
    · simp at hp
    · unfold Gn.wares at hp
      rw [List.getElem?_map] at hp
      simp only [Option.map_eq_some_iff] at hp
      obtain ⟨j, hj, rfl⟩ := hp
      by_cases hb : i - (Gn.lie d 4 0 (Gn.those (fun i => c i == 1) 384)).length < 3
      · rw [List.getElem?_range hb] at hj
        have hj' := Option.some.inj hj
        exact ⟨j, hj'.symm, by rw [← hj']; exact hb, rfl⟩
      · rw [List.getElem?_eq_none (by simp; omega)] at hj
        cases hj
  refine ⟨fun i p hp => ?_, fun i j p q hij hp hq he => ?_⟩
  · by_cases hi : i < Gn.lying d c
    · obtain ⟨K, cl, rfl, hcl, hc1, k1, k4⟩ := Gn.items_lie hF hi hp
      refine ⟨⟨k1, k4, .inl ⟨rfl, (Gr.inB_iff _ _).2 (by show 0 ≤ (cl : Int) % 24 ∧ (cl : Int) % 24 < 24 ∧ 0 ≤ (cl : Int) / 24 ∧ (cl : Int) / 24 < 16; omega), ?_⟩⟩, .inl rfl⟩
      show Gr.walkB (Gr.at 384 c ((cl : Int) % 24) ((cl : Int) / 24)) = true
      rw [Gr.at_in (k := cl) ((Gr.inB_iff _ _).2 (by omega)) (by omega), hc1]
      rfl
    · obtain ⟨j, _, hj3, rfl⟩ := hw i p (by omega) hp
      have hd := hF (50 + (j : Int)) 1 3 (by omega)
      refine ⟨⟨?_, ?_, .inr (.inr (.inr ⟨rfl, ?_, ?_, rfl, ?_⟩))⟩, .inr rfl⟩
      · show 1 ≤ 1 + d (50 + (j : Int)) 1 3; omega
      · show 1 + d (50 + (j : Int)) 1 3 ≤ 4; omega
      · show 0 ≤ (j : Int); omega
      · show (j : Int) < 3; omega
      · show ¬ 1 + d (50 + (j : Int)) 1 3 = 4; omega
  · by_cases hj : j < Gn.lying d c
    · exact Gn.items_apart hF hij hj hp hq he.2
    · obtain ⟨b, hb, _, rfl⟩ := hw j q (by omega) hq
      by_cases hi : i < Gn.lying d c
      · obtain ⟨K, cl, rfl, _⟩ := Gn.items_lie hF hi hp
        exact absurd he.1 (by show ¬ (1 : Int) = 4; omega)
      · obtain ⟨a, ha, _, rfl⟩ := hw i p (by omega) hp
        have h2 : (a : Int) = (b : Int) := he.2.1
        omega

def Cr.kept (I : Nat → Nat → Int) : Nat → Nat → Int := fun i => if I i 1 = 1 ∨ I i 1 = 4 then fun _ => 0 else I i

theorem Cr.kept_ok {c c' : Nat → Int} {I : Nat → Nat → Int} (h : Gd.Ok c 40 I) : Gd.Ok c' 40 (Cr.kept I) ∧ ∀ k, k < 40 → Cr.kept I k 1 ≠ 1 ∧ Cr.kept I k 1 ≠ 4 := by
  have e : ∀ i, (I i 1 = 1 ∨ I i 1 = 4) ∧ Cr.kept I i = (fun _ => 0) ∨ ¬ (I i 1 = 1 ∨ I i 1 = 4) ∧ Cr.kept I i = I i := fun i => by
    unfold Cr.kept
    by_cases hc : I i 1 = 1 ∨ I i 1 = 4
    · rw [if_pos hc]; exact .inl ⟨hc, rfl⟩
    · rw [if_neg hc]; exact .inr ⟨hc, rfl⟩
  refine ⟨⟨fun i hi => ?_, fun i k hi hk hik h0 hs => ?_⟩, fun k hk => ?_⟩
  · rcases e i with ⟨_, hz⟩ | ⟨hn, hz⟩
    · rw [hz]; exact .inl ⟨rfl, rfl, rfl, rfl⟩
    · rw [hz]
      rcases h.each i hi with hzero | ⟨h1, h4, hp⟩
      · exact .inl hzero
      · refine .inr ⟨h1, h4, ?_⟩
        rcases hp with ⟨hw, _⟩ | hp | hp | ⟨hw, _⟩
        · exact absurd (.inl hw) hn
        · exact .inr (.inl hp)
        · exact .inr (.inr (.inl hp))
        · exact absurd (.inr hw) hn
  · rcases e i with ⟨_, hz⟩ | ⟨hn, hz⟩
    · rw [hz] at h0; exact h0 rfl
    · rw [hz] at h0 hs
      rcases e k with ⟨_, hzk⟩ | ⟨hnk, hzk⟩
      · rw [hzk] at hs
        exact h0 hs.1.symm
      · rw [hzk] at hs
        exact h.one i k hi hk hik h0 hs
  · rcases e k with ⟨_, hz⟩ | ⟨hn, hz⟩
    · rw [hz]; exact ⟨by show ¬ (0 : Int) = 1; omega, by show ¬ (0 : Int) = 4; omega⟩
    · rw [hz]; exact ⟨fun h => hn (.inl h), fun h => hn (.inr h)⟩

theorem Cr.Lev.lay {seed f : Int} {c : Nat → Int} {es : List (Int × Nat)} {is : List Gn.Itm} (h : Cr.Lev seed f c es is) {I : Nat → Nat → Int} (hI : Gd.Ok c 40 I) (hk : ∀ k, k < 40 → I k 1 ≠ 1 ∧ I k 1 ≠ 4) : Gd.Ok c 40 (Cr.stockI I is) := by
  obtain ⟨h1, h2⟩ := h.items
  have hat : ∀ i, i < is.length → ∃ p, is[i]? = some p := fun i hi => ⟨is[i], List.getElem?_eq_getElem hi⟩
  refine (Cr.ok_lay is.length hI (fun i hi => ?_) (fun i k hi hk40 _ hs => ?_) (fun i j hij hj hs => ?_)).1
  · obtain ⟨p, hp⟩ := hat i hi
    obtain ⟨e0, e1, e2, e3⟩ := Cr.item_at hp
    rw [e0, e1, e2, e3]
    exact (h1 i p hp).1
  · obtain ⟨p, hp⟩ := hat i hi
    obtain ⟨e0, e1, e2, e3⟩ := Cr.item_at hp
    rw [e0, e1, e2, e3] at hs
    have hs1 : I k 1 = p.2.1 := hs.1
    have := hk k hk40
    rcases (h1 i p hp).2 with h | h <;> omega
  · obtain ⟨p, hp⟩ := hat i (by omega)
    obtain ⟨q, hq⟩ := hat j hj
    obtain ⟨e0, e1, e2, e3⟩ := Cr.item_at hp
    obtain ⟨f0, f1, f2, f3⟩ := Cr.item_at hq
    rw [e0, e1, e2, e3, f0, f1, f2, f3] at hs
    exact h2 i j p q hij hp hq hs

end Go.Proofs.YtbanjoflgoiegaaGreat
