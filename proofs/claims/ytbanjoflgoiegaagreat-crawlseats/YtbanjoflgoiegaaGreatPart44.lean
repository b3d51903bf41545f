/-
  CrawlKept CrawlGather CrawlApart
-/
import Derived.Test.YtbanjoflgoiegaaGreatPart31
import Derived.Test.YtbanjoflgoiegaaGreatPart26
import Derived.Test.YtbanjoflgoiegaaGreatPart38
import Derived.Test.YtbanjoflgoiegaaGreatPart21
namespace Go.Proofs.YtbanjoflgoiegaaGreat
open Go.RowKit

theorem Cr.ent_cells {p : Int × Nat} (h1 : 2 ≤ p.1) (h4 : p.1 ≤ 4) : Gn.ent p.1 ((p.2 : Int) % 24) ((p.2 : Int) / 24) = En.cells (Cr.one p.1 0 p.2) := by
  obtain ⟨k, q⟩ := p
  rcases (show k = 2 ∨ k = 3 ∨ k = 4 by have h1' : 2 ≤ k := h1; have h4' : k ≤ 4 := h4; omega) with rfl | rfl | rfl <;> rfl

def Cr.Mons (w : World) (a : Option Addr) (n : Nat) (es : List (Int × Nat)) : Prop := n = es.length ∧ n ≤ 40 ∧ ∀ i p, es[i]? = some p → (2 ≤ p.1 ∧ p.1 ≤ 4 ∧ p.2 < 384) ∧ ∃ b, a = some ⟨b, 0, none⟩ ∧ b < w.heap.size ∧ ∀ j, j < 11 → w.cell? ⟨b, i * 11 + j, none⟩ = some (.int .i64 (Cr.one p.1 0 p.2 j))

theorem Cr.Mons.on {w w' : World} {a : Option Addr} {n : Nat} {es : List (Int × Nat)} (h : Cr.Mons w a n es) (hg : w.grownBy w' none) : Cr.Mons w' a n es :=
  ⟨h.1, h.2.1, fun i p hp => by
    obtain ⟨hk, b, ha, hb, hc⟩ := h.2.2 i p hp
    exact ⟨hk, b, ha, Nat.lt_of_lt_of_le hb hg.size, fun j hj => (grown_cell hg b _ hb (by simp)).trans (hc j hj)⟩⟩

theorem Cr.mons_of {w : World} {b nE cE : Nat} {aE : Option Addr} {es : List (Int × Nat)} (h : w.ownsRow b 54 11 (.slice aE nE cE) nE (Gn.flat es)) (hn : nE = es.length) (h40 : nE ≤ 40) (hk : ∀ p, p ∈ es → 2 ≤ p.1 ∧ p.1 ≤ 4 ∧ p.2 < 384) : Cr.Mons w aE nE es :=
  ⟨hn, h40, fun i p hp => by
    have hlt : i < nE := by
      rw [hn]
      exact (List.getElem?_eq_some_iff.1 hp).1
    obtain ⟨g, ha, hg, hc⟩ := ents_cells h hp hlt
    have hk' := hk p (List.mem_of_getElem? hp)
    refine ⟨hk', g, ha, hg, fun j hj => ?_⟩
    rw [hc j hj]
    have e : Gn.entCells p = (En.cells (Cr.one p.1 0 p.2)).toList := by
      rw [← Cr.ent_cells hk'.1 hk'.2.1]
      rfl
    rw [e]
    rcases (show j = 0 ∨ j = 1 ∨ j = 2 ∨ j = 3 ∨ j = 4 ∨ j = 5 ∨ j = 6 ∨ j = 7 ∨ j = 8 ∨ j = 9 ∨ j = 10 by omega) with rfl | rfl | rfl | rfl | rfl | rfl | rfl | rfl | rfl | rfl | rfl <;> rfl⟩

theorem Cr.goods_of {w : World} {b nI cI : Nat} {aI : Option Addr} {is : List Gn.Itm} (h : w.ownsRow b 62 4 (.slice aI nI cI) nI (Gn.flatI is)) (hn : nI = is.length) (h100 : nI ≤ 100) : Gd.Some w aI nI (Cr.itemOf is) := by
  refine ⟨h100, ?_⟩
  by_cases h0 : nI = 0
  · exact .inl h0
  · have hat : ∀ i, i < nI → ∃ p, is[i]? = some p := fun i hi => ⟨is[i]'(by omega), List.getElem?_eq_getElem _⟩
    obtain ⟨p0, hp0⟩ := hat 0 (by omega)
    obtain ⟨g, ha, hg, -⟩ := items_cells h hp0 (by omega)
    refine .inr ⟨g, 0, ha, h100, hg, fun i j hi hj => ?_⟩
    obtain ⟨p, hp⟩ := hat i hi
    obtain ⟨g', ha', _, hc⟩ := items_cells h hp hi
    obtain rfl : g = g' := by
      rw [ha] at ha'
      simpa using ha'
    rw [Nat.zero_add, hc j hj]
    obtain ⟨e0, e1, e2, e3⟩ := Cr.item_at hp
    rcases (show j = 0 ∨ j = 1 ∨ j = 2 ∨ j = 3 by omega) with rfl | rfl | rfl | rfl
    · rw [e0]; rfl
    · rw [e1]; rfl
    · rw [e2]; rfl
    · rw [e3]; rfl

def Cr.Same (lo : Nat) (x y : World) : Prop := x.heap.size ≤ y.heap.size ∧ ∀ k, lo ≤ k → k < x.heap.size → y.heap[k]? = x.heap[k]?

theorem Cr.Same.on {lo : Nat} {x y z : World} (h : Cr.Same lo x y) (hg : y.grownBy z none) : Cr.Same lo x z :=
  ⟨Nat.le_trans h.1 hg.size, fun k h1 h2 => (hg.block k (Nat.lt_of_lt_of_le h2 h.1) (by simp)).trans (h.2 k h1 h2)⟩

theorem Cr.Same.sets {lo : Nat} {x : World} {b : Nat} (hb : b < lo ∨ x.heap.size ≤ b) : ∀ (vs : List Value) (o : Nat) {y : World}, Cr.Same lo x y → Cr.Same lo x (y.setCells b o vs) := fun vs o y h => by
  have r := grown_sets (g := b) vs o y (World.grownBy.refl _ _)
  exact ⟨Nat.le_trans h.1 r.size, fun k h1 h2 => (r.block k (Nat.lt_of_lt_of_le h2 h.1) (by simp; omega)).trans (h.2 k h1 h2)⟩

theorem Cr.Same.set {lo : Nat} {x y : World} {b : Nat} (hb : b < lo ∨ x.heap.size ≤ b) (h : Cr.Same lo x y) (o : Nat) (u : Value) : Cr.Same lo x (y.setCell ⟨b, o, none⟩ u) := by
  have r := grown_set0 y b o u
  exact ⟨Nat.le_trans h.1 r.size, fun k h1 h2 => (r.block k (Nat.lt_of_lt_of_le h2 h.1) (by simp; omega)).trans (h.2 k h1 h2)⟩

theorem Cr.Same.owns {lo : Nat} {x y : World} {e : TypeId} {z n : Nat} {v : Value} {xs : List Value} (h : Cr.Same lo x y) (ho : x.ownsRow lo e z v n xs) : y.ownsRow lo e z v n xs := by
  obtain ⟨h1, h2 | ⟨g, cap, cur, h3, h4, h5, h6⟩⟩ := ho
  · exact ⟨h1, .inl h2⟩
  · exact ⟨h1, .inr ⟨g, cap, cur, h3, h4, (h.2 g h4 (lt_of_block h5)).trans h5, h6⟩⟩

def Cr.keptTo (I : Nat → Nat → Int) (n : Nat) : Nat → Nat → Int := fun k => if k < n then Cr.kept I k else I k

theorem Cr.keptTo_zero (I : Nat → Nat → Int) : Cr.keptTo I 0 = I := by funext k; unfold Cr.keptTo; rw [if_neg (by omega)]

theorem Cr.keptTo_at (I : Nat → Nat → Int) (n : Nat) : Cr.keptTo I n n = I n := by unfold Cr.keptTo; rw [if_neg (by omega)]

theorem Cr.keptTo_go {I : Nat → Nat → Int} {n : Nat} (h : I n 1 = 1 ∨ I n 1 = 4) : En.put (Cr.keptTo I n) n (fun _ => 0) = Cr.keptTo I (n + 1) := by
  funext k
  by_cases e : k = n
  · subst e; rw [En.put_same]; unfold Cr.keptTo Cr.kept; rw [if_pos (by omega), if_pos h]
  · rw [En.put_other e]; unfold Cr.keptTo
    by_cases hk : k < n
    · rw [if_pos hk, if_pos (by omega)]
    · rw [if_neg hk, if_neg (by omega)]

theorem Cr.keptTo_stay {I : Nat → Nat → Int} {n : Nat} (h : ¬ (I n 1 = 1 ∨ I n 1 = 4)) : Cr.keptTo I n = Cr.keptTo I (n + 1) := by
  funext k
  unfold Cr.keptTo
  by_cases e : k = n
  · subst e; rw [if_neg (by omega), if_pos (by omega)]; unfold Cr.kept; rw [if_neg h]
  · by_cases hk : k < n
    · rw [if_pos hk, if_pos (by omega)]
    · rw [if_neg hk, if_neg (by omega)]

end Go.Proofs.YtbanjoflgoiegaaGreat

namespace Go.Proofs.YtbanjoflgoiegaaGreat
open Go.RowKit

theorem Cr.land_inv {c : Nat → Int} {E : Nat → Nat → Int} (hs : Cr.Seats E) : ∀ {t : Nat} {F : Nat → Nat → Int}, Cr.LandTo c E t (Cr.bare E) F → ∀ k, k < 32 → (F k = Cr.bare E k ∧ (E k 0 = 1 → (t : Int) ≤ E k 2)) ∨ (F k 0 = 1 ∧ E k 0 = 1)
  | 0, F, h, k, hk => by
    rw [h]
    exact .inl ⟨rfl, fun k1 => (hs.seat k hk k1).1⟩
  | t + 1, F, h, k, hk => by
    obtain ⟨G, hG, hL⟩ := h
    have ih := Cr.land_inv hs hG k hk
    unfold Cr.Lands at hL
    split at hL
    · rename_i hn
      rw [hL]
      refine ih.imp (fun ⟨h1, h2⟩ => ⟨h1, fun k1 => ?_⟩) id
      have := h2 k1
      by_cases e : E k 2 = (t : Int)
      · exfalso
        unfold Gd.hero at hn
        rcases En.first_cases (En.heroQ E (t : Int)) 32 with ⟨_, hno⟩ | ⟨j, _, hj, _⟩
        · have := hno k hk
          simp [En.heroQ, k1, e] at this
        · omega
      · omega
    · rename_i hn
      obtain ⟨v, _, rfl⟩ := hL
      obtain ⟨r, hr, he, r1, r2⟩ := Md.hero_row hn
      rw [he, Int.toNat_natCast]
      by_cases e : k = r
      · refine .inr ⟨?_, by rw [e]; exact r1⟩
        rw [e, En.put_same]
        split
        · exact r1
        · rw [En.upd_other (by omega), En.upd_other (by omega)]; exact r1
      · rw [En.put_other e]
        refine ih.imp (fun ⟨h1, h2⟩ => ⟨h1, fun k1 => ?_⟩) id
        have := h2 k1
        by_cases e2 : E k 2 = (t : Int)
        · exact absurd (hs.one k r hk hr k1 r1 (by omega)) e
        · omega

def Cr.mid (E F : Nat → Nat → Int) : Nat → Nat → Int := fun k => if F k 0 = 0 then Cr.kingsTo E 32 k else F k

theorem Cr.mid_bare (E : Nat → Nat → Int) : Cr.mid E (Cr.bare E) = Cr.kingsTo E 32 := by
  funext k
  exact if_pos rfl

theorem Cr.kings_hero {E : Nat → Nat → Int} {k : Nat} (hk : k < 32) (t : Int) : En.heroQ (Cr.kingsTo E 32) t k = En.heroQ E t k := by
  unfold En.heroQ Cr.kingsTo
  by_cases c : E k 0 ≠ 0 ∧ E k 0 ≠ 1
  · rw [if_pos ⟨hk, c⟩]
    simp [En.hole, c.2]
  · rw [if_neg (fun h => c h.2)]

theorem Cr.mid_hero {E F : Nat → Nat → Int} {t : Nat} (hl : Cr.Landed E F t) : Gd.hero (Cr.mid E F) (t : Int) = Gd.hero E (t : Int) := by
  unfold Gd.hero
  refine En.first_congr fun k hk => ?_
  by_cases h0 : F k 0 = 0
  · have e : Cr.mid E F k = Cr.kingsTo E 32 k := if_pos h0
    rw [← Cr.kings_hero (E := E) hk]
    unfold En.heroQ
    rw [e]
  · have e : Cr.mid E F k = F k := if_neg h0
    obtain ⟨j, hj, h1, h2⟩ := hl k hk h0
    obtain ⟨r, _, hr, r2, _⟩ := Gd.hero_pos (E := E) (seat := (j : Int)) (by omega)
    obtain rfl : r = k := by omega
    unfold En.heroQ
    rw [e, h2, r2]
    have : ¬ (j : Int) = (t : Int) := by omega
    simp [this]

theorem Cr.mid_at {E F : Nat → Nat → Int} {t k : Nat} (hl : Cr.Landed E F t) (hk : k < 32) (k1 : E k 0 = 1) (k2 : E k 2 = (t : Int)) : F k 0 = 0 ∧ Cr.mid E F k = E k := by
  have h0 : F k 0 = 0 := by
    by_cases h0 : F k 0 = 0
    · exact h0
    · obtain ⟨j, hj, h1, h2⟩ := hl k hk h0
      obtain ⟨r, _, hr, r2, _⟩ := Gd.hero_pos (E := E) (seat := (j : Int)) (by omega)
      obtain rfl : r = k := by omega
      omega
  refine ⟨h0, (if_pos h0).trans ?_⟩
  unfold Cr.kingsTo
  rw [if_neg (fun h => h.2.2 k1)]

theorem Cr.mid_put {E F : Nat → Nat → Int} {k : Nat} {e : Nat → Int} (h : e 0 ≠ 0) : En.put (Cr.mid E F) k e = Cr.mid E (En.put F k e) := by
  funext i
  unfold Cr.mid
  by_cases x : i = k
  · rw [x, En.put_same, En.put_same, if_neg h]
  · rw [En.put_other x, En.put_other x]

theorem Cr.mid_end {c c0 : Nat → Int} {E F I : Nat → Nat → Int} (ho : Cr.Sane c0 E I) (hL : Cr.LandTo c E 4 (Cr.bare E) F) : ∀ i j, i < 32 → j < 11 → Cr.mid E F i j = F i j := fun i j hi hj => by
  unfold Cr.mid
  split
  · rename_i h0
    rcases Cr.land_inv ho.seats hL i hi with ⟨hb, h4⟩ | ⟨h1, _⟩
    · rw [hb]
      unfold Cr.kingsTo Cr.bare
      by_cases c : E i 0 ≠ 0 ∧ E i 0 ≠ 1
      · rw [if_pos ⟨hi, c⟩]
      · rw [if_neg (fun h => c h.2)]
        have e0 : E i 0 = 0 := by
          by_cases e1 : E i 0 = 1
          · have h1 := h4 e1
            have h2 := (ho.seats.seat i hi e1).2
            omega
          · by_cases e0 : E i 0 = 0
            · exact e0
            · exact absurd ⟨e0, e1⟩ c
        unfold En.hole
        by_cases e : j = 1
        · rw [if_pos e, e]
        · rw [if_neg e]
          rcases (ho.fit.rows i hi).2.2 with hz | ht
          · exact hz j hj e
          · omega
    · omega
  · rfl

def Cr.Both (Th : Nat → Nat → Int) (n : Nat) (F : Nat → Nat → Int) : Prop := (∀ i, i < n → Th i 0 ≠ 0 ∧ ∃ k, k < 32 ∧ F k = Th i) ∧ ∀ k, k < 32 → F k 0 ≠ 0 → ∃ i, i < n ∧ Th i = F k

theorem Cr.Both.st {Th F : Nat → Nat → Int} {n : Nat} (h : Cr.Both Th n F) (q : Nat) : Nv.st Th n q = Nv.st F 32 q := by
  unfold Nv.st
  rcases En.first_cases (En.atQ Th ((q % 24 : Nat) : Int) ((q / 24 : Nat) : Int)) n with ⟨h1, hno⟩ | ⟨i, hi, h1, hq, _⟩
  · rcases En.first_cases (En.atQ F ((q % 24 : Nat) : Int) ((q / 24 : Nat) : Int)) 32 with ⟨h2, _⟩ | ⟨k, hk, h2, hq, _⟩
    · rw [h1, h2]
    · exfalso
      have hq' : F k 0 ≠ 0 ∧ F k 3 = ((q % 24 : Nat) : Int) ∧ F k 4 = ((q / 24 : Nat) : Int) := by simpa [En.atQ] using hq
      obtain ⟨i, hi, e⟩ := h.2 k hk hq'.1
      have := hno i hi
      rw [← e] at hq'
      simp only [En.atQ, Bool.and_eq_false_iff, Bool.not_eq_eq_eq_not, Bool.not_false, decide_eq_true_eq, decide_eq_false_iff_not] at this
      rcases this with a | a | a
      · exact hq'.1 a
      · exact a hq'.2.1
      · exact a hq'.2.2
  · rcases En.first_cases (En.atQ F ((q % 24 : Nat) : Int) ((q / 24 : Nat) : Int)) 32 with ⟨h2, hno⟩ | ⟨k, _, h2, _⟩
    · exfalso
      have hq' : Th i 0 ≠ 0 ∧ Th i 3 = ((q % 24 : Nat) : Int) ∧ Th i 4 = ((q / 24 : Nat) : Int) := by simpa [En.atQ] using hq
      obtain ⟨_, k, hk, e⟩ := h.1 i hi
      have := hno k hk
      rw [← e] at hq'
      simp only [En.atQ, Bool.and_eq_false_iff, Bool.not_eq_eq_eq_not, Bool.not_false, decide_eq_true_eq, decide_eq_false_iff_not] at this
      rcases this with a | a | a
      · exact hq'.1 a
      · exact a hq'.2.1
      · exact a hq'.2.2
    · rw [h1, h2]
      refine (decide_eq_true (by omega)).trans (decide_eq_true (by omega)).symm

theorem Cr.best_st {F : Nat → Int} {st st' : Nat → Bool} (h : ∀ q, st q = st' q) : ∀ k, Nv.best F st k = Nv.best F st' k := fun k => by
  rw [show st = st' from funext h]

theorem Cr.Both.spot {Th F : Nat → Nat → Int} {n : Nat} (h : Cr.Both Th n F) {c : Nat → Int} {x y v : Int} (hv : Nv.IsSpot c Th n x y v) : Nv.IsSpot c F 32 x y v := by
  obtain ⟨G, hG, rfl⟩ := hv
  exact ⟨G, hG, Cr.best_st h.st 384⟩

theorem Cr.Both.put {Th F : Nat → Nat → Int} {n k : Nat} (h : Cr.Both Th n F) (hk : k < 32) (k0 : F k 0 = 0) {e : Nat → Int} (he : e 0 ≠ 0) : Cr.Both (En.put Th n e) (n + 1) (En.put F k e) := by
  refine ⟨fun i hi => ?_, fun j hj j0 => ?_⟩
  · by_cases x : i = n
    · rw [x, En.put_same]
      exact ⟨he, k, hk, En.put_same _ _ _⟩
    · rw [En.put_other x]
      obtain ⟨i0, j, hj, e'⟩ := h.1 i (by omega)
      have : j ≠ k := fun x => by rw [x] at e'; rw [e'] at k0; exact i0 k0
      exact ⟨i0, j, hj, by rw [En.put_other this]; exact e'⟩
  · by_cases x : j = k
    · exact ⟨n, by omega, by rw [x, En.put_same, En.put_same]⟩
    · rw [En.put_other x] at j0 ⊢
      obtain ⟨i, hi, e'⟩ := h.2 j hj j0
      exact ⟨i, by omega, by rw [En.put_other (by omega)]; exact e'⟩

end Go.Proofs.YtbanjoflgoiegaaGreat

namespace Go.Proofs.YtbanjoflgoiegaaGreat
open Go.RowKit

set_option maxHeartbeats 800000 in
theorem crawlTwinBytes_any (b n m cp : Nat) (F : Nat → Value) (w : World) (hn : n ≤ 1000) (hm : m = n * 1) (h1 : ∀ c, (F c).oneCell' = true) (hF : ∀ c, c < m → w.cell? ⟨b, c, none⟩ = some (F c)) (hb : b < w.heap.size) :
    Calls Tryz.prog 65 #[.slice (some ⟨b, 0, none⟩) n cp] w (Copies w 5 n m F) := by
  have hF' := hide hF
  have h1' := hide h1
  obtain ⟨i0, hi, hz0, hz1, hz2⟩ := info_parts info_byte
  have hsz : (Tryz.prog.info? 5).map (·.size) = some 1 := by rw [hi]; simp [hz1]
  clear hF h1
  go_enter Tryz.func65, Tryz.ntmps65
  go_wp2_with (at_make; refine wpList_make_full _ rfl _ _ 25 rfl w.heap.size 5 i0 (.int .u8 0) 1 Tryz.underlying25 hi hz0 hz1 .i64 .i64 _ _ n rfl rfl rfl rfl ?q3 ?q4 ?q5 ?_)
  any_goals (first | (rw [hz2]; omega) | (unfold maxLen; omega) | exact Nat.le_refl _)
  intro w1 hown hgrow
  obtain ⟨cur, hg, hcs⟩ : ∃ cur, w1.heap[w.heap.size]? = some (.cells cur 5 (0, 0)) ∧ cur.size = n * 1 := by
    rcases hown.2 with ⟨h', _⟩ | ⟨g', cap', cur, h', _, hg, _, _, hcs, _⟩
    · simp at h'
    · simp only [Value.slice.injEq, Option.some.injEq, Addr.mk.injEq, and_true, true_and] at h'
      obtain ⟨rfl, rfl⟩ := h'
      exact ⟨cur, hg, hcs⟩
  have hg' := hide hg
  have hgrow' := hide hgrow
  have hcs' := hide hcs
  clear hown hg hgrow hcs hi hz0 hz1 hz2
  obtain ⟨w2, hrun, hrow, hgr2⟩ := run_copy_whole 25 25 3 5 Tryz.underlying25 1 hsz w.heap.size n n ⟨b, 0, none⟩ cp cur _ (unhide hg') (Gd.list m F) ((Gd.list_len m F).trans hm) (Gd.list_src fun c hc => (grown_cell (unhide hgrow') b c hb (by simp)).trans (unhide hF' c hc)) (by rw [Gd.list_len, unhide hcs', hm]) (Gd.list_one (unhide h1'))
  have hfin := hide (Arr.of_list hrow)
  have hgw := hide (show w.grownBy w2 none from grown_own (unhide hgrow') hgr2 (fun k e => by cases e; exact Nat.le_refl _))
  clear hrow hgr2 hb hm hn hsz
  go_wp2
  go_ret
  exact ⟨w.heap.size, rfl, Nat.le_refl _, unhide hfin, unhide hgw⟩

set_option maxHeartbeats 800000 in
theorem crawlTwinEnts_any (b n m cp : Nat) (F : Nat → Value) (w : World) (hn : n ≤ 1000) (hm : m = n * 11) (h1 : ∀ c, (F c).oneCell' = true) (hF : ∀ c, c < m → w.cell? ⟨b, c, none⟩ = some (F c)) (hb : b < w.heap.size) :
    Calls Tryz.prog 66 #[.slice (some ⟨b, 0, none⟩) n cp] w (Copies w 54 n m F) := by
  have hF' := hide hF
  have h1' := hide h1
  obtain ⟨i0, hi, hz0, hz1, hz2⟩ := info_parts info_ent
  have hsz : (Tryz.prog.info? 54).map (·.size) = some 11 := by rw [hi]; simp [hz1]
  clear hF h1
  go_enter Tryz.func66, Tryz.ntmps66
  go_wp2_with (at_make; refine wpList_make_full _ rfl _ _ 26 rfl w.heap.size 54 i0 (.agg #[.int .i64 0, .int .i64 0, .int .i64 0, .int .i64 0, .int .i64 0, .int .i64 0, .int .i64 0, .int .i64 0, .int .i64 0, .int .i64 0, .int .i64 0]) 11 Tryz.underlying26 hi hz0 hz1 .i64 .i64 _ _ n rfl rfl rfl rfl ?q3 ?q4 ?q5 ?_)
  any_goals (first | (rw [hz2]; omega) | (unfold maxLen; omega) | exact Nat.le_refl _)
  intro w1 hown hgrow
  obtain ⟨cur, hg, hcs⟩ : ∃ cur, w1.heap[w.heap.size]? = some (.cells cur 54 (0, 0)) ∧ cur.size = n * 11 := by
    rcases hown.2 with ⟨h', _⟩ | ⟨g', cap', cur, h', _, hg, _, _, hcs, _⟩
    · simp at h'
    · simp only [Value.slice.injEq, Option.some.injEq, Addr.mk.injEq, and_true, true_and] at h'
      obtain ⟨rfl, rfl⟩ := h'
      exact ⟨cur, hg, hcs⟩
  have hg' := hide hg
  have hgrow' := hide hgrow
  have hcs' := hide hcs
  clear hown hg hgrow hcs hi hz0 hz1 hz2
  obtain ⟨w2, hrun, hrow, hgr2⟩ := run_copy_whole 26 26 3 54 Tryz.underlying26 11 hsz w.heap.size n n ⟨b, 0, none⟩ cp cur _ (unhide hg') (Gd.list m F) ((Gd.list_len m F).trans hm) (Gd.list_src fun c hc => (grown_cell (unhide hgrow') b c hb (by simp)).trans (unhide hF' c hc)) (by rw [Gd.list_len, unhide hcs', hm]) (Gd.list_one (unhide h1'))
  have hfin := hide (Arr.of_list hrow)
  have hgw := hide (show w.grownBy w2 none from grown_own (unhide hgrow') hgr2 (fun k e => by cases e; exact Nat.le_refl _))
  clear hrow hgr2 hb hm hn hsz
  go_wp2
  go_ret
  exact ⟨w.heap.size, rfl, Nat.le_refl _, unhide hfin, unhide hgw⟩

set_option maxHeartbeats 800000 in
theorem crawlTwinItems_any (b n m cp : Nat) (F : Nat → Value) (w : World) (hn : n ≤ 1000) (hm : m = n * 4) (h1 : ∀ c, (F c).oneCell' = true) (hF : ∀ c, c < m → w.cell? ⟨b, c, none⟩ = some (F c)) (hb : b < w.heap.size) :
    Calls Tryz.prog 67 #[.slice (some ⟨b, 0, none⟩) n cp] w (Copies w 62 n m F) := by
  have hF' := hide hF
  have h1' := hide h1
  obtain ⟨i0, hi, hz0, hz1, hz2⟩ := info_parts info_item
  have hsz : (Tryz.prog.info? 62).map (·.size) = some 4 := by rw [hi]; simp [hz1]
  clear hF h1
  go_enter Tryz.func67, Tryz.ntmps67
  go_wp2_with (at_make; refine wpList_make_full _ rfl _ _ 27 rfl w.heap.size 62 i0 (.agg #[.int .i64 0, .int .i64 0, .int .i64 0, .int .i64 0]) 4 Tryz.underlying27 hi hz0 hz1 .i64 .i64 _ _ n rfl rfl rfl rfl ?q3 ?q4 ?q5 ?_)
  any_goals (first | (rw [hz2]; omega) | (unfold maxLen; omega) | exact Nat.le_refl _)
  intro w1 hown hgrow
  obtain ⟨cur, hg, hcs⟩ : ∃ cur, w1.heap[w.heap.size]? = some (.cells cur 62 (0, 0)) ∧ cur.size = n * 4 := by
    rcases hown.2 with ⟨h', _⟩ | ⟨g', cap', cur, h', _, hg, _, _, hcs, _⟩
    · simp at h'
    · simp only [Value.slice.injEq, Option.some.injEq, Addr.mk.injEq, and_true, true_and] at h'
      obtain ⟨rfl, rfl⟩ := h'
      exact ⟨cur, hg, hcs⟩
  have hg' := hide hg
  have hgrow' := hide hgrow
  have hcs' := hide hcs
  clear hown hg hgrow hcs hi hz0 hz1 hz2
  obtain ⟨w2, hrun, hrow, hgr2⟩ := run_copy_whole 27 27 3 62 Tryz.underlying27 4 hsz w.heap.size n n ⟨b, 0, none⟩ cp cur _ (unhide hg') (Gd.list m F) ((Gd.list_len m F).trans hm) (Gd.list_src fun c hc => (grown_cell (unhide hgrow') b c hb (by simp)).trans (unhide hF' c hc)) (by rw [Gd.list_len, unhide hcs', hm]) (Gd.list_one (unhide h1'))
  have hfin := hide (Arr.of_list hrow)
  have hgw := hide (show w.grownBy w2 none from grown_own (unhide hgrow') hgr2 (fun k e => by cases e; exact Nat.le_refl _))
  clear hrow hgr2 hb hm hn hsz
  go_wp2
  go_ret
  exact ⟨w.heap.size, rfl, Nat.le_refl _, unhide hfin, unhide hgw⟩

set_option maxHeartbeats 3200000 in
theorem crawlApart_wide (s g c : Nat → Int) (E I : Nat → Nat → Int) (gC gE gI cC cE cI : Nat) (w : World) (hL : Gd.Lists w gC gE gI c E I) :
    Calls Tryz.prog 28 #[.agg (Gd.world s gC gE gI cC cE cI g)] w (Gd.WorldsW w s g c E I) := by
  have hL' := hide hL
  have hbox := (Arr.world (heap_alloc_new w (.cells (Gd.world s gC gE gI cC cE cI g) 30))).alloc (.cells #[.int .i64 0, .int .i64 0, .int .i64 0, .int .i64 0, .slice none 0 0, .slice none 0 0, .slice none 0 0, .int .i64 0, .int .i64 0, .int .i64 0, .int .i64 0] 30)
  unfold Gd.world at hbox ⊢
  have hres := Arr.lit (heap_alloc_new (w.alloc (.cells #[.int .i64 (s 0), .int .i64 (s 1), .int .i64 (s 2), .int .i64 (s 3), .slice (some ⟨gC, 0, none⟩) 384 cC, .slice (some ⟨gE, 0, none⟩) 32 cE, .slice (some ⟨gI, 0, none⟩) 40 cI, .int .i64 (g 0), .int .i64 (g 1), .int .i64 (g 2), .int .i64 (g 3)] 30)) (.cells #[.int .i64 0, .int .i64 0, .int .i64 0, .int .i64 0, .slice none 0 0, .slice none 0 0, .slice none 0 0, .int .i64 0, .int .i64 0, .int .i64 0, .int .i64 0] 30))
  have hg0 : w.grownBy ((w.alloc (.cells #[.int .i64 (s 0), .int .i64 (s 1), .int .i64 (s 2), .int .i64 (s 3), .slice (some ⟨gC, 0, none⟩) 384 cC, .slice (some ⟨gE, 0, none⟩) 32 cE, .slice (some ⟨gI, 0, none⟩) 40 cI, .int .i64 (g 0), .int .i64 (g 1), .int .i64 (g 2), .int .i64 (g 3)] 30)).alloc (.cells #[.int .i64 0, .int .i64 0, .int .i64 0, .int .i64 0, .slice none 0 0, .slice none 0 0, .slice none 0 0, .int .i64 0, .int .i64 0, .int .i64 0, .int .i64 0] 30)) none := grown_alloc (World.grownBy_alloc _ _ _) _
  rw [show (w.alloc (.cells #[.int .i64 (s 0), .int .i64 (s 1), .int .i64 (s 2), .int .i64 (s 3), .slice (some ⟨gC, 0, none⟩) 384 cC, .slice (some ⟨gE, 0, none⟩) 32 cE, .slice (some ⟨gI, 0, none⟩) 40 cI, .int .i64 (g 0), .int .i64 (g 1), .int .i64 (g 2), .int .i64 (g 3)] 30)).heap.size = w.heap.size + 1 by simp] at hres
  clear hL
  go_enter Tryz.func28, Tryz.ntmps28
  go_upto_region 1 with fail
  obtain ⟨w0, hw0⟩ : ∃ w0, (w.alloc (.cells #[.int .i64 (s 0), .int .i64 (s 1), .int .i64 (s 2), .int .i64 (s 3), .slice (some ⟨gC, 0, none⟩) 384 cC, .slice (some ⟨gE, 0, none⟩) 32 cE, .slice (some ⟨gI, 0, none⟩) 40 cI, .int .i64 (g 0), .int .i64 (g 1), .int .i64 (g 2), .int .i64 (g 3)] 30)).alloc (.cells #[.int .i64 0, .int .i64 0, .int .i64 0, .int .i64 0, .slice none 0 0, .slice none 0 0, .slice none 0 0, .int .i64 0, .int .i64 0, .int .i64 0, .int .i64 0] 30) = w0 := ⟨_, rfl⟩
  rw [hw0] at hbox hres hg0 ⊢
  obtain ⟨B, hB⟩ : ∃ B, w.heap.size = B := ⟨_, rfl⟩
  rw [hB] at hbox hres ⊢
  have hbox' := hide hbox
  have hres' := hide hres
  have hg0' := hide hg0
  have hB' := hide hB
  have keep : Hid (∀ y, Hid (w0.grownBy y none) → (y.cell? ⟨B, 4, none⟩ = some (.slice (some ⟨gC, 0, none⟩) 384 cC) ∧ y.cell? ⟨B, 5, none⟩ = some (.slice (some ⟨gE, 0, none⟩) 32 cE) ∧ y.cell? ⟨B, 6, none⟩ = some (.slice (some ⟨gI, 0, none⟩) 40 cI)) ∧ y.frozen? ⟨B, 4, none⟩ = false ∧ y.frozen? ⟨B, 5, none⟩ = false ∧ y.frozen? ⟨B, 6, none⟩ = false) := fun y hy => by
    have h := (unhide hbox').grown (unhide hy) (by simp)
    exact ⟨⟨h.cell (i := 4) (by omega), h.cell (i := 5) (by omega), h.cell (i := 6) (by omega)⟩, h.free 4, h.free 5, h.free 6⟩
  have hd : Hid (w0.grownBy w0.drew none) := grown_drew1 (World.grownBy.refl _ _)
  have rd : Hid (∀ y, Hid (w0.grownBy y none) → Gd.Lists y gC gE gI c E I) := fun y hy => (unhide hL').on (grown_trans (unhide hg0') (unhide hy))
  have c1 : Hid (∀ y, Hid (w0.grownBy y none) → Calls Tryz.prog 65 #[.slice (some ⟨gC, 0, none⟩) 384 cC] y fun e w' => ∃ g1, e = .returned (.slice (some ⟨g1, 0, none⟩) 384 384) ∧ Hid (y.heap.size ≤ g1) ∧ Hid (Lie w' g1 5 384 (Byts c)) ∧ Hid (y.grownBy w' none) ∧ Hid (w0.grownBy w' none)) := fun y hy =>
    (crawlTwinBytes_any gC 384 384 cC (Byts c) y (by omega) (by omega) (fun _ => rfl) (unhide rd y hy).read.1 (unhide rd y hy).cells.lt).mono fun e w' ⟨g1, h1, h2, h3, h4⟩ => ⟨g1, h1, h2, h3.lie, h4, grown_trans (unhide hy) h4⟩
  have c2 : Hid (∀ y, Hid (w0.grownBy y none) → Calls Tryz.prog 66 #[.slice (some ⟨gE, 0, none⟩) 32 cE] y fun e w' => ∃ g1, e = .returned (.slice (some ⟨g1, 0, none⟩) 32 32) ∧ Hid (y.heap.size ≤ g1) ∧ Hid (Lie w' g1 54 352 (En.flat E)) ∧ Hid (y.grownBy w' none) ∧ Hid (w0.grownBy w' none)) := fun y hy =>
    (crawlTwinEnts_any gE 32 352 cE (En.flat E) y (by omega) (by omega) (fun _ => rfl) (unhide rd y hy).read.2.1 (unhide rd y hy).ents.lt).mono fun e w' ⟨g1, h1, h2, h3, h4⟩ => ⟨g1, h1, h2, h3.lie, h4, grown_trans (unhide hy) h4⟩
  have c3 : Hid (∀ y, Hid (w0.grownBy y none) → Calls Tryz.prog 67 #[.slice (some ⟨gI, 0, none⟩) 40 cI] y fun e w' => ∃ g1, e = .returned (.slice (some ⟨g1, 0, none⟩) 40 40) ∧ Hid (y.heap.size ≤ g1) ∧ Hid (Lie w' g1 62 160 (Gd.flat I)) ∧ Hid (y.grownBy w' none) ∧ Hid (w0.grownBy w' none)) := fun y hy =>
    (crawlTwinItems_any gI 40 160 cI (Gd.flat I) y (by omega) (by omega) (fun _ => rfl) (unhide rd y hy).read.2.2 (unhide rd y hy).items.lt).mono fun e w' ⟨g1, h1, h2, h3, h4⟩ => ⟨g1, h1, h2, h3.lie, h4, grown_trans (unhide hy) h4⟩
  obtain ⟨⟨q4, q5, q6⟩, r4, r5, r6⟩ := unhide keep w0 (World.grownBy.refl _ _)
  clear hbox hres hg0 hw0 hB
  go_cut [] from 3 (fun wx => ∃ g1 g2 g3, Hid (Gd.Hold wx B g1 g2 g3 384 32 40 s g c E I ∧ B + 2 ≤ g1 ∧ B + 2 ≤ g2 ∧ B + 2 ≤ g3 ∧ Arr wx (B + 1) 30 11 (fun j => #[.int .i64 0, .int .i64 0, .int .i64 0, .int .i64 0, .slice none 0 0, .slice none 0 0, .slice none 0 0, .int .i64 0, .int .i64 0, .int .i64 0, Value.int .i64 0][j]?.getD undef) ∧ w.grownBy wx none))
  case first =>
    go_region_with (first | (go_at_call 65; refine (unhide c1 _ hd).mono ?_; rintro e w1 ⟨g1, rfl, l1, a1, n1, n01⟩; obtain ⟨⟨z4, z5, z6⟩, f4, f5, f6⟩ := unhide keep w1 n01) | (go_at_call 66; refine (unhide c2 _ n01).mono ?_; rintro e w2 ⟨g2, rfl, l2, a2, n2, n02⟩; obtain ⟨⟨z4, z5, z6⟩, f4, f5, f6⟩ := unhide keep w2 n02) | (go_at_call 67; refine (unhide c3 _ n02).mono ?_; rintro e w3 ⟨g3, rfl, l3, a3, n3, n03⟩; obtain ⟨⟨z4, z5, z6⟩, f4, f5, f6⟩ := unhide keep w3 n03))
    all_goals
      go_wp2_with fail
      go_meet
      exact ⟨g1, g2, g3, Gd.apart_hold (unhide hbox') (unhide hres') (unhide hg0') (unhide hB') (unhide hd) (unhide l1) (unhide a1) (unhide n1) (unhide l2) (unhide a2) (unhide n2) (unhide l3) (unhide a3) (unhide n3)⟩
  case rest =>
    obtain ⟨g1, g2, g3, hr⟩ := hcut
    clear keep hd rd c1 c2 c3 q4 q5 q6 r4 r5 r6 hbox' hres' hg0' hL'
    obtain ⟨b0, b1, b2, b3, b4, b5, b6, b7, b8, b9, b10⟩ := (unhide hr).1.box.eleven
    have fz := (unhide hr).2.2.2.2.1.free
    have zc := fun j (hj : j < 11) => (unhide hr).2.2.2.2.1.cell (i := j) hj
    have z0 := zc 0 (by omega)
    have z1 := zc 1 (by omega)
    have z2 := zc 2 (by omega)
    have z3 := zc 3 (by omega)
    have z4 := zc 4 (by omega)
    have z5 := zc 5 (by omega)
    have z6 := zc 6 (by omega)
    have z7 := zc 7 (by omega)
    have z8 := zc 8 (by omega)
    have z9 := zc 9 (by omega)
    have z10 := zc 10 (by omega)
    simp only [List.getElem?_toArray, List.getElem?_cons_zero, List.getElem?_cons_succ, Option.getD_some] at z0 z1 z2 z3 z4 z5 z6 z7 z8 z9 z10
    have hfin : Hid (∀ vs : List Value, Gd.Lists (wc.setCells (B + 1) 0 vs) g1 g2 g3 c E I ∧ w.grownBy (wc.setCells (B + 1) 0 vs) none) := fun vs => by
      obtain ⟨hH, h1, h2, h3, hA, hg⟩ := unhide hr
      have hB := unhide hB'
      have r := grown_sets (g := B + 1) vs 0 wc (World.grownBy.refl _ _)
      exact ⟨⟨hH.lists.cells.grown r (by simp; omega), hH.lists.ents.grown r (by simp; omega), hH.lists.items.grown r (by simp; omega)⟩, own_sets (by omega) vs 0 wc hg⟩
    clear zc
    go_wp2
    refine bodyPost_ret (v := .agg (Gd.world s g1 g2 g3 384 32 40 g)) (by simp [results, Tryz.results28, go_sem, Gd.world, z0, z1, z2, z3, z4, z5, z6, z7, z8, z9, z10]) rfl ?_
    obtain ⟨hH, h1, h2, h3, _, _⟩ := unhide hr
    have hB := unhide hB'
    exact ⟨g1, g2, g3, 384, 32, 40, rfl, ⟨Nat.le_refl _, Nat.le_refl _⟩, by omega, by omega, by omega, hH.cE, hH.cI, hH.eI, (unhide hfin [_, _, _, _, _, _, _, _, _, _, _]).1, (unhide hfin [_, _, _, _, _, _, _, _, _, _, _]).2⟩

end Go.Proofs.YtbanjoflgoiegaaGreat
