/-
  The document's disk: Write.
-/
import Derived.Test.YtnpdmfhknbfmhaaDiskRef
namespace Go.Proofs.Ytnpdmfhknbfmhaa
open Go.RowKit

theorem owns_less {x : World} {base base' : Nat} {T : TypeId} {z : Nat} {v : Value} {n : Nat} {xs : List Value} (h : x.ownsRow base T z v n xs) (hb : base' ≤ base) : x.ownsRow base' T z v n xs := by
  obtain ⟨h1, h2⟩ := h
  refine ⟨h1, ?_⟩
  rcases h2 with h2 | ⟨g, cap, cur, rfl, hg, hr⟩
  · exact .inl h2
  · exact .inr ⟨g, cap, cur, rfl, Nat.le_trans hb hg, hr⟩

/-- A sector is laid anew. -/
theorem Dk.Dsk.write {x y : World} {base p g cap : Nat} {Vs : List Value} {ps : List (List Int)} {m : Nat} {done left : Int} {dead : Bool} (H : Dk.Dsk x base p (.slice (some ⟨g, 0, none⟩) m cap) Vs ps done left dead) (hg : x.grownBy y none) {n : Nat} (hn : n < ps.length) {u : Value} {l : List Int} (hu : y.ownsRow base 5 1 u l.length (Ck.bys l)) (hv : u ≠ .slice none 0 0) (h64 : l.length = 64) :
    Dk.Dsk (y.setCell ⟨g, n, none⟩ u) base p (.slice (some ⟨g, 0, none⟩) m cap) (Vs.set n u) (ps.set n l) done left dead ∧ Turn (fun k => k = g) x (y.setCell ⟨g, n, none⟩ u) := by
  have Hy := H.on hg
  have hpg : p ≠ g := fun e => Hy.apart.1 (by rw [e]; rfl)
  have t : Turn (fun k => k = g) y (y.setCell ⟨g, n, none⟩ u) := (Turn.refl (fun k => k = g) y).store g n u rfl
  have hm : m = ps.length := by
    rcases Hy.rows.own.2 with ⟨e, _⟩ | ⟨_, _, _, e, _⟩
    · cases e
    · simp at e
      exact e.2.1
  subst hm
  refine ⟨{ Hy with box := Hy.box.turn t hpg, rows := ⟨by rw [List.length_set]; exact (World.ownsRow.stored Hy.rows.own n u).1, fun k w c h1 h2 => ?_⟩, len := by rw [List.length_set, List.length_set]; exact Hy.len, some_ := by rw [List.length_set]; exact Hy.some_, most := by rw [List.length_set]; exact Hy.most, sect := fun c hc => ?_ }, (Turn.new hg).trans t (fun i _ e => e)⟩
  · by_cases e : n = k
    · subst e
      rw [List.getElem?_set_self (by rw [Hy.len]; exact hn)] at h1
      rw [List.getElem?_set_self hn] at h2
      simp at h1 h2
      subst h1
      subst h2
      exact ⟨owns_turned hu t (fun j e q => Ck.apart Hy.rows.own hu (by decide) g rfl (by rw [e, q])), hv⟩
    · rw [List.getElem?_set_ne e] at h1 h2
      obtain ⟨p1, p2⟩ := Hy.rows.each k w c h1 h2
      exact ⟨owns_turned p1 t (fun j e q => Ck.apart Hy.rows.own p1 (by decide) g rfl (by rw [e, q])), p2⟩
  · rcases List.mem_or_eq_of_mem_set hc with h | h
    · exact Hy.sect c h
    · rw [h]; exact h64

theorem refWrite_dead (base p : Nat) (v : Value) (Vs : List Value) (ps : List (List Int)) (done left : Int) (n : Int) (b : Value) (w : World) (H : Dk.Dsk w base p v Vs ps done left true) :
    Calls Try.prog 13 #[.pointer (some ⟨p, 0, none⟩), .int .i64 n, b] w fun e w' => e = .returned (.int .i64 11) ∧ w' = w := by
  obtain ⟨c0, c1, c2, c3, f0⟩ := H.cells
  clear H
  go_enter Try.func13, Try.ntmps13
  go_wp2
  go_ret
  exact ⟨rfl, rfl⟩

theorem refWrite_arg (base p : Nat) (v : Value) (Vs : List Value) (ps : List (List Int)) (done left : Int) (n : Int) (a : Option Addr) (len cap : Nat) (w : World) (H : Dk.Dsk w base p v Vs ps done left false) (h : n < 0 ∨ (ps.length : Int) ≤ n ∨ len ≠ 64) :
    Calls Try.prog 13 #[.pointer (some ⟨p, 0, none⟩), .int .i64 n, .slice a len cap] w fun e w' => e = .returned (.int .i64 1) ∧ w' = w := by
  obtain ⟨g, cp, rfl, hcap, _⟩ := H.form
  obtain ⟨c0, c1, c2, c3, f0⟩ := H.cells
  have hm : (ps.length : Int) ≤ 1024 := by have := H.most; omega
  clear H
  obtain ⟨m, hmm⟩ : ∃ m, ps.length = m := ⟨_, rfl⟩
  rw [hmm] at c0 h hm
  clear hmm hcap
  by_cases h1 : n < 0
  · go_enter Try.func13, Try.ntmps13
    go_wp2
    go_ret
    exact ⟨rfl, rfl⟩
  by_cases h2 : (m : Int) ≤ n
  · clear h
    go_enter Try.func13, Try.ntmps13
    go_wp2
    go_ret
    exact ⟨rfl, rfl⟩
  have h3 : len ≠ 64 := (h.resolve_left h1).resolve_left h2
  have h4 : ((len : Int) != 64) = true := by simp; omega
  clear h h3
  go_enter Try.func13, Try.ntmps13
  go_wp2
  go_ret
  exact ⟨rfl, rfl⟩

theorem refWrite_cut (base p : Nat) (v : Value) (Vs : List Value) (ps : List (List Int)) (done : Int) (n : Nat) (a : Option Addr) (cap : Nat) (w : World) (H : Dk.Dsk w base p v Vs ps done 0 false) (hn : n < ps.length) :
    Calls Try.prog 13 #[.pointer (some ⟨p, 0, none⟩), .int .i64 (n : Int), .slice a 64 cap] w fun e w' => e = .returned (.int .i64 11) ∧ Dk.Dsk w' base p v Vs ps done 0 true ∧ Turn (fun k => k = p) w w' := by
  have hfin := hide (And.intro (H.set 3 (.bool true) (done' := done) (left' := 0) (dead' := true) (fun j hj => by rcases (show j = 0 ∨ j = 1 ∨ j = 2 ∨ j = 3 by omega) with rfl | rfl | rfl | rfl <;> rfl)) ((Turn.refl (fun k => k = p) w).store p 3 (.bool true) rfl))
  obtain ⟨g, cp, rfl, hcap, _⟩ := H.form
  obtain ⟨c0, c1, c2, c3, f0⟩ := H.cells
  have hm : (ps.length : Int) ≤ 1024 := by have := H.most; omega
  have g1 : (n : Int) < (ps.length : Int) := by omega
  clear H
  obtain ⟨m, hmm⟩ : ∃ m, ps.length = m := ⟨_, rfl⟩
  rw [hmm] at c0 g1 hm hfin
  have HF := hide hmm
  clear hcap hn hmm
  go_enter Try.func13, Try.ntmps13
  go_wp2
  go_ret
  rw [unhide HF]
  exact ⟨rfl, unhide hfin⟩

set_option maxRecDepth 4000 in
set_option maxHeartbeats 3200000 in
theorem refWrite_ok (base p : Nat) (v : Value) (Vs : List Value) (ps : List (List Int)) (done left : Int) (n : Nat) (ad : Addr) (cb : Nat) (l : List Int) (w : World) (H : Dk.Dsk w base p v Vs ps done left false) (hn : n < ps.length) (hs : ∀ j u, (Ck.bys l)[j]? = some u → w.cell? (ad.add j) = some u) (hsp : ad.block ≠ p) (h64 : l.length = 64) (hl0 : left ≠ 0) (hl1 : -1 ≤ left) (hl2 : left ≤ 9223372036854775807) (hd0 : 0 ≤ done) (hd1 : done ≤ 1099511627776) :
    Calls Try.prog 13 #[.pointer (some ⟨p, 0, none⟩), .int .i64 (n : Int), .slice (some ad) l.length cb] w fun e w' => e = .returned (.int .i64 0) ∧ (∃ g cap u, v = .slice (some ⟨g, 0, none⟩) ps.length cap ∧ Dk.Dsk w' base p v (Vs.set n u) (ps.set n l) (done + 1) (if 0 < left then left - 1 else left) false ∧ Turn (fun k => k = p ∨ k = g) w w' ∧ ∀ k, u.ownBlock = some k → w.heap.size ≤ k) := by
  obtain ⟨g, cp, rfl, hcap, hrow0⟩ := H.form
  obtain ⟨c0, c1, c2, c3, f0⟩ := H.cells
  have hm : (ps.length : Int) ≤ 1024 := by have := H.most; omega
  have g1 : (n : Int) < (ps.length : Int) := by omega
  have e64 : ((l.length : Int) != 64) = false := by simp [h64]
  have e0 : (left == 0) = false := by simp [hl0]
  obtain ⟨left', hle⟩ : ∃ x, (if 0 < left then left - 1 else left) = x := ⟨_, rfl⟩
  rw [hle]
  have HD0 := hide H
  have hbw : Hid (base ≤ w.heap.size) := Nat.le_trans H.low (Nat.le_of_lt H.box.lt)
  have H64 := hide h64
  have HS := hide hs
  have HN := hide hn
  have HSP := hide hsp
  obtain ⟨m, hmm⟩ : ∃ m, ps.length = m := ⟨_, rfl⟩
  have HM := hide hmm
  obtain ⟨q, hq⟩ : ∃ q, l.length = q := ⟨_, rfl⟩
  have HQ := hide hq
  rw [hmm] at c0 g1 hm ⊢
  rw [hq] at e64 ⊢
  have hq64 : Hid (q = 64) := (show q = 64 by omega)
  have hqi : (q : Int) ≤ 64 := by omega
  obtain ⟨P, hP⟩ : ∃ P : Ending → World → Prop, (fun e w' => e = .returned (.int .i64 0) ∧ (∃ g' cap u, Value.slice (some ⟨g, 0, none⟩) m cp = .slice (some ⟨g', 0, none⟩) m cap ∧ Dk.Dsk w' base p (.slice (some ⟨g, 0, none⟩) m cp) (Vs.set n u) (ps.set n l) (done + 1) left' false ∧ Turn (fun k => k = p ∨ k = g') w w' ∧ ∀ k, u.ownBlock = some k → w.heap.size ≤ k)) = P := ⟨_, rfl⟩
  rw [hP]
  have hpost : Hid (∀ x u, Dk.Dsk x base p (.slice (some ⟨g, 0, none⟩) m cp) (Vs.set n u) (ps.set n l) (done + 1) left' false → Turn (fun k => k = p ∨ k = g) w x → (∀ k, u.ownBlock = some k → w.heap.size ≤ k) → P (.returned (.int .i64 0)) x) := fun x u h1 h2 h3 => by
    rw [← hP]
    exact ⟨rfl, g, cp, u, rfl, h1, h2, h3⟩
  clear hP H h64 hs hn hsp hmm hq hcap hrow0 hl0
  go_enter Try.func13, Try.ntmps13
  go_upto_if 39 with fail
  go_cut [] from 7 to 46 (fun wx => Hid (Dk.Dsk wx base p (.slice (some ⟨g, 0, none⟩) m cp) Vs ps done left' false ∧ Turn (fun k => k = p) w wx))
  case first =>
    by_cases h : 0 < left
    · have hl : left' = left - 1 := by rw [← hle, if_pos h]
      have hst : Hid (Dk.Dsk (w.setCell ⟨p, 2, none⟩ (.int .i64 (left - 1))) base p (.slice (some ⟨g, 0, none⟩) m cp) Vs ps done left' false ∧ Turn (fun k => k = p) w (w.setCell ⟨p, 2, none⟩ (.int .i64 (left - 1)))) := by
        have h0 := unhide HD0
        rw [unhide HM] at h0
        rw [hl]
        exact ⟨h0.set 2 _ (fun j hj => by rcases (show j = 0 ∨ j = 1 ∨ j = 2 ∨ j = 3 by omega) with rfl | rfl | rfl | rfl <;> rfl), (Turn.refl (fun k => k = p) w).store p 2 _ rfl⟩
      clear hle hl
      go_wp2_with fail
      go_meet
      exact hst
    · have hst : Hid (Dk.Dsk w base p (.slice (some ⟨g, 0, none⟩) m cp) Vs ps done left' false ∧ Turn (fun k => k = p) w w) := by
        have h0 := unhide HD0
        rw [unhide HM] at h0
        rw [if_neg h] at hle
        rw [← hle]
        exact ⟨h0, Turn.refl _ _⟩
      clear hle
      go_wp2_with fail
      go_meet
      exact hst
  case rest =>
  obtain ⟨w1, hw1⟩ : ∃ w1, wc = w1 := ⟨_, rfl⟩
  rw [hw1] at hcut ⊢
  clear hw1 wc
  have hD1 := hide (unhide hcut).1
  have ht1 := hide (unhide hcut).2
  clear hcut c0 c1 c2 c3 f0 hle e0 e64 hl1 hl2 HD0
  have hkeep : Hid (∀ x, w1.grownBy x none → x.cell? ⟨p, 0, none⟩ = some (.slice (some ⟨g, 0, none⟩) m cp)) := fun x hx => ((unhide hD1).on hx).cells.1
  obtain ⟨u0, hu0⟩ : ∃ u, Vs[n]? = some u := ⟨_, List.getElem?_eq_getElem (by rw [(unhide hD1).len]; exact unhide HN)⟩
  have hrow : Hid (∀ x, w1.grownBy x none → x.cell? ⟨g, n, none⟩ = some u0) := fun x hx => by
    obtain ⟨g', c', e, _, hr⟩ := ((unhide hD1).on hx).form
    simp only [Value.slice.injEq, Option.some.injEq, Addr.mk.injEq, and_true] at e
    rw [e.1, hr n (unhide HN), hu0]
  have hfg : Hid (∀ x, w1.grownBy x none → ∀ i, x.frozen? ⟨g, i, none⟩ = false) := fun x hx i => by
    have h := ((unhide hD1).on hx).rows.own
    rw [unhide HM] at h
    exact h.frozenAt i
  obtain ⟨i0, hi, hz0, hz1, hz2⟩ := info_parts info_by
  obtain ⟨z, hz⟩ : ∃ z, (w1.alloc (.cells #[] 5)).drew = z := ⟨_, rfl⟩
  have hS0 : Hid (w1.grownBy w1.drew none) := grown_drew (World.grownBy.refl _ none) 1
  have hS1 : Hid (w1.grownBy z none) := by rw [← hz]; exact grown_drew (World.grownBy_alloc w1 (.cells #[] 5) none) 1
  have hoz : Hid (z.ownsRow w.heap.size 5 1 (.slice (some ⟨w1.heap.size, 0, none⟩) 0 0) 0 []) := by
    rw [← hz]
    exact World.ownsRow_lit (base := w.heap.size) (e := 5) (size := 1) w1 #[] 0 (unhide ht1).size (by unfold maxLen; omega) rfl
  have hbz : Hid (w.heap.size ≤ z.heap.size) := Nat.le_trans (unhide ht1).size (unhide hS1).size
  have hlen : Hid ((Ck.bys l).length = q * 1) := by show (Ck.bys l).length = q * 1; unfold Ck.bys; simp [unhide HQ]
  have hone : Hid (∀ u ∈ Ck.bys l, u.oneCell' = true) := fun u hu => by
    obtain ⟨q, -, rfl⟩ := List.mem_map.1 hu
    rfl
  have hnews : Hid (∀ j u, (Ck.bys l)[j]? = some u → z.cell? (ad.add j) = some u) := fun j u hj => by
    have h3 := unhide HS j u hj
    have hb : (ad.add j).block = ad.block := by unfold Addr.add; split <;> rfl
    have h4 : w1.cell? (ad.add j) = some u := (World.cell?_of_block ((unhide ht1).block _ (Go.block_lt_of_cell h3) (by rw [hb]; exact unhide HSP))).trans h3
    exact (World.cell?_of_block ((unhide hS1).block _ (Go.block_lt_of_cell h4) (by simp))).trans h4
  go_upto_region 10 with fail
  refine wp_region_till (h := 9) (S := fun x => Hid (w1.grownBy x none)) (by kernel_rfl) ?_
  refine wpTill_take (i := 0) (v := ?_) [9] rfl (by kernel_rfl) (by kernel_rfl) (by kernel_rfl) (by kernel_rfl) (fun _ _ _ h => h) hS0 (Or.inl ⟨by rfl, ?_⟩) ?_
  rotate_left
  · intro x hSx
    clear hSx
    go_simp
    try with_reducible rfl
  simp only [Act.put, List.getElem_toArray, List.getElem_cons_zero, List.setIfInBounds_toArray, List.set_cons_succ, List.set_cons_zero]
  refine wpTill_take (i := 1) (v := ?_) [9] rfl (by kernel_rfl) (by kernel_rfl) (by kernel_rfl) (by kernel_rfl) (fun _ _ _ h => h) hS0 (Or.inl ⟨by rfl, ?_⟩) ?_
  rotate_left
  · intro x hSx
    clear hSx
    go_simp
    try with_reducible rfl
  simp only [Act.put, List.getElem_toArray, List.getElem_cons_zero, List.getElem_cons_succ, List.setIfInBounds_toArray, List.set_cons_succ, List.set_cons_zero]
  refine wpTill_take (i := 2) (v := ?_) [9] rfl (by kernel_rfl) (by kernel_rfl) (by kernel_rfl) (by kernel_rfl) (fun _ _ _ h => h) hS0 (Or.inl ⟨by rfl, ?_⟩) ?_
  rotate_left
  · intro x hSx
    clear hSx
    go_simp
    try with_reducible rfl
  simp only [Act.put, List.getElem_toArray, List.getElem_cons_zero, List.getElem_cons_succ, List.setIfInBounds_toArray, List.set_cons_succ, List.set_cons_zero]
  refine wpTill_take (i := 3) (v := ?_) [9] rfl (by kernel_rfl) (by kernel_rfl) (by kernel_rfl) (by kernel_rfl) (fun _ _ _ h => h) hS0 (Or.inl ⟨by rfl, ?_⟩) ?_
  rotate_left
  · intro x hSx
    have b0 := (unhide hkeep x (unhide hSx))
    clear hSx
    go_simp
    try with_reducible rfl
  simp only [Act.put, List.getElem_toArray, List.getElem_cons_zero, List.getElem_cons_succ, List.setIfInBounds_toArray, List.set_cons_succ, List.set_cons_zero]
  refine wpTill_take (i := 4) (v := ?_) [9] rfl (by kernel_rfl) (by kernel_rfl) (by kernel_rfl) (by kernel_rfl) (fun _ _ _ h => h) hS0 (Or.inl ⟨by rfl, ?_⟩) ?_
  rotate_left
  · intro x hSx
    clear hSx
    go_simp
    try with_reducible rfl
  simp only [Act.put, List.getElem_toArray, List.getElem_cons_zero, List.getElem_cons_succ, List.setIfInBounds_toArray, List.set_cons_succ, List.set_cons_zero]
  refine wpTill_take (i := 6) (v := ?_) [9] rfl (by kernel_rfl) (by kernel_rfl) (by kernel_rfl) (by kernel_rfl) (fun _ _ _ h => h) hS0 (Or.inl ⟨by rfl, ?_⟩) ?_
  rotate_left
  · intro x hSx
    clear hSx
    go_simp
    try with_reducible rfl
  simp only [Act.put, List.getElem_toArray, List.getElem_cons_zero, List.getElem_cons_succ, List.setIfInBounds_toArray, List.set_cons_succ, List.set_cons_zero]
  refine wpTill_only (j := 5) (by kernel_rfl) rfl (fun K hK => ?_)
  go_simp
  refine hK.out _ _ (fun _ => hS1) ?_
  clear hK K
  try rw [hz]
  refine wpTill_only (j := 7) (by kernel_rfl) rfl (fun K hK => ?_)
  refine Ck.wanted (by rfl) ?_
  refine wp_append_own _ _ _ 31 rfl w.heap.size 5 i0 (.int .u8 0) 1 1 Try.underlying31 hi hz0 hz1 hz2 rfl (by decide) (.slice (some ⟨w1.heap.size, 0, none⟩) 0 0) 0 [] rfl (unhide hoz) ad q cb (Ck.bys l) rfl (unhide hlen) (unhide hnews) (unhide hone) (by unfold maxLen; omega) (by omega) (unhide hbz) ?_
  intro v6 w6 hown hgrow hnil
  try rw [Nat.zero_add] at hown
  try rw [List.nil_append] at hown
  rw [← unhide HQ] at hown
  have hvn : v6 ≠ .slice none 0 0 := fun e => by have := (hnil.1 e).1; simp at this
  obtain ⟨g6, c6, rfl⟩ : ∃ g c, v6 = .slice (some ⟨g, 0, none⟩) l.length c := by
    rcases hown.2 with ⟨e, _⟩ | ⟨g, c, cur, e, _⟩
    · exact absurd e hvn
    · exact ⟨g, c, e⟩
  have hg6 : w1.grownBy w6 none := grown_own (unhide hS1) hgrow (fun q e => by cases e; exact Nat.le_refl _)
  have hD6 := hide ((unhide hD1).write (y := w6) hg6 (unhide HN) (owns_less hown (unhide hbw)) hvn (unhide H64))
  have hub : ∀ k, (Value.slice (some ⟨g6, 0, none⟩) l.length c6).ownBlock = some k → w.heap.size ≤ k := fun k e => (hown.lt k e).1
  have hck6 := unhide hrow w6 hg6
  have hfr := unhide hfg w6 hg6
  have hS6 : Hid (w1.grownBy w6 none) := hg6
  clear hown hgrow hnil hvn hg6
  refine hK.out _ _ (fun _ => hS6) ?_
  clear hK K
  refine wpTill_take (i := 8) (v := ?_) [9] rfl (by kernel_rfl) (by kernel_rfl) (by kernel_rfl) (by kernel_rfl) (fun _ _ _ h => h) hS6 (Or.inl ⟨by rfl, ?_⟩) ?_
  rotate_left
  · intro x hSx
    clear hSx
    go_simp
    try with_reducible rfl
  simp only [Act.put, List.getElem_toArray, List.getElem_cons_zero, List.getElem_cons_succ, List.setIfInBounds_toArray, List.set_cons_succ, List.set_cons_zero]
  refine wpTill_only (j := 9) (by kernel_rfl) rfl (fun K hK => ?_)
  go_simp
  refine hK.out _ _ (fun hx => absurd (hx.symm.trans (by kernel_rfl)) Bool.false_ne_true) ?_
  clear hK K
  refine wpTill_done (by kernel_rfl) ?_ _
  obtain ⟨u6, hu6⟩ : ∃ u6, Value.slice (some ⟨g6, 0, none⟩) l.length c6 = u6 := ⟨_, rfl⟩
  rw [hu6] at hD6 hub ⊢
  obtain ⟨w7, hw7⟩ : ∃ w7, w6.setCell ⟨g, n, none⟩ u6 = w7 := ⟨_, rfl⟩
  rw [hw7] at hD6 ⊢
  obtain ⟨c0, c1, c2, c3, f0⟩ := (unhide hD6).1.cells
  have hfin := hide (unhide hpost (w7.setCell ⟨p, 1, none⟩ (.int .i64 (done + 1))) u6 ((unhide hD6).1.set 1 (.int .i64 (done + 1)) (fun j hj => by rcases (show j = 0 ∨ j = 1 ∨ j = 2 ∨ j = 3 by omega) with rfl | rfl | rfl | rfl <;> rfl)) (((unhide ht1).mono (fun k e => .inl e)).trans (((unhide hD6).2.mono (C := fun k => k = p ∨ k = g) (fun k e => .inr e)).store p 1 _ (.inl rfl)) (fun k _ e => e)) hub)
  clear hu6 hw7 hD6 hpost hkeep hrow hfg hoz hnews hck6 hfr hS6
  go_wp2
  exact unhide hfin

end Go.Proofs.Ytnpdmfhknbfmhaa

