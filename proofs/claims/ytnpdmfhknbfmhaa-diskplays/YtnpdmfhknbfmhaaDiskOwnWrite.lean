/-
  The project's disk: Write where all is well.
-/
import Derived.Test.YtnpdmfhknbfmhaaDiskOwn
namespace Go.Proofs.Ytnpdmfhknbfmhaa
open Go.RowKit Go.Maps

theorem exec_load_row {P : Program} {o : Oper} {a : Act} {w : World} (ty : TypeId) (x : Operand) (ho : o.op = .load ty x) (g : Nat) (hx : a.eval x = .pointer (some ⟨g, 0, none⟩)) {v : Value} (hl : (loadVar ty ⟨g, 0, none⟩).run P w = .ok v w) : (execOp a.eval o).run P w = .ok (.value v) w := by
  unfold execOp
  simp only [ho, hx, Instr.loadAt, Instr.sureAddr, Sem.run_bind, Sem.run_pure, Result.andThen_ok, hl]

def Dk.putF (f : Int → List Int) (n : Int) (l : List Int) : Int → List Int := fun m => if m = n then l else f m

theorem Dk.key_ne {m n : Int} (h : m ≠ n) : (Lit.int .i64 m) ≠ (Lit.int .i64 n) := fun e => h (by simpa using e)

/-- What a write leaves. -/
theorem Dk.Own.write {x z : World} {base p b cnt : Nat} {f : Int → List Int} {done : Nat} {left : Int} {dead : Bool} (H : Dk.Own x base p b cnt f done left dead) {D : DataW Value} (hf : ∀ n : Int, D.atKey (.int .i64 n) (.held (Dk.arr Dk.noughts)) = .held (Dk.arr (f n))) (hM : IsMap D) (n : Int) (hk : WideAt.IsKeyLit (.int .i64 n)) (l : List Int) (h64 : l.length = 64)
    (hz : z.ownsMap Try.prog 3 Dk.R b (done + 1) (D.put (.int .i64 n) (.held (Dk.arr l)))) (hg : x.grownBy z (some b)) : Dk.Own (z.setCell ⟨p, 2, none⟩ (.int .i64 ((done : Int) + 1))) base p b cnt (Dk.putF f n l) (done + 1) left dead := by
  have hA : Arr z p 53 5 _ := H.box.grown hg (fun e => H.apart (by simpa using e))
  refine { H with box := (hA.store 2 _).congr fun j hj => ?_, map := ⟨_, hz.setCell H.apart _, fun m => ?_⟩, sect := fun m => ?_ }
  · rcases (show j = 0 ∨ j = 1 ∨ j = 2 ∨ j = 3 ∨ j = 4 by omega) with rfl | rfl | rfl | rfl | rfl <;> simp
  · unfold Dk.putF
    by_cases e : m = n
    · subst e
      rw [if_pos rfl, atKey_put_same hM hk]
    · rw [if_neg e, atKey_put_other (Dk.key_ne e), hf m]
  · unfold Dk.putF
    split
    · exact h64
    · exact H.sect m

set_option maxRecDepth 8000 in
set_option maxHeartbeats 3200000 in
theorem dkWrite_ok (base p b cnt : Nat) (f : Int → List Int) (done : Nat) (left : Int) (n : Int) (ad : Addr) (cb : Nat) (l : List Int) (w : World) (H : Dk.Own w base p b cnt f done left false) (h : Dk.has cnt n = true) (hs : ∀ j u, (Ck.bys l)[j]? = some u → w.cell? (ad.add j) = some u) (hsp : ad.block ≠ p) (h64 : l.length = 64) (hl0 : left ≠ 0) (hl2 : left ≤ 9223372036854775807) (hd1 : done ≤ 1099511627776) :
    Calls Try.prog 12 #[.pointer (some ⟨p, 0, none⟩), .int .i64 n, .slice (some ad) 64 cb] w fun e w' => e = .returned (.int .i64 0) ∧ Dk.Own w' base p b cnt (Dk.putF f n l) (done + 1) (if 0 < left then left - 1 else left) false ∧ Turn (fun k => k = p ∨ k = b) w w' := by
  obtain ⟨c0, c1, c2, c3, c4, f0⟩ := H.cells
  have hc := dkHas_any p cnt n w c0
  rw [h] at hc
  have hwf := hide (Dk.wf h H.most)
  obtain ⟨left', hle⟩ : ∃ x, (if 0 < left then left - 1 else left) = x := ⟨_, rfl⟩
  rw [hle]
  have e0 : (left == 0) = false := by simp [hl0]
  obtain ⟨P, hP⟩ : ∃ P : Ending → World → Prop, (fun e w' => e = .returned (.int .i64 0) ∧ Dk.Own w' base p b cnt (Dk.putF f n l) (done + 1) left' false ∧ Turn (fun k => k = p ∨ k = b) w w') = P := ⟨_, rfl⟩
  rw [hP]
  have hpost : Hid (∀ x, Dk.Own x base p b cnt (Dk.putF f n l) (done + 1) left' false → Turn (fun k => k = p ∨ k = b) w x → P (.returned (.int .i64 0)) x) := fun x h1 h2 => by
    rw [← hP]
    exact ⟨rfl, h1, h2⟩
  have H0 := hide H
  have HS := hide hs
  have HSP := hide hsp
  have H64 := hide h64
  have HD1 := hide hd1
  clear hP H h hs hsp h64 hl0 hd1
  go_enter Try.func12, Try.ntmps12
  go_upto_block 0 with fail
  go_cut [] from 7 to 60 (fun wx => Hid (Dk.Own wx base p b cnt f done left' false ∧ Turn (fun k => k = p) w wx))
  case first =>
    clear hpost
    by_cases h : 0 < left
    · have hst : Hid (Dk.Own (w.setCell ⟨p, 3, none⟩ (.int .i64 (left - 1))) base p b cnt f done left' false ∧ Turn (fun k => k = p) w (w.setCell ⟨p, 3, none⟩ (.int .i64 (left - 1)))) := by
        rw [if_pos h] at hle
        rw [← hle]
        exact ⟨(unhide H0).set 3 _ (fun j hj => by rcases (show j = 0 ∨ j = 1 ∨ j = 2 ∨ j = 3 ∨ j = 4 by omega) with rfl | rfl | rfl | rfl | rfl <;> rfl), (Turn.refl (fun k => k = p) w).store p 3 _ rfl⟩
      clear hle
      go_wp2_with fail
      refine hc.mono ?_
      rintro e wq ⟨rfl, hq⟩
      obtain rfl : w = wq := hq.symm
      go_wp2_with fail
      go_meet
      exact hst
    · have hst : Hid (Dk.Own w base p b cnt f done left' false ∧ Turn (fun k => k = p) w w) := by
        rw [if_neg h] at hle
        rw [← hle]
        exact ⟨unhide H0, Turn.refl _ _⟩
      clear hle
      go_wp2_with fail
      refine hc.mono ?_
      rintro e wq ⟨rfl, hq⟩
      obtain rfl : w = wq := hq.symm
      go_wp2_with fail
      go_meet
      exact hst
  case rest =>
  obtain ⟨w1, hw1⟩ : ∃ w1, wc = w1 := ⟨_, rfl⟩
  rw [hw1] at hcut ⊢
  clear hw1 wc
  have hD1 := hide (unhide hcut).1
  have ht1 := hide (unhide hcut).2
  clear hcut c0 c1 c2 c3 c4 f0 hle e0 hl2 H0 hc
  obtain ⟨Z, hZ, hz64⟩ : ∃ Z : Array Value, (∀ w, (zeroValue 56).run Try.prog w = .ok (.agg Z) w) ∧ Z.size = 64 := ⟨_, fun w => Dk.zeroE w, by unfold Dk.noughts Ck.bys; simp⟩
  obtain ⟨g, hg⟩ : ∃ g, w1.heap.size = g := ⟨_, rfl⟩
  obtain ⟨x1, hx1⟩ : ∃ x, w1.alloc (.cells Z 56) = x := ⟨_, rfl⟩
  have g1 : w1.grownBy x1 none := by rw [← hx1]; exact World.grownBy_alloc _ _ _
  have hx1g : x1.heap[g]? = some (.cells Z 56 (0, 0)) := by rw [← hx1, ← hg]; exact heap_alloc_new w1 _
  have hsrc : ∀ j v, (Ck.bys l)[j]? = some v → x1.cell? (ad.add j) = some v := fun j v hj => by
    have h3 := unhide HS j v hj
    have hb : (ad.add j).block = ad.block := by unfold Addr.add; split <;> rfl
    have h4 : w1.cell? (ad.add j) = some v := (World.cell?_of_block ((unhide ht1).block _ (Go.block_lt_of_cell h3) (by rw [hb]; exact unhide HSP))).trans h3
    exact (World.cell?_of_block (g1.block _ (Go.block_lt_of_cell h4) (by simp))).trans h4
  obtain ⟨x2, hcp, hx2, g2⟩ := run_copy_whole (P := Try.prog) (w := x1) 31 31 3 5 Try.underlying31 1 (by kernel_rfl) g 64 64 ad cb Z _ hx1g (Ck.bys l) (by rw [Dk.bys_len, unhide H64]) hsrc (by rw [Dk.bys_len, unhide H64, hz64]) (fun v hv => by obtain ⟨q, -, rfl⟩ := List.mem_map.1 hv; rfl)
  have g2' : w1.grownBy x2 none := grown_own g1 g2 (fun q e => by cases e; rw [hg]; exact Nat.le_refl _)
  obtain ⟨Y, hY⟩ : ∃ Y, (Ck.bys l).toArray = Y := ⟨_, rfl⟩
  rw [hY] at hx2
  have hY64 : Y.size = 64 := by rw [← hY]; simp [Dk.bys_len, unhide H64]
  have H2 := (unhide hD1).on g2'
  obtain ⟨D, hD, hf⟩ := H2.map
  have hDd : x2.drew.ownsMap Try.prog 3 Dk.R b done D := hD.drew
  obtain ⟨x3, hup, hD3, g3⟩ := hDd.update Dk.keyed Try.underlying51 (by have := unhide HD1; unfold maxLen; omega) (keyOf_int_mk Try.underlying3 (unhide hwf)) (val := .agg Y) (d := .held (.agg Y)) (ps := []) rfl
  have g3' : x2.grownBy x3 (some b) := ⟨g3.os, g3.tape, g3.output, g3.size, g3.block⟩
  have hA3 : Arr x3 p 53 5 _ := H2.box.grown g3' (fun e => H2.apart (by simpa using e))
  have k2 := hA3.cell (i := 2) (by omega)
  have kf : ∀ i, x3.frozen? ⟨p, i, none⟩ = false := fun i => hA3.free i
  have hDI : (done : Int) ≤ 1099511627776 := by have := unhide HD1; omega
  have hfin : Hid (P (.returned (.int .i64 0)) (x3.setCell ⟨p, 2, none⟩ (.int .i64 ((done : Int) + 1)))) := by
    rw [← hY] at hD3
    refine unhide hpost _ (H2.write hf hD.isMap n (Dk.keyed.key (keyOf_int_mk Try.underlying3 (unhide hwf))) l (unhide H64) hD3 g3') ?_
    refine Turn.store (((unhide ht1).mono (C := fun k => k = p ∨ k = b) (fun k e => .inl e)).trans ?_ (fun k _ e => e)) p 2 _ (.inl rfl)
    exact ((Turn.new (B := fun k => k = p ∨ k = b) g2').trans (Turn.grown (B := fun k => k = p ∨ k = b) g3' (fun k e => by cases e; exact .inr rfl)) (fun k _ e => e))
  have b1 : Hid (x2.drew.cell? ⟨p, 1, none⟩ = some (.map (some b)) ∧ x2.drew.heap[g]? = some (.cells Y 56 (0, 0))) := ⟨H2.cells.2.1, hx2⟩
  have hup' : (Instr.mapUpdate 51 (.map (some b)) (.int .i64 n) (.agg Y)).run Try.prog x2.drew = .ok () x3 := hup
  have k2' : x3.cell? ⟨p, 2, none⟩ = some (.int .i64 (done : Int)) := k2
  clear k2
  clear hpost hD1 ht1 hsrc HS HSP hD hDd hf hD3 g3 g3' hA3 H2 g1 g2 g2' hx1g hz64 hY hup HD1 hwf hx2
  go_upto_region 12 with fail
  refine wp_region_till (h := 6) (S := fun x => Hid (x.cell? ⟨p, 1, none⟩ = some (.map (some b)) ∧ x.heap[g]? = some (.cells Y 56 (0, 0)))) (by kernel_rfl) ?_
  refine wpTill_take (i := 0) (v := ?_) [6] rfl (by kernel_rfl) (by kernel_rfl) (by kernel_rfl) (by kernel_rfl) (fun _ _ _ h => h) b1 (Or.inl ⟨by rfl, ?_⟩) ?_
  rotate_left
  · intro x hSx
    clear hSx
    go_simp
    try with_reducible rfl
  simp only [Act.put, List.getElem_toArray, List.getElem_cons_zero, List.setIfInBounds_toArray, List.set_cons_succ, List.set_cons_zero]
  refine wpTill_take (i := 1) (v := ?_) [6] rfl (by kernel_rfl) (by kernel_rfl) (by kernel_rfl) (by kernel_rfl) (fun _ _ _ h => h) b1 (Or.inl ⟨by rfl, ?_⟩) ?_
  rotate_left
  · intro x hSx
    clear hSx
    go_simp
    try with_reducible rfl
  simp only [Act.put, List.getElem_toArray, List.getElem_cons_zero, List.getElem_cons_succ, List.setIfInBounds_toArray, List.set_cons_succ, List.set_cons_zero]
  refine wpTill_take (i := 2) (v := ?_) [6] rfl (by kernel_rfl) (by kernel_rfl) (by kernel_rfl) (by kernel_rfl) (fun _ _ _ h => h) b1 (Or.inl ⟨by rfl, ?_⟩) ?_
  rotate_left
  · intro x hSx
    clear hSx
    go_simp
    try with_reducible rfl
  simp only [Act.put, List.getElem_toArray, List.getElem_cons_zero, List.getElem_cons_succ, List.setIfInBounds_toArray, List.set_cons_succ, List.set_cons_zero]
  refine wpTill_take (i := 3) (v := ?_) [6] rfl (by kernel_rfl) (by kernel_rfl) (by kernel_rfl) (by kernel_rfl) (fun _ _ _ h => h) b1 (Or.inl ⟨by rfl, ?_⟩) ?_
  rotate_left
  · intro x hSx
    have b0 := (unhide hSx).1
    clear hSx
    go_simp
    try with_reducible rfl
  simp only [Act.put, List.getElem_toArray, List.getElem_cons_zero, List.getElem_cons_succ, List.setIfInBounds_toArray, List.set_cons_succ, List.set_cons_zero]
  refine wpTill_take (i := 4) (v := ?_) [6] rfl (by kernel_rfl) (by kernel_rfl) (by kernel_rfl) (by kernel_rfl) (fun _ _ _ h => h) b1 (Or.inl ⟨by rfl, ?_⟩) ?_
  rotate_left
  · intro x hSx
    clear hSx
    go_simp
    try with_reducible rfl
  simp only [Act.put, List.getElem_toArray, List.getElem_cons_zero, List.getElem_cons_succ, List.setIfInBounds_toArray, List.set_cons_succ, List.set_cons_zero]
  refine wpTill_take (i := 5) (v := .agg Y) [6] rfl (by kernel_rfl) (by kernel_rfl) (by kernel_rfl) (by kernel_rfl) (fun _ _ _ h => h) b1 (Or.inl ⟨by rfl, ?_⟩) ?_
  · intro x hSx
    have l0 := run_loadVar_row (P := Try.prog) x g 56 56 Y (0, 0) _ (unhide hSx).2 Try.underlying56 rfl (by rw [Dk.sizeE, hY64])
    clear hSx
    exact exec_load_row 56 (.tmp 7) rfl g rfl l0
  simp only [Act.put, List.getElem_toArray, List.getElem_cons_zero, List.getElem_cons_succ, List.setIfInBounds_toArray, List.set_cons_succ, List.set_cons_zero]
  refine wpTill_only (j := 6) (by kernel_rfl) rfl (fun K hK => ?_)
  go_simp
  refine hK.out _ _ (fun hx => absurd (hx.symm.trans (by kernel_rfl)) Bool.false_ne_true) ?_
  clear hK K
  refine wpTill_done (by kernel_rfl) ?_ _
  clear b1 hup' hcp hx1 hZ
  go_wp2
  exact unhide hfin

end Go.Proofs.Ytnpdmfhknbfmhaa
