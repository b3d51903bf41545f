/-
  Whether two datagrams are the same.
-/
import Derived.Test.YtiegccdgoemamaaWireTells
import Derived.Test.YtiegccdgoemamaaWireEqual
import Derived.Test.YtiegccdgoemamaaWireFit
namespace Go.Proofs.Ytiegccdgoemamaa
open Go.RowKit

theorem Wr.exec_load {P : Program} {o : Oper} {a : Act} {w : World} (ty : TypeId) (x : Operand) (ho : o.op = .load ty x) (g : Nat) (hx : a.eval x = .pointer (some ⟨g, 0, none⟩)) {v : Value} (hl : (loadVar ty ⟨g, 0, none⟩).run P w = .ok v w) : (execOp a.eval o).run P w = .ok (.value v) w := by
  unfold execOp
  simp only [ho, hx, Instr.loadAt, Instr.sureAddr, Sem.run_bind, Sem.run_pure, Result.andThen_ok, hl]

/-- What is told lies in a block of its own. -/
theorem Wr.Told.nums {y : World} {l : List Int} {v : Value} (h : y.ownsRow 0 3 1 v l.length (l.map (Value.int .i64))) (hn : l ≠ []) : ∃ g c, v = .slice (some ⟨g, 0, none⟩) l.length c ∧ Wr.Nums y g l := by
  obtain ⟨g, c, rfl, -, hlt⟩ := h.form (by have := List.length_pos_iff.2 hn; omega)
  refine ⟨g, c, rfl, hlt, fun i b hi => ?_⟩
  have hil : i < l.length := (List.getElem?_eq_some_iff.1 hi).1
  rw [World.ownsRow.cellAt h i (by omega), List.getElem?_map, hi]
  rfl

set_option maxRecDepth 16000 in
set_option maxHeartbeats 6400000 in
theorem wSame_any (g1 g2 : Wr.G) (R1 R2 : List Int) (w : World) (n1 : R1 ≠ []) (n2 : R2 ≠ []) (hl : R1.length ≤ 100000001)
    (h1 : ∀ y, Turn (fun _ => False) w y → Calls Try.prog 47 #[.agg g1.cells] y (Wr.Told y R1)) (h2 : ∀ y, Turn (fun _ => False) w y → Calls Try.prog 47 #[.agg g2.cells] y (Wr.Told y R2)) :
    Calls Try.prog 17 #[.agg g1.cells, .agg g2.cells] w fun e w' => e = .returned (.bool (decide (R1 = R2))) ∧ Turn (fun _ => False) w w' := by
  obtain ⟨x, hx⟩ : ∃ x, x = (w.alloc (.cells g1.cells 29)).alloc (.cells g2.cells 29) := ⟨_, rfl⟩
  have hg : w.grownBy x none := by rw [hx]; exact grown_alloc (World.grownBy_alloc _ _ _) _
  have hA : Wr.Bx x w.heap.size 29 30 g1.box := by rw [hx]; exact (Wr.msgBox w g1).on (World.grownBy_alloc _ _ _)
  have hB : Wr.Bx x (w.heap.size + 1) 29 30 g2.box := by
    rw [hx]
    have q := Wr.msgBox (w.alloc (.cells g1.cells 29)) g2
    rw [show (w.alloc (.cells g1.cells 29)).heap.size = w.heap.size + 1 by simp] at q
    exact q
  obtain ⟨A, hAe⟩ : ∃ A, w.heap.size = A := ⟨_, rfl⟩
  rw [hAe] at hA hB
  have HA := hide hA
  have HB := hide hB
  have HG := hide hg
  have H1 := hide h1
  have H2 := hide h2
  have HN1 := hide n1
  have HN2 := hide n2
  have HL := hide hl
  clear hA hB hg h1 h2 n1 n2 hl
  unfold Wr.G.cells at hx
  go_enter Try.func17, Try.ntmps17
  unfold Wr.G.cells
  go_upto_region 1 with fail
  rw [← hx]
  clear hx hAe
  obtain ⟨B, hBe⟩ : ∃ B, A + 1 = B := ⟨_, rfl⟩
  rw [hBe] at HB ⊢
  clear hBe
  obtain ⟨CA, hCA⟩ : ∃ q, Wr.G.cells g1 = q := ⟨_, rfl⟩
  obtain ⟨CB, hCB⟩ : ∃ q, Wr.G.cells g2 = q := ⟨_, rfl⟩
  have hiA : (Try.prog.info? 29).map (·.size) = some CA.toList.length := by rw [← hCA]; kernel_rfl
  have hiB : (Try.prog.info? 29).map (·.size) = some CB.toList.length := by rw [← hCB]; kernel_rfl
  have hgd : x.grownBy x.drew none := ⟨rfl, rfl, rfl, Nat.le_refl _, fun _ _ _ => rfl⟩
  have hS0 : Hid (Wr.Bx x.drew A 29 30 g1.box ∧ Wr.Bx x.drew B 29 30 g2.box) := ⟨(unhide HA).on hgd, (unhide HB).on hgd⟩
  have T0 := hide ((Turn.new (B := fun _ => False) (unhide HG)).then hgd)
  have c1 := hide (unhide H1 x.drew (unhide T0))
  rw [hCA] at c1
  have c2 := hide fun y ht => unhide H2 y ht
  rw [hCB] at c2
  refine wp_region_till (h := 5) (S := fun x => Hid (Wr.Bx x A 29 30 g1.box ∧ Wr.Bx x B 29 30 g2.box)) (by kernel_rfl) ?_
  generalize x.drew = xd at hS0 T0 c1 ⊢
  refine wpTill_take (i := 0) (v := .agg CA) [5] rfl (by kernel_rfl) (by kernel_rfl) (by kernel_rfl) (by kernel_rfl) (fun _ _ _ h => h) hS0 (Or.inl ⟨by rfl, ?_⟩) ?_
  · intro x hSx
    exact Wr.exec_load 29 (.tmp 2) rfl A rfl (run_loadVar_mid (P := Try.prog) x A 0 29 CA.toList _ (by rw [← hCA]; exact (unhide hSx).1.rangeG) Try.underlying29 rfl hiA)
  simp only [Act.put, List.getElem_toArray, List.getElem_cons_zero, List.setIfInBounds_toArray, List.set_cons_succ, List.set_cons_zero]
  refine wpTill_take (i := 2) (v := .agg CB) [5] rfl (by kernel_rfl) (by kernel_rfl) (by kernel_rfl) (by kernel_rfl) (fun _ _ _ h => h) hS0 (Or.inl ⟨by rfl, ?_⟩) ?_
  · intro x hSx
    exact Wr.exec_load 29 (.tmp 3) rfl B rfl (run_loadVar_mid (P := Try.prog) x B 0 29 CB.toList _ (by rw [← hCB]; exact (unhide hSx).2.rangeG) Try.underlying29 rfl hiB)
  simp only [Act.put, List.getElem_toArray, List.getElem_cons_zero, List.getElem_cons_succ, List.setIfInBounds_toArray, List.set_cons_succ, List.set_cons_zero]
  refine wpTill_only (j := 1) (by kernel_rfl) rfl (fun K hK => ?_)
  go_simp
  refine (unhide c1).mono ?_
  rintro e y1 ⟨t1, v1, rfl, ho1, -⟩
  try go_simp
  have hS1 : Hid (Wr.Bx y1 A 29 30 g1.box ∧ Wr.Bx y1 B 29 30 g2.box) := ⟨(unhide hS0).1.turn t1 (fun q => q), (unhide hS0).2.turn t1 (fun q => q)⟩
  have T1 := hide ((unhide T0).trans t1 (fun _ _ q => q))
  obtain ⟨q1, k1, rfl, nu1⟩ := Wr.Told.nums ho1 (unhide HN1)
  have NU1 := hide nu1
  refine hK.out _ _ (fun _ => hS1) ?_
  clear hK K ho1 nu1 t1 c1
  refine wpTill_only (j := 3) (by kernel_rfl) rfl (fun K hK => ?_)
  go_simp
  refine (unhide c2 _ (unhide T1)).mono ?_
  rintro e y2 ⟨t2, v2, rfl, ho2, -⟩
  try go_simp
  have hS2 : Hid (Wr.Bx y2 A 29 30 g1.box ∧ Wr.Bx y2 B 29 30 g2.box) := ⟨(unhide hS1).1.turn t2 (fun q => q), (unhide hS1).2.turn t2 (fun q => q)⟩
  have T2 := hide ((unhide T1).trans t2 (fun _ _ q => q))
  obtain ⟨q2, k2, rfl, nu2⟩ := Wr.Told.nums ho2 (unhide HN2)
  have NU2 := hide nu2
  have NU1' := hide ((unhide NU1).on t2.grownBy)
  refine hK.out _ _ (fun _ => hS2) ?_
  clear hK K ho2 nu2 t2 c2 NU1
  have ce := hide (wEqual_any q1 q2 k1 k2 R1 R2 y2 (unhide NU1') (unhide NU2) (unhide HL))
  refine wpTill_only (j := 4) (by kernel_rfl) rfl (fun K hK => ?_)
  go_simp
  refine (unhide ce).mono ?_
  rintro e y3 ⟨rfl, g3⟩
  try go_simp
  have hS3 : Hid (Wr.Bx y3 A 29 30 g1.box ∧ Wr.Bx y3 B 29 30 g2.box) := ⟨(unhide hS2).1.on g3, (unhide hS2).2.on g3⟩
  have T3 := hide ((unhide T2).then g3)
  refine hK.out _ _ (fun _ => hS3) ?_
  clear hK K g3 ce
  refine wpTill_only (j := 5) (by kernel_rfl) rfl (fun K hK => ?_)
  go_simp
  refine hK.out _ _ (fun hx => absurd (hx.symm.trans (by kernel_rfl)) Bool.false_ne_true) ?_
  clear hK K
  refine wpTill_done (by kernel_rfl) ?_ _
  go_wp2
  go_ret
  exact ⟨rfl, unhide T3⟩

end Go.Proofs.Ytiegccdgoemamaa
