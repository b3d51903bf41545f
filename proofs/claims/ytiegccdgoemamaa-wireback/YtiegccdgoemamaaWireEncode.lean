/-
  A datagram written.
-/
import Derived.Test.YtiegccdgoemamaaWireThrough
import Derived.Test.YtiegccdgoemamaaWireEncF
import Derived.Deep.MidRow
namespace Go.Proofs.Ytiegccdgoemamaa
open Go.RowKit

/-- A datagram's box. -/
theorem Wr.msgBox (w : World) (g : Wr.G) : Wr.Bx (w.alloc (.cells g.cells 29)) w.heap.size 29 30 g.box :=
  Wr.Bx.new w g.cells _ rfl (fun i hi => Wr.G.at g i hi)

set_option maxRecDepth 16000 in
set_option maxHeartbeats 3200000 in
theorem wEncode_bad (g : Wr.G) (w : World) (hk : ¬ (1 ≤ g.n 0 ∧ g.n 0 ≤ 4)) :
    Calls Try.prog 11 #[.agg g.cells] w fun e w' => e = .returned (.tuple #[.slice none 0 0, .int .i64 3]) ∧ w.grownBy w' none := by
  obtain ⟨x, hx⟩ : ∃ x, x = w.alloc (.cells g.cells 29) := ⟨_, rfl⟩
  have hg : Hid (w.grownBy x none) := (show w.grownBy x none by rw [hx]; exact World.grownBy_alloc _ _ _)
  have hb : Wr.Bx x w.heap.size 29 30 g.box := by rw [hx]; exact Wr.msgBox w g
  have cw := hide (fun x => wKind_any (g.n 0) x)
  have hd : (decide (1 ≤ g.n 0) && decide (g.n 0 ≤ 4)) = false := by
    rw [← Bool.not_eq_true]
    simpa using hk
  rw [hd] at cw
  obtain ⟨M, hM⟩ : ∃ M, w.heap.size = M := ⟨_, rfl⟩
  rw [hM] at hb
  have c0 : x.cell? ⟨M, 0, none⟩ = some (.int .i64 (g.n 0)) := hb.cell (i := 0) (by omega)
  clear hd hk hb
  unfold Wr.G.cells at hx
  go_enter Try.func11, Try.ntmps11
  unfold Wr.G.cells
  go_upto_region 1 with fail
  rw [← hx]
  clear hx hM
  go_wp2_with fail
  refine (unhide cw _).mono ?_
  rintro e y ⟨rfl, hy⟩
  rw [hy]
  clear hy y cw c0
  go_wp2
  go_ret2
  exact ⟨rfl, unhide hg⟩

/-- What is gone through is written: the side behind it. -/
def Wr.Goes (E : Nat) (y : World) (B : Nat → Prop) (R : List Int × Int) (e : Ending) (y' : World) : Prop :=
  ∃ B' vr, e = .returned vr ∧ Wr.Enc E y' R B' ∧ Wr.K y B y' B'

/-- A datagram is handed back as bytes, or an error is. -/
def Wr.Written (w : World) (R : List Int × Int) (e : Ending) (w' : World) : Prop :=
  Turn (fun _ => False) w w' ∧ if R.2 = 0 then ∃ v, e = .returned (.tuple #[v, .int .i64 0]) ∧ w'.ownsRow 0 5 1 v R.1.length (R.1.map (Value.int .u8)) ∧ ∀ b, v.ownBlock = some b → w.heap.size ≤ b else e = .returned (.tuple #[.slice none 0 0, .int .i64 R.2])

set_option maxRecDepth 16000 in
set_option maxHeartbeats 6400000 in
theorem wEncode_any (g : Wr.G) (w : World) (hk : 1 ≤ g.n 0 ∧ g.n 0 ≤ 4) (R : List Int × Int)
    (hT : ∀ E y B, w.heap.size ≤ E → Turn (fun _ => False) w y → (∀ b, B b → w.heap.size ≤ b) → Wr.Enc E y ([g.n 0 % 256], 0) B → Calls Try.prog 32 #[.agg #[.iface 64 (.pointer (some ⟨E, 0, none⟩))], .agg g.cells] y (Wr.Goes E y B R)) :
    Calls Try.prog 11 #[.agg g.cells] w (Wr.Written w R) := by
  obtain ⟨x, hx⟩ : ∃ x, x = w.alloc (.cells g.cells 29) := ⟨_, rfl⟩
  have hgw : w.grownBy x none := by rw [hx]; exact World.grownBy_alloc _ _ _
  have hg := hide hgw
  have hb : Wr.Bx x w.heap.size 29 30 g.box := by rw [hx]; exact Wr.msgBox w g
  have cw := hide (fun x => wKind_any (g.n 0) x)
  have hd : (decide (1 ≤ g.n 0) && decide (g.n 0 ≤ 4)) = true := by simp [hk.1, hk.2]
  rw [hd] at cw
  obtain ⟨M, hM⟩ : ∃ M, w.heap.size = M := ⟨_, rfl⟩
  rw [hM] at hb
  have HM := hide hM
  have HB := hide hb
  have HT := hide hT
  have c0 : x.cell? ⟨M, 0, none⟩ = some (.int .i64 (g.n 0)) := hb.cell (i := 0) (by omega)
  obtain ⟨CM, hCM⟩ : ∃ q, Wr.G.cells g = q := ⟨_, rfl⟩
  have HCM := hide hCM
  have hszM : CM.size = 30 := by rw [← hCM]; rfl
  have hiM : (Try.prog.info? 29).map (·.size) = some CM.toList.length := by
    rw [Array.length_toList, hszM]
    kernel_rfl
  clear hd hk hb hT hCM hszM hgw
  unfold Wr.G.cells at hx
  go_enter Try.func11, Try.ntmps11
  unfold Wr.G.cells
  go_upto_region 1 with fail
  rw [← hx]
  clear hx hM
  go_wp2_with fail
  refine (unhide cw _).mono ?_
  rintro e y ⟨rfl, hy⟩
  rw [hy]
  clear hy y cw c0
  go_upto_region 4 with fail
  obtain ⟨E, hE⟩ : ∃ E, x.heap.size = E := ⟨_, rfl⟩
  obtain ⟨x1, hx1⟩ : ∃ x1, x.alloc (.cells #[.slice none 0 0, .int .i64 0] 68) = x1 := ⟨_, rfl⟩
  rw [hx1, hE]
  have h1 : x.grownBy x1 none := by rw [← hx1]; exact World.grownBy_alloc _ _ _
  have v1 : Wr.EncV E x1 (.slice none 0 0) [] 0 := by
    refine ⟨?_, World.ownsRow_nil _ _ _ _⟩
    rw [← hx1, ← hE]
    exact Wr.Bx.new x #[.slice none 0 0, .int .i64 0] _ rfl (fun i hi => by rcases (show i = 0 ∨ i = 1 by omega) with rfl | rfl <;> rfl)
  have hgd : x1.grownBy x1.drew none := ⟨rfl, rfl, rfl, Nat.le_refl _, fun _ _ _ => rfl⟩
  have V1 := hide (v1.turn (Turn.new (B := fun _ => False) hgd) (fun _ _ q => q))
  have b1 := ((unhide HB).on h1).on hgd
  have HB1 := hide b1
  have hS0 : Hid (x1.drew.cell? ⟨M, 0, none⟩ = some (.int .i64 (g.n 0))) := b1.cell (i := 0) (by omega)
  have HG1 := hide ((Turn.new (B := fun _ => False) (unhide hg)).then (h1.trans hgd))
  have HEM := hide (show w.heap.size ≤ E by rw [← hE]; exact (unhide hg).size)
  have hME : M ≠ E := by
    have := (unhide HB).lt
    omega
  have HME := hide hME
  have cp := hide (fun v x (h : Wr.EncV E x v [] 0) => wPut_any E (g.n 0) 1 (by omega) v [] 0 x h (by simp))
  clear hx1 hE h1 v1 hgd b1 HB hg hME
  refine wp_region_till (h := 5) (S := fun x => Hid (x.cell? ⟨M, 0, none⟩ = some (.int .i64 (g.n 0)))) (by kernel_rfl) ?_
  refine wpTill_take (i := 0) (v := ?_) [1, 2, 5] rfl (by kernel_rfl) (by kernel_rfl) (by kernel_rfl) (by kernel_rfl) (fun _ _ _ h => h) hS0 (Or.inl ⟨by rfl, ?_⟩) ?_
  rotate_left
  · intro x hSx
    clear hSx
    go_simp
    try with_reducible rfl
  simp only [Act.put, List.getElem_toArray, List.getElem_cons_zero, List.setIfInBounds_toArray, List.set_cons_succ, List.set_cons_zero]
  refine wpTill_take (i := 1) (v := ?_) [2, 5] rfl (by kernel_rfl) (by kernel_rfl) (by kernel_rfl) (by kernel_rfl) (fun _ _ _ h => h) hS0 (Or.inl ⟨by rfl, ?_⟩) ?_
  rotate_left
  · intro x hSx
    clear hSx
    go_simp
    try with_reducible rfl
  simp only [Act.put, List.getElem_toArray, List.getElem_cons_zero, List.getElem_cons_succ, List.setIfInBounds_toArray, List.set_cons_succ, List.set_cons_zero]
  refine wpTill_take (i := 2) (v := ?_) [5] rfl (by kernel_rfl) (by kernel_rfl) (by kernel_rfl) (by kernel_rfl) (fun _ _ _ h => h) hS0 (Or.inl ⟨by rfl, ?_⟩) ?_
  rotate_left
  · intro x hSx
    clear hSx
    go_simp
    try with_reducible rfl
  simp only [Act.put, List.getElem_toArray, List.getElem_cons_zero, List.getElem_cons_succ, List.setIfInBounds_toArray, List.set_cons_succ, List.set_cons_zero]
  refine wpTill_take (i := 3) (v := ?_) [4, 5] rfl (by kernel_rfl) (by kernel_rfl) (by kernel_rfl) (by kernel_rfl) (fun _ _ _ h => h) hS0 (Or.inl ⟨by rfl, ?_⟩) ?_
  rotate_left
  · intro x hSx
    clear hSx
    go_simp
    try with_reducible rfl
  simp only [Act.put, List.getElem_toArray, List.getElem_cons_zero, List.getElem_cons_succ, List.setIfInBounds_toArray, List.set_cons_succ, List.set_cons_zero]
  refine wpTill_take (i := 4) (v := ?_) [5] rfl (by kernel_rfl) (by kernel_rfl) (by kernel_rfl) (by kernel_rfl) (fun _ _ _ h => h) hS0 (Or.inl ⟨by rfl, ?_⟩) ?_
  rotate_left
  · intro x hSx
    have q0 := unhide hSx
    clear hSx
    go_simp
    try with_reducible rfl
  simp only [Act.put, List.getElem_toArray, List.getElem_cons_zero, List.getElem_cons_succ, List.setIfInBounds_toArray, List.set_cons_succ, List.set_cons_zero]
  refine wpTill_only (j := 5) (by kernel_rfl) rfl (fun K hK => ?_)
  go_simp
  refine (unhide cp _ _ (unhide V1)).mono ?_
  rintro e y ⟨u, rfl, hu1, hu2⟩
  try go_simp
  refine hK.out _ _ (fun hx => absurd (hx.symm.trans (by kernel_rfl)) Bool.false_ne_true) ?_
  clear hK K cp
  refine wpTill_done (by kernel_rfl) ?_ _

  have HB2 := hide ((unhide HB1).turn hu2.turn (fun q => by
    rcases q with q | q
    · exact unhide HME q
    · cases q))
  have HE2 : Hid (Wr.Enc E y ([g.n 0 % 256], 0) (Wr.encB E u)) := ⟨u, by simpa [Wr.bytes] using hu1, fun b => Iff.rfl⟩
  have HO2 : Hid (∀ b, Wr.encB E u b → w.heap.size ≤ b) := fun b hb => by
    rcases hu2.own b hb with (q | q) | q
    · rw [q]; exact unhide HEM
    · cases q
    · exact Nat.le_trans (unhide HG1).size q
  have HG2 := hide ((unhide HG1).trans hu2.turn (fun b hb q => by
    have h0 := unhide HEM
    rcases q with q | q
    · omega
    · cases q))
  clear hu1 hu2 HB1 HG1 V1 hS0
  go_upto_region 5 with fail
  have HG3 := HG2
  have he3 := unhide HE2
  have b3 := unhide HB2
  have hT0 : Hid (y.rangeAt M 0 CM.toList) := fun j v hj => by
    have hj30 : j < 30 := by
      have h1 := (List.getElem?_eq_some_iff.1 hj).1
      rw [← unhide HCM] at h1
      exact h1
    rw [Array.getElem?_toList, ← unhide HCM, Wr.G.at g j hj30] at hj
    rw [Nat.zero_add, b3.cell hj30]
    exact hj
  have ct := hide (unhide HT E y (Wr.encB E u) (unhide HEM) (unhide HG3) (unhide HO2) he3)
  rw [unhide HCM] at ct
  clear he3 b3 HB2 HG2 HE2
  have hrg := unhide hT0
  go_wp2_with (refine wpList_load_mid rfl 29 (.tmp 1) rfl M 0 rfl CM.toList _ hrg Try.underlying29 rfl hiM ?_)
  refine (unhide ct).mono ?_
  rintro e y2 ⟨B2, vr, rfl, hr1, hr2⟩
  obtain ⟨v2, hv2, hB2⟩ := hr1
  have HFIN : Hid (Turn (fun _ => False) w y2 ∧ ∀ b, v2.ownBlock = some b → w.heap.size ≤ b) := by
    refine ⟨(unhide HG3).trans hr2.turn (fun b hb q => by have := unhide HO2 b q; omega), fun b hb => ?_⟩
    rcases hr2.own b ((hB2 b).2 (.inr hb)) with q | q
    · exact unhide HO2 b q
    · exact Nat.le_trans (unhide HG3).size q
  have HOW := hide hv2.2
  have e1 : y2.cell? ⟨E, 1, none⟩ = some (.int .i64 R.2) := hv2.1.cell (i := 1) (by omega)
  have e0 : y2.cell? ⟨E, 0, none⟩ = some v2 := hv2.1.cell (i := 0) (by omega)
  clear hr2 hB2 hv2 hT0 HG3 HO2 HT HCM hiM hrg ct
  obtain ⟨Rl, Re⟩ := R
  dsimp only at e1
  by_cases hR : Re = 0
  · subst hR
    go_wp2
    go_ret2
    exact ⟨(unhide HFIN).1, by rw [if_pos rfl]; exact ⟨v2, rfl, unhide HOW, (unhide HFIN).2⟩⟩
  · have hRb : (Re == 0) = false := by simp [hR]
    have HRe := hide hR
    clear hR
    go_upto_region 7 with fail
    go_quiet (fail)
    go_wp2
    go_ret2
    exact ⟨(unhide HFIN).1.drew nq, (if_neg (show ¬ (Rl, Re).2 = 0 from unhide HRe)).symm ▸ rfl⟩

end Go.Proofs.Ytiegccdgoemamaa
