/-
  The law package's own good: a datagram such as may be.
-/
import Derived.Test.YtiegccdgoemamaaWireGoodMid
namespace Go.Proofs.Ytiegccdgoemamaa
open Go.RowKit

/-- A datagram's numbers such as may be (but for those of the seats). -/
def Wr.gb (g : Wr.G) : Wr.G := (((((((((((((g.num 0 (1 + g.n 0 % 4)).num 1 (g.n 1 % 1073741824)).num 2 (g.n 2 % 1073741824)).num 5 (g.n 5 % 1073741824)).num 10 (g.n 10 % 1073741824)).num 11 (g.n 11 % 1073741824)).num 15 (g.n 15 % 1073741824)).num 16 (g.n 16 % 1073741824)).num 26 (g.n 26 % 1073741824)).num 13 (1 + g.n 13 % 7)).num 14 (g.n 14 % 5 - 1)).num 28 (1 + g.n 28 % 16)).num 27 (g.n 27 % (1 + g.n 28 % 16)))

theorem Wr.gb_old (g : Wr.G) (k : Nat) (hk : (6 ≤ k ∧ k < 10) ∨ (18 ≤ k ∧ k < 22)) : (Wr.gb g).n k = g.n k := by
  unfold Wr.gb Wr.G.num Wr.upd
  dsimp only
  repeat rw [if_neg (by omega)]

set_option maxRecDepth 16000 in
set_option maxHeartbeats 12800000 in
theorem good15_any (g : Wr.G) (z zr : Nat → Nat → Int) (w : World) (hz : ∀ j, j < 5 → Wr.RowIn w (g.row j) (z j)) (hr : Wr.RecsIn w g.recs zr) (hd : g.data.2.1 ≤ 1048576 ∧ g.data.2.1 ≤ g.data.2.2) :
    Calls Try.prog 18 #[.agg g.cells] w (fun e w' => ∃ g', e = .returned (.agg g'.cells) ∧ Wr.Goods w w' (w.heap.size + 2) (Wr.gb g) g g' z zr) := by
  have HZ := hide hz
  have HR := hide hr
  have HD := hide hd
  clear hz hr hd
  obtain ⟨x, hx⟩ : ∃ x, x = (w.alloc (.cells g.cells 29)).alloc (.cells Wr.G.zero.cells 29) := ⟨_, rfl⟩
  have I0 : Hid (Wr.Gd w x w.heap.size (w.heap.size + 1) g.box) := by
    show Wr.Gd w x _ _ _
    rw [hx]
    exact Wr.Gd.first w g
  obtain ⟨M, hM⟩ : ∃ M, w.heap.size = M := ⟨_, rfl⟩
  rw [hM] at I0
  obtain ⟨Z, hZ⟩ : ∃ Z, M + 1 = Z := ⟨_, rfl⟩
  rw [hZ] at I0
  have cw := hide fun (a n : Int) (h1 : 0 < n) (h2 : n ≤ 4611686018427387904) x => within15_any a n x h1 h2
  unfold Wr.G.cells at hx
  unfold Wr.G.zero at hx
  go_enter Try.func18, Try.ntmps18
  unfold Wr.G.cells
  go_upto_region 1 with fail
  rw [← hx]
  clear hx
  obtain ⟨a0, h0⟩ : ∃ a, g.n 0 % 4 = a := ⟨_, rfl⟩
  have b0 : 0 ≤ a0 ∧ a0 < 4 := by rw [← h0]; omega
  obtain ⟨a1, h1⟩ : ∃ a, g.n 1 % 1073741824 = a := ⟨_, rfl⟩
  have b1 : 0 ≤ a1 ∧ a1 < 1073741824 := by rw [← h1]; omega
  obtain ⟨a2, h2⟩ : ∃ a, g.n 2 % 1073741824 = a := ⟨_, rfl⟩
  have b2 : 0 ≤ a2 ∧ a2 < 1073741824 := by rw [← h2]; omega
  obtain ⟨a5, h5⟩ : ∃ a, g.n 5 % 1073741824 = a := ⟨_, rfl⟩
  have b5 : 0 ≤ a5 ∧ a5 < 1073741824 := by rw [← h5]; omega
  obtain ⟨a10, h10⟩ : ∃ a, g.n 10 % 1073741824 = a := ⟨_, rfl⟩
  have b10 : 0 ≤ a10 ∧ a10 < 1073741824 := by rw [← h10]; omega
  obtain ⟨a11, h11⟩ : ∃ a, g.n 11 % 1073741824 = a := ⟨_, rfl⟩
  have b11 : 0 ≤ a11 ∧ a11 < 1073741824 := by rw [← h11]; omega
  obtain ⟨a15, h15⟩ : ∃ a, g.n 15 % 1073741824 = a := ⟨_, rfl⟩
  have b15 : 0 ≤ a15 ∧ a15 < 1073741824 := by rw [← h15]; omega
  obtain ⟨a16, h16⟩ : ∃ a, g.n 16 % 1073741824 = a := ⟨_, rfl⟩
  have b16 : 0 ≤ a16 ∧ a16 < 1073741824 := by rw [← h16]; omega
  obtain ⟨a26, h26⟩ : ∃ a, g.n 26 % 1073741824 = a := ⟨_, rfl⟩
  have b26 : 0 ≤ a26 ∧ a26 < 1073741824 := by rw [← h26]; omega
  obtain ⟨a13, h13⟩ : ∃ a, g.n 13 % 7 = a := ⟨_, rfl⟩
  have b13 : 0 ≤ a13 ∧ a13 < 7 := by rw [← h13]; omega
  obtain ⟨a14, h14⟩ : ∃ a, g.n 14 % 5 = a := ⟨_, rfl⟩
  have b14 : 0 ≤ a14 ∧ a14 < 5 := by rw [← h14]; omega
  obtain ⟨a28, h28⟩ : ∃ a, g.n 28 % 16 = a := ⟨_, rfl⟩
  have b28 : 0 ≤ a28 ∧ a28 < 16 := by rw [← h28]; omega
  obtain ⟨a27, h27⟩ : ∃ a, g.n 27 % (1 + a28) = a := ⟨_, rfl⟩
  have b27 : 0 ≤ a27 ∧ a27 ≤ a28 := by
    rw [← h27]
    have := Int.emod_nonneg (g.n 27) (b := 1 + a28) (by omega)
    have := Int.emod_lt_of_pos (g.n 27) (b := 1 + a28) (by omega)
    omega
  have c0 : x.cell? ⟨M, 0, none⟩ = some (.int .i64 (g.n 0)) := (unhide I0).box.cell (i := 0) (by omega)
  have f0 := (unhide I0).box.free
  have hw0 : IntKind.i64.wrap (1 + a0) = 1 + a0 := by rw [IntKind.wrap_i64]; omega
  go_wp2_with fail
  refine (unhide cw _ _ (by decide) (by decide) _).mono ?_
  rintro e y ⟨rfl, rfl⟩
  try rw [h0]
  have I1n := unhide I0
  replace I1n := I1n.put 0 (.int .i64 (1 + a0))
  rw [Wr.G.num_box g 0 (1 + a0) ⟨by decide, by decide, by decide, by decide, by decide, by decide, by decide, by decide, by decide⟩] at I1n
  have I1 := hide I1n
  clear I1n
  go_upto_region 2 with fail
  obtain ⟨y1, hy1⟩ : ∃ z, (y.setCell ⟨M, 0, none⟩ (.int .i64 (1 + a0))) = z := ⟨_, rfl⟩
  rw [hy1] at I1 ⊢
  clear hy1 I0
  clear c0 f0 hw0
  have J2 := hide ((unhide I1).on (grown_drew (World.grownBy.refl y1 none) 1))
  refine wp_region_till (h := 16) (S := fun x => Hid (Wr.Gd w x M Z (g.num 0 (1 + a0)).box)) (by kernel_rfl) ?_
  have hde : y1.drew = y1.drewN 1 := rfl
  rw [hde]
  generalize y1.drewN 1 = yd2 at J2 ⊢
  clear hde I1
  have c1 : yd2.cell? ⟨M, 1, none⟩ = some (.int .i64 (g.n 1)) := (unhide J2).box.cell (i := 1) (by omega)
  have c2 : yd2.cell? ⟨M, 2, none⟩ = some (.int .i64 (g.n 2)) := (unhide J2).box.cell (i := 2) (by omega)
  have c5 : yd2.cell? ⟨M, 5, none⟩ = some (.int .i64 (g.n 5)) := (unhide J2).box.cell (i := 5) (by omega)
  have c10 : yd2.cell? ⟨M, 10, none⟩ = some (.int .i64 (g.n 10)) := (unhide J2).box.cell (i := 10) (by omega)
  have c11 : yd2.cell? ⟨M, 11, none⟩ = some (.int .i64 (g.n 11)) := (unhide J2).box.cell (i := 11) (by omega)
  have fM := (unhide J2).box.free
  refine wpTill_take (i := 0) (v := ?_) [16] rfl (by kernel_rfl) (by kernel_rfl) (by kernel_rfl) (by kernel_rfl) (fun _ _ _ h => h) J2 (Or.inl ⟨by rfl, ?_⟩) ?_
  rotate_left
  · intro x hSx
    clear hSx
    go_simp
    try with_reducible rfl
  simp only [Act.put, List.getElem_toArray, List.getElem_cons_zero, List.setIfInBounds_toArray, List.set_cons_succ, List.set_cons_zero]
  refine wpTill_take (i := 1) (v := ?_) [16] rfl (by kernel_rfl) (by kernel_rfl) (by kernel_rfl) (by kernel_rfl) (fun _ _ _ h => h) J2 (Or.inl ⟨by rfl, ?_⟩) ?_
  rotate_left
  · intro x hSx
    have c1 : x.cell? ⟨M, 1, none⟩ = some (.int .i64 (g.n 1)) := (unhide hSx).box.cell (i := 1) (by omega)
    clear hSx
    go_simp
    try with_reducible rfl
  simp only [Act.put, List.getElem_toArray, List.getElem_cons_zero, List.getElem_cons_succ, List.setIfInBounds_toArray, List.set_cons_succ, List.set_cons_zero]
  refine wpTill_take (i := 3) (v := ?_) [16] rfl (by kernel_rfl) (by kernel_rfl) (by kernel_rfl) (by kernel_rfl) (fun _ _ _ h => h) J2 (Or.inl ⟨by rfl, ?_⟩) ?_
  rotate_left
  · intro x hSx
    clear hSx
    go_simp
    try with_reducible rfl
  simp only [Act.put, List.getElem_toArray, List.getElem_cons_zero, List.getElem_cons_succ, List.setIfInBounds_toArray, List.set_cons_succ, List.set_cons_zero]
  refine wpTill_take (i := 4) (v := ?_) [16] rfl (by kernel_rfl) (by kernel_rfl) (by kernel_rfl) (by kernel_rfl) (fun _ _ _ h => h) J2 (Or.inl ⟨by rfl, ?_⟩) ?_
  rotate_left
  · intro x hSx
    have c2 : x.cell? ⟨M, 2, none⟩ = some (.int .i64 (g.n 2)) := (unhide hSx).box.cell (i := 2) (by omega)
    clear hSx
    go_simp
    try with_reducible rfl
  simp only [Act.put, List.getElem_toArray, List.getElem_cons_zero, List.getElem_cons_succ, List.setIfInBounds_toArray, List.set_cons_succ, List.set_cons_zero]
  refine wpTill_take (i := 6) (v := ?_) [16] rfl (by kernel_rfl) (by kernel_rfl) (by kernel_rfl) (by kernel_rfl) (fun _ _ _ h => h) J2 (Or.inl ⟨by rfl, ?_⟩) ?_
  rotate_left
  · intro x hSx
    clear hSx
    go_simp
    try with_reducible rfl
  simp only [Act.put, List.getElem_toArray, List.getElem_cons_zero, List.getElem_cons_succ, List.setIfInBounds_toArray, List.set_cons_succ, List.set_cons_zero]
  refine wpTill_take (i := 7) (v := ?_) [16] rfl (by kernel_rfl) (by kernel_rfl) (by kernel_rfl) (by kernel_rfl) (fun _ _ _ h => h) J2 (Or.inl ⟨by rfl, ?_⟩) ?_
  rotate_left
  · intro x hSx
    have c5 : x.cell? ⟨M, 5, none⟩ = some (.int .i64 (g.n 5)) := (unhide hSx).box.cell (i := 5) (by omega)
    clear hSx
    go_simp
    try with_reducible rfl
  simp only [Act.put, List.getElem_toArray, List.getElem_cons_zero, List.getElem_cons_succ, List.setIfInBounds_toArray, List.set_cons_succ, List.set_cons_zero]
  refine wpTill_take (i := 9) (v := ?_) [16] rfl (by kernel_rfl) (by kernel_rfl) (by kernel_rfl) (by kernel_rfl) (fun _ _ _ h => h) J2 (Or.inl ⟨by rfl, ?_⟩) ?_
  rotate_left
  · intro x hSx
    clear hSx
    go_simp
    try with_reducible rfl
  simp only [Act.put, List.getElem_toArray, List.getElem_cons_zero, List.getElem_cons_succ, List.setIfInBounds_toArray, List.set_cons_succ, List.set_cons_zero]
  refine wpTill_take (i := 10) (v := ?_) [16] rfl (by kernel_rfl) (by kernel_rfl) (by kernel_rfl) (by kernel_rfl) (fun _ _ _ h => h) J2 (Or.inl ⟨by rfl, ?_⟩) ?_
  rotate_left
  · intro x hSx
    have c10 : x.cell? ⟨M, 10, none⟩ = some (.int .i64 (g.n 10)) := (unhide hSx).box.cell (i := 10) (by omega)
    clear hSx
    go_simp
    try with_reducible rfl
  simp only [Act.put, List.getElem_toArray, List.getElem_cons_zero, List.getElem_cons_succ, List.setIfInBounds_toArray, List.set_cons_succ, List.set_cons_zero]
  refine wpTill_take (i := 12) (v := ?_) [16] rfl (by kernel_rfl) (by kernel_rfl) (by kernel_rfl) (by kernel_rfl) (fun _ _ _ h => h) J2 (Or.inl ⟨by rfl, ?_⟩) ?_
  rotate_left
  · intro x hSx
    clear hSx
    go_simp
    try with_reducible rfl
  simp only [Act.put, List.getElem_toArray, List.getElem_cons_zero, List.getElem_cons_succ, List.setIfInBounds_toArray, List.set_cons_succ, List.set_cons_zero]
  refine wpTill_take (i := 13) (v := ?_) [16] rfl (by kernel_rfl) (by kernel_rfl) (by kernel_rfl) (by kernel_rfl) (fun _ _ _ h => h) J2 (Or.inl ⟨by rfl, ?_⟩) ?_
  rotate_left
  · intro x hSx
    have c11 : x.cell? ⟨M, 11, none⟩ = some (.int .i64 (g.n 11)) := (unhide hSx).box.cell (i := 11) (by omega)
    clear hSx
    go_simp
    try with_reducible rfl
  simp only [Act.put, List.getElem_toArray, List.getElem_cons_zero, List.getElem_cons_succ, List.setIfInBounds_toArray, List.set_cons_succ, List.set_cons_zero]
  refine wpTill_only (j := 2) (by kernel_rfl) rfl (fun K hK => ?_)
  go_simp
  refine (unhide cw _ _ (by decide) (by decide) _).mono ?_
  rintro e wq ⟨rfl, hwq⟩
  obtain rfl : yd2 = wq := hwq.symm
  try go_simp
  try rw [h1]
  refine hK.out _ _ (fun _ => J2) ?_
  clear hK K
  refine wpTill_take (i := 15) (v := ?_) [16] rfl (by kernel_rfl) (by kernel_rfl) (by kernel_rfl) (by kernel_rfl) (fun _ _ _ h => h) J2 (Or.inl ⟨by rfl, ?_⟩) ?_
  rotate_left
  · intro x hSx
    clear hSx
    go_simp
    try with_reducible rfl
  simp only [Act.put, List.getElem_toArray, List.getElem_cons_zero, List.getElem_cons_succ, List.setIfInBounds_toArray, List.set_cons_succ, List.set_cons_zero]
  refine wpTill_only (j := 5) (by kernel_rfl) rfl (fun K hK => ?_)
  go_simp
  refine (unhide cw _ _ (by decide) (by decide) _).mono ?_
  rintro e wq ⟨rfl, hwq⟩
  obtain rfl : yd2 = wq := hwq.symm
  try go_simp
  try rw [h2]
  refine hK.out _ _ (fun _ => J2) ?_
  clear hK K
  refine wpTill_only (j := 8) (by kernel_rfl) rfl (fun K hK => ?_)
  go_simp
  refine (unhide cw _ _ (by decide) (by decide) _).mono ?_
  rintro e wq ⟨rfl, hwq⟩
  obtain rfl : yd2 = wq := hwq.symm
  try go_simp
  try rw [h5]
  refine hK.out _ _ (fun _ => J2) ?_
  clear hK K
  refine wpTill_only (j := 11) (by kernel_rfl) rfl (fun K hK => ?_)
  go_simp
  refine (unhide cw _ _ (by decide) (by decide) _).mono ?_
  rintro e wq ⟨rfl, hwq⟩
  obtain rfl : yd2 = wq := hwq.symm
  try go_simp
  try rw [h10]
  refine hK.out _ _ (fun _ => J2) ?_
  clear hK K
  refine wpTill_only (j := 14) (by kernel_rfl) rfl (fun K hK => ?_)
  go_simp
  refine (unhide cw _ _ (by decide) (by decide) _).mono ?_
  rintro e wq ⟨rfl, hwq⟩
  obtain rfl : yd2 = wq := hwq.symm
  try go_simp
  try rw [h11]
  refine hK.out _ _ (fun _ => J2) ?_
  clear hK K
  refine wpTill_only (j := 16) (by kernel_rfl) rfl (fun K hK => ?_)
  go_simp
  refine hK.out _ _ (fun hx => absurd (hx.symm.trans (by kernel_rfl)) Bool.false_ne_true) ?_
  clear hK K
  refine wpTill_only (j := 17) (by kernel_rfl) rfl (fun K hK => ?_)
  go_simp
  refine hK.out _ _ (fun hx => absurd (hx.symm.trans (by kernel_rfl)) Bool.false_ne_true) ?_
  clear hK K
  refine wpTill_only (j := 18) (by kernel_rfl) rfl (fun K hK => ?_)
  go_simp
  refine hK.out _ _ (fun hx => absurd (hx.symm.trans (by kernel_rfl)) Bool.false_ne_true) ?_
  clear hK K
  refine wpTill_only (j := 19) (by kernel_rfl) rfl (fun K hK => ?_)
  go_simp
  refine hK.out _ _ (fun hx => absurd (hx.symm.trans (by kernel_rfl)) Bool.false_ne_true) ?_
  clear hK K
  refine wpTill_only (j := 20) (by kernel_rfl) rfl (fun K hK => ?_)
  go_simp
  refine hK.out _ _ (fun hx => absurd (hx.symm.trans (by kernel_rfl)) Bool.false_ne_true) ?_
  clear hK K
  refine wpTill_only (j := 21) (by kernel_rfl) rfl (fun K hK => ?_)
  go_simp
  refine hK.out _ _ (fun hx => absurd (hx.symm.trans (by kernel_rfl)) Bool.false_ne_true) ?_
  clear hK K
  refine wpTill_only (j := 22) (by kernel_rfl) rfl (fun K hK => ?_)
  go_simp
  refine hK.out _ _ (fun hx => absurd (hx.symm.trans (by kernel_rfl)) Bool.false_ne_true) ?_
  clear hK K
  refine wpTill_only (j := 23) (by kernel_rfl) rfl (fun K hK => ?_)
  go_simp
  refine hK.out _ _ (fun hx => absurd (hx.symm.trans (by kernel_rfl)) Bool.false_ne_true) ?_
  clear hK K
  refine wpTill_only (j := 24) (by kernel_rfl) rfl (fun K hK => ?_)
  go_simp
  refine hK.out _ _ (fun hx => absurd (hx.symm.trans (by kernel_rfl)) Bool.false_ne_true) ?_
  clear hK K
  refine wpTill_done (by kernel_rfl) ?_ _
  clear c1 c2 c5 c10 c11 fM
  have I2n := unhide J2
  replace I2n := I2n.put 1 (.int .i64 (a1))
  rw [Wr.G.num_box (g.num 0 (1 + a0)) 1 (a1) ⟨by decide, by decide, by decide, by decide, by decide, by decide, by decide, by decide, by decide⟩] at I2n
  replace I2n := I2n.put 2 (.int .i64 (a2))
  rw [Wr.G.num_box ((g.num 0 (1 + a0)).num 1 (a1)) 2 (a2) ⟨by decide, by decide, by decide, by decide, by decide, by decide, by decide, by decide, by decide⟩] at I2n
  replace I2n := I2n.put 5 (.int .i64 (a5))
  rw [Wr.G.num_box (((g.num 0 (1 + a0)).num 1 (a1)).num 2 (a2)) 5 (a5) ⟨by decide, by decide, by decide, by decide, by decide, by decide, by decide, by decide, by decide⟩] at I2n
  replace I2n := I2n.put 10 (.int .i64 (a10))
  rw [Wr.G.num_box ((((g.num 0 (1 + a0)).num 1 (a1)).num 2 (a2)).num 5 (a5)) 10 (a10) ⟨by decide, by decide, by decide, by decide, by decide, by decide, by decide, by decide, by decide⟩] at I2n
  replace I2n := I2n.put 11 (.int .i64 (a11))
  rw [Wr.G.num_box (((((g.num 0 (1 + a0)).num 1 (a1)).num 2 (a2)).num 5 (a5)).num 10 (a10)) 11 (a11) ⟨by decide, by decide, by decide, by decide, by decide, by decide, by decide, by decide, by decide⟩] at I2n
  have I2 := hide I2n
  clear I2n
  go_upto_region 3 with fail
  obtain ⟨y2, hy2⟩ : ∃ z, (((((yd2.setCell ⟨M, 1, none⟩ (.int .i64 (a1))).setCell ⟨M, 2, none⟩ (.int .i64 (a2))).setCell ⟨M, 5, none⟩ (.int .i64 (a5))).setCell ⟨M, 10, none⟩ (.int .i64 (a10))).setCell ⟨M, 11, none⟩ (.int .i64 (a11))) = z := ⟨_, rfl⟩
  rw [hy2] at I2 ⊢
  clear hy2 J2
  have J3 := hide ((unhide I2).on (grown_drew (World.grownBy.refl y2 none) 1))
  refine wp_region_till (h := 10) (S := fun x => Hid (Wr.Gd w x M Z ((((((g.num 0 (1 + a0)).num 1 (a1)).num 2 (a2)).num 5 (a5)).num 10 (a10)).num 11 (a11)).box)) (by kernel_rfl) ?_
  have hde : y2.drew = y2.drewN 1 := rfl
  rw [hde]
  generalize y2.drewN 1 = yd3 at J3 ⊢
  clear hde I2
  have c15 : yd3.cell? ⟨M, 15, none⟩ = some (.int .i64 (g.n 15)) := (unhide J3).box.cell (i := 15) (by omega)
  have c16 : yd3.cell? ⟨M, 16, none⟩ = some (.int .i64 (g.n 16)) := (unhide J3).box.cell (i := 16) (by omega)
  have c26 : yd3.cell? ⟨M, 26, none⟩ = some (.int .i64 (g.n 26)) := (unhide J3).box.cell (i := 26) (by omega)
  have fM := (unhide J3).box.free
  refine wpTill_take (i := 0) (v := ?_) [10] rfl (by kernel_rfl) (by kernel_rfl) (by kernel_rfl) (by kernel_rfl) (fun _ _ _ h => h) J3 (Or.inl ⟨by rfl, ?_⟩) ?_
  rotate_left
  · intro x hSx
    clear hSx
    go_simp
    try with_reducible rfl
  simp only [Act.put, List.getElem_toArray, List.getElem_cons_zero, List.setIfInBounds_toArray, List.set_cons_succ, List.set_cons_zero]
  refine wpTill_take (i := 1) (v := ?_) [10] rfl (by kernel_rfl) (by kernel_rfl) (by kernel_rfl) (by kernel_rfl) (fun _ _ _ h => h) J3 (Or.inl ⟨by rfl, ?_⟩) ?_
  rotate_left
  · intro x hSx
    have c15 : x.cell? ⟨M, 15, none⟩ = some (.int .i64 (g.n 15)) := (unhide hSx).box.cell (i := 15) (by omega)
    clear hSx
    go_simp
    try with_reducible rfl
  simp only [Act.put, List.getElem_toArray, List.getElem_cons_zero, List.getElem_cons_succ, List.setIfInBounds_toArray, List.set_cons_succ, List.set_cons_zero]
  refine wpTill_take (i := 3) (v := ?_) [10] rfl (by kernel_rfl) (by kernel_rfl) (by kernel_rfl) (by kernel_rfl) (fun _ _ _ h => h) J3 (Or.inl ⟨by rfl, ?_⟩) ?_
  rotate_left
  · intro x hSx
    clear hSx
    go_simp
    try with_reducible rfl
  simp only [Act.put, List.getElem_toArray, List.getElem_cons_zero, List.getElem_cons_succ, List.setIfInBounds_toArray, List.set_cons_succ, List.set_cons_zero]
  refine wpTill_take (i := 4) (v := ?_) [10] rfl (by kernel_rfl) (by kernel_rfl) (by kernel_rfl) (by kernel_rfl) (fun _ _ _ h => h) J3 (Or.inl ⟨by rfl, ?_⟩) ?_
  rotate_left
  · intro x hSx
    have c16 : x.cell? ⟨M, 16, none⟩ = some (.int .i64 (g.n 16)) := (unhide hSx).box.cell (i := 16) (by omega)
    clear hSx
    go_simp
    try with_reducible rfl
  simp only [Act.put, List.getElem_toArray, List.getElem_cons_zero, List.getElem_cons_succ, List.setIfInBounds_toArray, List.set_cons_succ, List.set_cons_zero]
  refine wpTill_take (i := 6) (v := ?_) [10] rfl (by kernel_rfl) (by kernel_rfl) (by kernel_rfl) (by kernel_rfl) (fun _ _ _ h => h) J3 (Or.inl ⟨by rfl, ?_⟩) ?_
  rotate_left
  · intro x hSx
    clear hSx
    go_simp
    try with_reducible rfl
  simp only [Act.put, List.getElem_toArray, List.getElem_cons_zero, List.getElem_cons_succ, List.setIfInBounds_toArray, List.set_cons_succ, List.set_cons_zero]
  refine wpTill_take (i := 7) (v := ?_) [10] rfl (by kernel_rfl) (by kernel_rfl) (by kernel_rfl) (by kernel_rfl) (fun _ _ _ h => h) J3 (Or.inl ⟨by rfl, ?_⟩) ?_
  rotate_left
  · intro x hSx
    have c26 : x.cell? ⟨M, 26, none⟩ = some (.int .i64 (g.n 26)) := (unhide hSx).box.cell (i := 26) (by omega)
    clear hSx
    go_simp
    try with_reducible rfl
  simp only [Act.put, List.getElem_toArray, List.getElem_cons_zero, List.getElem_cons_succ, List.setIfInBounds_toArray, List.set_cons_succ, List.set_cons_zero]
  refine wpTill_only (j := 2) (by kernel_rfl) rfl (fun K hK => ?_)
  go_simp
  refine (unhide cw _ _ (by decide) (by decide) _).mono ?_
  rintro e wq ⟨rfl, hwq⟩
  obtain rfl : yd3 = wq := hwq.symm
  try go_simp
  try rw [h15]
  refine hK.out _ _ (fun _ => J3) ?_
  clear hK K
  refine wpTill_take (i := 9) (v := ?_) [10] rfl (by kernel_rfl) (by kernel_rfl) (by kernel_rfl) (by kernel_rfl) (fun _ _ _ h => h) J3 (Or.inl ⟨by rfl, ?_⟩) ?_
  rotate_left
  · intro x hSx
    clear hSx
    go_simp
    try with_reducible rfl
  simp only [Act.put, List.getElem_toArray, List.getElem_cons_zero, List.getElem_cons_succ, List.setIfInBounds_toArray, List.set_cons_succ, List.set_cons_zero]
  refine wpTill_only (j := 5) (by kernel_rfl) rfl (fun K hK => ?_)
  go_simp
  refine (unhide cw _ _ (by decide) (by decide) _).mono ?_
  rintro e wq ⟨rfl, hwq⟩
  obtain rfl : yd3 = wq := hwq.symm
  try go_simp
  try rw [h16]
  refine hK.out _ _ (fun _ => J3) ?_
  clear hK K
  refine wpTill_only (j := 8) (by kernel_rfl) rfl (fun K hK => ?_)
  go_simp
  refine (unhide cw _ _ (by decide) (by decide) _).mono ?_
  rintro e wq ⟨rfl, hwq⟩
  obtain rfl : yd3 = wq := hwq.symm
  try go_simp
  try rw [h26]
  refine hK.out _ _ (fun _ => J3) ?_
  clear hK K
  refine wpTill_only (j := 10) (by kernel_rfl) rfl (fun K hK => ?_)
  go_simp
  refine hK.out _ _ (fun hx => absurd (hx.symm.trans (by kernel_rfl)) Bool.false_ne_true) ?_
  clear hK K
  refine wpTill_only (j := 11) (by kernel_rfl) rfl (fun K hK => ?_)
  go_simp
  refine hK.out _ _ (fun hx => absurd (hx.symm.trans (by kernel_rfl)) Bool.false_ne_true) ?_
  clear hK K
  refine wpTill_only (j := 12) (by kernel_rfl) rfl (fun K hK => ?_)
  go_simp
  refine hK.out _ _ (fun hx => absurd (hx.symm.trans (by kernel_rfl)) Bool.false_ne_true) ?_
  clear hK K
  refine wpTill_only (j := 13) (by kernel_rfl) rfl (fun K hK => ?_)
  go_simp
  refine hK.out _ _ (fun hx => absurd (hx.symm.trans (by kernel_rfl)) Bool.false_ne_true) ?_
  clear hK K
  refine wpTill_only (j := 14) (by kernel_rfl) rfl (fun K hK => ?_)
  go_simp
  refine hK.out _ _ (fun hx => absurd (hx.symm.trans (by kernel_rfl)) Bool.false_ne_true) ?_
  clear hK K
  refine wpTill_done (by kernel_rfl) ?_ _
  clear c15 c16 c26 fM
  have I3n := unhide J3
  replace I3n := I3n.put 15 (.int .i64 (a15))
  rw [Wr.G.num_box ((((((g.num 0 (1 + a0)).num 1 (a1)).num 2 (a2)).num 5 (a5)).num 10 (a10)).num 11 (a11)) 15 (a15) ⟨by decide, by decide, by decide, by decide, by decide, by decide, by decide, by decide, by decide⟩] at I3n
  replace I3n := I3n.put 16 (.int .i64 (a16))
  rw [Wr.G.num_box (((((((g.num 0 (1 + a0)).num 1 (a1)).num 2 (a2)).num 5 (a5)).num 10 (a10)).num 11 (a11)).num 15 (a15)) 16 (a16) ⟨by decide, by decide, by decide, by decide, by decide, by decide, by decide, by decide, by decide⟩] at I3n
  replace I3n := I3n.put 26 (.int .i64 (a26))
  rw [Wr.G.num_box ((((((((g.num 0 (1 + a0)).num 1 (a1)).num 2 (a2)).num 5 (a5)).num 10 (a10)).num 11 (a11)).num 15 (a15)).num 16 (a16)) 26 (a26) ⟨by decide, by decide, by decide, by decide, by decide, by decide, by decide, by decide, by decide⟩] at I3n
  have I3 := hide I3n
  clear I3n
  go_upto_region 4 with fail
  obtain ⟨y3, hy3⟩ : ∃ z, (((yd3.setCell ⟨M, 15, none⟩ (.int .i64 (a15))).setCell ⟨M, 16, none⟩ (.int .i64 (a16))).setCell ⟨M, 26, none⟩ (.int .i64 (a26))) = z := ⟨_, rfl⟩
  rw [hy3] at I3 ⊢
  clear hy3 J3
  have J4 := hide ((unhide I3).on (grown_drew (World.grownBy.refl y3 none) 1))
  refine wp_region_till (h := 11) (S := fun x => x.cell? ⟨M, 14, none⟩ = some (.int .i64 (g.n 14))) (by kernel_rfl) ?_
  have hde : y3.drew = y3.drewN 1 := rfl
  rw [hde]
  generalize y3.drewN 1 = yd4 at J4 ⊢
  clear hde I3
  have c13 : yd4.cell? ⟨M, 13, none⟩ = some (.int .i64 (g.n 13)) := (unhide J4).box.cell (i := 13) (by omega)
  have c14 : yd4.cell? ⟨M, 14, none⟩ = some (.int .i64 (g.n 14)) := (unhide J4).box.cell (i := 14) (by omega)
  have fM := (unhide J4).box.free
  have hS0 := c14
  have hw13 : IntKind.i64.wrap (1 + a13) = 1 + a13 := by rw [IntKind.wrap_i64]; omega
  have hw14 : IntKind.i64.wrap (a14 - 1) = a14 - 1 := by rw [IntKind.wrap_i64]; omega
  have hS1 : (yd4.setCell ⟨M, 13, none⟩ (.int .i64 (1 + a13))).cell? ⟨M, 14, none⟩ = some (.int .i64 (g.n 14)) := ((unhide J4).put 13 _).box.cell (i := 14) (by omega)
  refine wpTill_take (i := 0) (v := ?_) [11] rfl (by kernel_rfl) (by kernel_rfl) (by kernel_rfl) (by kernel_rfl) (fun _ _ _ h => h) hS0 (Or.inl ⟨by rfl, ?_⟩) ?_
  rotate_left
  · intro x hSx
    clear hSx
    go_simp
    try with_reducible rfl
  simp only [Act.put, List.getElem_toArray, List.getElem_cons_zero, List.setIfInBounds_toArray, List.set_cons_succ, List.set_cons_zero]
  refine wpTill_take (i := 4) (v := ?_) [11] rfl (by kernel_rfl) (by kernel_rfl) (by kernel_rfl) (by kernel_rfl) (fun _ _ _ h => h) hS0 (Or.inl ⟨by rfl, ?_⟩) ?_
  rotate_left
  · intro x hSx
    clear hSx
    go_simp
    try with_reducible rfl
  simp only [Act.put, List.getElem_toArray, List.getElem_cons_zero, List.getElem_cons_succ, List.setIfInBounds_toArray, List.set_cons_succ, List.set_cons_zero]
  refine wpTill_take (i := 5) (v := ?_) [11] rfl (by kernel_rfl) (by kernel_rfl) (by kernel_rfl) (by kernel_rfl) (fun _ _ _ h => h) hS0 (Or.inl ⟨by rfl, ?_⟩) ?_
  rotate_left
  · intro x hSx
    have q := hSx
    clear hSx
    go_simp
    try with_reducible rfl
  simp only [Act.put, List.getElem_toArray, List.getElem_cons_zero, List.getElem_cons_succ, List.setIfInBounds_toArray, List.set_cons_succ, List.set_cons_zero]
  refine wpTill_only (j := 1) (by kernel_rfl) rfl (fun K hK => ?_)
  go_simp
  refine hK.out _ _ (fun _ => hS0) ?_
  clear hK K
  refine wpTill_only (j := 2) (by kernel_rfl) rfl (fun K hK => ?_)
  go_simp
  refine (unhide cw _ _ (by decide) (by decide) _).mono ?_
  rintro e wq ⟨rfl, hwq⟩
  obtain rfl : yd4 = wq := hwq.symm
  try go_simp
  try rw [h13]
  refine hK.out _ _ (fun _ => hS0) ?_
  clear hK K
  refine wpTill_take (i := 3) (v := ?_) [11] rfl (by kernel_rfl) (by kernel_rfl) (by kernel_rfl) (by kernel_rfl) (fun _ _ _ h => h) hS0 (Or.inl ⟨by rfl, ?_⟩) ?_
  rotate_left
  · intro x hSx
    clear hSx
    go_simp
    try with_reducible rfl
  simp only [Act.put, List.getElem_toArray, List.getElem_cons_zero, List.getElem_cons_succ, List.setIfInBounds_toArray, List.set_cons_succ, List.set_cons_zero]
  refine wpTill_take (i := 8) (v := ?_) [11] rfl (by kernel_rfl) (by kernel_rfl) (by kernel_rfl) (by kernel_rfl) (fun _ _ _ h => h) hS0 (Or.inl ⟨by rfl, ?_⟩) ?_
  rotate_left
  · intro x hSx
    clear hSx
    go_simp
    try with_reducible rfl
  simp only [Act.put, List.getElem_toArray, List.getElem_cons_zero, List.getElem_cons_succ, List.setIfInBounds_toArray, List.set_cons_succ, List.set_cons_zero]
  refine wpTill_only (j := 6) (by kernel_rfl) rfl (fun K hK => ?_)
  go_simp
  refine (unhide cw _ _ (by decide) (by decide) _).mono ?_
  rintro e wq ⟨rfl, hwq⟩
  obtain rfl : yd4 = wq := hwq.symm
  try go_simp
  try rw [h14]
  refine hK.out _ _ (fun _ => hS0) ?_
  clear hK K
  refine wpTill_take (i := 7) (v := ?_) [11] rfl (by kernel_rfl) (by kernel_rfl) (by kernel_rfl) (by kernel_rfl) (fun _ _ _ h => h) hS0 (Or.inl ⟨by rfl, ?_⟩) ?_
  rotate_left
  · intro x hSx
    clear hSx
    go_simp
    try with_reducible rfl
  simp only [Act.put, List.getElem_toArray, List.getElem_cons_zero, List.getElem_cons_succ, List.setIfInBounds_toArray, List.set_cons_succ, List.set_cons_zero]
  refine wpTill_only (j := 9) (by kernel_rfl) rfl (fun K hK => ?_)
  go_simp
  refine hK.out _ _ (fun _ => hS1) ?_
  clear hK K
  refine wpTill_only (j := 10) (by kernel_rfl) rfl (fun K hK => ?_)
  go_simp
  refine hK.out _ _ (fun _ => hS1) ?_
  clear hK K
  refine wpTill_only (j := 11) (by kernel_rfl) rfl (fun K hK => ?_)
  go_simp
  refine hK.out _ _ (fun hx => absurd (hx.symm.trans (by kernel_rfl)) Bool.false_ne_true) ?_
  clear hK K
  refine wpTill_done (by kernel_rfl) ?_ _
  clear c13 c14 fM hS0 hS1 hw13 hw14
  have I4n := unhide J4
  replace I4n := I4n.put 13 (.int .i64 (1 + a13))
  rw [Wr.G.num_box (((((((((g.num 0 (1 + a0)).num 1 (a1)).num 2 (a2)).num 5 (a5)).num 10 (a10)).num 11 (a11)).num 15 (a15)).num 16 (a16)).num 26 (a26)) 13 (1 + a13) ⟨by decide, by decide, by decide, by decide, by decide, by decide, by decide, by decide, by decide⟩] at I4n
  replace I4n := I4n.put 14 (.int .i64 (a14 - 1))
  rw [Wr.G.num_box ((((((((((g.num 0 (1 + a0)).num 1 (a1)).num 2 (a2)).num 5 (a5)).num 10 (a10)).num 11 (a11)).num 15 (a15)).num 16 (a16)).num 26 (a26)).num 13 (1 + a13)) 14 (a14 - 1) ⟨by decide, by decide, by decide, by decide, by decide, by decide, by decide, by decide, by decide⟩] at I4n
  have I4 := hide I4n
  clear I4n
  go_upto_region 5 with fail
  obtain ⟨y4, hy4⟩ : ∃ z, ((yd4.setCell ⟨M, 13, none⟩ (.int .i64 (1 + a13))).setCell ⟨M, 14, none⟩ (.int .i64 (a14 - 1))) = z := ⟨_, rfl⟩
  rw [hy4] at I4 ⊢
  clear hy4 J4
  have c28 : y4.cell? ⟨M, 28, none⟩ = some (.int .i64 (g.n 28)) := (unhide I4).box.cell (i := 28) (by omega)
  have fM := (unhide I4).box.free
  have hw28 : IntKind.i64.wrap (1 + a28) = 1 + a28 := by rw [IntKind.wrap_i64]; omega
  go_wp2_with fail
  refine (unhide cw _ _ (by decide) (by decide) _).mono ?_
  rintro e y ⟨rfl, rfl⟩
  try rw [h28]
  have I5n := unhide I4
  replace I5n := I5n.put 28 (.int .i64 (1 + a28))
  rw [Wr.G.num_box (((((((((((g.num 0 (1 + a0)).num 1 (a1)).num 2 (a2)).num 5 (a5)).num 10 (a10)).num 11 (a11)).num 15 (a15)).num 16 (a16)).num 26 (a26)).num 13 (1 + a13)).num 14 (a14 - 1)) 28 (1 + a28) ⟨by decide, by decide, by decide, by decide, by decide, by decide, by decide, by decide, by decide⟩] at I5n
  have I5 := hide I5n
  clear I5n
  go_upto_region 6 with fail
  obtain ⟨y5, hy5⟩ : ∃ z, (y.setCell ⟨M, 28, none⟩ (.int .i64 (1 + a28))) = z := ⟨_, rfl⟩
  rw [hy5] at I5 ⊢
  clear hy5 I4
  clear c28 fM hw28
  rename_i K1 h1K
  have hK0 := hide h1K
  clear h1K
  have c27 : y5.cell? ⟨M, 27, none⟩ = some (.int .i64 (g.n 27)) := (unhide I5).box.cell (i := 27) (by omega)
  have c28 : y5.cell? ⟨M, 28, none⟩ = some (.int .i64 (1 + a28)) := (unhide I5).box.cell (i := 28) (by omega)
  have fM := (unhide I5).box.free
  go_wp2_with fail
  refine (unhide cw _ _ (by omega) (by omega) _).mono ?_
  rintro e y ⟨rfl, rfl⟩
  try rw [h27]
  have I6n := (unhide I5).put 27 (.int .i64 a27)
  rw [Wr.G.num_box ((((((((((((g.num 0 (1 + a0)).num 1 (a1)).num 2 (a2)).num 5 (a5)).num 10 (a10)).num 11 (a11)).num 15 (a15)).num 16 (a16)).num 26 (a26)).num 13 (1 + a13)).num 14 (a14 - 1)).num 28 (1 + a28)) 27 a27 ⟨by decide, by decide, by decide, by decide, by decide, by decide, by decide, by decide, by decide⟩] at I6n
  have I6 := hide I6n
  clear I6n
  go_wp2_with fail
  have hsz : Z < (y.setCell ⟨M, 27, none⟩ (.int .i64 a27)).heap.size := by
    obtain ⟨q, hq⟩ := (unhide I6).res
    exact hq.lt
  have eg : (((((((((((((g.num 0 (1 + a0)).num 1 (a1)).num 2 (a2)).num 5 (a5)).num 10 (a10)).num 11 (a11)).num 15 (a15)).num 16 (a16)).num 26 (a26)).num 13 (1 + a13)).num 14 (a14 - 1)).num 28 (1 + a28)).num 27 a27) = Wr.gb g := by
    unfold Wr.gb
    rw [h0, h1, h2, h5, h10, h11, h15, h16, h26, h13, h14, h28, h27]
  have hGd := unhide I6
  rw [eg] at hGd
  exact unhide hK0 _ _ (good15_mid g (Wr.gb g) z zr w _ M Z (M + 2) hGd ⟨by omega, by omega, by omega⟩ ⟨rfl, rfl, rfl, rfl, rfl⟩ (fun k hk => Wr.gb_old g k hk) (unhide HZ) (unhide HR) (unhide HD) _ (fun g' w' h => ⟨g', rfl, by rw [hM]; exact h⟩) _ _ _ _ _ _ _ _ _ _ _ _ _ _ _ _ _ _ _ _ _ _ _ _ _ _ _ _ _ _ _ _ _ _ _ _ _ _ _ _ _ _ _ _ _ _ _ _ _ _ _ _ _ _ _ _ _ _ _ _ _ _ _ _ _ _ _ _ _ _ _ _ _ _ _ _ _ _ _ _ _ _ _ _ _ _ _ _ _ _ _ _ _ _ _ _ _ _ _ _ _ _ _ _ _ _ _ _ _ _ _ _ _ _ _ _ _ _ _ _ _ _ _ _ _ _ _ _ _ _ _ _ _ _ _ _ _ _ _ _ _ _)

end Go.Proofs.Ytiegccdgoemamaa
