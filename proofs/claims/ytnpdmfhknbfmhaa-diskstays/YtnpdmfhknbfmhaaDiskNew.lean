/-
  The document's disk: New.
-/
import Derived.Test.YtnpdmfhknbfmhaaDiskWrite
namespace Go.Proofs.Ytnpdmfhknbfmhaa
open Go.RowKit

theorem Dk.zeros (n : Nat) : (madeCells #[Value.int .u8 0] n).toList = Ck.bys (List.replicate n 0) := by
  rw [toList_madeCells_one]
  unfold Ck.bys
  rw [List.map_replicate]

theorem Dk.own_off {x : World} {base p n m : Nat} {T U : TypeId} {z : Nat} {F : Nat → Value} {v : Value} {xs : List Value} (hA : Arr x p T n F) (h : x.ownsRow base U z v m xs) (hT : T ≠ U) : ∀ k, v.ownBlock = some k → k ≠ p := by
  intro k e q
  subst q
  rcases h.2 with ⟨rfl, _⟩ | ⟨g, cap, cur, rfl, _, hc, _⟩
  · cases e
  · simp [Value.ownBlock] at e
    subst e
    obtain ⟨cur', hc', _⟩ := hA
    rw [hc] at hc'
    simp only [Option.some.injEq, Obj.cells.injEq] at hc'
    exact hT hc'.2.1.symm

/-- A row of 64 noughts, made. -/
theorem Dk.make64 : ∃ Z : Array Value, (∀ w : World, (Instr.makeSlice 31 (.int .i64 64) (.int .i64 64)).run Try.prog w = .ok (.slice (some ⟨w.heap.size, 0, none⟩) 64 64) (w.alloc (.cells Z 5))) ∧
    ∀ (w : World) (base : Nat), base ≤ w.heap.size → (w.alloc (.cells Z 5)).ownsRow base 5 1 (.slice (some ⟨w.heap.size, 0, none⟩) 64 64) 64 (Ck.bys (List.replicate 64 0)) := by
  obtain ⟨i0, hi, hz0, hz1, hz2⟩ := info_parts info_by
  refine ⟨madeCells #[Value.int .u8 0] 64, fun w => ?_, fun w base hb => ?_⟩
  · have hr := run_make (P := Try.prog) w 31 5 i0 _ Try.underlying31 hi hz0 .i64 .i64 (64 : Nat) (64 : Nat) (by omega) (by omega) (by rw [hz2]; decide) (by decide)
    rw [hz1] at hr
    exact hr
  · have h := World.ownsRow_lit (base := base) (e := 5) (size := 1) w (madeCells #[Value.int .u8 0] 64) 64 hb (by unfold maxLen; omega) (by rw [size_madeCells])
    rw [Dk.zeros] at h
    exact h

/-- The first k sectors of a new disk. -/
structure Dk.Young (w x : World) (p : Nat) (v : Value) (Vs : List Value) (k : Nat) : Prop where
  box : Arr x p 44 4 (fun j => if j = 0 then v else if j = 1 then .int .i64 0 else if j = 2 then .int .i64 (-1) else .bool false)
  rows : Ck.Lies x w.heap.size v Vs (List.replicate k (List.replicate 64 0))
  len : Vs.length = k
  low : w.heap.size ≤ p
  new : w.grownBy x none

def Dk.News (w : World) (n : Nat) (e : Ending) (w' : World) : Prop :=
  ∃ p v Vs, e = .returned (.tuple #[.pointer (some ⟨p, 0, none⟩), .int .i64 0]) ∧ Dk.Dsk w' w.heap.size p v Vs (List.replicate n (List.replicate 64 0)) 0 (-1) false ∧ w.grownBy w' none

theorem refNew13_bad (n : Int) (w : World) (h : n < 1 ∨ 1024 < n) :
    Calls Try.prog 8 #[.int .i64 n] w fun e w' => e = .returned (.tuple #[.pointer none, .int .i64 1]) ∧ w' = w := by
  by_cases h1 : n < 1
  · go_enter Try.func8, Try.ntmps8
    go_wp2
    go_ret2
    exact ⟨rfl, rfl⟩
  · have h2 : 1024 < n := h.resolve_left h1
    clear h
    go_enter Try.func8, Try.ntmps8
    go_wp2
    go_ret2
    exact ⟨rfl, rfl⟩

set_option maxRecDepth 8000 in
set_option maxHeartbeats 3200000 in
theorem refNew13_any (n : Nat) (w : World) (h1 : 1 ≤ n) (h2 : n ≤ 1024) :
    Calls Try.prog 8 #[.int .i64 (n : Int)] w (Dk.News w n) := by
  obtain ⟨D, hD⟩ : ∃ D, Dk.News w n = D := ⟨_, rfl⟩
  have hpost : Hid (∀ x p v Vs, Dk.Young w x p v Vs n → D (.returned (.tuple #[.pointer (some ⟨p, 0, none⟩), .int .i64 0])) x) := fun x p v Vs H => by
    rw [← hD]
    exact ⟨p, v, Vs, rfl, ⟨H.box, H.rows, by rw [H.len, List.length_replicate], H.low, by rw [List.length_replicate]; exact h1, by rw [List.length_replicate]; exact h2, fun l hl => by rw [(List.mem_replicate.1 hl).2, List.length_replicate]⟩, H.new⟩
  rw [hD]
  clear hD
  obtain ⟨Z, hmk, hZ⟩ := Dk.make64
  have HZ := hide hZ
  obtain ⟨i1, ki, kz0, kz1, kz2⟩ := info_parts info_bys
  have HN := hide (And.intro h1 h2)
  have n1 : ¬ (n : Int) < 1 := by omega
  have n2 : ¬ (1024 : Int) < (n : Int) := by omega
  clear hZ h1 h2
  go_enter Try.func8, Try.ntmps8
  go_wp2_with fail
  obtain ⟨p, hp⟩ : ∃ p, w.heap.size = p := ⟨_, rfl⟩
  obtain ⟨x0, hx0⟩ : ∃ x, w.alloc (.cells #[.slice none 0 0, .int .i64 0, .int .i64 (-1), .bool false] 44) = x := ⟨_, rfl⟩
  have H0 : Hid (∃ Vs, Dk.Young w x0 p (.slice none 0 0) Vs 0) := by
    refine ⟨[], ?_, ⟨World.ownsRow_nil _ _ _ _, fun k u m h => by simp at h⟩, rfl, by omega, by rw [← hx0]; exact World.grownBy_alloc _ _ _⟩
    rw [← hx0, ← hp]
    refine (Arr.lit (heap_alloc_new w _)).congr fun j hj => ?_
    have hj4 : j < 4 := hj
    rcases (show j = 0 ∨ j = 1 ∨ j = 2 ∨ j = 3 by omega) with rfl | rfl | rfl | rfl <;> rfl
  rw [hx0, hp]
  clear hx0
  have Hp := hide hp
  clear hp
  go_loopw [5] (fun v5 wr => ∃ k : Nat, k ≤ n ∧ v5 = .int .i64 (k : Int) ∧ Hid (∃ v Vs, Dk.Young w wr p v Vs k)) (fun v5 _ => n - (intOf v5).toNat)
  case atStart => exact ⟨0, Nat.zero_le _, rfl, _, unhide H0⟩
  case round =>
    clear H0
    obtain ⟨k, hk, rfl, hX⟩ := hrel
    by_cases hlt : k < n
    · have hlt' : (k : Int) < (n : Int) := by omega
      obtain ⟨v, Vs, hY⟩ := unhide hX
      have HY := hide hY
      have b0' := hY.box.cell (i := 0) (by omega)
      have hkeep : Hid (∀ x, wr.grownBy x none → x.cell? ⟨p, 0, none⟩ = some v) := fun x hx => (grown_cell hx p 0 hY.box.lt (by simp)).trans b0'
      obtain ⟨W1, hW1⟩ : ∃ W, (wr.alloc (.cells Z 5)).drew = W := ⟨_, rfl⟩
      have HW1 := hide hW1
      have g1 : wr.grownBy W1 none := by rw [← hW1]; exact grown_drew (World.grownBy_alloc wr _ none) 1
      have hS0 : Hid (wr.drew.cell? ⟨p, 0, none⟩ = some v) := unhide hkeep _ (grown_drew (World.grownBy.refl wr none) 1)
      have hS1 : Hid ((wr.alloc (.cells Z 5)).drew.cell? ⟨p, 0, none⟩ = some v) := unhide hkeep _ (grown_drew (World.grownBy_alloc wr _ none) 1)
      have hS2 : Hid ((W1.alloc (.cells #[.slice (some ⟨wr.heap.size, 0, none⟩) 64 64] 31)).cell? ⟨p, 0, none⟩ = some v) := unhide hkeep _ (grown_trans g1 (World.grownBy_alloc _ _ _))
      have hrow : W1.ownsRow w.heap.size 5 1 (.slice (some ⟨wr.heap.size, 0, none⟩) 64 64) 64 (Ck.bys (List.replicate 64 0)) := by
        rw [← hW1]
        exact (unhide HZ wr w.heap.size hY.new.size).kept (grown_drew (World.grownBy.refl _ none) 1) (.inr (by simp [Value.ownBlock]))
      have hown4 : Hid ((W1.alloc (.cells #[.slice (some ⟨wr.heap.size, 0, none⟩) 64 64] 31)).ownsRow w.heap.size 31 1 v k Vs) := by
        have := ((hY.rows.on g1).own).alloc (.cells #[.slice (some ⟨wr.heap.size, 0, none⟩) 64 64] 31)
        rwa [List.length_replicate] at this
      have hnews := hide (Ck.news W1 (.slice (some ⟨wr.heap.size, 0, none⟩) 64 64) 31)
      have hone : Hid (∀ u ∈ [Value.slice (some ⟨wr.heap.size, 0, none⟩) 64 64], u.oneCell' = true) := fun u hu => by
        simp only [List.mem_cons, List.not_mem_nil, or_false] at hu
        rw [hu]
        rfl
      have hbz : Hid (w.heap.size ≤ (W1.alloc (.cells #[.slice (some ⟨wr.heap.size, 0, none⟩) 64 64] 31)).heap.size) := Nat.le_trans hY.new.size (grown_trans g1 (World.grownBy_alloc _ _ _)).size
      have hpv : v.ownBlock ≠ some p := fun e => Dk.own_off hY.box hY.rows.own (by decide) p e rfl
      have hbox : Hid (∀ z : World, (W1.alloc (.cells #[.slice (some ⟨wr.heap.size, 0, none⟩) 64 64] 31)).grownBy z v.ownBlock → z.cell? ⟨p, 0, none⟩ = some v ∧ ∀ i, z.frozen? ⟨p, i, none⟩ = false) := fun z hz => by
        have hA := (hY.box.grown (grown_trans g1 (World.grownBy_alloc _ _ _)) (by simp)).grown hz hpv
        exact ⟨hA.cell (i := 0) (by omega), fun i => hA.free i⟩
      have hform : Hid (∀ (z : World) (v' : Value), z.ownsRow w.heap.size 31 1 v' (k + 1) (Vs ++ [.slice (some ⟨wr.heap.size, 0, none⟩) 64 64]) → ∃ g c, v' = .slice (some ⟨g, 0, none⟩) (k + 1) c) := fun z v' h => by
        rcases h.2 with ⟨_, h0⟩ | ⟨g, c, cur, e, _⟩
        · omega
        · exact ⟨g, c, e⟩
      have hfin : Hid (∀ (z : World) (v' : Value), z.ownsRow w.heap.size 31 1 v' (k + 1) (Vs ++ [.slice (some ⟨wr.heap.size, 0, none⟩) 64 64]) → (W1.alloc (.cells #[.slice (some ⟨wr.heap.size, 0, none⟩) 64 64] 31)).grownBy z v.ownBlock → Dk.Young w (z.setCell ⟨p, 0, none⟩ v') p v' (Vs ++ [.slice (some ⟨wr.heap.size, 0, none⟩) 64 64]) (k + 1)) := fun z v' h1 h2 => by
        have hA := (hY.box.grown (grown_trans g1 (World.grownBy_alloc _ _ _)) (by simp)).grown h2 hpv
        have hM := Ck.Lies.more (l := List.replicate 64 0) hY.rows g1 (by rw [List.length_replicate]; exact hrow) (by simp) (World.grownBy_alloc _ _ _) (by rw [List.length_replicate]; exact h1) h2 (by rw [hY.len, List.length_replicate])
        have ht : Turn (fun q => q = p) z (z.setCell ⟨p, 0, none⟩ v') := (Turn.refl (fun q => q = p) z).store p 0 v' rfl
        have hpz : Arr z p 44 4 _ := hA
        refine ⟨(hA.store 0 v').congr fun j hj => ?_, ?_, by rw [List.length_append, hY.len]; rfl, hY.low, ?_⟩
        · rcases (show j = 0 ∨ j = 1 ∨ j = 2 ∨ j = 3 by omega) with rfl | rfl | rfl | rfl <;> rfl
        · have e : List.replicate (k + 1) (List.replicate 64 (0 : Int)) = List.replicate k (List.replicate 64 0) ++ [List.replicate 64 0] := List.replicate_succ'
          rw [e]
          exact ⟨owns_turned hM.own ht (fun q e r => Dk.own_off hpz hM.own (by decide) q e r), fun j u l q1 q2 => ⟨owns_turned (hM.each j u l q1 q2).1 ht (fun q e r => Dk.own_off hpz (hM.each j u l q1 q2).1 (by decide) q e r), (hM.each j u l q1 q2).2⟩⟩
        · exact Turn.grownBy ((Turn.new (B := fun _ => False) (grown_own (grown_trans hY.new (grown_trans g1 (World.grownBy_alloc _ _ _))) h2 (fun q e => (hY.rows.own.lt q e).1))).fresh p 0 v' hY.low)
      clear hk hlt hX hY b0' g1 hrow hpv hW1
      go_upto_region 7 with fail
      refine wp_region_till (h := 10) (S := fun x => Hid (x.cell? ⟨p, 0, none⟩ = some v)) (by kernel_rfl) ?_
      refine wpTill_take (i := 0) (v := ?_) [10] rfl (by kernel_rfl) (by kernel_rfl) (by kernel_rfl) (by kernel_rfl) (fun _ _ _ h => h) hS0 (Or.inl ⟨by rfl, ?_⟩) ?_
      rotate_left
      · intro x hSx
        clear hSx
        go_simp
        try with_reducible rfl
      simp only [Act.put, List.getElem_toArray, List.getElem_cons_zero, List.setIfInBounds_toArray, List.set_cons_succ, List.set_cons_zero]
      refine wpTill_take (i := 1) (v := ?_) [10] rfl (by kernel_rfl) (by kernel_rfl) (by kernel_rfl) (by kernel_rfl) (fun _ _ _ h => h) hS0 (Or.inl ⟨by rfl, ?_⟩) ?_
      rotate_left
      · intro x hSx
        clear hSx
        go_simp
        try with_reducible rfl
      simp only [Act.put, List.getElem_toArray, List.getElem_cons_zero, List.getElem_cons_succ, List.setIfInBounds_toArray, List.set_cons_succ, List.set_cons_zero]
      refine wpTill_take (i := 2) (v := ?_) [10] rfl (by kernel_rfl) (by kernel_rfl) (by kernel_rfl) (by kernel_rfl) (fun _ _ _ h => h) hS0 (Or.inl ⟨by rfl, ?_⟩) ?_
      rotate_left
      · intro x hSx
        clear hSx
        go_simp
        try with_reducible rfl
      simp only [Act.put, List.getElem_toArray, List.getElem_cons_zero, List.getElem_cons_succ, List.setIfInBounds_toArray, List.set_cons_succ, List.set_cons_zero]
      refine wpTill_take (i := 3) (v := ?_) [10] rfl (by kernel_rfl) (by kernel_rfl) (by kernel_rfl) (by kernel_rfl) (fun _ _ _ h => h) hS0 (Or.inl ⟨by rfl, ?_⟩) ?_
      rotate_left
      · intro x hSx
        clear hSx
        go_simp
        try with_reducible rfl
      simp only [Act.put, List.getElem_toArray, List.getElem_cons_zero, List.getElem_cons_succ, List.setIfInBounds_toArray, List.set_cons_succ, List.set_cons_zero]
      refine wpTill_take (i := 4) (v := ?_) [10] rfl (by kernel_rfl) (by kernel_rfl) (by kernel_rfl) (by kernel_rfl) (fun _ _ _ h => h) hS0 (Or.inl ⟨by rfl, ?_⟩) ?_
      rotate_left
      · intro x hSx
        have b0 := unhide hSx
        clear hSx
        go_simp
        try with_reducible rfl
      simp only [Act.put, List.getElem_toArray, List.getElem_cons_zero, List.getElem_cons_succ, List.setIfInBounds_toArray, List.set_cons_succ, List.set_cons_zero]
      refine wpTill_only (j := 5) (by kernel_rfl) rfl (fun K hK => ?_)
      go_simp
      refine hK.out _ _ (fun _ => hS1) ?_
      clear hK K
      rw [unhide HW1]
      refine wpTill_only (j := 6) (by kernel_rfl) rfl (fun K hK => ?_)
      go_simp
      refine hK.out _ _ (fun _ => hS2) ?_
      clear hK K
      refine wpTill_only (j := 7) (by kernel_rfl) rfl (fun K hK => ?_)
      refine Ck.wanted (by rfl) ?_
      refine wp_append_own _ _ _ 42 rfl w.heap.size 31 i1 (.slice none 0 0) 1 24 Try.underlying42 ki kz0 kz1 kz2 rfl (by decide) v k Vs rfl (unhide hown4) ⟨W1.heap.size, 0, none⟩ 1 1 [.slice (some ⟨wr.heap.size, 0, none⟩) 64 64] rfl rfl (unhide hnews) (unhide hone) (by unfold maxLen; omega) (by omega) (unhide hbz) ?_
      intro v6 w6 hown hgrow hnil
      have hfin2 := hide (unhide hfin w6 v6 hown hgrow)
      obtain ⟨c6, f6⟩ := unhide hbox w6 hgrow
      have hS6 := hide c6
      obtain ⟨g6, cp6, rfl⟩ := unhide hform w6 v6 hown
      clear hown hgrow hnil
      refine hK.out _ _ (fun _ => hS6) ?_
      clear hK K
      refine wpTill_take (i := 8) (v := ?_) [9, 10] rfl (by kernel_rfl) (by kernel_rfl) (by kernel_rfl) (by kernel_rfl) (fun _ _ _ h => h) hS6 (Or.inl ⟨by rfl, ?_⟩) ?_
      rotate_left
      · intro x hSx
        clear hSx
        go_simp
        try with_reducible rfl
      simp only [Act.put, List.getElem_toArray, List.getElem_cons_zero, List.getElem_cons_succ, List.setIfInBounds_toArray, List.set_cons_succ, List.set_cons_zero]
      refine wpTill_take (i := 9) (v := ?_) [10] rfl (by kernel_rfl) (by kernel_rfl) (by kernel_rfl) (by kernel_rfl) (fun _ _ _ h => h) hS6 (Or.inl ⟨by rfl, ?_⟩) ?_
      rotate_left
      · intro x hSx
        clear hSx
        go_simp
        try with_reducible rfl
      simp only [Act.put, List.getElem_toArray, List.getElem_cons_zero, List.getElem_cons_succ, List.setIfInBounds_toArray, List.set_cons_succ, List.set_cons_zero]
      refine wpTill_only (j := 10) (by kernel_rfl) rfl (fun K hK => ?_)
      go_simp
      refine hK.out _ _ (fun hx => absurd (hx.symm.trans (by kernel_rfl)) Bool.false_ne_true) ?_
      clear hK K
      refine wpTill_done (by kernel_rfl) ?_ _
      have hN2 : Hid (k + 1 ≤ n) := (show k + 1 ≤ n by omega)
      clear hown4 hnews hone hbz hbox hform hfin hS0 hS1 hS2 hS6 HW1 hkeep HY f6 c6
      go_wp2_with fail
      go_roundw
      case rel => exact ⟨k + 1, unhide hN2, by go_num, _, _, unhide hfin2⟩
      case measure => simp [intOf]; have := unhide hN2; omega
    · have hge : ¬ (k : Int) < (n : Int) := by omega
      obtain rfl : k = n := by omega
      have hf : Hid (∃ v Vs, Dk.Young w wr p v Vs k) := hX
      have hfin : Hid (D (.returned (.tuple #[.pointer (some ⟨p, 0, none⟩), .int .i64 0])) wr) := by
        obtain ⟨v, Vs, hY⟩ := unhide hf
        exact unhide hpost _ _ _ _ hY
      clear hX hf hpost hlt hk
      go_wp2
      first | exact unhide hfin | (go_ret2; exact unhide hfin)

end Go.Proofs.Ytnpdmfhknbfmhaa
