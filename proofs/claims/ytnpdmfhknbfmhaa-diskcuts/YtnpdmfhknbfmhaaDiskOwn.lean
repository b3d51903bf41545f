/-
  The project's disk: New, has, Read, Write, Cut, Start, Dead, Writes, Sectors.
-/
import Derived.Test.YtnpdmfhknbfmhaaDiskSector
import Derived.Maps.OwnSet
import Derived.Maps.Views
namespace Go.Proofs.Ytnpdmfhknbfmhaa
open Go.RowKit Go.Maps

/-- An element is read as itself. -/
def Dk.R (v : Value) : Option (DataW Value × List MemPlace) := some (.held v, [])

/-- An array of bytes. -/
def Dk.arr (l : List Int) : Value := .agg (Ck.bys l).toArray

theorem Dk.arr_inj {l m : List Int} (h : Dk.arr l = Dk.arr m) : l = m := by
  unfold Dk.arr Ck.bys at h
  have h2 := congrArg Array.toList (Value.agg.inj h)
  exact (List.map_inj_right (fun a b e => by simpa using e)).1 h2

def Dk.noughts : List Int := List.replicate 64 0

theorem Dk.keyed : Keyed Try.prog 3 := int_keyed Try.underlying3

theorem Dk.zeroE (w : World) : (zeroValue 56).run Try.prog w = .ok (Dk.arr Dk.noughts) w := by kernel_rfl

theorem Dk.sizeE : (Try.prog.info? 56).map (·.size) = some 64 := by kernel_rfl

/-- The project's disk as it lies: at p its five fields, at b its map; f: what each sector has. -/
structure Dk.Own (x : World) (base p b cnt : Nat) (f : Int → List Int) (done : Nat) (left : Int) (dead : Bool) : Prop where
  box : Arr x p 53 5 (fun j => if j = 0 then .int .i64 cnt else if j = 1 then .map (some b) else if j = 2 then .int .i64 done else if j = 3 then .int .i64 left else .bool dead)
  map : ∃ D : DataW Value, x.ownsMap Try.prog 3 Dk.R b done D ∧ ∀ n : Int, D.atKey (.int .i64 n) (.held (Dk.arr Dk.noughts)) = .held (Dk.arr (f n))
  sect : ∀ n, (f n).length = 64
  some_ : 1 ≤ cnt
  most : cnt ≤ 1024
  low : base ≤ p
  lowb : base ≤ b

theorem Dk.Own.cells {x : World} {base p b cnt : Nat} {f : Int → List Int} {done : Nat} {left : Int} {dead : Bool} (H : Dk.Own x base p b cnt f done left dead) : x.cell? ⟨p, 0, none⟩ = some (.int .i64 cnt) ∧ x.cell? ⟨p, 1, none⟩ = some (.map (some b)) ∧ x.cell? ⟨p, 2, none⟩ = some (.int .i64 done) ∧ x.cell? ⟨p, 3, none⟩ = some (.int .i64 left) ∧ x.cell? ⟨p, 4, none⟩ = some (.bool dead) ∧ ∀ i, x.frozen? ⟨p, i, none⟩ = false :=
  ⟨H.box.cell (i := 0) (by omega), H.box.cell (i := 1) (by omega), H.box.cell (i := 2) (by omega), H.box.cell (i := 3) (by omega), H.box.cell (i := 4) (by omega), fun i => H.box.free i⟩

theorem Dk.Own.apart {x : World} {base p b cnt : Nat} {f : Int → List Int} {done : Nat} {left : Int} {dead : Bool} (H : Dk.Own x base p b cnt f done left dead) : b ≠ p := by
  intro e
  subst e
  obtain ⟨D, ⟨es, cl, hb, _⟩, _⟩ := H.map
  obtain ⟨cur, hc, _⟩ := H.box
  rw [hb] at hc
  cases hc

theorem Dk.Own.ltb {x : World} {base p b cnt : Nat} {f : Int → List Int} {done : Nat} {left : Int} {dead : Bool} (H : Dk.Own x base p b cnt f done left dead) : b < x.heap.size := by
  obtain ⟨D, h, _⟩ := H.map
  exact h.lt

/-- A field of the box is stored. -/
theorem Dk.Own.set {x : World} {base p b cnt : Nat} {f : Int → List Int} {done : Nat} {left : Int} {dead : Bool} (H : Dk.Own x base p b cnt f done left dead) (i : Nat) (u : Value) {left' : Int} {dead' : Bool} (hu : ∀ j, j < 5 → (if j = i then u else if j = 0 then .int .i64 cnt else if j = 1 then .map (some b) else if j = 2 then .int .i64 done else if j = 3 then .int .i64 left else .bool dead) = if j = 0 then .int .i64 cnt else if j = 1 then .map (some b) else if j = 2 then .int .i64 done else if j = 3 then .int .i64 left' else .bool dead') : Dk.Own (x.setCell ⟨p, i, none⟩ u) base p b cnt f done left' dead' := by
  obtain ⟨D, hD, hf⟩ := H.map
  exact { H with box := (H.box.store i u).congr hu, map := ⟨D, hD.setCell H.apart u, hf⟩ }

theorem Dk.Own.turn {x y : World} {B : Nat → Prop} {base p b cnt : Nat} {f : Int → List Int} {done : Nat} {left : Int} {dead : Bool} (H : Dk.Own x base p b cnt f done left dead) (ht : Turn B x y) (hp : ¬ B p) (hb : ¬ B b) : Dk.Own y base p b cnt f done left dead := by
  obtain ⟨D, ⟨es, cl, h1, h2⟩, hf⟩ := H.map
  exact { H with box := H.box.turn ht hp, map := ⟨D, ⟨es, cl, (ht.block b H.ltb hb).trans h1, h2⟩, hf⟩ }

theorem Dk.Own.on {x y : World} {base p b cnt : Nat} {f : Int → List Int} {done : Nat} {left : Int} {dead : Bool} (H : Dk.Own x base p b cnt f done left dead) (hg : x.grownBy y none) : Dk.Own y base p b cnt f done left dead :=
  H.turn (B := fun _ => False) (Turn.new hg) (fun q => q) (fun q => q)

theorem dkDead_any (base p b cnt : Nat) (f : Int → List Int) (done : Nat) (left : Int) (dead : Bool) (w : World) (H : Dk.Own w base p b cnt f done left dead) :
    Calls Try.prog 18 #[.pointer (some ⟨p, 0, none⟩)] w fun e w' => e = .returned (.bool dead) ∧ w' = w := by
  obtain ⟨c0, c1, c2, c3, c4, f0⟩ := H.cells
  clear H
  go_enter Try.func18, Try.ntmps18
  go_wp2
  go_ret
  exact ⟨rfl, rfl⟩

theorem dkWrites_any (base p b cnt : Nat) (f : Int → List Int) (done : Nat) (left : Int) (dead : Bool) (w : World) (H : Dk.Own w base p b cnt f done left dead) :
    Calls Try.prog 19 #[.pointer (some ⟨p, 0, none⟩)] w fun e w' => e = .returned (.int .i64 done) ∧ w' = w := by
  obtain ⟨c0, c1, c2, c3, c4, f0⟩ := H.cells
  clear H
  go_enter Try.func19, Try.ntmps19
  go_wp2
  go_ret
  exact ⟨rfl, rfl⟩

theorem dkSectors_any (base p b cnt : Nat) (f : Int → List Int) (done : Nat) (left : Int) (dead : Bool) (w : World) (H : Dk.Own w base p b cnt f done left dead) :
    Calls Try.prog 20 #[.pointer (some ⟨p, 0, none⟩)] w fun e w' => e = .returned (.int .i64 cnt) ∧ w' = w := by
  obtain ⟨c0, c1, c2, c3, c4, f0⟩ := H.cells
  clear H
  go_enter Try.func20, Try.ntmps20
  go_wp2
  go_ret
  exact ⟨rfl, rfl⟩

/-- Is it a sector? -/
def Dk.has (cnt : Nat) (n : Int) : Bool := decide (0 ≤ n ∧ n < (cnt : Int))

theorem dkHas_any (p cnt : Nat) (n : Int) (w : World) (c0 : w.cell? ⟨p, 0, none⟩ = some (.int .i64 cnt)) :
    Calls Try.prog 22 #[.pointer (some ⟨p, 0, none⟩), .int .i64 n] w fun e w' => e = .returned (.bool (Dk.has cnt n)) ∧ w' = w := by
  by_cases h1 : n < 0
  · have hd : Hid (Dk.has cnt n = false) := by unfold Hid Dk.has; simp; omega
    go_enter Try.func22, Try.ntmps22
    go_wp2
    go_ret
    exact ⟨by rw [unhide hd]; rfl, rfl⟩
  · by_cases h2 : n < (cnt : Int)
    · have hd : Hid (Dk.has cnt n = true) := by unfold Hid Dk.has; simp; omega
      go_enter Try.func22, Try.ntmps22
      go_wp2
      go_ret
      exact ⟨by rw [unhide hd]; rfl, rfl⟩
    · have hd : Hid (Dk.has cnt n = false) := by unfold Hid Dk.has; simp; omega
      go_enter Try.func22, Try.ntmps22
      go_wp2
      go_ret
      exact ⟨by rw [unhide hd]; rfl, rfl⟩

theorem dkStart_any (base p b cnt : Nat) (f : Int → List Int) (done : Nat) (left : Int) (dead : Bool) (w : World) (H : Dk.Own w base p b cnt f done left dead) :
    Calls Try.prog 16 #[.pointer (some ⟨p, 0, none⟩)] w fun e w' => e = .returned (.tuple #[]) ∧ Dk.Own w' base p b cnt f done (-1) false ∧ Turn (fun k => k = p) w w' := by
  have h1 := H.set 4 (.bool false) (left' := left) (dead' := false) (fun j hj => by rcases (show j = 0 ∨ j = 1 ∨ j = 2 ∨ j = 3 ∨ j = 4 by omega) with rfl | rfl | rfl | rfl | rfl <;> rfl)
  have h2 := h1.set 3 (.int .i64 (-1)) (left' := -1) (dead' := false) (fun j hj => by rcases (show j = 0 ∨ j = 1 ∨ j = 2 ∨ j = 3 ∨ j = 4 by omega) with rfl | rfl | rfl | rfl | rfl <;> rfl)
  have hfin := hide (And.intro h2 (((Turn.refl (fun k => k = p) w).store p 4 (.bool false) rfl).store p 3 (.int .i64 (-1)) rfl))
  obtain ⟨c0, c1, c2, c3, c4, f0⟩ := H.cells
  clear H h1 h2
  go_enter Try.func16, Try.ntmps16
  go_wp2
  go_end0
  exact ⟨rfl, unhide hfin⟩

theorem dkCut_any (base p b cnt : Nat) (f : Int → List Int) (done : Nat) (left : Int) (dead : Bool) (n : Int) (w : World) (H : Dk.Own w base p b cnt f done left dead) :
    Calls Try.prog 14 #[.pointer (some ⟨p, 0, none⟩), .int .i64 n] w fun e w' => e = .returned (.tuple #[]) ∧ Dk.Own w' base p b cnt f done n dead ∧ Turn (fun k => k = p) w w' := by
  have h1 := H.set 3 (.int .i64 n) (left' := n) (dead' := dead) (fun j hj => by rcases (show j = 0 ∨ j = 1 ∨ j = 2 ∨ j = 3 ∨ j = 4 by omega) with rfl | rfl | rfl | rfl | rfl <;> rfl)
  have hfin := hide (And.intro h1 ((Turn.refl (fun k => k = p) w).store p 3 (.int .i64 n) rfl))
  obtain ⟨c0, c1, c2, c3, c4, f0⟩ := H.cells
  clear H h1
  go_enter Try.func14, Try.ntmps14
  go_wp2
  go_end0
  exact ⟨rfl, unhide hfin⟩

theorem dkNew_bad (n : Int) (w : World) (h : n < 1 ∨ 1024 < n) :
    Calls Try.prog 7 #[.int .i64 n] w fun e w' => e = .returned (.tuple #[.pointer none, .int .i64 1]) ∧ w' = w := by
  by_cases h1 : n < 1
  · go_enter Try.func7, Try.ntmps7
    go_wp2
    go_ret2
    exact ⟨rfl, rfl⟩
  · have h2 : 1024 < n := h.resolve_left h1
    clear h
    go_enter Try.func7, Try.ntmps7
    go_wp2
    go_ret2
    exact ⟨rfl, rfl⟩

def Dk.NewsOwn (w : World) (n : Nat) (e : Ending) (w' : World) : Prop :=
  ∃ p b, e = .returned (.tuple #[.pointer (some ⟨p, 0, none⟩), .int .i64 0]) ∧ Dk.Own w' w.heap.size p b n (fun _ => Dk.noughts) 0 (-1) false ∧ w.grownBy w' none

theorem dkNew_any (n : Nat) (w : World) (h1 : 1 ≤ n) (h2 : n ≤ 1024) :
    Calls Try.prog 7 #[.int .i64 (n : Int)] w (Dk.NewsOwn w n) := by
  have hfin : Hid (Dk.NewsOwn w n (.returned (.tuple #[.pointer (some ⟨w.heap.size + 1, 0, none⟩), .int .i64 0])) ((w.alloc (.map #[] 0)).alloc (.cells #[.int .i64 (n : Int), .map (some w.heap.size), .int .i64 0, .int .i64 (-1), .bool false] 53))) := by
    have hs : (w.alloc (.map #[] 0)).heap.size = w.heap.size + 1 := by simp
    refine ⟨w.heap.size + 1, w.heap.size, rfl, ⟨?_, ⟨.map [], (World.ownsMap_made w Try.prog 3 Dk.R).alloc _, fun k => rfl⟩, fun k => by unfold Dk.noughts; simp, h1, h2, by omega, Nat.le_refl _⟩, grown_trans (World.grownBy_alloc _ _ _) (World.grownBy_alloc _ _ _)⟩
    rw [← hs]
    refine (Arr.lit (heap_alloc_new (w.alloc (.map #[] 0)) _)).congr fun j hj => ?_
    have hj5 : j < 5 := hj
    rcases (show j = 0 ∨ j = 1 ∨ j = 2 ∨ j = 3 ∨ j = 4 by omega) with rfl | rfl | rfl | rfl | rfl <;> rfl
  obtain ⟨D, hD⟩ : ∃ D, Dk.NewsOwn w n = D := ⟨_, rfl⟩
  rw [hD] at hfin ⊢
  have n1 : ¬ (n : Int) < 1 := by omega
  have n2 : ¬ (1024 : Int) < (n : Int) := by omega
  have hmm := @run_makeMap Try.prog
  clear hD h1 h2
  go_enter Try.func7, Try.ntmps7
  go_wp2
  first | exact unhide hfin | (go_ret2; exact unhide hfin)

theorem dkRead_dead (base p b cnt : Nat) (f : Int → List Int) (done : Nat) (left : Int) (n : Int) (w : World) (H : Dk.Own w base p b cnt f done left true) :
    Calls Try.prog 9 #[.pointer (some ⟨p, 0, none⟩), .int .i64 n] w fun e w' => e = .returned (.tuple #[.slice none 0 0, .int .i64 11]) ∧ w' = w := by
  obtain ⟨c0, c1, c2, c3, c4, f0⟩ := H.cells
  clear H
  go_enter Try.func9, Try.ntmps9
  go_wp2
  go_ret2
  exact ⟨rfl, rfl⟩

theorem dkRead_arg (base p b cnt : Nat) (f : Int → List Int) (done : Nat) (left : Int) (n : Int) (w : World) (H : Dk.Own w base p b cnt f done left false) (h : Dk.has cnt n = false) :
    Calls Try.prog 9 #[.pointer (some ⟨p, 0, none⟩), .int .i64 n] w fun e w' => e = .returned (.tuple #[.slice none 0 0, .int .i64 1]) ∧ w' = w := by
  obtain ⟨c0, c1, c2, c3, c4, f0⟩ := H.cells
  have hc := dkHas_any p cnt n w c0
  rw [h] at hc
  clear H h
  go_enter Try.func9, Try.ntmps9
  go_wp2_with fail
  refine hc.mono ?_
  rintro e wq ⟨rfl, hq⟩
  obtain rfl : w = wq := hq.symm
  go_wp2
  go_ret2
  exact ⟨rfl, rfl⟩

/-- What Read tells: bytes in a block that is new. -/
def Dk.Tells (w : World) (l : List Int) (e : Ending) (w' : World) : Prop :=
  ∃ q, e = .returned (.tuple #[.slice (some ⟨q, 0, none⟩) 64 64, .int .i64 0]) ∧ Ck.Src w' (.slice (some ⟨q, 0, none⟩) 64 64) l ∧ w.heap.size ≤ q ∧ w.grownBy w' none

theorem Dk.src_row {x : World} {q c : Nat} {T : TypeId} {l : List Int} (h : x.heap[q]? = some (.cells (Ck.bys l).toArray T (0, 0))) (h64 : l.length = 64) : Ck.Src x (.slice (some ⟨q, 0, none⟩) 64 c) l := by
  refine .inr ⟨_, c, by rw [h64], fun j u hj => ?_⟩
  rw [Go.WideShapes.add_plain, Nat.zero_add, cell_of_row x q j _ T (0, 0) h]
  simpa using hj

theorem Dk.all_one (l : List Int) : (Ck.bys l).toArray.all (·.oneCell') = true := by
  rw [Array.all_eq_true_iff_forall_mem]
  intro v hv
  simp only [List.mem_toArray] at hv
  obtain ⟨q, -, rfl⟩ := List.mem_map.1 hv
  rfl

theorem Dk.bys_len (l : List Int) : (Ck.bys l).length = l.length := by unfold Ck.bys; simp

theorem Dk.wf {cnt : Nat} {n : Int} (h : Dk.has cnt n = true) (hm : cnt ≤ 1024) : (Lit.int .i64 n).wf = true := by
  unfold Dk.has at h
  simp only [decide_eq_true_eq] at h
  exact WalkArith.wf_i64 (by omega)

set_option maxRecDepth 8000 in
set_option maxHeartbeats 1600000 in
theorem dkRead_ok (base p b cnt : Nat) (f : Int → List Int) (done : Nat) (left : Int) (n : Int) (w : World) (H : Dk.Own w base p b cnt f done left false) (h : Dk.has cnt n = true) :
    Calls Try.prog 9 #[.pointer (some ⟨p, 0, none⟩), .int .i64 n] w (Dk.Tells w (f n)) := by
  obtain ⟨c0, c1, c2, c3, c4, f0⟩ := H.cells
  have hc := dkHas_any p cnt n w c0
  rw [h] at hc
  obtain ⟨D, hD, hf⟩ := H.map
  obtain ⟨v, ps, hlk, hv⟩ := hD.lookup Dk.keyed Try.underlying51 (Dk.zeroE w) (R := Dk.R) (zd := .held (Dk.arr Dk.noughts)) (zp := []) rfl (keyOf_int_mk Try.underlying3 (Dk.wf h H.most))
  rw [hf n] at hv
  obtain rfl : v = Dk.arr (f n) := by
    unfold Dk.R at hv
    simp only [Option.some.injEq, Prod.mk.injEq, DataW.held.injEq] at hv
    exact hv.1
  have h64 := H.sect n
  obtain ⟨l, hl⟩ : ∃ l, f n = l := ⟨_, rfl⟩
  rw [hl] at hlk h64 ⊢
  obtain ⟨Z, hZ, hz64⟩ : ∃ Z : Array Value, (∀ w, (zeroValue 56).run Try.prog w = .ok (.agg Z) w) ∧ Z.size = 64 := ⟨_, fun w => Dk.zeroE w, by unfold Dk.noughts Ck.bys; simp⟩
  obtain ⟨Y, hY⟩ : ∃ Y, (Ck.bys l).toArray = Y := ⟨_, rfl⟩
  have hlk2 : (Instr.lookup 51 (.map (some b)) (.int .i64 n) false).run Try.prog w = .ok (.agg Y) w := by rw [← hY]; exact hlk
  have hYs : Y.size = 64 := by rw [← hY]; simp [Dk.bys_len, h64]
  have hst := run_storeCells_from (P := Try.prog) w.heap.size 56 Y.toList 0 Z (w.alloc (.cells Z 56)) (heap_alloc_new w _) (by simp [hz64, hYs]) (fun v hv => Array.all_eq_true_iff_forall_mem.1 (show Y.all (·.oneCell') = true by rw [← hY]; exact Dk.all_one l) v (by simpa using hv))
  have e0 : (Z.toList.take 0 ++ Y.toList).toArray = Y := by simp
  rw [e0] at hst
  clear e0
  obtain ⟨W, hW⟩ : ∃ W, (w.alloc (.cells Z 56)).setRow w.heap.size Y = W := ⟨_, rfl⟩
  have hfin : Hid (Dk.Tells w l (.returned (.tuple #[.slice (some ⟨w.heap.size, 0, none⟩) 64 64, .int .i64 0])) W) := by
    refine ⟨w.heap.size, rfl, ?_, Nat.le_refl _, ?_⟩
    · rw [← hW]
      refine Dk.src_row (T := 56) ?_ h64
      rw [hY]
      exact setRow_heap _ _ Z Y _ _ (heap_alloc_new w _)
    · rw [← hW]
      have g1 := World.grownBy_alloc w (.cells Z 56) none
      exact ⟨g1.os, g1.tape, g1.output, by simp [World.setRow], fun k hk _ => (setRow_other _ _ k _ (by omega)).trans (g1.block k hk (by simp))⟩
  rw [hW] at hst
  obtain ⟨P, hP⟩ : ∃ P, Dk.Tells w l = P := ⟨_, rfl⟩
  rw [hP] at hfin ⊢
  clear H h hlk hD hf hv hl h64 hz64 hY hW hP
  go_enter Try.func9, Try.ntmps9
  go_wp2_with fail
  refine hc.mono ?_
  rintro e wq ⟨rfl, hq⟩
  obtain rfl : w = wq := hq.symm
  go_wp2
  exact unhide hfin

theorem dkWrite_dead (base p b cnt : Nat) (f : Int → List Int) (done : Nat) (left : Int) (n : Int) (v : Value) (w : World) (H : Dk.Own w base p b cnt f done left true) :
    Calls Try.prog 12 #[.pointer (some ⟨p, 0, none⟩), .int .i64 n, v] w fun e w' => e = .returned (.int .i64 11) ∧ w' = w := by
  obtain ⟨c0, c1, c2, c3, c4, f0⟩ := H.cells
  clear H
  go_enter Try.func12, Try.ntmps12
  go_wp2
  go_ret
  exact ⟨rfl, rfl⟩

theorem dkWrite_arg (base p b cnt : Nat) (f : Int → List Int) (done : Nat) (left : Int) (n : Int) (a : Option Addr) (len cap : Nat) (w : World) (H : Dk.Own w base p b cnt f done left false) (h : Dk.has cnt n = false ∨ len ≠ 64) :
    Calls Try.prog 12 #[.pointer (some ⟨p, 0, none⟩), .int .i64 n, .slice a len cap] w fun e w' => e = .returned (.int .i64 1) ∧ w' = w := by
  obtain ⟨c0, c1, c2, c3, c4, f0⟩ := H.cells
  have hc := dkHas_any p cnt n w c0
  clear H
  cases hb : Dk.has cnt n with
  | false =>
    rw [hb] at hc
    clear h hb
    go_enter Try.func12, Try.ntmps12
    go_wp2_with fail
    refine hc.mono ?_
    rintro e wq ⟨rfl, hq⟩
    obtain rfl : w = wq := hq.symm
    go_wp2
    go_ret
    exact ⟨rfl, rfl⟩
  | true =>
    rw [hb] at hc
    have h4 : ((len : Int) != 64) = true := by
      rcases h with h | h
      · rw [hb] at h; cases h
      · simp; omega
    clear h hb
    go_enter Try.func12, Try.ntmps12
    go_wp2_with fail
    refine hc.mono ?_
    rintro e wq ⟨rfl, hq⟩
    obtain rfl : w = wq := hq.symm
    go_wp2
    go_ret
    exact ⟨rfl, rfl⟩

theorem dkWrite_cut (base p b cnt : Nat) (f : Int → List Int) (done : Nat) (n : Int) (a : Option Addr) (cap : Nat) (w : World) (H : Dk.Own w base p b cnt f done 0 false) (h : Dk.has cnt n = true) :
    Calls Try.prog 12 #[.pointer (some ⟨p, 0, none⟩), .int .i64 n, .slice a 64 cap] w fun e w' => e = .returned (.int .i64 11) ∧ Dk.Own w' base p b cnt f done 0 true ∧ Turn (fun k => k = p) w w' := by
  have hfin := hide (And.intro (H.set 4 (.bool true) (left' := 0) (dead' := true) (fun j hj => by rcases (show j = 0 ∨ j = 1 ∨ j = 2 ∨ j = 3 ∨ j = 4 by omega) with rfl | rfl | rfl | rfl | rfl <;> rfl)) ((Turn.refl (fun k => k = p) w).store p 4 (.bool true) rfl))
  obtain ⟨c0, c1, c2, c3, c4, f0⟩ := H.cells
  have hc := dkHas_any p cnt n w c0
  rw [h] at hc
  clear H h
  go_enter Try.func12, Try.ntmps12
  go_wp2_with fail
  refine hc.mono ?_
  rintro e wq ⟨rfl, hq⟩
  obtain rfl : w = wq := hq.symm
  go_wp2
  go_ret
  exact ⟨rfl, unhide hfin⟩

end Go.Proofs.Ytnpdmfhknbfmhaa
