/-
  The document's disk: Cut, Start, Read.
-/
import Derived.Test.YtnpdmfhknbfmhaaChunkSplit
import Derived.Handy
namespace Go.Proofs.Ytnpdmfhknbfmhaa
open Go.RowKit

/-- The document's disk as it lies: at p its four fields, its sectors as rows of bytes. -/
structure Dk.Dsk (x : World) (base p : Nat) (v : Value) (Vs : List Value) (ps : List (List Int)) (done left : Int) (dead : Bool) : Prop where
  box : Arr x p 44 4 (fun j => if j = 0 then v else if j = 1 then .int .i64 done else if j = 2 then .int .i64 left else .bool dead)
  rows : Ck.Lies x base v Vs ps
  len : Vs.length = ps.length
  low : base ≤ p
  some_ : 1 ≤ ps.length
  most : ps.length ≤ 1024
  sect : ∀ l ∈ ps, l.length = 64

theorem Dk.Dsk.cells {x : World} {base p : Nat} {v : Value} {Vs : List Value} {ps : List (List Int)} {done left : Int} {dead : Bool} (H : Dk.Dsk x base p v Vs ps done left dead) : x.cell? ⟨p, 0, none⟩ = some v ∧ x.cell? ⟨p, 1, none⟩ = some (.int .i64 done) ∧ x.cell? ⟨p, 2, none⟩ = some (.int .i64 left) ∧ x.cell? ⟨p, 3, none⟩ = some (.bool dead) ∧ ∀ i, x.frozen? ⟨p, i, none⟩ = false :=
  ⟨H.box.cell (i := 0) (by omega), H.box.cell (i := 1) (by omega), H.box.cell (i := 2) (by omega), H.box.cell (i := 3) (by omega), fun i => H.box.free i⟩

/-- Its box is no block of its rows. -/
theorem Dk.Dsk.apart {x : World} {base p : Nat} {v : Value} {Vs : List Value} {ps : List (List Int)} {done left : Int} {dead : Bool} (H : Dk.Dsk x base p v Vs ps done left dead) : v.ownBlock ≠ some p ∧ ∀ (k : Nat) (u : Value) (l : List Int), Vs[k]? = some u → ps[k]? = some l → u.ownBlock ≠ some p := by
  obtain ⟨cur, hc, _⟩ := H.box
  have key : ∀ {T : TypeId} {u : Value} {n : Nat} {xs : List Value}, x.ownsRow base T 1 u n xs → T ≠ 44 → u.ownBlock ≠ some p := fun h hT e => by
    rcases h.2 with ⟨rfl, _⟩ | ⟨g, cap, cur', rfl, _, hc', _⟩
    · cases e
    · simp [Value.ownBlock] at e
      subst e
      rw [hc] at hc'
      simp only [Option.some.injEq, Obj.cells.injEq] at hc'
      exact hT hc'.2.1.symm
  exact ⟨key H.rows.own (by decide), fun k u l h1 h2 => key (H.rows.each k u l h1 h2).1 (by decide)⟩

/-- A field of the box is stored. -/
theorem Dk.Dsk.set {x : World} {base p : Nat} {v : Value} {Vs : List Value} {ps : List (List Int)} {done left : Int} {dead : Bool} (H : Dk.Dsk x base p v Vs ps done left dead) (i : Nat) (u : Value) {done' left' : Int} {dead' : Bool} (hu : ∀ j, j < 4 → (if j = i then u else if j = 0 then v else if j = 1 then .int .i64 done else if j = 2 then .int .i64 left else .bool dead) = if j = 0 then v else if j = 1 then .int .i64 done' else if j = 2 then .int .i64 left' else .bool dead') : Dk.Dsk (x.setCell ⟨p, i, none⟩ u) base p v Vs ps done' left' dead' := by
  have ht : Turn (fun k => k = p) x (x.setCell ⟨p, i, none⟩ u) := (Turn.refl (fun k => k = p) x).store p i u rfl
  refine { H with box := (H.box.store i u).congr hu, rows := ⟨owns_turned H.rows.own ht (fun k e q => H.apart.1 (by rw [e, q])), fun k w l h1 h2 => ⟨owns_turned (H.rows.each k w l h1 h2).1 ht (fun j e q => H.apart.2 k w l h1 h2 (by rw [e, q])), (H.rows.each k w l h1 h2).2⟩⟩ }

theorem Dk.Dsk.on {x y : World} {base p : Nat} {v : Value} {Vs : List Value} {ps : List (List Int)} {done left : Int} {dead : Bool} (H : Dk.Dsk x base p v Vs ps done left dead) (hg : x.grownBy y none) : Dk.Dsk y base p v Vs ps done left dead :=
  { H with box := H.box.turn (B := fun _ => False) (Turn.new hg) (fun q => q), rows := H.rows.on hg }

/-- Start. -/
theorem refStart_any (base p : Nat) (v : Value) (Vs : List Value) (ps : List (List Int)) (done left : Int) (dead : Bool) (w : World) (H : Dk.Dsk w base p v Vs ps done left dead) :
    Calls Try.prog 17 #[.pointer (some ⟨p, 0, none⟩)] w fun e w' => e = .returned (.tuple #[]) ∧ Dk.Dsk w' base p v Vs ps done (-1) false ∧ Turn (fun k => k = p) w w' := by
  have h1 := H.set 3 (.bool false) (done' := done) (left' := left) (dead' := false) (fun j hj => by rcases (show j = 0 ∨ j = 1 ∨ j = 2 ∨ j = 3 by omega) with rfl | rfl | rfl | rfl <;> rfl)
  have h2 := h1.set 2 (.int .i64 (-1)) (done' := done) (left' := -1) (dead' := false) (fun j hj => by rcases (show j = 0 ∨ j = 1 ∨ j = 2 ∨ j = 3 by omega) with rfl | rfl | rfl | rfl <;> rfl)
  have hfin := hide (And.intro h2 (((Turn.refl (fun k => k = p) w).store p 3 (.bool false) rfl).store p 2 (.int .i64 (-1)) rfl))
  obtain ⟨c0, c1, c2, c3, f0⟩ := H.cells
  clear H h1 h2
  go_enter Try.func17, Try.ntmps17
  go_wp2
  go_end0
  exact ⟨rfl, unhide hfin⟩

/-- Cut. -/
theorem refCut_any (base p : Nat) (v : Value) (Vs : List Value) (ps : List (List Int)) (done left : Int) (dead : Bool) (n : Int) (w : World) (H : Dk.Dsk w base p v Vs ps done left dead) :
    Calls Try.prog 15 #[.pointer (some ⟨p, 0, none⟩), .int .i64 n] w fun e w' => e = .returned (.tuple #[]) ∧ Dk.Dsk w' base p v Vs ps done (max n (-1)) dead ∧ Turn (fun k => k = p) w w' := by
  have hm : Hid (∀ m, m = max n (-1) → Dk.Dsk (w.setCell ⟨p, 2, none⟩ (.int .i64 m)) base p v Vs ps done (max n (-1)) dead ∧ Turn (fun k => k = p) w (w.setCell ⟨p, 2, none⟩ (.int .i64 m))) := fun m e => by
    subst e
    exact ⟨H.set 2 _ (fun j hj => by rcases (show j = 0 ∨ j = 1 ∨ j = 2 ∨ j = 3 by omega) with rfl | rfl | rfl | rfl <;> rfl), (Turn.refl (fun k => k = p) w).store p 2 _ rfl⟩
  obtain ⟨c0, c1, c2, c3, f0⟩ := H.cells
  clear H
  by_cases h : n < -1
  · go_enter Try.func15, Try.ntmps15
    go_wp2
    go_end0
    exact ⟨rfl, unhide hm _ (by omega)⟩
  · go_enter Try.func15, Try.ntmps15
    go_wp2
    go_end0
    exact ⟨rfl, unhide hm _ (by omega)⟩

theorem refRead_dead (base p : Nat) (v : Value) (Vs : List Value) (ps : List (List Int)) (done left : Int) (n : Int) (w : World) (H : Dk.Dsk w base p v Vs ps done left true) :
    Calls Try.prog 10 #[.pointer (some ⟨p, 0, none⟩), .int .i64 n] w fun e w' => e = .returned (.tuple #[.slice none 0 0, .int .i64 11]) ∧ w' = w := by
  obtain ⟨c0, c1, c2, c3, f0⟩ := H.cells
  clear H
  go_enter Try.func10, Try.ntmps10
  go_wp2
  go_ret2
  exact ⟨rfl, rfl⟩

/-- The form of a disk's row of sectors. -/
theorem Dk.Dsk.form {x : World} {base p : Nat} {v : Value} {Vs : List Value} {ps : List (List Int)} {done left : Int} {dead : Bool} (H : Dk.Dsk x base p v Vs ps done left dead) : ∃ g cap, v = .slice (some ⟨g, 0, none⟩) ps.length cap ∧ ps.length ≤ cap ∧ ∀ k, k < ps.length → x.cell? ⟨g, k, none⟩ = Vs[k]? := by
  rcases H.rows.own.2 with ⟨_, h0⟩ | ⟨g, cap, cur, rfl, _, _, hcap, _⟩
  · have := H.some_
    omega
  · exact ⟨g, cap, rfl, hcap, fun k hk => H.rows.own.cellAt k (by omega)⟩

theorem refRead_arg (base p : Nat) (v : Value) (Vs : List Value) (ps : List (List Int)) (done left : Int) (n : Int) (w : World) (H : Dk.Dsk w base p v Vs ps done left false) (h : n < 0 ∨ (ps.length : Int) ≤ n) :
    Calls Try.prog 10 #[.pointer (some ⟨p, 0, none⟩), .int .i64 n] w fun e w' => e = .returned (.tuple #[.slice none 0 0, .int .i64 1]) ∧ w' = w := by
  obtain ⟨g, cap, rfl, hcap, _⟩ := H.form
  obtain ⟨c0, c1, c2, c3, f0⟩ := H.cells
  have h16 := H.most
  have hm : (ps.length : Int) ≤ 1024 := by omega
  clear H
  obtain ⟨m, hmm⟩ : ∃ m, ps.length = m := ⟨_, rfl⟩
  rw [hmm] at c0 h hm
  clear hmm h16 hcap
  by_cases h1 : n < 0
  · go_enter Try.func10, Try.ntmps10
    go_wp2
    go_ret2
    exact ⟨rfl, rfl⟩
  · have h2 : (m : Int) ≤ n := h.resolve_left h1
    clear h
    go_enter Try.func10, Try.ntmps10
    go_wp2
    go_ret2
    exact ⟨rfl, rfl⟩

/-- A row of bytes of the call's own is handed back. -/
def Dk.Reads (w : World) (l : List Int) (e : Ending) (w' : World) : Prop :=
  ∃ u, e = .returned (.tuple #[u, .int .i64 0]) ∧ w'.ownsRow w.heap.size 5 1 u l.length (Ck.bys l) ∧ u ≠ .slice none 0 0 ∧ w.grownBy w' none

set_option maxRecDepth 4000 in
set_option maxHeartbeats 1600000 in
theorem refRead_ok (base p : Nat) (v : Value) (Vs : List Value) (ps : List (List Int)) (done left : Int) (n : Nat) (l : List Int) (w : World) (H : Dk.Dsk w base p v Vs ps done left false) (hl : ps[n]? = some l) :
    Calls Try.prog 10 #[.pointer (some ⟨p, 0, none⟩), .int .i64 (n : Int)] w (Dk.Reads w l) := by
  obtain ⟨g, cap, rfl, hcap, hrow⟩ := H.form
  obtain ⟨c0, c1, c2, c3, f0⟩ := H.cells
  have hn : n < ps.length := (List.getElem?_eq_some_iff.1 hl).1
  obtain ⟨u, hu⟩ : ∃ u, Vs[n]? = some u := ⟨_, List.getElem?_eq_getElem (by rw [H.len]; exact hn)⟩
  obtain ⟨hp1, hp4⟩ := H.rows.each n u l hu hl
  have h64 : l.length = 64 := H.sect l (List.mem_of_getElem? hl)
  have hck := hrow n hn
  rw [hu] at hck
  obtain ⟨k, c, rfl⟩ : ∃ g cap, u = .slice (some ⟨g, 0, none⟩) l.length cap := by
    rcases hp1.2 with ⟨h1, _⟩ | ⟨g, cap, cur, h1, _⟩
    · exact absurd h1 hp4
    · exact ⟨g, cap, h1⟩
  have g1 : (n : Int) < (ps.length : Int) := by omega
  have hm : (ps.length : Int) ≤ 1024 := by have := H.most; omega
  have hnews : Hid (∀ j u, (Ck.bys l)[j]? = some u → (w.alloc (.cells #[] 5)).cell? ((⟨k, 0, none⟩ : Addr).add j) = some u) := fun j u hj => by
    have hc := hp1.cells (g := k) rfl j u hj
    exact (World.cell?_of_block ((World.grownBy_alloc w (.cells #[] 5) none).block _ (Go.block_lt_of_cell hc) (by simp))).trans hc
  have hone : Hid (∀ u ∈ Ck.bys l, u.oneCell' = true) := fun u hu => by
    obtain ⟨q, -, rfl⟩ := List.mem_map.1 hu
    rfl
  have hoz : Hid ((w.alloc (.cells #[] 5)).ownsRow w.heap.size 5 1 (.slice (some ⟨w.heap.size, 0, none⟩) 0 0) 0 []) := World.ownsRow_lit (base := w.heap.size) (e := 5) (size := 1) w #[] 0 (Nat.le_refl _) (by unfold maxLen; omega) rfl
  obtain ⟨m, hmm⟩ : ∃ m, ps.length = m := ⟨_, rfl⟩
  obtain ⟨q, hq⟩ : ∃ q, l.length = q := ⟨_, rfl⟩
  have hlen : Hid ((Ck.bys l).length = q * 1) := by show (Ck.bys l).length = q * 1; unfold Ck.bys; simp [hq]
  have HQ := hide hq
  rw [hmm] at c0 g1 hm
  rw [hq] at hck h64
  have hq64 : q ≤ 64 := by omega
  have a0 : w.cell? ⟨p, 0, none⟩ = some (.slice (some ⟨g, 0, none⟩) m cap) := c0
  have ltp : p < w.heap.size := Go.block_lt_of_cell c0
  have ltg : g < w.heap.size := Go.block_lt_of_cell hck
  obtain ⟨i0, hi, hz0, hz1, hz2⟩ := info_parts info_by
  clear H hrow hl hu hp1 hp4 hmm hq hn h64 hcap c0
  go_enter Try.func10, Try.ntmps10
  go_wp2_with (at_builtin; refine wpList_append_own _ rfl _ _ 31 rfl w.heap.size 5 i0 (.int .u8 0) 1 1 Try.underlying31 hi hz0 hz1 hz2 rfl (by decide) _ 0 [] rfl (unhide hoz) ⟨k, 0, none⟩ q c (Ck.bys l) rfl (unhide hlen) (unhide hnews) (unhide hone) ?_ ?_ ?_ ?_)
  · unfold maxLen; omega
  · omega
  · first | omega | simp
  intro v6 w6 hown hgrow hnil
  try rw [Nat.zero_add] at hown
  try rw [List.nil_append] at hown
  rw [← unhide HQ] at hown
  have hfin : Hid (Dk.Reads w l (.returned (.tuple #[v6, .int .i64 0])) w6) := ⟨v6, rfl, hown, hnil, grown_own (World.grownBy_alloc w _ none) hgrow (fun q e => by cases e; exact Nat.le_refl _)⟩
  clear hown hgrow hnil
  go_wp2
  go_ret2
  exact unhide hfin

end Go.Proofs.Ytnpdmfhknbfmhaa
