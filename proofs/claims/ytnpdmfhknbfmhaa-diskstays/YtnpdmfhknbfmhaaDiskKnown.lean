/-
  The law's own: the chapter's example.
-/
import Derived.Test.YtnpdmfhknbfmhaaDiskBoth
namespace Go.Proofs.Ytnpdmfhknbfmhaa
open Go.RowKit Go.Maps

theorem Dk.own_src {x : World} {base g c : Nat} {T : TypeId} {l : List Int} (h : x.ownsRow base T 1 (.slice (some ⟨g, 0, none⟩) l.length c) l.length (Ck.bys l)) : Ck.Src x (.slice (some ⟨g, 0, none⟩) l.length c) l :=
  .inr ⟨_, c, rfl, fun j u hj => h.cells (g := g) rfl j u hj⟩

theorem Dk.noughts_len : Dk.noughts.length = 64 := by unfold Dk.noughts; simp

/-- 64 noughts, made: as bytes. -/
theorem Dk.made : ∃ Z : Array Value, (∀ w : World, (Instr.makeSlice 31 (.int .i64 64) (.int .i64 64)).run Try.prog w = .ok (.slice (some ⟨w.heap.size, 0, none⟩) 64 64) (w.alloc (.cells Z 5))) ∧ ∀ w : World, Ck.Src (w.alloc (.cells Z 5)) (.slice (some ⟨w.heap.size, 0, none⟩) 64 64) Dk.noughts := by
  obtain ⟨Z, h1, h2⟩ := Dk.make64
  refine ⟨Z, h1, fun w => ?_⟩
  have h := h2 w w.heap.size (Nat.le_refl _)
  have e : (64 : Nat) = (List.replicate 64 (0 : Int)).length := by simp
  exact .inr ⟨⟨w.heap.size, 0, none⟩, 64, by rw [Dk.noughts_len], fun j u hj => h.cells (g := w.heap.size) rfl j u hj⟩

theorem Dk.still {w x y : World} {p b : Nat} (h : Turn (fun _ => False) w x) (ht : Turn (fun k => k = p ∨ k = b) x y) (hp : w.heap.size ≤ p) (hb : w.heap.size ≤ b) : Turn (fun _ => False) w y :=
  h.trans ht (fun i hi e => by rcases e with rfl | rfl <;> omega)

theorem Dk.wr_ok {cnt : Nat} {s : Dk.St} {n : Int} {l : List Int} (h0 : s.dead = false) (h1 : Dk.has cnt n = true) (h2 : l.length = 64) (h3 : s.left ≠ 0) : Dk.wr cnt s n l = (0, ⟨Dk.putF s.f n l, s.done + 1, if 0 < s.left then s.left - 1 else s.left, false⟩) := by
  unfold Dk.wr
  rw [if_neg (by simp [h0]), if_neg (by simp [h1, h2]), if_neg h3]

theorem Dk.wr_cut {cnt : Nat} {s : Dk.St} {n : Int} {l : List Int} (h0 : s.dead = false) (h1 : Dk.has cnt n = true) (h2 : l.length = 64) (h3 : s.left = 0) : Dk.wr cnt s n l = (11, ⟨s.f, s.done, 0, true⟩) := by
  unfold Dk.wr
  rw [if_neg (by simp [h0]), if_neg (by simp [h1, h2]), if_pos h3]

theorem Dk.wr_dead {cnt : Nat} {s : Dk.St} {n : Int} {l : List Int} (h0 : s.dead = true) : Dk.wr cnt s n l = (11, s) := by
  unfold Dk.wr
  rw [if_pos h0]

theorem Dk.wr_arg {cnt : Nat} {s : Dk.St} {n : Int} {l : List Int} (h0 : s.dead = false) (h1 : Dk.has cnt n = false ∨ l.length ≠ 64) : Dk.wr cnt s n l = (1, s) := by
  unfold Dk.wr
  rw [if_neg (by simp [h0]), if_pos h1]

/-- A new disk of the project's. -/
theorem Dk.mine_new (n : Nat) (w : World) (h1 : 1 ≤ n) (h2 : n ≤ 1024) :
    Calls Try.prog 7 #[.int .i64 (n : Int)] w fun e w' => ∃ p b, e = .returned (.tuple #[.pointer (some ⟨p, 0, none⟩), .int .i64 0]) ∧ Dk.Mine w' w.heap.size p b n Dk.fresh ∧ w.grownBy w' none := by
  refine (dkNew_any n w h1 h2).mono ?_
  rintro e w' ⟨p, b, rfl, h3, h4⟩
  exact ⟨p, b, rfl, h3, h4⟩

set_option maxRecDepth 8000 in
theorem known13_any (w : World) :
    Calls Try.prog 6 #[] w (Says w (.bool true)) := by
  have c0 := hide (Dk.mine_new 2 w (by omega) (by omega))
  obtain ⟨Z, hmk, hZ⟩ := Dk.made
  have HZ := hide hZ
  clear hZ
  go_enter Try.func6, Try.ntmps6
  go_wp2_with fail
  refine (unhide c0).mono ?_
  rintro e w1 ⟨p, b, rfl, hM, hg⟩
  have c1 := hide (Dk.mine_cut _ p b 2 _ 1 w1 hM)
  have hlo := hide (And.intro hM.low hM.lowb)
  have T1 := hide (Turn.new (B := fun _ => False) hg)
  clear hM hg c0
  go_wp2_with fail
  refine (unhide c1).mono ?_
  rintro e w2 ⟨rfl, hM, ht⟩
  have T2 := hide (Dk.still (unhide T1) ht (unhide hlo).1 (unhide hlo).2)
  have hM3 : Dk.Mine (w2.alloc (.cells Z 5)) _ p b 2 _ := hM.on (World.grownBy_alloc _ _ _)
  have hne : w2.heap.size ≠ p := by have := hM.box.lt; omega
  have h64 := Dk.noughts_len
  have hs3 : Ck.Src (w2.alloc (.cells Z 5)) (.slice (some ⟨w2.heap.size, 0, none⟩) Dk.noughts.length 64) Dk.noughts := by rw [h64]; exact unhide HZ w2
  obtain ⟨g, hg⟩ : ∃ g, w2.heap.size = g := ⟨_, rfl⟩
  have c2 := Dk.mine_write _ p b 2 _ 0 (some ⟨g, 0, none⟩) 64 Dk.noughts _ hM3 (by rw [← hg]; exact hs3) (fun ad _ e => by cases e; rw [← hg]; exact hne) (by simp) (by simp [Dk.fresh])
  rw [Dk.wr_ok rfl (by decide) h64 (by simp)] at c2
  simp only at c2
  rw [h64] at c2
  have C2 := hide c2
  obtain ⟨x3, hx3⟩ : ∃ x, w2.alloc (.cells Z 5) = x := ⟨_, rfl⟩
  have T3 : Hid (Turn (fun _ => False) w x3) := by rw [← hx3]; exact (unhide T2).alloc _
  have S3 : Hid (Ck.Src x3 (.slice (some ⟨g, 0, none⟩) Dk.noughts.length 64) Dk.noughts) := by rw [← hx3, ← hg]; exact hs3
  have hgb : Hid (b ≠ g ∧ p ≠ g) := by have h1 := hM.ltb; have h2 := hM.box.lt; exact ⟨by omega, by omega⟩
  rw [hx3] at C2
  clear hM ht T1 T2 hM3 c1 c2 hs3 hne HZ
  go_wp2_with fail
  refine (unhide C2).mono ?_
  rintro e w4 ⟨rfl, hM, ht⟩
  have T4 := hide (Dk.still (unhide T3) ht (unhide hlo).1 (unhide hlo).2)
  have S4 : Ck.Src w4 (.slice (some ⟨g, 0, none⟩) Dk.noughts.length 64) Dk.noughts := by
    rcases unhide S3 with ⟨q, _⟩ | ⟨ad, c, e, hc⟩
    · cases q
    · refine .inr ⟨ad, c, e, fun j u hj => ?_⟩
      have h1 := hc j u hj
      simp only [Value.slice.injEq, Option.some.injEq, true_and] at e
      obtain ⟨rfl, rfl⟩ := e
      rw [Go.WideShapes.add_plain] at h1 ⊢
      have hg2 := unhide hgb
      rw [ht.cell (Go.block_lt_of_cell h1) (by intro q; rcases q with q | q <;> simp at q <;> omega)]
      exact h1
  have c3 := Dk.mine_write _ p b 2 _ 1 (some ⟨g, 0, none⟩) 64 Dk.noughts _ hM S4 (fun ad _ e => by cases e; exact fun q => (unhide hgb).2 q.symm) (by simp) (by simp [Dk.fresh])
  rw [Dk.wr_cut rfl (by decide) h64 (by simp)] at c3
  simp only at c3
  rw [h64] at c3
  have C3 := hide c3
  clear hM ht T3 S3 S4 C2 c3
  go_wp2_with fail
  refine (unhide C3).mono ?_
  rintro e w5 ⟨rfl, hM, ht⟩
  have T5 := hide (Dk.still (unhide T4) ht (unhide hlo).1 (unhide hlo).2)
  have C4 := hide (dkDead_any _ p b 2 _ _ _ _ w5 hM)
  clear hM ht C3 T4
  go_wp2_with fail
  refine (unhide C4).mono ?_
  rintro e wq ⟨rfl, hq'⟩
  obtain rfl : w5 = wq := hq'.symm
  clear C4
  go_wp2
  go_ret
  exact ⟨rfl, Turn.grownBy (unhide T5)⟩

end Go.Proofs.Ytnpdmfhknbfmhaa
