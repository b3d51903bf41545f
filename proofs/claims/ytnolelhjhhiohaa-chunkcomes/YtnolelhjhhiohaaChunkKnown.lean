/-
  The law package's known.
-/
import Derived.Test.YtnolelhjhhiohaaChunkNext
import Derived.Test.YtnolelhjhhiohaaChunkLaw
namespace Go.Proofs.Ytnolelhjhhiohaa
open Go.RowKit

theorem Ck.next5 : Ck.next 5 (fun _ => false) 0 3 = [0, 1, 2] ∧ Ck.goes 5 (fun _ => false) 0 3 = 3 ∧ Ck.next 5 (fun _ => false) 3 3 = [3, 4, 0] := by decide

theorem Ck.own_form {x : World} {base : Nat} {T : TypeId} {z : Nat} {v : Value} {n : Nat} {xs : List Value} (h : x.ownsRow base T z v n xs) (hn : 0 < n) : ∃ g cap, v = .slice (some ⟨g, 0, none⟩) n cap ∧ base ≤ g ∧ g < x.heap.size := by
  rcases h.2 with ⟨_, h0⟩ | ⟨g, cap, cur, rfl, hb, hc, _⟩
  · omega
  · exact ⟨g, cap, rfl, hb, (Array.getElem?_eq_some_iff.1 hc).1⟩

theorem Ck.own_num {x : World} {base g cap : Nat} {l : List Nat} {n : Nat} (h : x.ownsRow base 3 1 (.slice (some ⟨g, 0, none⟩) n cap) l.length (Ck.nums l)) {k : Nat} (hk : k < l.length) : x.cell? ⟨g, k, none⟩ = some (.int .i64 ((l.getD k 0 : Nat) : Int)) := by
  have h1 := h.cells (g := g) rfl k _ (Ck.nums_at hk)
  rwa [Go.WideShapes.add_plain, Nat.zero_add] at h1

set_option maxRecDepth 4000 in
theorem known12_any (w : World) :
    Calls Try.prog 9 #[] w (Says w (.bool true)) := by
  have c0 := hide (ckNewSender_any 5 w (by omega) (by omega))
  go_enter Try.func9, Try.ntmps9
  go_wp2_with fail
  refine (unhide c0).mono ?_
  rintro e w1 ⟨p, rfl, hp, hM, hg⟩
  have c1 := hide (ckNext_any p 5 (fun _ => false) 0 3 w1 hM)
  have hpl := hide hM.box.lt
  have G1 := hide (And.intro hp hg)
  clear hp hM hg c0
  go_wp2_with fail
  refine (unhide c1).mono ?_
  rintro e w2 ⟨v, rfl, ho, hM, ht⟩
  have c2 := hide (ckNext_any p 5 (fun _ => false) _ 3 w2 hM)
  have ht2 : Hid (w.grownBy w2 none) := by
    refine (Turn.grownBy ?_)
    exact (Turn.new (unhide G1).2).trans ht (fun i hi e => by have := (unhide G1).1; omega)
  rw [Ck.next5.1] at ho
  obtain ⟨g, cap, rfl, hg1, hg2⟩ := Ck.own_form ho (by decide)
  have HO := hide ho
  have hlt2 := hide hg2
  have hlt1 := hide hg1
  clear ho hM ht c1 hg1 hg2
  go_wp2_with fail
  refine (unhide c2).mono ?_
  rintro e w3 ⟨v, rfl, ho, hM, ht⟩
  have ht3 : Hid (w.grownBy w3 none) := by
    refine (Turn.grownBy ?_)
    exact (Turn.new (unhide ht2)).trans ht (fun i hi e => by have := (unhide G1).1; omega)
  rw [Ck.next5.2.1, Ck.next5.2.2] at ho
  obtain ⟨g', cap', rfl, hg1', hg2'⟩ := Ck.own_form ho (by decide)
  have hne : g ≠ p := by
    have h1 := unhide hlt1
    have h2 := unhide hpl
    omega
  have d1 : w3.cell? ⟨g, 2, none⟩ = some (.int .i64 2) := by
    have := Ck.own_num (unhide HO) (k := 2) (by decide)
    rw [ht.cell (unhide hlt2) hne]
    exact this
  have d2 : w3.cell? ⟨g', 0, none⟩ = some (.int .i64 3) := Ck.own_num ho (k := 0) (by decide)
  have d3 : w3.cell? ⟨g', 2, none⟩ = some (.int .i64 0) := Ck.own_num ho (k := 2) (by decide)
  clear ho hM ht c2 hg1' hg2' HO hne
  go_wp2
  go_ret
  exact ⟨rfl, unhide ht3⟩

end Go.Proofs.Ytnolelhjhhiohaa
