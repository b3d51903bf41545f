/-
  Free cells; and what the two steps of a field need: memory that is turned in one block alone.
-/
import Derived.Test.YtiegccdgoemamaaGridSee
import Derived.Test.YtiegccdgoemamaaGridBfs
namespace Go.Proofs.Ytiegccdgoemamaa
open Go.RowKit

/-- A cell can be walked on and is not blocked. -/
def Gr.openB (f : Nat → Int) (blen : Nat) (g : Nat → Bool) (i : Nat) : Bool := Gr.walkB (f i) && !(decide (i < blen) && g i)

theorem Gr.open_no {f : Nat → Int} {blen : Nat} {g : Nat → Bool} {i : Nat} (h : Gr.walkB (f i) = false) : Gr.openB f blen g i = false := by simp [Gr.openB, h]
theorem Gr.open_past {f : Nat → Int} {blen : Nat} {g : Nat → Bool} {i : Nat} (h : Gr.walkB (f i) = true) (hi : ¬ i < blen) : Gr.openB f blen g i = true := by simp [Gr.openB, h, hi]
theorem Gr.open_in {f : Nat → Int} {blen : Nat} {g : Nat → Bool} {i : Nat} (h : Gr.walkB (f i) = true) (hi : i < blen) : Gr.openB f blen g i = !(g i) := by simp [Gr.openB, h, hi]

theorem Gr.at_in {f : Nat → Int} {x y : Int} {k : Nat} (h : Gr.inB x y = true) (hk : y * 24 + x = (k : Int)) : Gr.at 384 f x y = f k := by
  have := (Gr.inB_iff x y).1 h
  unfold Gr.at
  rw [if_pos ⟨h, by omega⟩, hk, Int.toNat_natCast]

theorem Gr.at_out {len : Nat} {f : Nat → Int} {x y : Int} (h : Gr.inB x y = false) : Gr.at len f x y = 0 := by
  unfold Gr.at
  rw [if_neg]
  rintro ⟨h', _⟩
  rw [h] at h'
  cases h'

theorem grown_trans {a b c : World} {r : Option Nat} (h : a.grownBy b r) (k : b.grownBy c r) : a.grownBy c r :=
  ⟨k.os.trans h.os, k.tape.trans h.tape, k.output.trans h.output, Nat.le_trans h.size k.size, fun i hi hr => (k.block i (Nat.lt_of_lt_of_le hi h.size) hr).trans (h.block i hi hr)⟩

theorem grown_own {a b c : World} {r s : Option Nat} (h : a.grownBy b r) (k : b.grownBy c s) (hs : ∀ n, s = some n → a.heap.size ≤ n) : a.grownBy c r :=
  ⟨k.os.trans h.os, k.tape.trans h.tape, k.output.trans h.output, Nat.le_trans h.size k.size, fun i hi hr => (k.block i (Nat.lt_of_lt_of_le hi h.size) (fun e => by have := hs i e.symm; omega)).trans (h.block i hi hr)⟩

theorem grown_set {a b : World} {g : Nat} (h : a.grownBy b (some g)) (i : Nat) (u : Value) : a.grownBy (b.setCell ⟨g, i, none⟩ u) (some g) :=
  grown_trans h ⟨rfl, rfl, rfl, by simp, fun k _ hk => heap_setCell_other b ⟨g, i, none⟩ k u (fun e => hk (by rw [e]))⟩

theorem grown_alloc {a b : World} {r : Option Nat} (h : a.grownBy b r) (o : Obj) : a.grownBy (b.alloc o) r := grown_trans h (World.grownBy_alloc b o r)

theorem grown_drew {a b : World} {r : Option Nat} (h : a.grownBy b r) (n : Nat) : a.grownBy (b.drewN n) r := by
  have k := below_drewN (Below.refl b.heap.size b) n
  exact grown_trans h ⟨k.os, k.tape, k.output, k.size, fun i hi _ => k.block i hi⟩

theorem grown_below {a b : World} {g : Nat} (h : a.grownBy b (some g)) (hg : g ≤ a.heap.size) : Below g a b :=
  ⟨h.os, h.tape, h.output, h.size, fun i hi => h.block i (by omega) (fun e => by cases e; omega)⟩

/-- A slice that lies in another block than G. -/
def Vex (G : Nat) (w : World) (a : Option Addr) (len : Nat) (F : Nat → Value) : Prop :=
  len ≤ maxLen ∧ (len = 0 ∨ ∃ b off, a = some ⟨b, off, none⟩ ∧ b < w.heap.size ∧ b ≠ G ∧ ∀ i, i < len → w.cell? ⟨b, off + i, none⟩ = some (F i))

theorem Vex.at {G : Nat} {w wr : World} {a : Option Addr} {len : Nat} {F : Nat → Value} (h : Vex G w a len F) (hg : w.grownBy wr (some G)) {k : Nat} (hk : k < len) :
    ∃ b off, a = some ⟨b, off, none⟩ ∧ wr.cell? ⟨b, off + k, none⟩ = some (F k) := by
  obtain ⟨_, h0 | ⟨b, off, ha, hlt, hne, hc⟩⟩ := h
  · omega
  · exact ⟨b, off, ha, (World.cell?_of_block (a := ⟨b, off + k, none⟩) (hg.block b hlt (fun e => hne (by cases e; rfl)))).trans (hc k hk)⟩

theorem one_at (w : World) (x : Value) (t : TypeId) (B : Nat) (hB : B = w.heap.size) : ∀ j u, [x][j]? = some u → (w.alloc (.cells #[x] t)).cell? ((⟨B, 0, none⟩ : Addr).add j) = some u := by
  subst hB
  exact cell_one_new w x t

def natInts (l : List Nat) : List Int := l.map Int.ofNat

theorem natInts_more (l : List Nat) (b : Nat) : (natInts l).map (Value.int .i64) ++ [.int .i64 (b : Int)] = (natInts (l ++ [b])).map (Value.int .i64) := by
  simp [natInts]

theorem natInts_len (l : List Nat) : (natInts l).length = l.length := by simp [natInts]

theorem natInts_at (l : List Nat) (i : Nat) : (natInts l)[i]?.getD 0 = ((l[i]?.getD 0 : Nat) : Int) := by
  unfold natInts
  rw [List.getElem?_map]
  cases l[i]? <;> rfl

theorem own_vex {w : World} {base G : Nat} {v : Value} {l : List Nat} (h : w.ownsRow base 3 1 v l.length ((natInts l).map (Value.int .i64))) (hG : G < base) (hm : l.length ≤ maxLen) :
    ∃ a cap, v = .slice a l.length cap ∧ Vex G w a l.length (Ints fun i => ((l[i]?.getD 0 : Nat) : Int)) := by
  rcases h.2 with ⟨rfl, h0⟩ | ⟨g, cap, cur, rfl, hb, hg, _, _, _, _⟩
  · exact ⟨none, 0, by rw [h0], hm, .inl h0⟩
  · refine ⟨_, cap, rfl, hm, .inr ⟨g, 0, rfl, lt_of_block hg, by omega, fun i hi => ?_⟩⟩
    rw [Nat.zero_add, h.cellAt i (by omega), List.getElem?_map]
    show _ = some (Value.int .i64 ((l[i]?.getD 0 : Nat) : Int))
    rw [← natInts_at, List.getElem?_eq_getElem (by rw [natInts_len]; exact hi)]
    rfl

theorem Arr.grown {w w' : World} {g : Nat} {T : TypeId} {n : Nat} {F : Nat → Value} {r : Option Nat} (h : Arr w g T n F) (hg : w.grownBy w' r) (hr : r ≠ some g) : Arr w' g T n F := by
  have hlt := h.lt
  obtain ⟨cur, h1, hs, hc⟩ := h
  exact ⟨cur, (hg.block g hlt (fun e => hr e.symm)).trans h1, hs, hc⟩

theorem Arr.alloc {w : World} {g : Nat} {T : TypeId} {n : Nat} {F : Nat → Value} (h : Arr w g T n F) (o : Obj) : Arr (w.alloc o) g T n F := h.grown (World.grownBy_alloc w o none) (by simp)

theorem Arr.upd {w : World} {g n i : Nat} {T : TypeId} {F : Nat → Int} (h : Arr w g T n (Ints F)) (v : Int) : Arr (w.setCell ⟨g, i, none⟩ (.int .i64 v)) g T n (Ints (Gr.upd F i v)) := by
  refine (h.store i _).congr fun j _ => ?_
  show (if j = i then Value.int .i64 v else .int .i64 (F j)) = .int .i64 (if j = i then v else F j)
  split <;> rfl

end Go.Proofs.Ytiegccdgoemamaa
