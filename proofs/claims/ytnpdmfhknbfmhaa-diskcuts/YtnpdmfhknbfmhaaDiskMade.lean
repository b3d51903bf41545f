/-
  A write of noughts that are made there.
-/
import Derived.Test.YtnpdmfhknbfmhaaDiskKnown
import Derived.Test.YtnpdmfhknbfmhaaTripSized
namespace Go.Proofs.Ytnpdmfhknbfmhaa
open Go.RowKit Go.Maps

def Dk.Wrote (w : World) (base p b cnt : Nat) (r : Int × Dk.St) (e : Ending) (w' : World) : Prop :=
  e = .returned (.int .i64 r.1) ∧ Dk.Mine w' base p b cnt r.2 ∧ Turn (fun k => k = p ∨ k = b) w w'

theorem Dk.write_made {Z : Array Value} (hZ : ∀ w : World, Ck.Src (w.alloc (.cells Z 5)) (.slice (some ⟨w.heap.size, 0, none⟩) 64 64) Dk.noughts) {x : World} {base p b cnt : Nat} {s : Dk.St} (H : Dk.Mine x base p b cnt s) (n : Int) (hl2 : s.left ≤ 9223372036854775807) (hd1 : s.done ≤ 1099511627776) :
    Calls Try.prog 12 #[.pointer (some ⟨p, 0, none⟩), .int .i64 n, .slice (some ⟨x.heap.size, 0, none⟩) 64 64] (x.alloc (.cells Z 5)) (Dk.Wrote x base p b cnt (Dk.wr cnt s n Dk.noughts)) := by
  have h64 := Dk.noughts_len
  have hs : Ck.Src (x.alloc (.cells Z 5)) (.slice (some ⟨x.heap.size, 0, none⟩) Dk.noughts.length 64) Dk.noughts := by rw [h64]; exact hZ x
  have h := Dk.mine_write base p b cnt s n (some ⟨x.heap.size, 0, none⟩) 64 Dk.noughts _ (H.on (World.grownBy_alloc x (.cells Z 5) none)) hs (fun ad _ e => by cases e; have := H.box.lt; simp only; omega) hl2 hd1
  rw [h64] at h
  refine h.mono ?_
  rintro e w' ⟨h1, h2, h3⟩
  exact ⟨h1, h2, (Turn.new (B := fun k => k = p ∨ k = b) (World.grownBy_alloc x (.cells Z 5) none)).trans h3 (fun _ _ q => q)⟩

theorem Byt.src {w : World} {a : Option Addr} {n c : Nat} {l : List Int} (h : Byt w a n c l) : l.length = n ∧ Ck.Src w (.slice a n c) l ∧ n ≤ maxLen ∧ ∀ ad, a = some ad → 0 < n → ad.block < w.heap.size := by
  rcases h with ⟨rfl, rfl, rfl, rfl⟩ | ⟨rfl, h2, h3, _, x, rfl, h5⟩
  · exact ⟨rfl, .inl ⟨rfl, rfl⟩, Nat.zero_le _, fun ad e => by cases e⟩
  · refine ⟨rfl, .inr ⟨x, c, rfl, fun j u q => ?_⟩, Nat.le_trans h2 h3, fun ad e h0 => ?_⟩
    · unfold Ck.bys at q
      rw [List.getElem?_map] at q
      obtain ⟨z, hz1, hz2⟩ := Option.map_eq_some_iff.1 q
      have hj : j < l.length := (List.getElem?_eq_some_iff.1 hz1).1
      rw [h5 j hj, ← hz2, List.getD, hz1]
      rfl
    · cases e
      have hc := Go.block_lt_of_cell (h5 0 h0)
      have hb : (x.add 0).block = x.block := by unfold Addr.add; split <;> rfl
      rwa [hb] at hc

/-- Bytes that came in, or none, however many, are laid behind a row of the call's own. -/
theorem wpList_append_wide {w : World} {ops : Array Oper} {rest : List Oper} {o : Oper} {a : Act} {Q : Exit → Act → World → Prop} (hgd : o.guard = none) (s x : Operand) (ho : o.op = .call { callee := .builtin .append, args := #[s, x], argTypes := #[31, 31] })
    (base : Nat) (v : Value) (n : Nat) (xs : List Value) (hs : a.eval s = v) (hown : w.ownsRow base 5 1 v n xs) (u : Value) (l : List Int) (hx : a.eval x = u) (hsrc : Ck.Src w u l) (hn : n + l.length ≤ 140737488355328) (hbase : base ≤ w.heap.size)
    (h : ∀ v' w', w'.ownsRow base 5 1 v' (n + l.length) (xs ++ Ck.bys l) → w.grownBy w' v.ownBlock → (v ≠ .slice none 0 0 → v' ≠ .slice none 0 0) → wpList Try.prog ops Q rest (a.put o.dst v') w') : wpList Try.prog ops Q (o :: rest) a w := by
  obtain ⟨i0, hi, hz0, hz1, hz2⟩ := info_parts info_by
  rcases hsrc with ⟨rfl, rfl⟩ | ⟨ad, c, rfl, h2⟩
  · refine wpList_append_own_none hgd s x 31 ho base 5 i0 1 Try.underlying31 hi v n xs hs hown hx ?_
    exact h v w (by simpa [Ck.bys] using hown) (World.grownBy.refl _ _) (fun q => q)
  · refine wpList_append_own w hgd s x 31 ho base 5 i0 (.int .u8 0) 1 1 Try.underlying31 hi hz0 hz1 hz2 rfl (by decide) v n xs hs hown ad l.length c (Ck.bys l) hx (by unfold Ck.bys; simp) h2 (fun u hu => ?_) (by unfold maxLen; omega) (by omega) hbase ?_
    · obtain ⟨q, -, rfl⟩ := List.mem_map.1 hu
      rfl
    · intro v' w' h3 h4 h5
      exact h v' w' h3 h4 (fun q r => q (h5.1 r).1)

/-- What sector tells, as bytes. -/
def Dk.SecAs (w : World) (a : Option Addr) (l : List Int) (e : Ending) (w' : World) : Prop :=
  ∃ a' c', e = .returned (.slice a' (Dk.sec l).length c') ∧ Ck.Src w' (.slice a' (Dk.sec l).length c') (Dk.sec l) ∧ w.grownBy w' none ∧ ∀ ad, a' = some ad → a' = a ∨ w.heap.size ≤ ad.block

theorem Dk.sector_any (a : Option Addr) (n c : Nat) (l : List Int) (w : World) (hl : l.length = n) (hm : n ≤ maxLen) (hs : Ck.Src w (.slice a n c) l) :
    Calls Try.prog 11 #[.slice a n c] w (Dk.SecAs w a l) := by
  have h : Calls Try.prog 11 #[.slice a n c] w (Dk.Secs w a n c l) := by
    by_cases h : n = 0 ∨ 63 < n
    · exact sector_same a n c l w hl hm h
    · exact sector_new a n c l w hl (by omega) (by omega) hs
  refine h.mono ?_
  rintro e w' (⟨g, rfl, h64, ho, hg⟩ | ⟨rfl, h1, h2, rfl⟩)
  · refine ⟨some ⟨g, 0, none⟩, 64, by rw [h64], ?_, hg, fun ad e => ?_⟩
    · rw [h64]
      exact .inr ⟨⟨g, 0, none⟩, 64, by rw [h64], fun j u hj => ho.cells (g := g) rfl j u hj⟩
    · cases e
      exact .inr (ho.lt g rfl).1
  · refine ⟨a, c, by rw [h1, hl], by rw [h1, hl]; exact hs, World.grownBy.refl _ _, fun ad e => .inl rfl⟩

theorem Dk.sec_most {l : List Int} {m : Nat} (h : l.length ≤ m) (hm : 64 ≤ m) : (Dk.sec l).length ≤ m := by
  by_cases q : l.length = 0 ∨ 63 < l.length
  · rw [Dk.sec_same q]; exact h
  · rw [Dk.sec_len q]; exact hm

theorem Ck.Src.turned {x y : World} {B : Nat → Prop} {a : Option Addr} {n c : Nat} {l : List Int} (h : Ck.Src x (.slice a n c) l) (ht : Turn B x y) (hb : ∀ ad, a = some ad → 0 < l.length → ¬ B ad.block) : Ck.Src y (.slice a n c) l := by
  rcases h with ⟨h1, h2⟩ | ⟨ad, c', e, h2⟩
  · exact .inl ⟨h1, h2⟩
  · refine .inr ⟨ad, c', e, fun j u hj => ?_⟩
    have h3 := h2 j u hj
    have e2 : (ad.add j).block = ad.block := by unfold Addr.add; split <;> rfl
    have hl : 0 < l.length := by
      have := (List.getElem?_eq_some_iff.1 hj).1
      rw [Dk.bys_len] at this
      omega
    simp only [Value.slice.injEq] at e
    exact (World.cell?_of_block (ht.block _ (Go.block_lt_of_cell h3) (by rw [e2]; exact hb ad e.1 hl))).trans h3

theorem Dk.wr_other {cnt : Nat} {s : Dk.St} {n m : Int} {l : List Int} (h : m ≠ n) : (Dk.wr cnt s n l).2.f m = s.f m := by
  unfold Dk.wr
  split
  · rfl
  · split
    · rfl
    · split
      · rfl
      · exact if_neg h

end Go.Proofs.Ytnpdmfhknbfmhaa
