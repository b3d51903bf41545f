/-
  The document's taker: Bits, Whole, Put.
-/
import Derived.Test.YtnolelhjhhiohaaChunkMath
import Derived.Test.YtnolelhjhhiohaaTurn
import Derived.Test.YtnolelhjhhiohaaTill
import Derived.Handy
import Derived.Deep.QuietTactic
import Derived.BigQuiet
import Derived.Deep.Cut
import Derived.Deep.CutRange
import Derived.Deep.CutBlock
namespace Go.Proofs.Ytnolelhjhhiohaa
open Go.RowKit

theorem owns_turned {B : Nat → Prop} {x y : World} {base : Nat} {T : TypeId} {z : Nat} {v : Value} {n : Nat} {xs : List Value} (h : x.ownsRow base T z v n xs) (ht : Turn B x y) (hb : ∀ k, v.ownBlock = some k → ¬ B k) : y.ownsRow base T z v n xs := by
  obtain ⟨h1, h2⟩ := h
  refine ⟨h1, ?_⟩
  rcases h2 with h2 | ⟨g, cap, cur, rfl, hg, hc, hr⟩
  · exact .inl h2
  · refine .inr ⟨g, cap, cur, rfl, hg, ?_, hr⟩
    exact (ht.block g (Array.getElem?_eq_some_iff.1 hc).1 (hb g rfl)).trans hc

/-- The bytes of a list as they lie. -/
def Ck.bys (l : List Int) : List Value := l.map (Value.int .u8)

/-- The number whose bits say which pieces are there. -/
def Ck.num (has : Nat → Bool) : Nat → Int
  | 0 => 0
  | k + 1 => if has k = true then bits .or .u32 (Ck.num has k) (2 ^ k) else Ck.num has k

/-- The document's taker as it lies at p; L: the bytes of the pieces that are there, V their slices. -/
structure Ck.Tkr (x : World) (base p : Nat) (tot : Nat) (has : Nat → Bool) (L : Nat → List Int) (V : Nat → Value) : Prop where
  box : Arr x p 52 33 (fun j => if j = 0 then .int .i64 (tot : Int) else if j < 17 then .bool (has (j - 1)) else V (j - 17))
  low : base ≤ p
  most : tot ≤ 16
  piece : ∀ i, i < 16 → has i = true → x.ownsRow base 5 1 (V i) (L i).length (Ck.bys (L i)) ∧ (V i).ownBlock ≠ some p ∧ (L i).length ≤ 64 ∧ V i ≠ .slice none 0 0
  none_ : ∀ i, i < 16 → has i = false → V i = .slice none 0 0

theorem Ck.Tkr.cell0 {x : World} {base p tot : Nat} {has : Nat → Bool} {L : Nat → List Int} {V : Nat → Value} (H : Ck.Tkr x base p tot has L V) : x.cell? ⟨p, 0, none⟩ = some (.int .i64 (tot : Int)) := H.box.cell (i := 0) (by omega)

theorem Ck.Tkr.mark {x : World} {base p tot : Nat} {has : Nat → Bool} {L : Nat → List Int} {V : Nat → Value} (H : Ck.Tkr x base p tot has L V) {i : Nat} (hi : i < 16) : x.cell? ⟨p, 1 + i, none⟩ = some (.bool (has i)) := by
  have h := H.box.cell (i := 1 + i) (by omega)
  rw [if_neg (by omega), if_pos (by omega), show 1 + i - 1 = i by omega] at h
  exact h

theorem Ck.Tkr.slot {x : World} {base p tot : Nat} {has : Nat → Bool} {L : Nat → List Int} {V : Nat → Value} (H : Ck.Tkr x base p tot has L V) {i : Nat} (hi : i < 16) : x.cell? ⟨p, 17 + i, none⟩ = some (V i) := by
  have h := H.box.cell (i := 17 + i) (by omega)
  rw [if_neg (by omega), if_neg (by omega), show 17 + i - 17 = i by omega] at h
  exact h

theorem Ck.Tkr.on {x y : World} {base p tot : Nat} {has : Nat → Bool} {L : Nat → List Int} {V : Nat → Value} (H : Ck.Tkr x base p tot has L V) (hg : x.grownBy y none) : Ck.Tkr y base p tot has L V :=
  { H with box := H.box.turn (B := fun _ => False) (Turn.new hg) (fun q => q), piece := fun i hi q => ⟨owns_turned (B := fun _ => False) (H.piece i hi q).1 (Turn.new hg) (fun _ _ q => q), (H.piece i hi q).2⟩ }

/-- Bits. -/
theorem refBits_any (base p tot : Nat) (has : Nat → Bool) (L : Nat → List Int) (V : Nat → Value) (w : World) (H : Ck.Tkr w base p tot has L V) :
    Calls Try.prog 26 #[.pointer (some ⟨p, 0, none⟩)] w fun e w' => e = .returned (.int .u32 (Ck.num has 16)) ∧ w' = w := by
  have hm : Hid (∀ i, i < 16 → w.cell? ⟨p, 1 + i, none⟩ = some (.bool (has i))) := fun i hi => H.mark hi
  clear H
  go_enter Try.func26, Try.ntmps26
  go_wp2
  go_loop [3, 4] (fun vb vi => ∃ k : Nat, k ≤ 16 ∧ vi = .int .i64 (k : Int) ∧ vb = .int .u32 (Ck.num has k)) (fun _ vi => 20 - (intOf vi).toNat)
  case atStart => exact ⟨0, Nat.zero_le _, rfl, rfl⟩
  case round =>
    obtain ⟨k, hk, rfl, rfl⟩ := hrel
    by_cases hlt : k < 16
    · have hlt' : (k : Int) < 16 := by omega
      have hk0 : (0 : Int) ≤ (k : Int) := by omega
      have hk32 : (k : Int) ≤ 32 := by omega
      have hck := unhide hm k hlt
      have hsh : IntKind.u32.wrap (1 * 2 ^ k) = 2 ^ k := by
        rcases (show k = 0 ∨ k = 1 ∨ k = 2 ∨ k = 3 ∨ k = 4 ∨ k = 5 ∨ k = 6 ∨ k = 7 ∨ k = 8 ∨ k = 9 ∨ k = 10 ∨ k = 11 ∨ k = 12 ∨ k = 13 ∨ k = 14 ∨ k = 15 by omega) with rfl | rfl | rfl | rfl | rfl | rfl | rfl | rfl | rfl | rfl | rfl | rfl | rfl | rfl | rfl | rfl <;> decide
      have hsh2 : IntKind.u32.wrap (2 ^ k) = 2 ^ k := by rw [Int.one_mul] at hsh; exact hsh
      have HL := hide hlt
      obtain ⟨b, hb⟩ : ∃ b, has k = b := ⟨_, rfl⟩
      rw [hb] at hck
      have HB := hide hb
      obtain ⟨z, hz⟩ : ∃ z, Ck.num has k = z := ⟨_, rfl⟩
      have hmo : Hid (Ck.num has (k + 1) = if b = true then bits .or .u32 z (2 ^ k) else z) := by
        show (if has k = true then _ else _) = _
        rw [hb, hz]
      rw [hz]
      clear hlt hk hb hz
      cases b with
      | true =>
        have hmo2 : Hid (Ck.num has (k + 1) = bits .or .u32 z (2 ^ k)) := unhide hmo
        go_wp2
        go_round
        case rel => exact ⟨k + 1, by have := unhide HL; omega, by go_num, by rw [unhide hmo2]⟩
        case measure => simp [intOf]; have := unhide HL; omega
      | false =>
        have hmo2 : Hid (Ck.num has (k + 1) = z) := unhide hmo
        go_wp2
        go_round
        case rel => exact ⟨k + 1, by have := unhide HL; omega, by go_num, by rw [unhide hmo2]⟩
        case measure => simp [intOf]; have := unhide HL; omega
    · obtain rfl : k = 16 := by omega
      have hge : ¬ ((16 : Nat) : Int) < 16 := by omega
      clear hlt hk
      obtain ⟨z, hz⟩ : ∃ z, Ck.num has 16 = z := ⟨_, rfl⟩
      have HZ := hide hz
      rw [hz]
      clear hz
      go_wp2
      go_ret
      exact ⟨ret_int (unhide HZ).symm, rfl⟩

theorem info_by : (Try.prog.info? 5).map (fun i => (i.zero, i.size, i.bytes)) = some (some (.int .u8 0), 1, 1) := by kernel_rfl

/-- All pieces up to k, one behind the other. -/
def Ck.cat (L : Nat → List Int) : Nat → List Int
  | 0 => []
  | k + 1 => Ck.cat L k ++ L k

theorem Ck.cat_len {L : Nat → List Int} : ∀ {k : Nat}, (∀ i, i < k → (L i).length ≤ 64) → (Ck.cat L k).length ≤ 64 * k
  | 0, _ => Nat.le_refl _
  | k + 1, h => by
    have ih := Ck.cat_len (L := L) (k := k) (fun i hi => h i (by omega))
    have h1 := h k (by omega)
    show (Ck.cat L k ++ L k).length ≤ _
    rw [List.length_append]
    omega

theorem Ck.bys_append (a b : List Int) : Ck.bys (a ++ b) = Ck.bys a ++ Ck.bys b := List.map_append

/-- What Whole answers: all pieces, if they are there. -/
def Ck.Wholes (w : World) (tot : Nat) (has : Nat → Bool) (L : Nat → List Int) (e : Ending) (w' : World) : Prop :=
  (∃ v, e = .returned (.tuple #[v, .bool (decide (0 < tot))]) ∧ (∀ i, i < tot → has i = true) ∧ w'.ownsRow w.heap.size 5 1 v (Ck.cat L tot).length (Ck.bys (Ck.cat L tot)) ∧ w.grownBy w' none) ∨
  (e = .returned (.tuple #[.slice none 0 0, .bool false]) ∧ (∃ i, i < tot ∧ has i = false) ∧ w.grownBy w' none)

structure Ck.Wh (w x : World) (base p : Nat) (tot : Nat) (has : Nat → Bool) (L : Nat → List Int) (V : Nat → Value) (v : Value) (k : Nat) : Prop where
  own : x.ownsRow w.heap.size 5 1 v (Ck.cat L k).length (Ck.bys (Ck.cat L k))
  tkr : Ck.Tkr x base p tot has L V
  bel : w.grownBy x none
  all : ∀ i, i < k → has i = true

theorem Ck.Wh.more {w x y : World} {base p tot : Nat} {has : Nat → Bool} {L : Nat → List Int} {V : Nat → Value} {v v' : Value} {k : Nat} (H : Ck.Wh w x base p tot has L V v k) (hT : Ck.Tkr w base p tot has L V) (hk : has k = true) (hown : y.ownsRow w.heap.size 5 1 v' ((Ck.cat L k).length + (L k).length) (Ck.bys (Ck.cat L k) ++ Ck.bys (L k))) (hg : x.grownBy y v.ownBlock) : Ck.Wh w y base p tot has L V v' (k + 1) := by
  have hg2 : w.grownBy y none := below_grown ⟨hg.os.trans H.bel.os, hg.tape.trans H.bel.tape, hg.output.trans H.bel.output, Nat.le_trans H.bel.size hg.size, fun i hi => (hg.block i (Nat.lt_of_lt_of_le hi H.bel.size) (fun e => by have := (H.own.lt i e.symm).1; omega)).trans (H.bel.block i hi (by simp))⟩
  refine ⟨?_, hT.on hg2, hg2, fun i hi => ?_⟩
  · show y.ownsRow _ _ _ _ (Ck.cat L k ++ L k).length (Ck.bys (Ck.cat L k ++ L k))
    rw [List.length_append, Ck.bys_append]
    exact hown
  · by_cases e : i = k
    · rw [e]; exact hk
    · exact H.all i (by omega)

set_option maxRecDepth 4000 in
set_option maxHeartbeats 1600000 in
theorem refWhole_any (base p tot : Nat) (has : Nat → Bool) (L : Nat → List Int) (V : Nat → Value) (w : World) (H : Ck.Tkr w base p tot has L V) :
    Calls Try.prog 28 #[.pointer (some ⟨p, 0, none⟩)] w (Ck.Wholes w tot has L) := by
  have HT := hide H
  have h16 : (tot : Int) ≤ 16 := by have := H.most; omega
  have H16 := hide H.most
  have H0 : Hid (Ck.Wh w w base p tot has L V (.slice none 0 0) 0) := ⟨World.ownsRow_nil _ _ _ _, H, World.grownBy.refl _ _, fun i hi => absurd hi (by omega)⟩
  obtain ⟨i0, hi, hz0, hz1, hz2⟩ := info_parts info_by
  have hyes : Hid (∀ v x, Ck.Wh w x base p tot has L V v tot → Ck.Wholes w tot has L (.returned (.tuple #[v, .bool (decide (0 < tot))])) x) := fun v x h => .inl ⟨v, rfl, h.all, h.own, h.bel⟩
  have hno : Hid (∀ x i, w.grownBy x none → i < tot → has i = false → Ck.Wholes w tot has L (.returned (.tuple #[.slice none 0 0, .bool false])) x) := fun x i hx h1 h2 => .inr ⟨rfl, ⟨i, h1, h2⟩, hx⟩
  obtain ⟨D, hD⟩ : ∃ D, Ck.Wholes w tot has L = D := ⟨_, rfl⟩
  rw [hD] at hyes hno ⊢
  clear H hD
  go_enter Try.func28, Try.ntmps28
  go_wp2_with fail
  go_loopw [4, 5] (fun v4 v5 wr => ∃ k : Nat, k ≤ tot ∧ v5 = .int .i64 (k : Int) ∧ Hid (Ck.Wh w wr base p tot has L V v4 k)) (fun _ v5 _ => 20 - (intOf v5).toNat)
  case atStart => exact ⟨0, Nat.zero_le _, rfl, H0⟩
  case round =>
    clear H0
    obtain ⟨k, hk, rfl, hX⟩ := hrel
    have c0 := (unhide hX).tkr.cell0
    by_cases hlt : k < tot
    · have hlt' : (k : Int) < (tot : Int) := by omega
      have hk0 : (0 : Int) ≤ (k : Int) := by omega
      have hk1 : (k : Int) < 16 := by omega
      have HL := hide hlt
      have hk16 : Hid (k < 16) := (show k < 16 by have := unhide H16; omega)
      have hck := (unhide hX).tkr.mark (unhide hk16)
      obtain ⟨b, hb⟩ : ∃ b, has k = b := ⟨_, rfl⟩
      rw [hb] at hck
      have HB := hide hb
      clear hlt hk hb
      cases b with
      | true =>
        obtain ⟨hp1, hp2, hp3, hp4⟩ := (unhide hX).tkr.piece k (unhide hk16) (unhide HB)
        have hsl := (unhide hX).tkr.slot (unhide hk16)
        obtain ⟨g, cap, cur, hv, -⟩ : ∃ g cap cur, V k = .slice (some ⟨g, 0, none⟩) (L k).length cap ∧ wr.heap[g]? = some (.cells cur 5 (0, 0)) := by
          rcases hp1.2 with ⟨h1, _⟩ | ⟨g, cap, cur, h1, _, h2, _⟩
          · exact absurd h1 hp4
          · exact ⟨g, cap, cur, h1, h2⟩
        have hnew : Hid (∀ j u, (Ck.bys (L k))[j]? = some u → wr.cell? ((⟨g, 0, none⟩ : Addr).add j) = some u) := hp1.cells (g := g) (by rw [hv]; rfl)
        rw [hv] at hsl
        have hmo := hide (fun y v' h1 h2 => (unhide hX).more (y := y) (v' := v') (unhide HT) (unhide HB) h1 h2)
        have hcl := hide (Ck.cat_len (L := L) (k := k) (fun i hi => ((unhide hX).tkr.piece i (by have := unhide hk16; omega) ((unhide hX).all i hi)).2.2.1))
        have hL3 := hide hp3
        have hsz := hide (unhide hX).bel.size
        have hX1 := hide (unhide hX).own
        have hl1 : (Ck.bys (L k)).length = (L k).length * 1 := by unfold Ck.bys; simp
        obtain ⟨nl, hnl⟩ : ∃ nl, (L k).length = nl := ⟨_, rfl⟩
        obtain ⟨nc, hnc⟩ : ∃ nc, (Ck.cat L k).length = nc := ⟨_, rfl⟩
        obtain ⟨ys, hys⟩ : ∃ ys, Ck.bys (L k) = ys := ⟨_, rfl⟩
        obtain ⟨cs, hcs⟩ : ∃ cs, Ck.bys (Ck.cat L k) = cs := ⟨_, rfl⟩
        have hone : Hid (∀ u ∈ ys, u.oneCell' = true) := fun u hu => by
          rw [← hys] at hu
          obtain ⟨z, -, rfl⟩ := List.mem_map.1 hu
          rfl
        rw [hnl] at hsl hl1 hmo hL3
        rw [hys] at hnew hl1 hmo
        rw [hnc] at hmo hcl hX1
        rw [hcs] at hmo hX1
        clear hp1 hp2 hp3 hp4 hv hnl hys hnc hcs
        have hc64 : nc ≤ 1024 := by have := unhide hcl; have := unhide hk16; omega
        have hn64 : nl ≤ 64 := unhide hL3
        go_wp2_with (at_builtin; refine wpList_append_own _ rfl _ _ 22 rfl w.heap.size 5 i0 (.int .u8 0) 1 1 Try.underlying22 hi hz0 hz1 hz2 rfl (by decide) _ _ _ rfl (unhide hX1) ⟨g, 0, none⟩ nl cap ys rfl hl1 (unhide hnew) (unhide hone) ?_ ?_ ?_ ?_)
        · unfold maxLen; omega
        · omega
        · exact unhide hsz
        intro v6 w6 hown hgrow _
        have hX6 := hide (unhide hmo w6 v6 hown hgrow)
        clear hown hgrow
        go_wp2_with fail
        go_roundw
        case rel => exact ⟨k + 1, by have := unhide HL; omega, by go_num, hX6⟩
        case measure => simp [intOf]; have := unhide HL; have := unhide H16; omega
      | false =>
        have hd := hide (unhide hno wr k (unhide hX).bel (unhide HL) (unhide HB))
        go_wp2
        exact unhide hd
    · obtain rfl : k = tot := by omega
      have hge : ¬ (k : Int) < (k : Int) := by omega
      have hd := hide (fun x (hx : wr.grownBy x none) => unhide hyes u4 x { unhide hX with own := (unhide hX).own.kept hx (by cases u4.ownBlock <;> simp), tkr := (unhide hX).tkr.on hx, bel := grown_trans (unhide hX).bel hx })
      have hdd : Hid (∀ m, wr.grownBy (wr.drewN m) none) := fun m => grown_drew (World.grownBy.refl _ none) m
      have hgt : decide ((0 : Int) < (k : Int)) = decide (0 < k) := by simp
      clear hlt hk
      go_wp2_with fail
      go_quiet (fail)
      go_wp2
      exact unhide hd _ (unhide hdd _)

end Go.Proofs.Ytnolelhjhhiohaa
