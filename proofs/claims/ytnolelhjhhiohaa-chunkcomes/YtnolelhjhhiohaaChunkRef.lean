/-
  The document's sender: NewSender, Next, Ack, Done.
-/
import Derived.Test.YtnolelhjhhiohaaChunkMath
import Derived.Test.YtnolelhjhhiohaaTurn
import Derived.Handy
import Derived.Deep.Cut
import Derived.Deep.CutRange
import Derived.Deep.CutBlock
namespace Go.Proofs.Ytnolelhjhhiohaa
open Go.RowKit

/-- The document's sender as it lies: at p its two fields, at h its marks. -/
structure Ck.Snd (x : World) (p h n : Nat) (had : Nat → Bool) (at_ : Nat) : Prop where
  box : Arr x p 71 2 (fun j => if j = 0 then .slice (some ⟨h, 0, none⟩) n n else .int .i64 (at_ : Int))
  row : Arr x h 4 n (Bols had)
  ne : p ≠ h
  n1 : 1 ≤ n
  n16 : n ≤ 16
  lt : at_ < n

def Ck.blocks (p h : Nat) : Nat → Prop := fun k => k = p ∨ k = h

theorem Ck.Snd.turn {x y : World} {p h n : Nat} {had : Nat → Bool} {at_ : Nat} {B : Nat → Prop} (H : Ck.Snd x p h n had at_) (ht : Turn B x y) (hp : ¬ B p) (hh : ¬ B h) : Ck.Snd y p h n had at_ :=
  { H with box := H.box.turn ht hp, row := H.row.turn ht hh }

theorem Ck.Snd.on {x y : World} {p h n : Nat} {had : Nat → Bool} {at_ : Nat} (H : Ck.Snd x p h n had at_) (hg : x.grownBy y none) : Ck.Snd y p h n had at_ :=
  H.turn (B := fun _ => False) (Turn.new hg) (fun q => q) (fun q => q)

theorem Ck.Snd.cells {x : World} {p h n : Nat} {had : Nat → Bool} {at_ : Nat} (H : Ck.Snd x p h n had at_) : x.cell? ⟨p, 0, none⟩ = some (.slice (some ⟨h, 0, none⟩) n n) ∧ x.cell? ⟨p, 1, none⟩ = some (.int .i64 (at_ : Int)) ∧ (∀ i, x.frozen? ⟨p, i, none⟩ = false) ∧ (∀ i, x.frozen? ⟨h, i, none⟩ = false) :=
  ⟨H.box.cell (i := 0) (by omega), H.box.cell (i := 1) (by omega), fun i => H.box.free i, fun i => H.row.free i⟩

theorem Ck.Snd.mark {x : World} {p h n : Nat} {had : Nat → Bool} {at_ : Nat} (H : Ck.Snd x p h n had at_) {i : Nat} (hi : i < n) : x.cell? ⟨h, i, none⟩ = some (.bool (had i)) := H.row.cell hi

theorem Ck.Snd.goes {x : World} {p h n : Nat} {had : Nat → Bool} {at_ : Nat} (H : Ck.Snd x p h n had at_) {b : Nat} (hb : b < n) : Ck.Snd (x.setCell ⟨p, 1, none⟩ (.int .i64 (b : Int))) p h n had b :=
  { H with box := (H.box.store 1 (.int .i64 (b : Int))).congr (fun j hj => by rcases (show j = 0 ∨ j = 1 by omega) with rfl | rfl <;> rfl), row := H.row.turn (B := fun k => k = p) ((Turn.refl _ x).store p 1 _ rfl) H.ne.symm, lt := hb }

/-- Done. -/
theorem refDone_any (p h n : Nat) (had : Nat → Bool) (at_ : Nat) (w : World) (H : Ck.Snd w p h n had at_) :
    Calls Try.prog 19 #[.pointer (some ⟨p, 0, none⟩)] w fun e w' => e = .returned (.bool (Ck.all n had)) ∧ w' = w := by
  obtain ⟨c0, c1, _, _⟩ := H.cells
  have hm : Hid (∀ i, i < n → w.cell? ⟨h, i, none⟩ = some (.bool (had i))) := fun i hi => H.mark hi
  have h16 := H.n16
  have hn : (n : Int) ≤ 16 := by omega
  have H16 := hide h16
  clear H h16
  obtain ⟨D, hD⟩ : ∃ D, Ck.all n had = D := ⟨_, rfl⟩
  have hyes : Hid ((∀ i, i < n → had i = true) → D = true) := fun q => by rw [← hD]; exact Ck.all_iff.2 q
  have hno : Hid (∀ i, i < n → had i = false → D = false) := fun i hi q => by rw [← hD]; exact Ck.all_no hi q
  rw [hD]
  clear hD
  go_enter Try.func19, Try.ntmps19
  go_wp2
  go_loop [3] (fun vi => ∃ k : Nat, k ≤ n ∧ vi = .int .i64 (k : Int) ∧ Hid (∀ i, i < k → had i = true)) (fun vi => 20 - (intOf vi).toNat)
  case atStart => exact ⟨0, Nat.zero_le _, rfl, fun i hi => absurd hi (by omega)⟩
  case round =>
    obtain ⟨k, hk, rfl, hall⟩ := hrel
    by_cases hlt : k < n
    · have hlt' : (k : Int) < (n : Int) := by omega
      have hck := unhide hm k hlt
      have HL := hide hlt
      obtain ⟨b, hb⟩ : ∃ b, had k = b := ⟨_, rfl⟩
      rw [hb] at hck
      have HB := hide hb
      clear hlt hk hb
      cases b with
      | true =>
        have hall2 : Hid (∀ i, i < k + 1 → had i = true) := fun i hi => by
          by_cases e : i = k
          · rw [e]; exact unhide HB
          · exact unhide hall i (by omega)
        go_wp2
        go_round
        case rel => exact ⟨k + 1, by have := unhide HL; omega, by go_num, hall2⟩
        case measure => simp [intOf]; have := unhide HL; have := unhide H16; omega
      | false =>
        have hd := hide (unhide hno k (unhide HL) (unhide HB))
        go_wp2
        go_ret
        exact ⟨ret_bool (unhide hd).symm, rfl⟩
    · have hge : ¬ (k : Int) < (n : Int) := by omega
      have hd := hide (unhide hyes fun i hi => unhide hall i (by omega))
      clear hlt hk
      go_wp2
      go_ret
      exact ⟨ret_bool (unhide hd).symm, rfl⟩

theorem info_mark : (Try.prog.info? 4).map (fun i => (i.zero, i.size, i.bytes)) = some (some (.bool false), 1, 1) := by kernel_rfl

theorem refNewSender_bad (z : Int) (w : World) (h : z < 1 ∨ 16 < z) :
    Calls Try.prog 13 #[.int .i64 z] w fun e w' => e = .returned (.tuple #[.pointer none, .int .i64 1]) ∧ w' = w := by
  rcases h with h | h
  · go_enter Try.func13, Try.ntmps13
    go_wp2
    go_ret2
    exact ⟨rfl, rfl⟩
  · have h' : ¬ z < 1 := by omega
    go_enter Try.func13, Try.ntmps13
    go_wp2
    go_ret2
    exact ⟨rfl, rfl⟩

theorem refNewSender_any (n : Nat) (w : World) (h1 : 1 ≤ n) (h16 : n ≤ 16) :
    Calls Try.prog 13 #[.int .i64 (n : Int)] w fun e w' => ∃ p h, e = .returned (.tuple #[.pointer (some ⟨p, 0, none⟩), .int .i64 0]) ∧ w.heap.size ≤ p ∧ w.heap.size ≤ h ∧ Ck.Snd w' p h n (fun _ => false) 0 ∧ w.grownBy w' none := by
  obtain ⟨i0, hi, hz0, hz1, hz2⟩ := info_parts info_mark
  have g1 : ¬ (n : Int) < 1 := by omega
  have g2 : ¬ (16 : Int) < (n : Int) := by omega
  obtain ⟨G, hG⟩ : ∃ G, G = w.heap.size := ⟨_, rfl⟩
  have hG' := hide hG
  clear hG
  go_enter Try.func13, Try.ntmps13
  go_wp2_with (at_make; refine wpList_make_full _ rfl _ _ 61 rfl G 4 i0 (.bool false) 1 Try.underlying61 hi hz0 hz1 .i64 .i64 _ _ n rfl rfl rfl rfl ?q3 ?q4 (Nat.le_of_eq (unhide hG')) ?_)
  case q3 => first | omega | (rw [hz2]; omega)
  case q4 => unfold maxLen; omega
  intro w2 hown hgrow
  rw [← unhide hG'] at hown ⊢
  have hA := hide (Arr.zero hown)
  have hg2 := hide hgrow
  have hlt := hide (Arr.zero hown).lt
  clear hown hgrow hi hz0 hz1 hz2 g1 g2
  go_wp2
  go_ret2
  refine ⟨w2.heap.size, G, rfl, (unhide hg2).size, Nat.le_of_eq (unhide hG').symm, ?_, grown_alloc (unhide hg2) _⟩
  exact ⟨((Arr.lit (heap_alloc_new w2 _))).congr (fun j hj => by have hj2 : j < 2 := hj; rcases (show j = 0 ∨ j = 1 by omega) with rfl | rfl <;> rfl), (unhide hA).alloc _, by have := unhide hlt; omega, h1, h16, by omega⟩

/-- Ack. -/
theorem Ck.Snd.hears {x : World} {p h n : Nat} {had : Nat → Bool} {at_ : Nat} (H : Ck.Snd x p h n had at_) (i : Nat) (b : Bool) : Ck.Snd (x.setCell ⟨h, i, none⟩ (.bool b)) p h n (fun j => if j = i then b else had j) at_ :=
  { H with box := H.box.turn (B := fun k => k = h) ((Turn.refl _ x).store h i _ rfl) H.ne, row := (H.row.store i (.bool b)).congr (fun j hj => by
    show (if j = i then Value.bool b else .bool (had j)) = .bool (if j = i then b else had j)
    split <;> rfl) }

set_option maxRecDepth 4000 in
set_option maxHeartbeats 1600000 in
theorem refAck_any (p h n : Nat) (had : Nat → Bool) (at_ : Nat) (b : Int) (w : World) (H : Ck.Snd w p h n had at_) :
    Calls Try.prog 21 #[.pointer (some ⟨p, 0, none⟩), .int .u32 b] w fun e w' => e = .returned (.tuple #[]) ∧ Ck.Snd w' p h n (Ck.heard had b) at_ ∧ Turn (Ck.blocks p h) w w' := by
  have h16 := hide H.n16
  have hn : (n : Int) ≤ 16 := by have := unhide h16; omega
  have H0 := hide H
  clear H
  go_enter Try.func21, Try.ntmps21
  go_wp2_with fail
  go_loopw [4] (fun vi wr => ∃ k : Nat, k ≤ n ∧ vi = .int .i64 (k : Int) ∧ Hid (Ck.Snd wr p h n (fun j => if j < k then Ck.heard had b j else had j) at_ ∧ Turn (Ck.blocks p h) w wr)) (fun vi _ => 20 - (intOf vi).toNat)
  case atStart => exact ⟨0, Nat.zero_le _, rfl, by simpa using unhide H0, Turn.refl _ _⟩
  case round =>
    obtain ⟨k, hk, rfl, hX⟩ := hrel
    obtain ⟨c0, c1, f0, f1⟩ := (unhide hX).1.cells
    by_cases hlt : k < n
    · have hlt' : (k : Int) < (n : Int) := by omega
      have hk0 : (0 : Int) ≤ (k : Int) := by omega
      have hk32 : (k : Int) ≤ 32 := by have := unhide h16; omega
      have HL := hide hlt
      have hck := (unhide hX).1.mark hlt
      rw [if_neg (by omega)] at hck
      clear hlt hk
      have hbit : (bits .and .u32 (b / 2 ^ k) 1 == 1) = Ck.bit b k := rfl
      obtain ⟨q, hq⟩ : ∃ q, Ck.bit b k = q := ⟨_, rfl⟩
      rw [hq] at hbit
      have Hq := hide hq
      have hXd := hide (And.intro ((unhide hX).1.on (grown_drew (World.grownBy.refl _ none) 1)) ((unhide hX).2.then (grown_drew (World.grownBy.refl _ none) 1)))
      obtain ⟨m, hm⟩ : ∃ m, had k = m := ⟨_, rfl⟩
      have hst : Hid (∀ r, r = (m || q) → Ck.Snd (wr.drew.setCell ⟨h, k, none⟩ (.bool r)) p h n (fun j => if j < k + 1 then Ck.heard had b j else had j) at_ ∧ Turn (Ck.blocks p h) w (wr.drew.setCell ⟨h, k, none⟩ (.bool r))) := fun r hr => by
        obtain ⟨h1, h2⟩ := unhide hXd
        refine ⟨?_, h2.store h k _ (.inr rfl)⟩
        have h3 := h1.hears k r
        have e : (fun j => if j = k then r else if j < k then Ck.heard had b j else had j) = fun j => if j < k + 1 then Ck.heard had b j else had j := funext fun j => by
          by_cases e1 : j = k
          · rw [if_pos e1, if_pos (by omega), hr, e1]
            unfold Ck.heard
            rw [hm, hq]
          · rw [if_neg e1]
            by_cases e2 : j < k
            · rw [if_pos e2, if_pos (by omega)]
            · rw [if_neg e2, if_neg (by omega)]
        rw [e] at h3
        exact h3
      rw [hm] at hck
      clear hm hq
      cases m with
      | true =>
        have hst2 := hide (unhide hst true rfl)
        go_wp2_with fail
        go_region
        all_goals
          go_wp2_with fail
          go_roundw
          case rel => exact ⟨k + 1, by have := unhide HL; omega, by go_num, hst2⟩
          case measure => simp [intOf]; have := unhide HL; have := unhide h16; omega
      | false =>
        have hst2 := hide (unhide hst q (by simp))
        go_wp2_with fail
        go_region
        all_goals
          go_wp2_with fail
          go_roundw
          case rel => exact ⟨k + 1, by have := unhide HL; omega, by go_num, hst2⟩
          case measure => simp [intOf]; have := unhide HL; have := unhide h16; omega
    · have hge : ¬ (k : Int) < (n : Int) := by omega
      have hfin : Hid (Ck.Snd wr p h n (Ck.heard had b) at_ ∧ Turn (Ck.blocks p h) w wr) := by
        obtain ⟨h1, h2⟩ := unhide hX
        refine ⟨{ h1 with row := h1.row.congr (fun j hj => ?_) }, h2⟩
        show Value.bool (if j < k then Ck.heard had b j else had j) = .bool (Ck.heard had b j)
        rw [if_pos (by omega)]
      clear hlt hk
      go_wp2
      go_end0
      exact ⟨rfl, unhide hfin⟩

def Ck.nums (l : List Nat) : List Value := l.map fun (i : Nat) => Value.int .i64 (i : Int)

/-- Next on its way. -/
structure Ck.Way (w x : World) (p h n : Nat) (had : Nat → Bool) (fr : Nat) (m : Int) (v : Value) (k : Nat) : Prop where
  own : x.ownsRow w.heap.size 3 1 v (Ck.nx n had fr m k).1.length (Ck.nums (Ck.nx n had fr m k).1)
  snd : Ck.Snd x p h n had (Ck.nx n had fr m k).2
  turn : Turn (Ck.blocks p h) w x

theorem Ck.news (w : World) (a : Value) (T : TypeId) : ∀ j u, [a][j]? = some u → (w.alloc (.cells #[a] T)).cell? ((⟨w.heap.size, 0, none⟩ : Addr).add j) = some u := by
  intro j u hj
  have hlt : j < 1 := (List.getElem?_eq_some_iff.1 hj).1
  obtain rfl : j = 0 := by omega
  simp at hj
  subst hj
  simp [Addr.add, go_sem]

/-- One more is told. -/
theorem Ck.Way.more {w x y z : World} {p h n : Nat} {had : Nat → Bool} {fr : Nat} {m : Int} {v v' : Value} {k : Nat} (H : Ck.Way w x p h n had fr m v k) (hp : p < w.heap.size) (hh : h < w.heap.size) (h1 : ((Ck.nx n had fr m k).1.length : Int) < m) (h2 : had ((fr + k) % n) = false) (hxy : x.grownBy y none) (hown : z.ownsRow w.heap.size 3 1 v' ((Ck.nx n had fr m k).1.length + 1) (Ck.nums (Ck.nx n had fr m k).1 ++ [.int .i64 (((fr + k) % n : Nat) : Int)])) (hg : y.grownBy z v.ownBlock) :
    Ck.Snd z p h n had (Ck.nx n had fr m k).2 ∧ Ck.Way w (z.setCell ⟨p, 1, none⟩ (.int .i64 ((((fr + k) % n + 1) % n : Nat) : Int))) p h n had fr m v' (k + 1) := by
  have hb : ∀ i, v.ownBlock = some i → w.heap.size ≤ i := fun i e => (H.own.lt i e).1
  have t1 : Turn (fun i => w.heap.size ≤ i) x z := (Turn.new hxy).trans (C := fun i => v.ownBlock = some i) (Turn.grown hg (fun i e => e)) (fun i _ e => hb i e)
  have s1 := H.snd.turn t1 (by omega) (by omega)
  have t2 : Turn (Ck.blocks p h) w z := H.turn.trans t1 (fun i hi q => absurd hi (Nat.not_lt_of_le q))
  refine ⟨s1, ?_⟩
  have hn : 0 < n := H.snd.n1
  refine ⟨?_, ?_, t2.store p 1 _ (.inl rfl)⟩
  · rw [Ck.nx_yes h1 h2]
    show World.ownsRow _ _ _ _ _ ((Ck.nx n had fr m k).1 ++ [(fr + k) % n]).length (Ck.nums ((Ck.nx n had fr m k).1 ++ [(fr + k) % n]))
    rw [List.length_append]
    unfold Ck.nums
    rw [List.map_append]
    refine hown.kept (row := some p) ⟨rfl, rfl, rfl, by simp, fun k _ hk => heap_setCell_other _ ⟨p, 1, none⟩ k _ (fun e => hk (by rw [e]))⟩ (.inr fun e => ?_)
    have := (hown.lt p e).1
    omega
  · rw [Ck.nx_yes h1 h2]
    exact s1.goes (Nat.mod_lt _ hn)

theorem Ck.Way.less {w x : World} {p h n : Nat} {had : Nat → Bool} {fr : Nat} {m : Int} {v : Value} {k : Nat} (H : Ck.Way w x p h n had fr m v k) (h2 : had ((fr + k) % n) = true) : Ck.Way w x p h n had fr m v (k + 1) := by
  obtain ⟨h1, h3, h4⟩ := H
  refine ⟨?_, ?_, h4⟩ <;> rw [Ck.nx_no h2] <;> assumption

/-- What Next answers. -/
def Ck.Nexts (w : World) (p h n : Nat) (had : Nat → Bool) (fr : Nat) (m : Int) (e : Ending) (w' : World) : Prop :=
  ∃ v, e = .returned v ∧ w'.ownsRow w.heap.size 3 1 v (Ck.next n had fr m).length (Ck.nums (Ck.next n had fr m)) ∧ Ck.Snd w' p h n had (Ck.goes n had fr m) ∧ Turn (Ck.blocks p h) w w'

set_option maxRecDepth 4000 in
set_option maxHeartbeats 1600000 in
theorem refNext_any (p h n : Nat) (had : Nat → Bool) (fr : Nat) (m : Int) (w : World) (H : Ck.Snd w p h n had fr) :
    Calls Try.prog 17 #[.pointer (some ⟨p, 0, none⟩), .int .i64 m] w (Ck.Nexts w p h n had fr m) := by
  have hlp := hide H.box.lt
  have hlh := hide H.row.lt
  have h16 := hide H.n16
  have h01 := hide H.n1
  have hn : (n : Int) ≤ 16 := by have := unhide h16; omega
  have hn1 : (1 : Int) ≤ (n : Int) := by have := unhide h01; omega
  have hfr := hide H.lt
  have hfr1 : (fr : Int) < (n : Int) := by have := unhide hfr; omega
  have H0 : Hid (Ck.Way w w p h n had fr m (.slice none 0 0) 0) := ⟨World.ownsRow_nil _ _ _ _, H, Turn.refl _ _⟩
  obtain ⟨c0, c1, f0, f1⟩ := H.cells
  obtain ⟨i0, hi, hz0, hz1, hz2⟩ := info_parts info_int
  have hpost : Hid (∀ v x k, Ck.Way w x p h n had fr m v k → Ck.nx n had fr m n = Ck.nx n had fr m k → Ck.Nexts w p h n had fr m (.returned v) x) := fun v x k hx e => by
    refine ⟨v, rfl, ?_, ?_, hx.turn⟩
    · unfold Ck.next; rw [e]; exact hx.own
    · unfold Ck.goes; rw [e]; exact hx.snd
  obtain ⟨D, hD⟩ : ∃ D, Ck.Nexts w p h n had fr m = D := ⟨_, rfl⟩
  rw [hD] at hpost ⊢
  clear hD H
  go_enter Try.func17, Try.ntmps17
  go_wp2_with fail
  go_loopw [5, 7, 8] (fun v5 v7 v8 wr => ∃ k : Nat, k ≤ n ∧ v7 = .int .i64 (k : Int) ∧ Hid (Ck.Way w wr p h n had fr m v5 k)) (fun _ v7 _ _ => 20 - (intOf v7).toNat)
  case atStart => exact ⟨0, Nat.zero_le _, rfl, H0⟩
  case round =>
    clear H0 c0 c1 f0 f1
    obtain ⟨k, hk, rfl, hX⟩ := hrel
    obtain ⟨c0, c1, f0, f1⟩ := (unhide hX).snd.cells
    have hlen : Hid ((Ck.nx n had fr m k).1.length ≤ k) := Ck.nx_len n had fr m k
    have hfm : ∃ a cap, u5 = .slice a (Ck.nx n had fr m k).1.length cap := by
      rcases (unhide hX).own.2 with ⟨rfl, h0⟩ | ⟨g, cap, cur, rfl, _⟩
      · exact ⟨none, 0, by rw [h0]⟩
      · exact ⟨_, _, rfl⟩
    obtain ⟨a, cap, rfl⟩ := hfm
    obtain ⟨l, hl⟩ : ∃ l, (Ck.nx n had fr m k).1.length = l := ⟨_, rfl⟩
    have Hl := hide hl
    by_cases hlt : k < n
    · have hlt' : (k : Int) < (n : Int) := by omega
      have HL := hide hlt
      by_cases hlm : ((Ck.nx n had fr m k).1.length : Int) < m
      · have HM := hide hlm
        rw [hl] at hlm ⊢
        obtain ⟨i, hie⟩ : ∃ i, (fr + k) % n = i := ⟨_, rfl⟩
        have Hi := hide hie
        have hin : Hid (i < n) := by show i < n; rw [← hie]; exact Nat.mod_lt _ (unhide h01)
        have hin1 : (i : Int) < (n : Int) := by have := unhide hin; omega
        have hi2 : ((fr : Int) + (k : Int)) % (n : Int) = (i : Int) := by rw [← hie]; simp
        have hck := (unhide hX).snd.mark (unhide hin)
        obtain ⟨b, hb⟩ : ∃ b, had i = b := ⟨_, rfl⟩
        rw [hb] at hck
        have Hb := hide hb
        clear hl hlt hk hie hb
        cases b with
        | true =>
          have hX2 := hide ((unhide hX).less (by rw [unhide Hi]; exact unhide Hb))
          rw [unhide Hl] at hX2
          go_wp2_with fail
          go_roundw
          case rel => exact ⟨k + 1, by have := unhide HL; omega, by go_num, hX2⟩
          case measure => simp [intOf]; have := unhide HL; have := unhide h16; omega
        | false =>
          have hmo : Hid (∀ z v', wr.grownBy (wr.alloc (.cells #[.int .i64 (i : Int)] 3)) none → z.ownsRow w.heap.size 3 1 v' (l + 1) (Ck.nums (Ck.nx n had fr m k).1 ++ [.int .i64 (i : Int)]) → (wr.alloc (.cells #[.int .i64 (i : Int)] 3)).grownBy z (Value.slice a l cap).ownBlock → Ck.Snd z p h n had (Ck.nx n had fr m k).2 ∧ Ck.Way w (z.setCell ⟨p, 1, none⟩ (.int .i64 (((i + 1) % n : Nat) : Int))) p h n had fr m v' (k + 1)) := fun z v' q1 q2 q3 => by
            have h := unhide hX
            rw [unhide Hl] at h
            have r := h.more (unhide hlp) (unhide hlh) (unhide HM) (by rw [unhide Hi]; exact unhide Hb) q1 (by rw [unhide Hl, unhide Hi]; exact q2) q3
            rw [unhide Hi] at r
            exact r
          have hX1 := hide (unhide hX).own
          rw [unhide Hl] at hX1
          have hsz := hide (unhide hX).turn.size
          obtain ⟨ns, hns⟩ : ∃ ns, Ck.nums (Ck.nx n had fr m k).1 = ns := ⟨_, rfl⟩
          rw [hns] at hX1 hmo
          have hll : l ≤ 16 := by have := unhide hlen; have := unhide HL; have := unhide h16; have := unhide Hl; omega
          obtain ⟨j, hj⟩ : ∃ j, (i + 1) % n = j := ⟨_, rfl⟩
          have hi3 : ((i : Int) + 1) % (n : Int) = (j : Int) := by rw [← hj]; simp
          rw [hj] at hmo
          clear hj
          clear hns hX c1
          go_upto_region 8 with fail
          clear hck
          try rw [hi2]
          go_wp2_with (at_builtin; refine wpList_append_own _ rfl _ _ 31 rfl w.heap.size 3 i0 (.int .i64 0) 1 8 Try.underlying31 hi hz0 hz1 hz2 rfl (by decide) _ _ _ rfl ((unhide hX1).alloc _) ⟨wr.heap.size, 0, none⟩ 1 1 [.int .i64 (i : Int)] rfl rfl (Ck.news wr _ _) ?_ ?_ ?_ ?_ ?_)
          · first | rfl | (intro u hu; simp only [List.mem_cons, List.not_mem_nil, or_false] at hu; rcases hu with rfl; rfl) | simp [Value.oneCell']
          · first | (unfold maxLen; omega) | (unfold maxLen; simp; omega)
          · omega
          · have := unhide hsz; first | omega | (simp; omega)
          intro v4 w4 hown hgrow _
          have hW4 := hide (unhide hmo w4 v4 (World.grownBy_alloc _ _ _) hown hgrow)
          obtain ⟨d0, d1, g0, g1⟩ := (unhide hW4).1.cells
          clear hown hgrow hmo
          go_wp2_with fail
          go_roundw
          case rel => exact ⟨k + 1, by have := unhide HL; omega, by go_num, (unhide hW4).2⟩
          case measure => simp [intOf]; have := unhide HL; have := unhide h16; omega
      · have hfin := hide (unhide hpost _ _ _ (unhide hX) (by have e := Ck.nx_full hlm (n - k); rwa [show k + (n - k) = n by omega] at e))
        rw [hl] at hlm hfin ⊢
        clear hl hlt hk
        go_wp2
        exact unhide hfin
    · have hge : ¬ (k : Int) < (n : Int) := by omega
      have hfin := hide (unhide hpost _ _ _ (unhide hX) (by rw [show n = k by omega]))
      rw [hl] at hfin ⊢
      clear hl hlt hk
      go_wp2
      exact unhide hfin

end Go.Proofs.Ytnolelhjhhiohaa
