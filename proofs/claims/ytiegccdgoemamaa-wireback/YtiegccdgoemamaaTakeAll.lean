/-
  Bytes that are read: what is left of them, and numbers out of it.
  The side that reads is a side.
  What is written is read as it was: fields, lists, records.
-/
import Derived.Test.YtiegccdgoemamaaWireEncF
import Derived.Laws.Bits64b
import Derived.Test.YtiegccdgoemamaaWireLen
namespace Go.Proofs.Ytiegccdgoemamaa
open Go.RowKit

/-- A parser's box: what is not read yet, and what is wrong. -/
structure Wr.ParV (P G : Nat) (o : Obj) (x : World) (l : List Int) (er : Int) : Prop where
  box : ∃ p C, Arr x P 86 2 (fun j => if j = 0 then .slice p l.length C else .int .i64 er) ∧ l.length ≤ C ∧ C ≤ 9223372036854775807 ∧ (l ≠ [] → ∃ o, p = some ⟨G, o, none⟩ ∧ ∀ i b, l[i]? = some b → x.cell? ⟨G, o + i, none⟩ = some (.int .u8 b))
  byte : ∀ b ∈ l, 0 ≤ b ∧ b ≤ 255
  src : x.heap[G]? = some o
  ne : P ≠ G

theorem Wr.ParV.lt {P G : Nat} {o : Obj} {x : World} {l : List Int} {er : Int} (h : Wr.ParV P G o x l er) : G < x.heap.size := (Array.getElem?_eq_some_iff.1 h.src).1

theorem Wr.ParV.ltP {P G : Nat} {o : Obj} {x : World} {l : List Int} {er : Int} (h : Wr.ParV P G o x l er) : P < x.heap.size := by
  obtain ⟨p, C, hb, _⟩ := h.box
  exact hb.lt

theorem Wr.ParV.turn {P G : Nat} {o : Obj} {x y : World} {l : List Int} {er : Int} {C : Nat → Prop} (h : Wr.ParV P G o x l er) (ht : Turn C x y) (hP : ¬ C P) (hG : ¬ C G) : Wr.ParV P G o y l er := by
  obtain ⟨p, c, hb, h1, h2, h3⟩ := h.box
  refine ⟨⟨p, c, hb.turn ht hP, h1, h2, fun hl => ?_⟩, h.byte, (ht.block G h.lt hG).trans h.src, h.ne⟩
  obtain ⟨o, ho, hc⟩ := h3 hl
  exact ⟨o, ho, fun i b hi => (ht.cell h.lt hG (o + i)).trans (hc i b hi)⟩

theorem Wr.ParV.wrong {P G : Nat} {o : Obj} {x : World} {l : List Int} {er : Int} (h : Wr.ParV P G o x l er) (a : Int) : Wr.ParV P G o (x.setCell ⟨P, 1, none⟩ (.int .i64 a)) l a := by
  obtain ⟨p, c, hb, h1, h2, h3⟩ := h.box
  refine ⟨⟨p, c, (hb.store 1 (.int .i64 a)).congr (fun i hi => by rcases (show i = 0 ∨ i = 1 by omega) with rfl | rfl <;> rfl), h1, h2, fun hl => ?_⟩, h.byte, (heap_setCell_other x ⟨P, 1, none⟩ G _ h.ne.symm).trans h.src, h.ne⟩
  obtain ⟨o, ho, hc⟩ := h3 hl
  exact ⟨o, ho, fun i b hi => (grown_cell (grown_set (World.grownBy.refl x (some P)) 1 _) G (o + i) h.lt (by simpa using h.ne)).trans (hc i b hi)⟩

/-- A number of bytes, the highest first. -/
def Wr.be (l : List Int) : Int := l.foldl (fun n b => n * 256 + b) 0

theorem Wr.be_more (l : List Int) (b : Int) : Wr.be (l ++ [b]) = Wr.be l * 256 + b := by simp [Wr.be]

theorem Wr.be_take {l : List Int} {i : Nat} {b : Int} (h : l[i]? = some b) : Wr.be (l.take (i + 1)) = Wr.be (l.take i) * 256 + b := by
  rw [List.take_add_one, h]
  exact Wr.be_more _ _

theorem Wr.be_bound {l : List Int} (h : ∀ b ∈ l, 0 ≤ b ∧ b ≤ 255) : ∀ i, i ≤ l.length → 0 ≤ Wr.be (l.take i) ∧ Wr.be (l.take i) < 256 ^ i
  | 0, _ => by simp [Wr.be]
  | i + 1, hi => by
    have ih := Wr.be_bound h i (by omega)
    have hb := h (l[i]'(by omega)) (List.getElem_mem _)
    rw [Wr.be_take (List.getElem?_eq_getElem (by omega)), Int.pow_succ]
    omega

theorem Wr.or_byte (v b : Int) (h0 : 0 ≤ v) (h1 : v < 16777216) (b0 : 0 ≤ b) (b1 : b ≤ 255) : bits BinOp.or IntKind.i64 (wrap64 (v * 256)) b = v * 256 + b := by
  obtain ⟨n, rfl⟩ : ∃ n : Nat, v = (n : Int) := ⟨v.toNat, by omega⟩
  obtain ⟨m, rfl⟩ : ∃ n : Nat, b = (n : Int) := ⟨b.toNat, by omega⟩
  have e1 : wrap64 ((n : Int) * 256) = ((n * 256 : Nat) : Int) := by unfold wrap64; omega
  have h : n * 2 ^ 8 + m = n * 2 ^ 8 ||| m := by
    rw [← Nat.shiftLeft_eq]
    exact Nat.shiftLeft_add_eq_or_of_lt (by omega) n
  have h2 : (BitVec.ofInt 64 ((n * 256 : Nat) : Int)).toNat = n * 256 := by
    rw [BitVec.ofInt_natCast, BitVec.toNat_ofNat]; exact Nat.mod_eq_of_lt (by omega)
  have h3 : (BitVec.ofInt 64 (m : Int)).toNat = m := by
    rw [BitVec.ofInt_natCast, BitVec.toNat_ofNat]; exact Nat.mod_eq_of_lt (by omega)
  rw [e1]
  show IntKind.i64.wrap ((BitVec.ofInt 64 ((n * 256 : Nat) : Int) ||| BitVec.ofInt 64 (m : Int)).toNat : Int) = _
  rw [BitVec.toNat_or, h2, h3, show n * 256 ||| m = n * 256 + m from h.symm, IntKind.wrap_i64]
  omega

set_option maxRecDepth 8000 in
set_option maxHeartbeats 1600000 in
theorem wTake_no (P L m C : Nat) (p : Option Addr) (F : Nat → Value) (x : World) (hb : Arr x P 86 2 F) (h0 : F 0 = .slice p L C) (hm : L < m) :
    Calls Try.prog 37 #[.pointer (some ⟨P, 0, none⟩), .int .i64 (m : Int)] x fun e x' => e = .returned (.tuple #[.int .i64 0, .bool false]) ∧ x' = x := by
  have r0 : x.cell? ⟨P, 0, none⟩ = some (.slice p L C) := by rw [← h0]; exact hb.cell (i := 0) (by omega)
  have q1 : (L : Int) < (m : Int) := by omega
  clear hb h0 hm
  go_enter Try.func37, Try.ntmps37
  go_wp2
  go_ret2
  exact ⟨rfl, rfl⟩

/-- A number is taken. -/
def Wr.Took (P G : Nat) (o : Obj) (x : World) (l : List Int) (er : Int) (m : Nat) (e : Ending) (x' : World) : Prop :=
  ∃ u, e = .returned (.tuple #[.int .i64 (Wr.be (l.take m)), .bool true]) ∧ x' = x.setCell ⟨P, 0, none⟩ u ∧ Wr.ParV P G o x' (l.drop m) er

set_option maxRecDepth 8000 in
set_option maxHeartbeats 1600000 in
theorem wTake_yes (P G m : Nat) (ob : Obj) (l : List Int) (er : Int) (x : World) (H : Wr.ParV P G ob x l er) (hm : m ≤ l.length) (h1 : 1 ≤ m) (h4 : m ≤ 4) :
    Calls Try.prog 37 #[.pointer (some ⟨P, 0, none⟩), .int .i64 (m : Int)] x (Wr.Took P G ob x l er m) := by
  obtain ⟨p, C, hb, k1, k2, k3⟩ := H.box
  obtain ⟨o, rfl, hc⟩ := k3 (by intro e; rw [e] at hm; simp at hm; omega)
  obtain ⟨L, hL⟩ : ∃ L, L = l.length := ⟨_, rfl⟩
  have hB := hide (Wr.be_bound H.byte)
  have HL := hide (show L = l.length from hL)
  have r0 : x.cell? ⟨P, 0, none⟩ = some (.slice (some ⟨G, o, none⟩) L C) := by rw [hL]; exact hb.cell (i := 0) (by omega)
  have fP : ∀ i, x.frozen? ⟨P, i, none⟩ = false := hb.free
  have q0 : ¬ (L : Int) < (m : Int) := by omega
  have q1 : ¬ (m : Int) < 0 := by omega
  have q2 : (m : Int) ≤ (C : Int) := by omega
  have q3 : (m : Int) ≤ (L : Int) := by omega
  have HC := hide hc
  have HY := hide H.byte
  have H4 := hide h4
  have HM := hide (show m ≤ L by omega)
  have k1' : L ≤ C := by omega
  have hfin : Hid (∀ q, (m < L → q = o + m) → Wr.Took P G ob x l er m (.returned (.tuple #[.int .i64 (Wr.be (l.take m)), .bool true])) (x.setCell ⟨P, 0, none⟩ (.slice (some ⟨G, q, none⟩) (L - m) (C - m)))) := fun q hq => by
    refine ⟨_, rfl, rfl, ⟨⟨some ⟨G, q, none⟩, C - m, ?_, by rw [List.length_drop]; omega, by omega, fun hl => ?_⟩, fun b hb => H.byte b (List.mem_of_mem_drop hb), (heap_setCell_other x ⟨P, 0, none⟩ G _ H.ne.symm).trans H.src, H.ne⟩⟩
    · refine (hb.store 0 (.slice (some ⟨G, q, none⟩) (L - m) (C - m))).congr fun c hc => ?_
      rcases (show c = 0 ∨ c = 1 by omega) with rfl | rfl
      · rw [if_pos rfl, if_pos rfl, List.length_drop, hL]
      · rfl
    · have hlt : m < L := by
        rcases Nat.lt_or_ge m L with h | h
        · exact h
        · exact absurd (List.drop_eq_nil_of_le (by omega)) hl
      rw [hq hlt]
      refine ⟨o + m, rfl, fun i b hi => ?_⟩
      rw [List.getElem?_drop] at hi
      rw [Nat.add_assoc]
      exact (grown_cell (grown_set (World.grownBy.refl x (some P)) 0 _) G (o + (m + i)) H.lt (by simpa using H.ne)).trans (hc (m + i) b hi)
  clear H hb k1 k2 k3 hc hm h1 h4 hL
  by_cases hz : C - m = 0
  · have hf := hide (unhide hfin o (fun h => by omega))
    rw [hz] at hf
    clear hfin k1'
    go_enter Try.func37, Try.ntmps37
    go_wp2_with fail
    go_loop [6, 8, 23] (fun v6 v8 v23 => ∃ i : Nat, i ≤ m ∧ v6 = .int .i64 (Wr.be (l.take i)) ∧ v23 = .int .i64 (i : Int)) (fun _ _ v23 => 20 - (intOf v23).toNat)
    case atStart => exact ⟨0, by omega, rfl, rfl⟩
    case round =>
      obtain ⟨i, hi, rfl, rfl⟩ := hrel
      by_cases hlt : i < m
      · have hlt' : (i : Int) < (m : Int) := by omega
        have HLT := hide hlt
        obtain ⟨b, hbi⟩ : ∃ b, l[i]? = some b := ⟨_, List.getElem?_eq_getElem (by have := unhide HM; have := unhide HL; omega)⟩
        have u0 : x.cell? ⟨G, o + i, none⟩ = some (.int .u8 b) := unhide HC i b hbi
        have hbb := unhide HY b (List.mem_of_getElem? hbi)
        obtain ⟨v0, v1⟩ := unhide hB i (by have := unhide HM; have := unhide HL; omega)
        have v2 : Wr.be (l.take i) < 16777216 := by
          have h3 : i ≤ 3 := by have := unhide H4; omega
          rcases (show i = 0 ∨ i = 1 ∨ i = 2 ∨ i = 3 by omega) with rfl | rfl | rfl | rfl <;> simp at v1 ⊢ <;> omega
        have hor := Wr.or_byte (Wr.be (l.take i)) b v0 v2 hbb.1 hbb.2
        rw [← Wr.be_take hbi] at hor
        have hw : IntKind.i64.wrap b = b := by rw [IntKind.wrap_i64]; omega
        have i4 : (i : Int) < 4 := by have := unhide H4; omega
        obtain ⟨X, hX⟩ : ∃ X, Wr.be (l.take i) = X := ⟨_, rfl⟩
        rw [hX] at hor ⊢
        clear hlt hi hX v0 v1 v2 hbi hbb
        go_wp2
        go_round
        case rel => exact ⟨i + 1, by have := unhide HLT; omega, rfl, by go_num⟩
        case measure => simp [intOf]; have := unhide HLT; have := unhide H4; omega
      · obtain rfl : i = m := by omega
        have hge : ¬ (i : Int) < (i : Int) := by omega
        clear hlt hi
        go_wp2
        go_ret2
        exact unhide hf
  · have hf := hide (unhide hfin (o + m) (fun _ => rfl))
    clear hfin k1'
    go_enter Try.func37, Try.ntmps37
    go_wp2_with fail
    go_loop [6, 8, 23] (fun v6 v8 v23 => ∃ i : Nat, i ≤ m ∧ v6 = .int .i64 (Wr.be (l.take i)) ∧ v23 = .int .i64 (i : Int)) (fun _ _ v23 => 20 - (intOf v23).toNat)
    case atStart => exact ⟨0, by omega, rfl, rfl⟩
    case round =>
      obtain ⟨i, hi, rfl, rfl⟩ := hrel
      by_cases hlt : i < m
      · have hlt' : (i : Int) < (m : Int) := by omega
        have HLT := hide hlt
        obtain ⟨b, hbi⟩ : ∃ b, l[i]? = some b := ⟨_, List.getElem?_eq_getElem (by have := unhide HM; have := unhide HL; omega)⟩
        have u0 : x.cell? ⟨G, o + i, none⟩ = some (.int .u8 b) := unhide HC i b hbi
        have hbb := unhide HY b (List.mem_of_getElem? hbi)
        obtain ⟨v0, v1⟩ := unhide hB i (by have := unhide HM; have := unhide HL; omega)
        have v2 : Wr.be (l.take i) < 16777216 := by
          have h3 : i ≤ 3 := by have := unhide H4; omega
          rcases (show i = 0 ∨ i = 1 ∨ i = 2 ∨ i = 3 by omega) with rfl | rfl | rfl | rfl <;> simp at v1 ⊢ <;> omega
        have hor := Wr.or_byte (Wr.be (l.take i)) b v0 v2 hbb.1 hbb.2
        rw [← Wr.be_take hbi] at hor
        have hw : IntKind.i64.wrap b = b := by rw [IntKind.wrap_i64]; omega
        have i4 : (i : Int) < 4 := by have := unhide H4; omega
        obtain ⟨X, hX⟩ : ∃ X, Wr.be (l.take i) = X := ⟨_, rfl⟩
        rw [hX] at hor ⊢
        clear hlt hi hX v0 v1 v2 hbi hbb
        go_wp2
        go_round
        case rel => exact ⟨i + 1, by have := unhide HLT; omega, rfl, by go_num⟩
        case measure => simp [intOf]; have := unhide HLT; have := unhide H4; omega
      · obtain rfl : i = m := by omega
        have hge : ¬ (i : Int) < (i : Int) := by omega
        clear hlt hi
        go_wp2
        go_ret2
        exact unhide hf

end Go.Proofs.Ytiegccdgoemamaa

namespace Go.Proofs.Ytiegccdgoemamaa
open Go.RowKit

/-- What it does with a field: what is not read yet, and what is wrong; what it tells. -/
def Wr.parS (s : List Int × Int) (_n k lo hi : Int) : (List Int × Int) × Int :=
  if s.2 ≠ 0 then (s, 0)
  else if s.1.length < k.toNat then ((s.1, 7), 0)
  else if lo ≤ Wr.be (s.1.take k.toNat) ∧ Wr.be (s.1.take k.toNat) ≤ hi then ((s.1.drop k.toNat, 0), Wr.be (s.1.take k.toNat))
  else ((s.1.drop k.toNat, 9), 0)

def Wr.parB (P G : Nat) (b : Nat) : Prop := b = P ∨ b = G

def Wr.Par (P G : Nat) (o : Obj) (x : World) (s : List Int × Int) (B : Nat → Prop) : Prop := Wr.ParV P G o x s.1 s.2 ∧ ∀ b, B b ↔ Wr.parB P G b

def Wr.ParFielded (P G : Nat) (o : Obj) (w : World) (B : Nat → Prop) (r : (List Int × Int) × Int) (e : Ending) (w' : World) : Prop :=
  ∃ B', e = .returned (.int .i64 r.2) ∧ Wr.Par P G o w' r.1 B' ∧ Wr.K w B w' B'

set_option maxRecDepth 8000 in
set_option maxHeartbeats 1600000 in
theorem wParField_any (P G : Nat) (o : Obj) (s : List Int × Int) (w : World) (B : Nat → Prop) (n : Int) (m : Nat) (lo hi : Int) (h1 : 1 ≤ m) (h4 : m ≤ 4) (H : Wr.Par P G o w s B) :
    Calls Try.prog 89 #[.pointer (some ⟨P, 0, none⟩), .int .i64 n, .int .i64 (m : Int), .int .i64 lo, .int .i64 hi] w (Wr.ParFielded P G o w B (Wr.parS s n (m : Int) lo hi)) := by
  obtain ⟨l, er⟩ := s
  obtain ⟨hv, hB⟩ := H
  have HV := hide hv
  have HBB := hide hB
  obtain ⟨p, C, hbx, _⟩ := hv.box
  have c1 : w.cell? ⟨P, 1, none⟩ = some (.int .i64 er) := hbx.cell (i := 1) (by omega)
  by_cases he : er = 0
  · subst he
    rcases Nat.lt_or_ge l.length m with hlt | hge
    · have hs : Wr.parS (l, 0) n (m : Int) lo hi = ((l, 7), 0) := by
        unfold Wr.parS
        rw [if_neg (by simp), Int.toNat_natCast, if_pos hlt]
      rw [hs]
      have ct := hide (wTake_no P l.length m C p _ w hbx rfl hlt)
      have hfin : Hid (Wr.ParFielded P G o w B ((l, 7), 0) (.returned (.int .i64 0)) (w.setCell ⟨P, 1, none⟩ (.int .i64 7))) := ⟨B, rfl, ⟨hv.wrong 7, hB⟩, ⟨(Turn.refl B w).store P 1 _ ((hB P).2 (.inl rfl)), fun b q => .inl q⟩⟩
      have f1 : w.frozen? ⟨P, 1, none⟩ = false := hbx.free 1
      clear hs hv hB HV HBB hlt h1 h4 hbx
      go_enter Try.func89, Try.ntmps89
      go_wp2_with fail
      refine (unhide ct).mono ?_
      rintro e y ⟨rfl, hy⟩
      rw [hy]
      clear hy y ct
      go_wp2
      go_ret
      exact unhide hfin
    · have ct := hide (wTake_yes P G m o l 0 w hv hge h1 h4)
      have cw := hide (fun x => wWithin_any (Wr.be (l.take m)) lo hi x)
      by_cases hin : lo ≤ Wr.be (l.take m) ∧ Wr.be (l.take m) ≤ hi
      · have hs : Wr.parS (l, 0) n (m : Int) lo hi = ((l.drop m, 0), Wr.be (l.take m)) := by
          unfold Wr.parS
          rw [if_neg (by simp), Int.toNat_natCast, if_neg (show ¬ l.length < m by omega), if_pos hin]
        rw [hs]
        have hd : (decide (lo ≤ Wr.be (l.take m)) && decide (Wr.be (l.take m) ≤ hi)) = true := by simp [hin.1, hin.2]
        rw [hd] at cw
        obtain ⟨X, hX⟩ : ∃ X, Wr.be (l.take m) = X := ⟨_, rfl⟩
        unfold Wr.Took at ct
        rw [hX] at ct cw ⊢
        clear hs hv hB HV hge h1 h4 hd hin hX hbx
        go_enter Try.func89, Try.ntmps89
        go_wp2_with fail
        refine (unhide ct).mono ?_
        rintro e y ⟨u, rfl, hy, hv⟩
        have hfin : Hid (Wr.ParFielded P G o w B ((l.drop m, 0), X) (.returned (.int .i64 X)) y) := ⟨B, rfl, ⟨hv, unhide HBB⟩, ⟨by rw [hy]; exact (Turn.refl B w).store P 0 _ ((unhide HBB P).2 (.inl rfl)), fun b q => .inl q⟩⟩
        clear hy hv ct
        go_wp2_with fail
        refine (unhide cw _).mono ?_
        rintro e z ⟨rfl, hz⟩
        rw [hz]
        clear hz z cw
        go_wp2
        go_ret
        exact unhide hfin
      · have hs : Wr.parS (l, 0) n (m : Int) lo hi = ((l.drop m, 9), 0) := by
          unfold Wr.parS
          rw [if_neg (by simp), Int.toNat_natCast, if_neg (show ¬ l.length < m by omega), if_neg hin]
        rw [hs]
        have hd : (decide (lo ≤ Wr.be (l.take m)) && decide (Wr.be (l.take m) ≤ hi)) = false := by
          rw [← Bool.not_eq_true]
          simpa using hin
        rw [hd] at cw
        obtain ⟨X, hX⟩ : ∃ X, Wr.be (l.take m) = X := ⟨_, rfl⟩
        unfold Wr.Took at ct
        rw [hX] at ct cw
        clear hs hv hB HV hge h1 h4 hd hin hX hbx
        go_enter Try.func89, Try.ntmps89
        go_wp2_with fail
        refine (unhide ct).mono ?_
        rintro e y ⟨u, rfl, hy, hv⟩
        have hfin : Hid (Wr.ParFielded P G o w B ((l.drop m, 9), 0) (.returned (.int .i64 0)) (y.setCell ⟨P, 1, none⟩ (.int .i64 9))) := ⟨B, rfl, ⟨hv.wrong 9, unhide HBB⟩, ⟨by rw [hy]; exact ((Turn.refl B w).store P 0 _ ((unhide HBB P).2 (.inl rfl))).store P 1 _ ((unhide HBB P).2 (.inl rfl)), fun b q => .inl q⟩⟩
        obtain ⟨p, C, hby, _⟩ := hv.box
        have f1 : y.frozen? ⟨P, 1, none⟩ = false := hby.free 1
        have g1 : y.cell? ⟨P, 1, none⟩ = some (.int .i64 0) := hby.cell (i := 1) (by omega)
        clear hy hv ct hby
        go_wp2_with fail
        refine (unhide cw _).mono ?_
        rintro e z ⟨rfl, hz⟩
        rw [hz]
        clear hz z cw
        go_wp2
        go_ret
        exact unhide hfin
  · have hs : Wr.parS (l, er) n (m : Int) lo hi = ((l, er), 0) := by
      unfold Wr.parS
      rw [if_pos he]
    rw [hs]
    have hfin : Hid (Wr.ParFielded P G o w B ((l, er), 0) (.returned (.int .i64 0)) w) := ⟨B, rfl, ⟨hv, hB⟩, Wr.K.refl _ _⟩
    clear hs hv hB HV HBB h1 h4 hbx
    go_enter Try.func89, Try.ntmps89
    go_wp2
    go_ret
    exact unhide hfin

theorem Wr.parS_ans (s : List Int × Int) (n k lo hi : Int) : (Wr.parS s n k lo hi).2 = 0 ∨ (lo ≤ (Wr.parS s n k lo hi).2 ∧ (Wr.parS s n k lo hi).2 ≤ hi) := by
  unfold Wr.parS
  split
  · exact .inl rfl
  · split
    · exact .inl rfl
    · split
      · rename_i h
        exact .inr h
      · exact .inl rfl

set_option maxRecDepth 16000 in
/-- It is one. -/
theorem Wr.parSide (P G : Nat) (o : Obj) : Wr.Side 82 (.pointer (some ⟨P, 0, none⟩)) 89 Wr.parS (Wr.Par P G o) (fun _ => True) where
  back _ _ _ _ _ _ := trivial
  meth k w := rfl
  call a b c d e w := rfl
  lt h b hb := by
    rcases (h.2 b).1 hb with rfl | rfl
    · exact h.1.ltP
    · exact h.1.lt
  turned h ht hC := ⟨h.1.turn ht (hC P ((h.2 P).2 (.inl rfl))) (hC G ((h.2 G).2 (.inr rfl))), h.2⟩
  ans s n k lo hi := by
    rcases Wr.parS_ans s n k lo hi with h | h
    · exact .inl h
    · exact .inr (.inl h)
  field w s B n k lo hi n0 n1 hk hs hl := by
    obtain ⟨m, hm1, hm, rfl⟩ : ∃ m : Nat, 1 ≤ m ∧ m ≤ 4 ∧ k = (m : Int) := ⟨k.toNat, by omega, by omega, by omega⟩
    exact wParField_any P G o s w B n m lo hi hm1 hm hs

end Go.Proofs.Ytiegccdgoemamaa

namespace Go.Proofs.Ytiegccdgoemamaa
open Go.RowKit

theorem Wr.enc1 (pre : List Int) (n k lo hi : Int) (h : lo ≤ n ∧ n ≤ hi) : Wr.encS (pre, 0) n k lo hi = ((pre ++ Wr.bytes n k.toNat, 0), n) := by
  unfold Wr.encS
  rw [if_pos h]

theorem Wr.be_bytes {n : Int} {m : Nat} (hm : m = 1 ∨ m = 2 ∨ m = 4) (h0 : 0 ≤ n) (h1 : n < 256 ^ m) : Wr.be (Wr.bytes n m) = n := by
  rcases hm with rfl | rfl | rfl
  · have e : Wr.bytes n 1 = [n / 1 % 256] := rfl
    rw [e]
    simp [Wr.be] at *
    omega
  · have e : Wr.bytes n 2 = [n / 256 % 256, n / 1 % 256] := rfl
    rw [e]
    simp [Wr.be] at *
    omega
  · have e : Wr.bytes n 4 = [n / 16777216 % 256, n / 65536 % 256, n / 256 % 256, n / 1 % 256] := rfl
    rw [e]
    simp [Wr.be] at *
    omega

theorem Wr.par1 (suf : List Int) (n a k lo hi : Int) (hk : k = 1 ∨ k = 2 ∨ k = 4) (h0 : 0 ≤ n) (h1 : n < 256 ^ k.toNat) (h : lo ≤ n ∧ n ≤ hi) : Wr.parS (Wr.bytes n k.toNat ++ suf, 0) a k lo hi = ((suf, 0), n) := by
  have hl : (Wr.bytes n k.toNat).length = k.toNat := Wr.bytes_len n k.toNat
  have ht : (Wr.bytes n k.toNat ++ suf).take k.toNat = Wr.bytes n k.toNat := by rw [List.take_append_of_le_length (by omega), List.take_of_length_le (by omega)]
  have hd : (Wr.bytes n k.toNat ++ suf).drop k.toNat = suf := by rw [List.drop_append_of_le_length (by omega), List.drop_eq_nil_of_le (by omega), List.nil_append]
  have hb := Wr.be_bytes (m := k.toNat) (by rcases hk with rfl | rfl | rfl <;> simp) h0 h1
  unfold Wr.parS
  dsimp only
  rw [if_neg (by simp), if_neg (by rw [List.length_append]; omega), ht, hd, hb, if_pos h]

theorem Wr.par4 (suf : List Int) (n a : Int) (h : 0 ≤ n ∧ n ≤ 1073741823) : Wr.parS (Wr.bytes n 4 ++ suf, 0) a 4 0 1073741823 = ((suf, 0), n) :=
  Wr.par1 suf n a 4 0 1073741823 (.inr (.inr rfl)) h.1 (by have : (256 : Int) ^ (4 : Int).toNat = 4294967296 := by decide
                                                           omega) h

theorem Wr.enc4 (pre : List Int) (n : Int) (h : 0 ≤ n ∧ n ≤ 1073741823) : Wr.encS (pre, 0) n 4 0 1073741823 = ((pre ++ Wr.bytes n 4, 0), n) := Wr.enc1 pre n 4 0 1073741823 h

theorem Wr.byte1 (n : Int) (h : 0 ≤ n ∧ n ≤ 255) : Wr.bytes n 1 = [n] := by
  have e : Wr.bytes n 1 = [n / 1 % 256] := rfl
  rw [e]
  simp
  omega

theorem Wr.parB1 (suf : List Int) (n a lo hi : Int) (h : lo ≤ n ∧ n ≤ hi) (h0 : 0 ≤ n ∧ n ≤ 255) : Wr.parS (n :: suf, 0) a 1 lo hi = ((suf, 0), n) := by
  have q := Wr.par1 suf n a 1 lo hi (.inl rfl) h0.1 (by have : (256 : Int) ^ (1 : Int).toNat = 256 := by decide
                                                        omega) h
  rw [show (1 : Int).toNat = 1 from rfl, Wr.byte1 n h0] at q
  exact q

theorem Wr.encB1 (pre : List Int) (n lo hi : Int) (h : lo ≤ n ∧ n ≤ hi) (h0 : 0 ≤ n ∧ n ≤ 255) : Wr.encS (pre, 0) n 1 lo hi = ((pre ++ [n], 0), n) := by
  have q := Wr.enc1 pre n 1 lo hi h
  rw [show (1 : Int).toNat = 1 from rfl, Wr.byte1 n h0] at q
  exact q

/-- A list's fields, each a byte. -/
theorem Wr.mapE {each : List Int × Int → Int → (List Int × Int) × Int} : ∀ (l pre : List Int), (∀ a, a ∈ l → ∀ pre, each (pre, 0) a = ((pre ++ [a], 0), a)) → Wr.mapS each (pre, 0) l = ((pre ++ l, 0), l)
  | [], pre, _ => by simp [Wr.mapS]
  | a :: l, pre, h => by
    unfold Wr.mapS
    rw [h a (by simp) pre]
    dsimp only
    rw [Wr.mapE l (pre ++ [a]) (fun b hb => h b (by simp [hb]))]
    simp

theorem Wr.mapP {each : List Int × Int → Int → (List Int × Int) × Int} : ∀ (l l' suf : List Int), l'.length = l.length → (∀ a, a ∈ l → ∀ suf x, each (a :: suf, 0) x = ((suf, 0), a)) → Wr.mapS each (l ++ suf, 0) l' = ((suf, 0), l)
  | [], [], suf, _, _ => by simp [Wr.mapS]
  | [], _ :: _, _, h, _ => absurd h (by simp)
  | _ :: _, [], _, h, _ => absurd h (by simp)
  | a :: l, b :: l', suf, h, hh => by
    unfold Wr.mapS
    rw [List.cons_append, hh a (by simp) (l ++ suf) b]
    dsimp only
    rw [Wr.mapP l l' suf (by simpa using h) (fun c hc => hh c (by simp [hc]))]

theorem Wr.fit_same (n : Nat) (z : Nat → Int) : Wr.fit n n z = (List.range n).map z := by
  unfold Wr.fit
  refine List.map_congr_left fun i hi => ?_
  rw [if_pos (List.mem_range.1 hi)]

theorem Wr.listE {each : List Int × Int → Int → (List Int × Int) × Int} (pre : List Int) (n : Nat) (most : Int) (z : Nat → Int) (hn : (n : Int) ≤ most) (h : ∀ i, i < n → ∀ pre, each (pre, 0) (z i) = ((pre ++ [z i], 0), z i)) (k : Int) :
    Wr.listS Wr.encS each (pre, 0) n k most z = ((pre ++ (Wr.bytes n k.toNat ++ (List.range n).map z), 0), (List.range n).map z) := by
  unfold Wr.listS
  rw [Wr.enc1 pre n k 0 most (by omega)]
  dsimp only
  rw [Int.toNat_natCast, Wr.fit_same, Wr.mapE _ _ (fun a ha pre => by
    obtain ⟨i, hi, rfl⟩ := List.mem_map.1 ha
    exact h i (List.mem_range.1 hi) pre), List.append_assoc]

theorem Wr.listP {each : List Int × Int → Int → (List Int × Int) × Int} (suf : List Int) (n n' : Nat) (k most : Int) (z z' : Nat → Int) (hk : k = 1 ∨ k = 2 ∨ k = 4) (h1 : (n : Int) < 256 ^ k.toNat) (hn : (n : Int) ≤ most) (h : ∀ i, i < n → ∀ suf x, each (z i :: suf, 0) x = ((suf, 0), z i)) :
    Wr.listS Wr.parS each (Wr.bytes n k.toNat ++ (List.range n).map z ++ suf, 0) n' k most z' = ((suf, 0), (List.range n).map z) := by
  unfold Wr.listS
  rw [List.append_assoc, Wr.par1 _ n n' k 0 most hk (by omega) h1 (by omega)]
  dsimp only
  rw [Int.toNat_natCast]
  exact Wr.mapP _ _ suf (by simp [Wr.fit]) (fun a ha suf x => by
    obtain ⟨i, hi, rfl⟩ := List.mem_map.1 ha
    exact h i (List.mem_range.1 hi) suf x)

/-- A record's bytes; what is read of it. -/
def Wr.recB (r : Nat → Int) : List Int := if r 0 = 1 then [1, r 1] else if r 0 = 2 then [2, r 2] ++ Wr.bytes (r 3) 4 else [3, r 2] ++ (Wr.bytes (r 3) 4 ++ Wr.bytes (r 4) 4)

def Wr.recOk (r : Nat → Int) : Prop := (1 ≤ r 0 ∧ r 0 ≤ 3) ∧ (0 ≤ r 1 ∧ r 1 ≤ 10) ∧ (0 ≤ r 2 ∧ r 2 ≤ 3) ∧ (0 ≤ r 3 ∧ r 3 ≤ 1073741823) ∧ (0 ≤ r 4 ∧ r 4 ≤ 1073741823)

/-- Its kind's own fields are the same. -/
def Wr.recLike (r q : Nat → Int) : Prop := q 0 = r 0 ∧ (r 0 = 1 → q 1 = r 1) ∧ (r 0 = 2 ∨ r 0 = 3 → q 2 = r 2 ∧ q 3 = r 3) ∧ (r 0 = 3 → q 4 = r 4)

theorem Wr.recE (pre : List Int) (r : Nat → Int) (h : Wr.recOk r) : (Wr.recS Wr.encS (pre, 0) r).1 = (pre ++ Wr.recB r, 0) := by
  obtain ⟨h0, h1, h2, h3, h4⟩ := h
  unfold Wr.recS Wr.input Wr.recB
  dsimp only
  rw [Wr.encB1 pre (r 0) 1 3 h0 (by omega)]
  dsimp only
  rcases (show r 0 = 1 ∨ r 0 = 2 ∨ r 0 = 3 by omega) with k | k | k
  · rw [k, if_pos rfl, if_pos rfl, Wr.encB1 _ (r 1) 0 10 h1 (by omega)]
    simp
  · rw [k, if_neg (by decide), if_pos (by decide), if_neg (by decide), if_neg (by decide), if_pos rfl, Wr.encB1 _ (r 2) 0 3 h2 (by omega)]
    dsimp only
    rw [Wr.enc4 _ (r 3) h3]
    simp
  · rw [k, if_neg (by decide), if_pos (by decide), if_pos rfl, if_neg (by decide), if_neg (by decide), Wr.encB1 _ (r 2) 0 3 h2 (by omega)]
    dsimp only
    rw [Wr.enc4 _ (r 3) h3]
    dsimp only
    rw [Wr.enc4 _ (r 4) h4]
    simp

theorem Wr.recP (suf : List Int) (r x : Nat → Int) (h : Wr.recOk r) : ∃ q, Wr.recS Wr.parS (Wr.recB r ++ suf, 0) x = ((suf, 0), q) ∧ Wr.recLike r q := by
  obtain ⟨h0, h1, h2, h3, h4⟩ := h
  rcases (show r 0 = 1 ∨ r 0 = 2 ∨ r 0 = 3 by omega) with k | k | k
  · have e : Wr.recB r ++ suf = 1 :: r 1 :: suf := by simp [Wr.recB, k]
    rw [e]
    unfold Wr.recS Wr.input
    dsimp only
    rw [Wr.parB1 _ 1 (x 0) 1 3 (by decide) (by decide)]
    dsimp only
    rw [if_pos rfl, Wr.parB1 _ (r 1) (x 1) 0 10 h1 (by omega)]
    refine ⟨_, rfl, ?_⟩
    unfold Wr.recLike Wr.upd
    rw [k]
    simp
  · have e : Wr.recB r ++ suf = 2 :: r 2 :: (Wr.bytes (r 3) 4 ++ suf) := by simp [Wr.recB, k]
    rw [e]
    unfold Wr.recS Wr.input
    dsimp only
    rw [Wr.parB1 _ 2 (x 0) 1 3 (by decide) (by decide)]
    dsimp only
    rw [if_neg (by decide), if_pos (.inl rfl), Wr.parB1 _ (r 2) (x 2) 0 3 h2 (by omega)]
    dsimp only
    rw [Wr.par4 _ (r 3) (x 3) h3, if_neg (by decide)]
    refine ⟨_, rfl, ?_⟩
    unfold Wr.recLike Wr.upd
    rw [k]
    simp
  · have e : Wr.recB r ++ suf = 3 :: r 2 :: (Wr.bytes (r 3) 4 ++ (Wr.bytes (r 4) 4 ++ suf)) := by simp [Wr.recB, k]
    rw [e]
    unfold Wr.recS Wr.input
    dsimp only
    rw [Wr.parB1 _ 3 (x 0) 1 3 (by decide) (by decide)]
    dsimp only
    rw [if_neg (by decide), if_pos (.inr rfl), Wr.parB1 _ (r 2) (x 2) 0 3 h2 (by omega)]
    dsimp only
    rw [Wr.par4 _ (r 3) (x 3) h3]
    dsimp only
    rw [if_pos rfl, Wr.par4 _ (r 4) (x 4) h4]
    refine ⟨_, rfl, ?_⟩
    unfold Wr.recLike Wr.upd
    rw [k]
    simp

end Go.Proofs.Ytiegccdgoemamaa
