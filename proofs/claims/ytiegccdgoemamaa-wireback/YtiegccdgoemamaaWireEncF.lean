/-
  The side that writes is a side.
-/
import Derived.Test.YtiegccdgoemamaaWireEnc
namespace Go.Proofs.Ytiegccdgoemamaa
open Go.RowKit

/-- What it does with a field. -/
def Wr.encS (s : List Int × Int) (n k lo hi : Int) : (List Int × Int) × Int :=
  if lo ≤ n ∧ n ≤ hi then ((s.1 ++ Wr.bytes n k.toNat, s.2), n) else ((s.1, 1), 0)

def Wr.Enc (E : Nat) (x : World) (s : List Int × Int) (B : Nat → Prop) : Prop := ∃ v, Wr.EncV E x v s.1 s.2 ∧ ∀ b, B b ↔ Wr.encB E v b

def Wr.EncL (s : List Int × Int) : Prop := s.1.length ≤ 1000000

theorem Wr.EncV.wrong {E : Nat} {x : World} {v : Value} {l : List Int} {er : Int} (h : Wr.EncV E x v l er) (a : Int) : Wr.EncV E (x.setCell ⟨E, 1, none⟩ (.int .i64 a)) v l a :=
  ⟨(h.1.store 1 (.int .i64 a)).congr (fun i hi => by rcases (show i = 0 ∨ i = 1 by omega) with rfl | rfl <;> rfl), h.2.kept (grown_set (World.grownBy.refl _ (some E)) 1 _) (Or.inr (Wr.encApart h.1 h.2))⟩

def Wr.Fielded (E : Nat) (w : World) (B : Nat → Prop) (r : (List Int × Int) × Int) (e : Ending) (w' : World) : Prop :=
  ∃ B', e = .returned (.int .i64 r.2) ∧ Wr.Enc E w' r.1 B' ∧ Wr.K w B w' B'

theorem Wr.K.same {w x : World} {B C B' C' : Nat → Prop} (h : Wr.K w B x C) (hB : ∀ b, B' b ↔ B b) (hC : ∀ b, C' b ↔ C b) : Wr.K w B' x C' :=
  ⟨h.turn.mono (fun b q => (hB b).2 q), fun b q => (h.own b ((hC b).1 q)).imp (fun q => (hB b).2 q) id⟩

set_option maxRecDepth 8000 in
set_option maxHeartbeats 1600000 in
theorem wEncField_any (E : Nat) (s : List Int × Int) (w : World) (B : Nat → Prop) (n : Int) (m : Nat) (lo hi : Int) (hm : m ≤ 8) (H : Wr.Enc E w s B) (hl : Wr.EncL (Wr.encS s n (m : Int) lo hi).1) :
    Calls Try.prog 88 #[.pointer (some ⟨E, 0, none⟩), .int .i64 n, .int .i64 (m : Int), .int .i64 lo, .int .i64 hi] w (Wr.Fielded E w B (Wr.encS s n (m : Int) lo hi)) := by
  obtain ⟨l, er⟩ := s
  obtain ⟨v, hv, hB⟩ := H
  have HV := hide hv
  have HBB := hide hB
  by_cases hin : lo ≤ n ∧ n ≤ hi
  · have he : Wr.encS (l, er) n (m : Int) lo hi = ((l ++ Wr.bytes n m, er), n) := by
      unfold Wr.encS
      rw [if_pos hin, Int.toNat_natCast]
    rw [he] at hl ⊢
    have cw := hide (fun x => wWithin_any n lo hi x)
    have hd : (decide (lo ≤ n) && decide (n ≤ hi)) = true := by simp [hin.1, hin.2]
    rw [hd] at cw
    have cp := hide (wPut_any E n m hm v l er w hv (by unfold Wr.EncL at hl; simp at hl; omega))
    clear he hl hd hin hv hB hm
    go_enter Try.func88, Try.ntmps88
    go_wp2_with fail
    refine (unhide cw _).mono ?_
    rintro e y ⟨rfl, hy⟩
    rw [hy]
    clear hy y
    go_wp2_with fail
    refine (unhide cp).mono ?_
    rintro e y ⟨u, rfl, h1, h2⟩
    have hfin : Hid (Wr.Fielded E w B ((l ++ Wr.bytes n m, er), n) (.returned (.int .i64 n)) y) := ⟨Wr.encB E u, rfl, ⟨u, h1, fun b => Iff.rfl⟩, h2.same (unhide HBB) (fun b => Iff.rfl)⟩
    clear h1 h2 cp cw
    go_wp2
    go_ret
    exact unhide hfin
  · have he : Wr.encS (l, er) n (m : Int) lo hi = ((l, 1), 0) := by
      unfold Wr.encS
      rw [if_neg hin]
    rw [he] at hl ⊢
    have cw := hide (fun x => wWithin_any n lo hi x)
    have hd : (decide (lo ≤ n) && decide (n ≤ hi)) = false := by
      rw [← Bool.not_eq_true]
      simpa using hin
    rw [hd] at cw
    have hfin : Hid (Wr.Fielded E w B ((l, 1), 0) (.returned (.int .i64 0)) (w.setCell ⟨E, 1, none⟩ (.int .i64 1))) := by
      refine ⟨B, rfl, ⟨v, hv.wrong 1, hB⟩, ⟨(Turn.refl B w).store E 1 _ ((hB E).2 (.inl rfl)), fun b q => .inl q⟩⟩
    have c1 : w.cell? ⟨E, 1, none⟩ = some (.int .i64 er) := hv.1.cell (i := 1) (by omega)
    have f1 := hv.1.free
    clear he hl hd hin hv hB hm
    go_enter Try.func88, Try.ntmps88
    go_wp2_with fail
    refine (unhide cw _).mono ?_
    rintro e y ⟨rfl, hy⟩
    rw [hy]
    clear hy y cw
    go_wp2
    go_ret
    exact unhide hfin

theorem Wr.bytes_len (n : Int) (m : Nat) : (Wr.bytes n m).length = m := by simp [Wr.bytes]

set_option maxRecDepth 16000 in
/-- It is one. -/
theorem Wr.encSide (E : Nat) : Wr.Side 64 (.pointer (some ⟨E, 0, none⟩)) 88 Wr.encS (Wr.Enc E) Wr.EncL where
  back s n k lo hi h := by
    unfold Wr.EncL Wr.encS at *
    split at h
    · simp at h
      omega
    · exact h
  meth k w := rfl
  call a b c d e w := rfl
  lt h b hb := by
    obtain ⟨v, hv, hB⟩ := h
    exact hv.lt ((hB b).1 hb)
  turned h ht hC := by
    obtain ⟨v, hv, hB⟩ := h
    exact ⟨v, hv.turn ht (fun b q => hC b ((hB b).2 q)), hB⟩
  ans s n k lo hi := by
    unfold Wr.encS
    split
    · exact .inr (.inr rfl)
    · exact .inl rfl
  field w s B n k lo hi n0 n1 hk hs hl := by
    obtain ⟨m, hm, rfl⟩ : ∃ m : Nat, m ≤ 8 ∧ k = (m : Int) := ⟨k.toNat, by omega, by omega⟩
    exact wEncField_any E s w B n m lo hi hm hs hl

end Go.Proofs.Ytiegccdgoemamaa
