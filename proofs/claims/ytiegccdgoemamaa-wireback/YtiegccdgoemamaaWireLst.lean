/-
  The side that tells is a side.
-/
import Derived.Test.YtiegccdgoemamaaWireEncF
import Derived.Test.YtiegccdgoemamaaWireList
namespace Go.Proofs.Ytiegccdgoemamaa
open Go.RowKit

/-- Numbers are gathered in a box. -/
def Wr.LstV (E : Nat) (x : World) (v : Value) (l : List Int) : Prop :=
  Arr x E 111 1 (fun _ => v) ∧ x.ownsRow 0 3 1 v l.length (l.map (Value.int .i64))

theorem Wr.lstApart {x : World} {base E n : Nat} {v : Value} {F : Nat → Value} {xs : List Value} (hb : Arr x E 111 1 F) (h : x.ownsRow base 3 1 v n xs) : v.ownBlock ≠ some E := fun e => by
  obtain ⟨cur, hc, _⟩ := hb
  rcases h.2 with ⟨rfl, _⟩ | ⟨g, cap, cur', rfl, _, hc', _⟩
  · cases e
  · simp [Value.ownBlock] at e
    subst e
    rw [hc] at hc'
    simp at hc'

theorem Wr.LstV.lt {E : Nat} {x : World} {v : Value} {l : List Int} (h : Wr.LstV E x v l) {b : Nat} (hb : Wr.encB E v b) : b < x.heap.size := by
  rcases hb with rfl | hb
  · exact h.1.lt
  · exact (World.ownsRow.lt h.2 b hb).2

theorem Wr.LstV.turn {E : Nat} {x y : World} {v : Value} {l : List Int} {C : Nat → Prop} (h : Wr.LstV E x v l) (ht : Turn C x y) (hC : ∀ b, Wr.encB E v b → ¬ C b) : Wr.LstV E y v l := by
  refine ⟨h.1.turn ht (hC E (.inl rfl)), h.2.1, ?_⟩
  rcases h.2.2 with q | ⟨g, cap, cur, hv, hb, hg, r⟩
  · exact .inl q
  · exact .inr ⟨g, cap, cur, hv, hb, (ht.block g (Array.getElem?_eq_some_iff.1 hg).1 (hC g (.inr (by rw [hv]; rfl)))).trans hg, r⟩

theorem Wr.LstV.more {E : Nat} {x y : World} {v : Value} {l : List Int} {b : Int} {g n cap : Nat} (o : Obj) (h : Wr.LstV E x v l) (hg : (x.alloc o).grownBy y v.ownBlock)
    (hu : y.ownsRow 0 3 1 (.slice (some ⟨g, 0, none⟩) n cap) (l ++ [b]).length ((l ++ [b]).map (Value.int .i64))) (hl : v.ownBlock = some g ∨ x.heap.size ≤ g) :
    Wr.LstV E (y.setCell ⟨E, 0, none⟩ (.slice (some ⟨g, 0, none⟩) n cap)) (.slice (some ⟨g, 0, none⟩) n cap) (l ++ [b]) ∧ Wr.K x (Wr.encB E v) (y.setCell ⟨E, 0, none⟩ (.slice (some ⟨g, 0, none⟩) n cap)) (Wr.encB E (.slice (some ⟨g, 0, none⟩) n cap)) ∧ y.frozen? ⟨E, 0, none⟩ = false ∧ y.cell? ⟨E, 0, none⟩ = some v := by
  have hba := h.1.alloc o
  have hoa := h.2.alloc o
  have hby := hba.grown hg (Wr.lstApart hba hoa)
  have ht : Turn (Wr.encB E v) x y := (Turn.new (B := Wr.encB E v) (World.grownBy_alloc x o none)).trans (Turn.grown (B := Wr.encB E v) hg (fun k e => .inr e)) (fun _ _ q => q)
  refine ⟨⟨(hby.store 0 _).congr (fun i hi => by obtain rfl : i = 0 := by omega
                                                 rfl), hu.kept (grown_set (World.grownBy.refl _ (some E)) 0 _) (Or.inr (Wr.lstApart hby hu))⟩, ⟨ht.store E 0 _ (.inl rfl), fun c hc => ?_⟩, hby.free 0, hby.cell (i := 0) (by omega)⟩
  rcases hc with rfl | hc
  · exact .inl (.inl rfl)
  · have e : g = c := by simpa [Value.ownBlock] using hc
    rcases hl with hl | hl
    · exact .inl (.inr (e ▸ hl))
    · exact .inr (by omega)

/-- What it does with a field. -/
def Wr.lstS (s : List Int) (n _k _lo _hi : Int) : List Int × Int := (s ++ [n], n)

def Wr.Lst (E : Nat) (x : World) (s : List Int) (B : Nat → Prop) : Prop := ∃ v, Wr.LstV E x v s ∧ ∀ b, B b ↔ Wr.encB E v b

def Wr.LstL (s : List Int) : Prop := s.length ≤ 100000000

def Wr.LstFielded (E : Nat) (w : World) (B : Nat → Prop) (r : List Int × Int) (e : Ending) (w' : World) : Prop :=
  ∃ B', e = .returned (.int .i64 r.2) ∧ Wr.Lst E w' r.1 B' ∧ Wr.K w B w' B'

set_option maxRecDepth 8000 in
set_option maxHeartbeats 1600000 in
theorem wLstField_any (E : Nat) (s : List Int) (w : World) (B : Nat → Prop) (n k lo hi : Int) (H : Wr.Lst E w s B) (hl : Wr.LstL (Wr.lstS s n k lo hi).1) :
    Calls Try.prog 90 #[.pointer (some ⟨E, 0, none⟩), .int .i64 n, .int .i64 k, .int .i64 lo, .int .i64 hi] w (Wr.LstFielded E w B (Wr.lstS s n k lo hi)) := by
  show Calls Try.prog _ _ _ (Wr.LstFielded E w B (s ++ [n], n))
  obtain ⟨v, hv, hB⟩ := H
  have hlen : s.length ≤ 100000000 := by
    unfold Wr.LstL Wr.lstS at hl
    simp at hl
    omega
  have HV := hide hv
  have HBB := hide hB
  have HL := hide hlen
  obtain ⟨i0, hin, hz0, hz1, hz2⟩ := info_parts info_num
  have c0 : w.cell? ⟨E, 0, none⟩ = some v := hv.1.cell (i := 0) (by omega)
  have ho := hide (hv.2.alloc (.cells #[.int .i64 n] 3))
  have hnews : Hid (∀ j u, [Value.int .i64 n][j]? = some u → (w.alloc (.cells #[.int .i64 n] 3)).cell? ((⟨w.heap.size, 0, none⟩ : Addr).add j) = some u) := one_at _ _ _ _ rfl
  clear hv hB hl hlen
  go_enter Try.func90, Try.ntmps90
  go_wp2_with (at_builtin; refine wpList_append_lies _ rfl _ _ 24 rfl 0 3 i0 (.int .i64 0) 1 8 Try.underlying24 hin hz0 hz1 hz2 rfl (by decide) v _ _ rfl (unhide ho) ⟨w.heap.size, 0, none⟩ 1 1 [.int .i64 n] rfl rfl (unhide hnews) (by intro u hu; simp at hu; subst hu; rfl) (by decide) (by have := unhide HL; unfold maxLen; omega) (by have := unhide HL; omega) (Nat.zero_le _) _ rfl ?_)
  intro g cap y hown hgr hloc hlt
  obtain ⟨h1, h2, h3, h4⟩ := (unhide HV).more (b := n) _ hgr (by rw [List.map_append, List.length_append]; exact hown) (hloc.imp id (fun e => by omega))
  have hfin : Hid (Wr.LstFielded E w B (s ++ [n], n) (.returned (.int .i64 n)) (y.setCell ⟨E, 0, none⟩ (.slice (some ⟨g, 0, none⟩) (s.length + 1) cap))) := ⟨_, rfl, ⟨_, h1, fun b => Iff.rfl⟩, h2.same (unhide HBB) (fun b => Iff.rfl)⟩
  clear h1 h2 hown hgr hloc hlt hnews ho c0
  go_wp2
  go_ret
  exact unhide hfin

set_option maxRecDepth 16000 in
/-- It is one. -/
theorem Wr.lstSide (E : Nat) : Wr.Side 109 (.pointer (some ⟨E, 0, none⟩)) 90 Wr.lstS (Wr.Lst E) Wr.LstL where
  back s n k lo hi h := by
    unfold Wr.LstL Wr.lstS at *
    simp at h
    omega
  meth k w := rfl
  call a b c d e w := rfl
  lt h b hb := by
    obtain ⟨v, hv, hB⟩ := h
    exact hv.lt ((hB b).1 hb)
  turned h ht hC := by
    obtain ⟨v, hv, hB⟩ := h
    exact ⟨v, hv.turn ht (fun b q => hC b ((hB b).2 q)), hB⟩
  ans s n k lo hi := .inr (.inr rfl)
  field w s B n k lo hi n0 n1 hk hs hl := wLstField_any E s w B n k lo hi hs hl

end Go.Proofs.Ytiegccdgoemamaa
