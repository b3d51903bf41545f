/-
  The greatest of a row, where it stands first, and the cells that are floor.
  From one ring of cells to the next: what the program's outward does.
  The targets: what the program's inmost does.
  The program's field: ring by ring, by a goto from one to the next.
-/
import Derived.Test.YtgkomdpceilggaaPart03
import Derived.Deep.LoopGhost
import Derived.Test.YtgkomdpceilggaaPart02
namespace Go.Proofs.Ytgkomdpceilggaa
open Go.RowKit

/-- The greatest of F 0 to F n. -/
def Gn.most (F : Nat → Int) : Nat → Int
  | 0 => F 0
  | n + 1 => if F (n + 1) > Gn.most F n then F (n + 1) else Gn.most F n

theorem Gn.most_ge (F : Nat → Int) (n i : Nat) (h : i ≤ n) : F i ≤ Gn.most F n := by
  induction n with
  | zero => obtain rfl : i = 0 := by omega
            exact Int.le_refl _
  | succ n ih =>
    unfold Gn.most
    by_cases e : i = n + 1
    · subst e; split <;> omega
    · have := ih (by omega)
      split <;> omega

theorem Gn.most_is (F : Nat → Int) (n : Nat) : ∃ i, i ≤ n ∧ F i = Gn.most F n := by
  induction n with
  | zero => exact ⟨0, Nat.le_refl _, rfl⟩
  | succ n ih =>
    obtain ⟨i, hi, he⟩ := ih
    by_cases h : F (n + 1) > Gn.most F n
    · exact ⟨n + 1, Nat.le_refl _, by rw [Gn.most, if_pos h]⟩
    · exact ⟨i, by omega, by rw [Gn.most, if_neg h]; exact he⟩

/-- The numbers below n of which p holds, in order. -/
def Gn.those (p : Nat → Bool) (n : Nat) : List Nat := (List.range n).filter p

theorem Gn.those_yes {p : Nat → Bool} {n : Nat} (h : p n = true) : Gn.those p (n + 1) = Gn.those p n ++ [n] := by
  unfold Gn.those
  rw [List.range_succ, List.filter_append, List.filter_cons_of_pos h, List.filter_nil]

theorem Gn.those_no {p : Nat → Bool} {n : Nat} (h : p n = false) : Gn.those p (n + 1) = Gn.those p n := by
  unfold Gn.those
  rw [List.range_succ, List.filter_append, List.filter_cons_of_neg (by simp [h]), List.filter_nil, List.append_nil]

theorem Gn.those_len (p : Nat → Bool) (n : Nat) : (Gn.those p n).length ≤ n := by
  have h := List.length_filter_le p (List.range n)
  rw [List.length_range] at h
  exact h

/-- A list of numbers in a block of the call's own. -/
def Lst (w : World) (base : Nat) (v : Value) (l : List Nat) : Prop := w.ownsRow base 3 1 v l.length ((natInts l).map (Value.int .i64))

end Go.Proofs.Ytgkomdpceilggaa

namespace Go.Proofs.Ytgkomdpceilggaa
open Go.RowKit

/-- What a step hands back: the next ring, in a block of its own; the field as it is now; all else as it was. -/
def Ring (G : Nat) (w : World) (op tg : Nat → Prop) (gone : List Nat) (e : Ending) (w' : World) : Prop :=
  ∃ (nx : List Nat) (F : Nat → Int) (a : Option Addr) (cap : Nat), e = .returned (.slice a nx.length cap) ∧ Vex G w' a nx.length (Ints fun i => ((nx[i]?.getD 0 : Nat) : Int)) ∧ Arr w' G 3 384 (Ints F) ∧ Gr.Inv op tg F (gone ++ nx) gone.length 0 ∧ w.grownBy w' (some G)

theorem get_mid (pre ring nx : List Nat) (k : Nat) (h : k < ring.length) : (pre ++ ring ++ nx)[pre.length + k]?.getD 0 = ring[k]?.getD 0 := by
  rw [List.getElem?_append_left (by simp; omega), List.getElem?_append_right (by omega)]
  congr 2
  omega

theorem mark_step {op tg : Nat → Prop} {F : Nat → Int} {pre ring ny : List Nat} {k d c b : Nat} (hI : Gr.Inv op tg F (pre ++ ring ++ ny) (pre.length + k) d) (hk : k < ring.length) (hc : c = ring[k]?.getD 0) (hd : d < 4)
    (hn : Gr.nbIn c d) (hb : b = Gr.nbOf c d) (ho : op b) (hneg : F b < 0) : Gr.Inv op tg (Gr.upd F b (F c + 1)) (pre ++ ring ++ (ny ++ [b])) (pre.length + k) (d + 1) := by
  have e := get_mid pre ring ny k hk
  rw [← hc] at e
  have h := hI.mark (fun i hi ht => by have := (hI.zero i hi).2 ht; omega) (by simp; omega) hd (by rw [e]; exact hn) (by rw [e, ← hb]; exact ho) (by rw [e, ← hb]; exact hneg)
  rw [e, ← hb, List.append_assoc] at h
  exact h

theorem skip_step {op tg : Nat → Prop} {F : Nat → Int} {pre ring ny : List Nat} {k d c : Nat} (hI : Gr.Inv op tg F (pre ++ ring ++ ny) (pre.length + k) d) (hk : k < ring.length) (hc : c = ring[k]?.getD 0) (hd : d < 4)
    (hs : Gr.nbIn c d → op (Gr.nbOf c d) → 0 ≤ F (Gr.nbOf c d)) : Gr.Inv op tg F (pre ++ ring ++ ny) (pre.length + k) (d + 1) := by
  have e := get_mid pre ring ny k hk
  rw [← hc] at e
  exact hI.skip (by simp; omega) hd (by rw [e]; exact hs)

theorem inv_bd {op tg : Nat → Prop} {F : Nat → Int} {pre ring ny : List Nat} {k d c : Nat} (hI : Gr.Inv op tg F (pre ++ ring ++ ny) (pre.length + k) d) (hk : k < ring.length) (hc : c = ring[k]?.getD 0) : 0 ≤ F c ∧ F c ≤ 400 ∧ ny.length < 384 := by
  have e := get_mid pre ring ny k hk
  rw [← hc] at e
  have h := hI.lt (a := pre.length + k) (by simp; omega)
  rw [e] at h
  have hl := hI.len
  simp at hl
  refine ⟨h.2, ?_, by omega⟩
  have := hI.high (F c).toNat c h.1 (by omega)
  omega

theorem Gr.inB_nb (c d : Nat) (dx dy : Int) (hx : dx = Gr.dxOf d) (hy : dy = Gr.dyOf d) : Gr.inB ((c : Int) % 24 + dx) ((c : Int) / 24 + dy) = true ↔ Gr.nbIn c d := by
  rw [Gr.inB_iff, Gr.nbIn, hx, hy]
  omega

theorem Gr.d_bd (d : Nat) : -1 ≤ Gr.dxOf d ∧ Gr.dxOf d ≤ 1 ∧ -1 ≤ Gr.dyOf d ∧ Gr.dyOf d ≤ 1 := by
  match d with
  | 0 | 1 | 2 | 3 => decide
  | n + 4 => simp [Gr.dxOf, Gr.dyOf]

end Go.Proofs.Ytgkomdpceilggaa

namespace Go.Proofs.Ytgkomdpceilggaa
open Go.RowKit

/-- Of the first k that are named: those that can be walked on have 0, all others -1; 'ring' are they. -/
structure Gr.Seeds (f t : Nat → Int) (k : Nat) (F : Nat → Int) (ring : List Nat) : Prop where
  two : ∀ i, i < 384 → F i = 0 ∨ F i = -1
  zero : ∀ i, i < 384 → (F i = 0 ↔ Gr.walkB (f i) = true ∧ ∃ j, j < k ∧ t j = (i : Int))
  mem : ∀ i, i < 384 → (0 ≤ F i ↔ i ∈ ring)
  rng : ∀ i, i ∈ ring → i < 384
  cnt : ring.length = Gr.cnt F 384

theorem Gr.cnt_none (n : Nat) : Gr.cnt (fun _ => -1) n = 0 := by
  induction n with
  | zero => rfl
  | succ n ih => unfold Gr.cnt; rw [ih]; rfl

theorem Gr.Seeds.none (f t : Nat → Int) : Gr.Seeds f t 0 (fun _ => -1) [] := by
  refine ⟨fun _ _ => .inr rfl, fun i hi => ?_, fun i hi => ?_, fun i hi => ?_, (Gr.cnt_none 384).symm⟩
  · constructor
    · intro h; cases h
    · rintro ⟨_, j, hj, _⟩; omega
  · simp
  · cases hi

theorem Gr.Seeds.pass {f t F : Nat → Int} {k : Nat} {ring : List Nat} (h : Gr.Seeds f t k F ring) (hs : ∀ c : Nat, c < 384 → t k = (c : Int) → Gr.walkB (f c) = true → 0 ≤ F c) : Gr.Seeds f t (k + 1) F ring := by
  refine ⟨h.two, fun i hi => ?_, h.mem, h.rng, h.cnt⟩
  rw [h.zero i hi]
  constructor
  · rintro ⟨hw, j, hj, he⟩
    exact ⟨hw, j, by omega, he⟩
  · rintro ⟨hw, j, hj, he⟩
    by_cases hjk : j = k
    · subst hjk
      have h0 := hs i hi he hw
      have : F i = 0 := by rcases h.two i hi with h | h <;> omega
      exact (h.zero i hi).1 this
    · exact ⟨hw, j, by omega, he⟩

theorem Gr.Seeds.pass_same {f t F : Nat → Int} {k c : Nat} {ring : List Nat} (h : Gr.Seeds f t k F ring) (ht : t k = (c : Int)) (hs : Gr.walkB (f c) = true → 0 ≤ F c) : Gr.Seeds f t (k + 1) F ring := by
  refine h.pass fun c' _ h' hw => ?_
  obtain rfl : c' = c := by omega
  exact hs hw

theorem Gr.Seeds.add {f t F : Nat → Int} {k c : Nat} {ring : List Nat} (h : Gr.Seeds f t k F ring) (hc : c < 384) (ht : t k = (c : Int)) (hw : Gr.walkB (f c) = true) (hneg : F c < 0) : Gr.Seeds f t (k + 1) (Gr.upd F c 0) (ring ++ [c]) := by
  refine ⟨fun i hi => ?_, fun i hi => ?_, fun i hi => ?_, fun i hi => ?_, ?_⟩
  · by_cases e : i = c
    · rw [e, Gr.upd_at]; exact .inl rfl
    · rw [Gr.upd_ne F _ e]; exact h.two i hi
  · by_cases e : i = c
    · subst e
      rw [Gr.upd_at]
      exact ⟨fun _ => ⟨hw, k, by omega, ht⟩, fun _ => rfl⟩
    · rw [Gr.upd_ne F _ e, h.zero i hi]
      constructor
      · rintro ⟨hw, j, hj, he⟩
        exact ⟨hw, j, by omega, he⟩
      · rintro ⟨hw, j, hj, he⟩
        exact ⟨hw, j, by by_cases hjk : j = k; (subst hjk; omega); omega, he⟩
  · by_cases e : i = c
    · rw [e, Gr.upd_at]; simp
    · rw [Gr.upd_ne F _ e, h.mem i hi]; simp [e]
  · rcases List.mem_append.1 hi with hi | hi
    · exact h.rng i hi
    · simp at hi; omega
  · rw [Gr.cnt_upd F c 0 384 hc hneg (by omega), List.length_append, h.cnt]; rfl

/-- A target that counts. -/
def Gr.tgt (f t : Nat → Int) (tlen : Nat) (i : Nat) : Prop := Gr.walkB (f i) = true ∧ ∃ j, j < tlen ∧ t j = (i : Int)

theorem Gr.Seeds.inv {op : Nat → Prop} {f t F : Nat → Int} {k : Nat} {ring : List Nat} (h : Gr.Seeds f t k F ring) : Gr.Inv op (Gr.tgt f t k) F ring 0 0 :=
  Gr.Inv.start h.two h.zero h.mem h.rng h.cnt

theorem Gr.kind_in (f : Nat → Int) (c : Nat) (h : c < 384) : Gr.kind 384 f (c : Int) = f c := by
  unfold Gr.kind
  rw [if_pos (by omega), Int.toNat_natCast]

theorem Gr.kind_out (f : Nat → Int) (z : Int) (h : ¬ (0 ≤ z ∧ z < 384)) : Gr.kind 384 f z = 0 := by
  unfold Gr.kind
  rw [if_neg (by omega)]

end Go.Proofs.Ytgkomdpceilggaa

namespace Go.Proofs.Ytgkomdpceilggaa
open Go.RowKit

/-- A call hands back the field. -/
def IsFieldOf (w : World) (op tg : Nat → Prop) (e : Ending) (w' : World) : Prop := ∃ F, Made w 3 384 (Ints F) e w' ∧ Gr.IsField op tg F

end Go.Proofs.Ytgkomdpceilggaa
