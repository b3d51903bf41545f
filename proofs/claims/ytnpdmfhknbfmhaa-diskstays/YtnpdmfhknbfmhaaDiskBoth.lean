/-
  A disk as numbers, and both disks as it.
-/
import Derived.Test.YtnpdmfhknbfmhaaDiskOwnWrite
namespace Go.Proofs.Ytnpdmfhknbfmhaa
open Go.RowKit Go.Maps

/-- A disk: what each sector has, how many writes were done, how many are left, whether the power is gone. -/
structure Dk.St where
  f : Int → List Int
  done : Nat
  left : Int
  dead : Bool

def Dk.fresh : Dk.St := ⟨fun _ => Dk.noughts, 0, -1, false⟩

/-- The project's, and the document's. -/
def Dk.Mine (x : World) (base p b cnt : Nat) (s : Dk.St) : Prop := Dk.Own x base p b cnt s.f s.done s.left s.dead

/-- B: in which blocks its sectors may lie. -/
def Dk.Refd (x : World) (base p : Nat) (v : Value) (cnt : Nat) (B : Nat → Prop) (s : Dk.St) : Prop := ∃ Vs ps, Dk.Dsk x base p v Vs ps (s.done : Int) (max s.left (-1)) s.dead ∧ ps.length = cnt ∧ (∀ n : Nat, n < cnt → ps[n]? = some (s.f (n : Int))) ∧ ∀ u ∈ Vs, ∀ k, u.ownBlock = some k → B k

/-- What Read tells, what Write tells and leaves. -/
def Dk.rd (cnt : Nat) (s : Dk.St) (n : Int) : Int × List Int :=
  if s.dead = true then (11, []) else if Dk.has cnt n = false then (1, []) else (0, s.f n)

def Dk.wr (cnt : Nat) (s : Dk.St) (n : Int) (l : List Int) : Int × Dk.St :=
  if s.dead = true then (11, s) else if Dk.has cnt n = false ∨ l.length ≠ 64 then (1, s) else if s.left = 0 then (11, ⟨s.f, s.done, 0, true⟩) else (0, ⟨Dk.putF s.f n l, s.done + 1, if 0 < s.left then s.left - 1 else s.left, false⟩)

theorem Dk.wr_done (cnt : Nat) (s : Dk.St) (n : Int) (l : List Int) : s.done ≤ (Dk.wr cnt s n l).2.done ∧ (Dk.wr cnt s n l).2.done ≤ s.done + 1 := by
  unfold Dk.wr
  split
  · simp
  · split
    · simp
    · split <;> simp

theorem Dk.wr_left (cnt : Nat) (s : Dk.St) (n : Int) (l : List Int) (h : s.left ≤ 9223372036854775807) : (Dk.wr cnt s n l).2.left ≤ 9223372036854775807 := by
  unfold Dk.wr
  split
  · exact h
  · split
    · exact h
    · split
      · simp
      · simp only
        split <;> omega

def Dk.ReadsAs (w : World) (r : Int × List Int) (e : Ending) (w' : World) : Prop :=
  ∃ a k c, e = .returned (.tuple #[.slice a k c, .int .i64 r.1]) ∧ Ck.Src w' (.slice a k c) r.2 ∧ w.grownBy w' none

theorem Dk.mine_read (base p b cnt : Nat) (s : Dk.St) (n : Int) (w : World) (H : Dk.Mine w base p b cnt s) :
    Calls Try.prog 9 #[.pointer (some ⟨p, 0, none⟩), .int .i64 n] w (Dk.ReadsAs w (Dk.rd cnt s n)) := by
  obtain ⟨f, done, left, dead⟩ := s
  unfold Dk.rd
  cases dead with
  | true =>
    refine (dkRead_dead base p b cnt f done left n w H).mono ?_
    rintro e w' ⟨rfl, rfl⟩
    exact ⟨none, 0, 0, rfl, .inl ⟨rfl, rfl⟩, World.grownBy.refl _ _⟩
  | false =>
    cases h : Dk.has cnt n with
    | false =>
      refine (dkRead_arg base p b cnt f done left n w H h).mono ?_
      rintro e w' ⟨rfl, rfl⟩
      exact ⟨none, 0, 0, rfl, .inl ⟨rfl, rfl⟩, World.grownBy.refl _ _⟩
    | true =>
      refine (dkRead_ok base p b cnt f done left n w H h).mono ?_
      rintro e w' ⟨q, rfl, h1, _, h2⟩
      exact ⟨_, _, _, rfl, h1, h2⟩

theorem Dk.has_nat {cnt : Nat} {n : Int} (h : Dk.has cnt n = true) : ∃ k : Nat, n = (k : Int) ∧ k < cnt := by
  unfold Dk.has at h
  simp only [decide_eq_true_eq] at h
  exact ⟨n.toNat, by omega, by omega⟩

theorem Dk.has_no {cnt : Nat} {n : Int} (h : Dk.has cnt n = false) : n < 0 ∨ (cnt : Int) ≤ n := by
  unfold Dk.has at h
  simp only [decide_eq_false_iff_not] at h
  omega

theorem Dk.ref_read (base p : Nat) (v : Value) (cnt : Nat) (B : Nat → Prop) (s : Dk.St) (n : Int) (w : World) (H : Dk.Refd w base p v cnt B s) :
    Calls Try.prog 10 #[.pointer (some ⟨p, 0, none⟩), .int .i64 n] w (Dk.ReadsAs w (Dk.rd cnt s n)) := by
  obtain ⟨f, done, left, dead⟩ := s
  obtain ⟨Vs, ps, hD, hl, hf, hV⟩ := H
  unfold Dk.rd
  cases dead with
  | true =>
    refine (refRead_dead base p v Vs ps _ _ n w hD).mono ?_
    rintro e w' ⟨rfl, rfl⟩
    exact ⟨none, 0, 0, rfl, .inl ⟨rfl, rfl⟩, World.grownBy.refl _ _⟩
  | false =>
    cases h : Dk.has cnt n with
    | false =>
      refine (refRead_arg base p v Vs ps _ _ n w hD (by rw [hl]; exact Dk.has_no h)).mono ?_
      rintro e w' ⟨rfl, rfl⟩
      exact ⟨none, 0, 0, rfl, .inl ⟨rfl, rfl⟩, World.grownBy.refl _ _⟩
    | true =>
      obtain ⟨k, rfl, hk⟩ := Dk.has_nat h
      refine (refRead_ok base p v Vs ps _ _ k (f k) w hD (hf k hk)).mono ?_
      rintro e w' ⟨u, rfl, h1, h2, h3⟩
      rcases h1.2 with ⟨q, _⟩ | ⟨g, cap, cur, rfl, _⟩
      · exact absurd q h2
      · exact ⟨_, _, _, rfl, .inr ⟨⟨g, 0, none⟩, cap, rfl, fun j u hj => h1.cells (g := g) rfl j u hj⟩, h3⟩

theorem Dk.mine_write (base p b cnt : Nat) (s : Dk.St) (n : Int) (a : Option Addr) (c : Nat) (l : List Int) (w : World) (H : Dk.Mine w base p b cnt s) (hs : Ck.Src w (.slice a l.length c) l) (hb : ∀ ad, l.length = 64 → a = some ad → ad.block ≠ p) (hl2 : s.left ≤ 9223372036854775807) (hd1 : s.done ≤ 1099511627776) :
    Calls Try.prog 12 #[.pointer (some ⟨p, 0, none⟩), .int .i64 n, .slice a l.length c] w fun e w' => e = .returned (.int .i64 (Dk.wr cnt s n l).1) ∧ Dk.Mine w' base p b cnt (Dk.wr cnt s n l).2 ∧ Turn (fun k => k = p ∨ k = b) w w' := by
  obtain ⟨f, done, left, dead⟩ := s
  unfold Dk.wr
  cases dead with
  | true =>
    refine (dkWrite_dead base p b cnt f done left n _ w H).mono ?_
    rintro e w' ⟨rfl, rfl⟩
    exact ⟨rfl, H, Turn.refl _ _⟩
  | false =>
    by_cases h : Dk.has cnt n = false ∨ l.length ≠ 64
    · rw [if_neg (by simp), if_pos h]
      refine (dkWrite_arg base p b cnt f done left n a l.length c w H h).mono ?_
      rintro e w' ⟨rfl, rfl⟩
      exact ⟨rfl, H, Turn.refl _ _⟩
    · have h1 : Dk.has cnt n = true := by
        cases q : Dk.has cnt n
        · exact absurd (.inl q) h
        · rfl
      have h2 : l.length = 64 := Decidable.byContradiction fun q => h (.inr q)
      rw [if_neg (by simp), if_neg h]
      by_cases h0 : left = 0
      · subst h0
        rw [if_pos rfl, h2]
        refine (dkWrite_cut base p b cnt f done n a c w H h1).mono ?_
        rintro e w' ⟨rfl, h3, h4⟩
        exact ⟨rfl, h3, h4.mono fun k q => .inl q⟩
      · rw [if_neg h0]
        rcases hs with ⟨_, rfl⟩ | ⟨ad, c', e, hc⟩
        · simp at h2
        · simp only [Value.slice.injEq, true_and] at e
          obtain ⟨rfl, rfl⟩ := e
          rw [h2]
          refine (dkWrite_ok base p b cnt f done left n ad c l w H h1 hc (hb ad h2 rfl) h2 h0 hl2 hd1).mono ?_
          rintro e w' ⟨rfl, h3, h4⟩
          exact ⟨rfl, h3, h4⟩

theorem Dk.ref_write (base p : Nat) (v : Value) (cnt : Nat) (B : Nat → Prop) (s : Dk.St) (n : Int) (a : Option Addr) (c : Nat) (l : List Int) (w : World) (H : Dk.Refd w base p v cnt B s) (hs : Ck.Src w (.slice a l.length c) l) (hb : ∀ ad, l.length = 64 → a = some ad → ad.block ≠ p) (hl2 : s.left ≤ 9223372036854775807) (hd1 : s.done ≤ 1099511627776) :
    Calls Try.prog 13 #[.pointer (some ⟨p, 0, none⟩), .int .i64 n, .slice a l.length c] w fun e w' => e = .returned (.int .i64 (Dk.wr cnt s n l).1) ∧ Dk.Refd w' base p v cnt (fun k => B k ∨ w.heap.size ≤ k) (Dk.wr cnt s n l).2 ∧ Turn (fun k => k = p ∨ v.ownBlock = some k) w w' := by
  obtain ⟨f, done, left, dead⟩ := s
  obtain ⟨Vs, ps, hD, hl, hf, hV⟩ := H
  unfold Dk.wr
  cases dead with
  | true =>
    refine (refWrite_dead base p v Vs ps _ _ n _ w hD).mono ?_
    rintro e w' ⟨rfl, rfl⟩
    exact ⟨rfl, ⟨Vs, ps, hD, hl, hf, fun u q k e => .inl (hV u q k e)⟩, Turn.refl _ _⟩
  | false =>
    by_cases h : Dk.has cnt n = false ∨ l.length ≠ 64
    · rw [if_neg (by simp), if_pos h]
      refine (refWrite_arg base p v Vs ps _ _ n a l.length c w hD ?_).mono ?_
      · rcases h with h | h
        · rcases Dk.has_no h with q | q
          · exact .inl q
          · exact .inr (.inl (by rw [hl]; exact q))
        · exact .inr (.inr h)
      rintro e w' ⟨rfl, rfl⟩
      exact ⟨rfl, ⟨Vs, ps, hD, hl, hf, fun u q k e => .inl (hV u q k e)⟩, Turn.refl _ _⟩
    · have h1 : Dk.has cnt n = true := by
        cases q : Dk.has cnt n
        · exact absurd (.inl q) h
        · rfl
      have h2 : l.length = 64 := Decidable.byContradiction fun q => h (.inr q)
      obtain ⟨m, rfl, hm⟩ := Dk.has_nat h1
      rw [if_neg (by simp), if_neg h]
      by_cases h0 : left = 0
      · subst h0
        rw [if_pos rfl, h2]
        have e0 : max (0 : Int) (-1) = 0 := by decide
        simp only [e0] at hD
        refine (refWrite_cut base p v Vs ps _ m a c w hD (by omega)).mono ?_
        rintro e w' ⟨rfl, h3, h4⟩
        exact ⟨rfl, ⟨Vs, ps, by simpa only [e0] using h3, hl, hf, fun u q k e => .inl (hV u q k e)⟩, h4.mono fun k q => .inl q⟩
      · rw [if_neg h0]
        rcases hs with ⟨_, rfl⟩ | ⟨ad, c', e, hc⟩
        · simp at h2
        · simp only [Value.slice.injEq, true_and] at e
          obtain ⟨rfl, rfl⟩ := e
          simp only at hl2 hd1 hD
          refine (refWrite_ok base p v Vs ps _ _ m ad c l w hD (by omega) hc (hb ad h2 rfl) h2 (by omega) (by omega) (by omega) (by omega) (by omega)).mono ?_
          rintro e w' ⟨rfl, g, cap, u, rfl, h3, h4, h5⟩
          refine ⟨rfl, ⟨Vs.set m u, ps.set m l, ?_, by rw [List.length_set]; exact hl, fun k hk => ?_, fun y hy k e => ?_⟩, h4.mono fun k q => q.imp id (fun q => by rw [q]; rfl)⟩
          · have e1 : (if 0 < max left (-1) then max left (-1) - 1 else max left (-1)) = max (if 0 < left then left - 1 else left) (-1) := by
              by_cases q : 0 < left
              · rw [if_pos q, if_pos (by omega)]; omega
              · rw [if_neg q, if_neg (by omega)]
            rw [e1] at h3
            exact h3
          · show (ps.set m l)[k]? = some (Dk.putF f m l k)
            unfold Dk.putF
            by_cases e : k = m
            · subst e
              rw [if_pos rfl, List.getElem?_set_self (by omega)]
            · rw [if_neg (by omega), List.getElem?_set_ne (fun q => e q.symm)]
              exact hf k hk
          · rcases List.mem_or_eq_of_mem_set hy with q | q
            · exact .inl (hV y q k e)
            · rw [q] at e
              exact .inr (h5 k e)

theorem Dk.ref_start (base p : Nat) (v : Value) (cnt : Nat) (B : Nat → Prop) (s : Dk.St) (w : World) (H : Dk.Refd w base p v cnt B s) :
    Calls Try.prog 17 #[.pointer (some ⟨p, 0, none⟩)] w fun e w' => e = .returned (.tuple #[]) ∧ Dk.Refd w' base p v cnt B ⟨s.f, s.done, -1, false⟩ ∧ Turn (fun k => k = p ∨ v.ownBlock = some k) w w' := by
  obtain ⟨Vs, ps, hD, hl, hf, hV⟩ := H
  refine (refStart_any base p v Vs ps _ _ _ w hD).mono ?_
  rintro e w' ⟨rfl, h3, h4⟩
  exact ⟨rfl, ⟨Vs, ps, h3, hl, hf, hV⟩, h4.mono fun k q => .inl q⟩

theorem Dk.ref_cut (base p : Nat) (v : Value) (cnt : Nat) (B : Nat → Prop) (s : Dk.St) (n : Int) (w : World) (H : Dk.Refd w base p v cnt B s) :
    Calls Try.prog 15 #[.pointer (some ⟨p, 0, none⟩), .int .i64 n] w fun e w' => e = .returned (.tuple #[]) ∧ Dk.Refd w' base p v cnt B ⟨s.f, s.done, n, s.dead⟩ ∧ Turn (fun k => k = p ∨ v.ownBlock = some k) w w' := by
  obtain ⟨Vs, ps, hD, hl, hf, hV⟩ := H
  refine (refCut_any base p v Vs ps _ _ _ n w hD).mono ?_
  rintro e w' ⟨rfl, h3, h4⟩
  exact ⟨rfl, ⟨Vs, ps, h3, hl, hf, hV⟩, h4.mono fun k q => .inl q⟩

theorem Dk.mine_start (base p b cnt : Nat) (s : Dk.St) (w : World) (H : Dk.Mine w base p b cnt s) :
    Calls Try.prog 16 #[.pointer (some ⟨p, 0, none⟩)] w fun e w' => e = .returned (.tuple #[]) ∧ Dk.Mine w' base p b cnt ⟨s.f, s.done, -1, false⟩ ∧ Turn (fun k => k = p ∨ k = b) w w' := by
  refine (dkStart_any base p b cnt _ _ _ _ w H).mono ?_
  rintro e w' ⟨rfl, h3, h4⟩
  exact ⟨rfl, h3, h4.mono fun k q => .inl q⟩

theorem Dk.mine_cut (base p b cnt : Nat) (s : Dk.St) (n : Int) (w : World) (H : Dk.Mine w base p b cnt s) :
    Calls Try.prog 14 #[.pointer (some ⟨p, 0, none⟩), .int .i64 n] w fun e w' => e = .returned (.tuple #[]) ∧ Dk.Mine w' base p b cnt ⟨s.f, s.done, n, s.dead⟩ ∧ Turn (fun k => k = p ∨ k = b) w w' := by
  refine (dkCut_any base p b cnt _ _ _ _ n w H).mono ?_
  rintro e w' ⟨rfl, h3, h4⟩
  exact ⟨rfl, h3, h4.mono fun k q => .inl q⟩

theorem Dk.Refd.mono {x : World} {base p : Nat} {v : Value} {cnt : Nat} {B C : Nat → Prop} {s : Dk.St} (H : Dk.Refd x base p v cnt B s) (h : ∀ k, B k → C k) : Dk.Refd x base p v cnt C s := by
  obtain ⟨Vs, ps, hD, hl, hf, hV⟩ := H
  exact ⟨Vs, ps, hD, hl, hf, fun u q k e => h k (hV u q k e)⟩

theorem Dk.Dsk.each {x : World} {base p : Nat} {v : Value} {Vs : List Value} {ps : List (List Int)} {done left : Int} {dead : Bool} (H : Dk.Dsk x base p v Vs ps done left dead) : ∀ u ∈ Vs, ∃ l, x.ownsRow base 5 1 u l.length (Ck.bys l) := by
  intro u hu
  obtain ⟨i, hi, rfl⟩ := List.mem_iff_getElem.1 hu
  exact ⟨_, (H.rows.each i _ (ps[i]'(by rw [← H.len]; exact hi)) (List.getElem?_eq_getElem hi) (List.getElem?_eq_getElem (by rw [← H.len]; exact hi))).1⟩

theorem Dk.Refd.low {x : World} {base p : Nat} {v : Value} {cnt : Nat} {B : Nat → Prop} {s : Dk.St} (H : Dk.Refd x base p v cnt B s) : Dk.Refd x base p v cnt (fun k => k < x.heap.size) s := by
  obtain ⟨Vs, ps, hD, hl, hf, hV⟩ := H
  refine ⟨Vs, ps, hD, hl, hf, fun u q k e => ?_⟩
  obtain ⟨l, h⟩ := hD.each u q
  exact (h.lt k e).2

theorem Dk.Refd.turn {x y : World} {C : Nat → Prop} {base p : Nat} {v : Value} {cnt : Nat} {B : Nat → Prop} {s : Dk.St} (H : Dk.Refd x base p v cnt B s) (ht : Turn C x y) (hp : ¬ C p) (hv : ∀ k, v.ownBlock = some k → ¬ C k) (hB : ∀ k, B k → ¬ C k) : Dk.Refd y base p v cnt B s := by
  obtain ⟨Vs, ps, hD, hl, hf, hV⟩ := H
  refine ⟨Vs, ps, { hD with box := hD.box.turn ht hp, rows := ⟨owns_turned hD.rows.own ht (fun k e => hv k e), fun k w l h1 h2 => ⟨owns_turned (hD.rows.each k w l h1 h2).1 ht (fun j e => hB j (hV w (List.mem_of_getElem? h1) j e)), (hD.rows.each k w l h1 h2).2⟩⟩ }, hl, hf, hV⟩

theorem Dk.Refd.on {x y : World} {base p : Nat} {v : Value} {cnt : Nat} {B : Nat → Prop} {s : Dk.St} (H : Dk.Refd x base p v cnt B s) (hg : x.grownBy y none) : Dk.Refd y base p v cnt B s :=
  H.turn (C := fun _ => False) (Turn.new hg) (fun q => q) (fun _ _ q => q) (fun _ _ q => q)

theorem Dk.Mine.turn {x y : World} {B : Nat → Prop} {base p b cnt : Nat} {s : Dk.St} (H : Dk.Mine x base p b cnt s) (ht : Turn B x y) (hp : ¬ B p) (hb : ¬ B b) : Dk.Mine y base p b cnt s := Dk.Own.turn H ht hp hb

theorem Dk.Mine.on {x y : World} {base p b cnt : Nat} {s : Dk.St} (H : Dk.Mine x base p b cnt s) (hg : x.grownBy y none) : Dk.Mine y base p b cnt s := Dk.Own.on H hg

end Go.Proofs.Ytnpdmfhknbfmhaa
