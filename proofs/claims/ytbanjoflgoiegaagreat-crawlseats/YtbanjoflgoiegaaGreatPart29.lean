/-
  GoodsTwin GoodsHero GenKnown NavMake GoodsWorld GoodsLay GenStr GenNear
-/
import Derived.Test.YtbanjoflgoiegaaGreatPart26
import Derived.Test.YtbanjoflgoiegaaGreatPart21
import Derived.Test.YtbanjoflgoiegaaGreatPart28
import Derived.Test.YtbanjoflgoiegaaGreatPart18
import Derived.Laws.BytesArg
namespace Go.Proofs.YtbanjoflgoiegaaGreat
open Go.RowKit

structure Gd.Part (w x : World) (B gC gE gI cC cE cI : Nat) (s g : Nat → Int) : Prop where
  box : Lie x B 30 11 (Gd.box s gC gE gI cC cE cI g)
  res : Lie x (B + 1) 30 11 (fun j => #[.int .i64 0, .int .i64 0, .int .i64 0, .int .i64 0, .slice none 0 0, .slice none 0 0, .slice none 0 0, .int .i64 0, .int .i64 0, .int .i64 0, Value.int .i64 0][j]?.getD undef)
  at_ : w.heap.size = B
  two : B + 2 ≤ x.heap.size
  grown : w.grownBy x none

theorem Gd.Part.on {w x y : World} {B gC gE gI cC cE cI : Nat} {s g : Nat → Int} (h : Gd.Part w x B gC gE gI cC cE cI s g) (hg : x.grownBy y none) : Gd.Part w y B gC gE gI cC cE cI s g :=
  ⟨h.box.on hg, h.res.on hg, h.at_, Nat.le_trans h.two hg.size, grown_trans h.grown hg⟩

theorem Gd.Part.set {w x : World} {B gC gE gI cC cE cI : Nat} {s g : Nat → Int} (h : Gd.Part w x B gC gE gI cC cE cI s g) (i : Nat) (v : Value) (gC' gE' gI' cC' cE' cI' : Nat) (he : ∀ j, j < 11 → (if j = i then v else Gd.box s gC gE gI cC cE cI g j) = Gd.box s gC' gE' gI' cC' cE' cI' g j) : Gd.Part w (x.setCell ⟨B, i, none⟩ v) B gC' gE' gI' cC' cE' cI' s g := by
  have hB := h.at_
  have r := grown_set0 x B i v
  exact ⟨(h.box.store i v).congr he, h.res.grown r (by simp), h.at_, by simpa using h.two, grown_store h.grown ⟨B, i, none⟩ (by show w.heap.size ≤ B; omega) v⟩

theorem Gd.box_4 (s g : Nat → Int) (gC gE gI cC cE cI g1 c1 : Nat) : ∀ j, j < 11 → (if j = 4 then Value.slice (some ⟨g1, 0, none⟩) 384 c1 else Gd.box s gC gE gI cC cE cI g j) = Gd.box s g1 gE gI c1 cE cI g j := by
  intro j hj
  rcases (show j = 0 ∨ j = 1 ∨ j = 2 ∨ j = 3 ∨ j = 4 ∨ j = 5 ∨ j = 6 ∨ j = 7 ∨ j = 8 ∨ j = 9 ∨ j = 10 by omega) with rfl | rfl | rfl | rfl | rfl | rfl | rfl | rfl | rfl | rfl | rfl <;> rfl

theorem Gd.box_5 (s g : Nat → Int) (gC gE gI cC cE cI g1 c1 : Nat) : ∀ j, j < 11 → (if j = 5 then Value.slice (some ⟨g1, 0, none⟩) 32 c1 else Gd.box s gC gE gI cC cE cI g j) = Gd.box s gC g1 gI cC c1 cI g j := by
  intro j hj
  rcases (show j = 0 ∨ j = 1 ∨ j = 2 ∨ j = 3 ∨ j = 4 ∨ j = 5 ∨ j = 6 ∨ j = 7 ∨ j = 8 ∨ j = 9 ∨ j = 10 by omega) with rfl | rfl | rfl | rfl | rfl | rfl | rfl | rfl | rfl | rfl | rfl <;> rfl

theorem Gd.box_6 (s g : Nat → Int) (gC gE gI cC cE cI g1 c1 : Nat) : ∀ j, j < 11 → (if j = 6 then Value.slice (some ⟨g1, 0, none⟩) 40 c1 else Gd.box s gC gE gI cC cE cI g j) = Gd.box s gC gE g1 cC cE c1 g j := by
  intro j hj
  rcases (show j = 0 ∨ j = 1 ∨ j = 2 ∨ j = 3 ∨ j = 4 ∨ j = 5 ∨ j = 6 ∨ j = 7 ∨ j = 8 ∨ j = 9 ∨ j = 10 by omega) with rfl | rfl | rfl | rfl | rfl | rfl | rfl | rfl | rfl | rfl | rfl <;> rfl

end Go.Proofs.YtbanjoflgoiegaaGreat

namespace Go.Proofs.YtbanjoflgoiegaaGreat
open Go.RowKit

set_option maxHeartbeats 800000 in
theorem refHero_any (b n c : Nat) (E : Nat → Nat → Int) (seat : Int) (w : World) (hE : Ents w b n E) :
    Calls Tryz.prog 22 #[.slice (some ⟨b, 0, none⟩) n c, .int .i64 seat] w (Says w (.int .i64 (En.first (En.heroQ E seat) n))) := by
  have hn := hE.1
  have hE' := hide hE
  skip
  clear hE
  go_enter Tryz.func22, Tryz.ntmps22
  go_wp2_with fail
  go_loop [5] (fun i => ∃ k : Nat, k ≤ n ∧ i = .int .i64 (k : Int) ∧ ∀ j, j < k → En.heroQ E seat j = false) (fun i => 40 - (intOf i).toNat)
  case atStart => exact ⟨0, by omega, rfl, fun j hj => by omega⟩
  case round =>
    obtain ⟨k, hk, rfl, hno⟩ := hrel
    have hno' := hide hno
    clear hno
    by_cases hlt : k < n
    · obtain ⟨u0, _, u2, _⟩ := (unhide hE').row hlt
      have hlt' : (k : Int) < (n : Int) := by omega
      have HL := hide hlt
      skip
      clear hlt
      by_cases hf : E k 0 = 1
      · by_cases h3 : E k 2 = seat
        · have hq : Hid (En.heroQ E seat k = true) := by show En.heroQ E seat k = true; simp [En.heroQ, hf, h3]
          have he := hide (En.first_hit (unhide hno') (unhide hq) (unhide HL))
          go_wp2
          go_ret
          exact ⟨ret_int (unhide he).symm, World.grownBy.refl _ _⟩
        · have hq : Hid (En.heroQ E seat k = false) := by show En.heroQ E seat k = false; simp [En.heroQ, h3]
          have h3' : (E k 2 == seat) = false := by simp [h3]
          go_wp2
          go_round
          case rel => exact ⟨k + 1, by have := unhide HL; omega, by go_num, fun j hj => by
            by_cases e : j = k
            · rw [e]; exact unhide hq
            · exact unhide hno' j (by omega)⟩
          case measure => simp [intOf]; omega
      · have hq : Hid (En.heroQ E seat k = false) := by show En.heroQ E seat k = false; simp [En.heroQ, hf]
        have hf' : (E k 0 == 1) = false := by simp [hf]
        go_wp2
        go_round
        case rel => exact ⟨k + 1, by have := unhide HL; omega, by go_num, fun j hj => by
          by_cases e : j = k
          · rw [e]; exact unhide hq
          · exact unhide hno' j (by omega)⟩
        case measure => simp [intOf]; omega
    · have hge : ¬ (k : Int) < (n : Int) := by omega
      have he := hide (En.first_none (n := n) (fun j hj => unhide hno' j (by omega)))
      go_wp2
      go_ret
      exact ⟨ret_int (unhide he).symm, World.grownBy.refl _ _⟩

theorem refHero7_any (g c : Nat) (E : Nat → Nat → Int) (seat : Int) (w : World) (h : Own w g 32 E) :
    Calls Tryz.prog 22 #[.slice (some ⟨g, 0, none⟩) 32 c, .int .i64 seat] w (Says w (.int .i64 (Gd.hero E seat))) := refHero_any g 32 c E seat w h.ents

end Go.Proofs.YtbanjoflgoiegaaGreat

namespace Go.Proofs.YtbanjoflgoiegaaGreat
open Go.RowKit

theorem dice_of (s f : Int) : ∃ d : Gn.Dice, (∀ a b n, Gn.D s f a b n = d a b n) ∧ Gn.Fair d := ⟨fun a b n => Gn.D s f a b n, fun _ _ _ => rfl, fun a b n h => Gn.D_bd s f a b n h⟩

end Go.Proofs.YtbanjoflgoiegaaGreat

namespace Go.Proofs.YtbanjoflgoiegaaGreat
open Go.RowKit

structure Nv.Floor (c : Nat → Int) : Prop where
  five : ∀ i, 0 ≤ c i ∧ c i ≤ 5
  some : ∃ i, i < 384 ∧ c i ≠ 0
  hang : ∀ P, Gn.Closed c P → ∀ k, k < 384 → c k ≠ 0 → P k → ∀ i, i < 384 → c i ≠ 0 → P i
  stairs : ∃ u v, u < 384 ∧ v < 384 ∧ (∀ i, c i = 3 ↔ i = u) ∧ (∀ i, c i = 4 ↔ i = v)

theorem Nv.to_up {d : Gn.Dice} (hd : Gn.Fair d) {c F : Nat → Int} {far : Nat} (h : Gn.Facts d c F far) {P : Nat → Prop} (hC : Gn.Closed c P) : ∀ (n k : Nat), k < 384 → c k ≠ 0 → P k → F k = (n : Int) → P (Gn.up d) := by
  intro n
  induction n with
  | zero =>
    intro k hk _ hP e
    rw [← (h.fld.zero k hk).1 e]
    exact hP
  | succ n ih =>
    intro k hk hck hP e
    obtain ⟨_, j, dd, hj, hdd, hn, rfl, he⟩ := h.fld.back k hk (by omega)
    obtain ⟨b1, b2⟩ := Gr.nb_back hj hdd hn
    have hcj : c j ≠ 0 := (h.reach hd j hj).1 (by omega)
    refine ih j hj hcj ?_ (by omega)
    have := hC (Gr.nbOf j dd) (Gr.opp dd) hk (Gr.opp_lt hdd) hP b1 (by rw [b2]; exact hcj)
    rwa [b2] at this

theorem Nv.floor_of {d : Gn.Dice} (hd : Gn.Fair d) {c F : Nat → Int} (h : Gn.IsLevel d c F) : Nv.Floor c := by
  obtain ⟨far, hf⟩ := h.facts hd
  refine ⟨hf.five, ⟨far, hf.farl, by have := (hf.is4 far).2 rfl; omega⟩, fun P hC k hk hck hP i hi hci => ?_, ⟨Gn.up d, far, hf.upl, hf.farl, hf.is3, hf.is4⟩⟩
  have h0 := (hf.reach hd k hk).2 hck
  have hup := Nv.to_up hd hf hC (F k).toNat k hk hck hP (by omega)
  exact Gn.hangs hd (fun j _ => hf.nz j) hC hup i hi hci

end Go.Proofs.YtbanjoflgoiegaaGreat

namespace Go.Proofs.YtbanjoflgoiegaaGreat
open Go.RowKit

theorem madeCells_item (n c : Nat) (hc : c < n * 4) : (madeCells (Value.agg #[.int .i64 0, .int .i64 0, .int .i64 0, .int .i64 0]).cells (n * 4))[c]? = some (.int .i64 0) := by
  have hm : c % 4 < 4 := by omega
  obtain ⟨m, hmm⟩ : ∃ m, m = c % 4 := ⟨_, rfl⟩
  unfold madeCells
  simp [hc, Value.cells]
  rw [← hmm] at hm ⊢
  rcases (show m = 0 ∨ m = 1 ∨ m = 2 ∨ m = 3 by omega) with rfl | rfl | rfl | rfl <;> rfl

theorem make40 : ∃ Z : Array Value, (∀ w : World, (Instr.makeSlice 27 (.int .i64 40) (.int .i64 40)).run Tryz.prog w = .ok (.slice (some ⟨w.heap.size, 0, none⟩) 40 40) (w.alloc (.cells Z 62))) ∧
    ∀ w : World, Lie (w.alloc (.cells Z 62)) w.heap.size 62 160 (Gd.flat (fun _ _ => 0)) := by
  obtain ⟨i0, hi, hz0, hz1, hz2⟩ := info_parts info_item
  refine ⟨madeCells (Value.agg #[.int .i64 0, .int .i64 0, .int .i64 0, .int .i64 0]).cells (40 * 4), fun w => ?_, fun w => ?_⟩
  · have hr := run_make (P := Tryz.prog) w 27 62 i0 _ Tryz.underlying27 hi hz0 .i64 .i64 (40 : Nat) (40 : Nat) (by omega) (by omega) (by rw [hz2]; decide) (by decide)
    rw [hz1] at hr
    exact hr
  · refine ⟨_, _, Arr.lit (heap_alloc_new w _), by rw [size_madeCells]; omega, fun c hc => ?_⟩
    show (madeCells _ _)[c]?.getD undef = _
    rw [madeCells_item 40 c hc]
    rfl

theorem Lie.type_ne {x : World} {B G : Nat} {T U : TypeId} {m n : Nat} {F K : Nat → Value} (h1 : Lie x B T m F) (h2 : Lie x G U n K) (h : T ≠ U) : B ≠ G := by
  rintro rfl
  obtain ⟨_, _, ⟨c1, e1, _⟩, _⟩ := h1
  obtain ⟨_, _, ⟨c2, e2, _⟩, _⟩ := h2
  rw [e1] at e2
  simp only [Option.some.injEq, Obj.cells.injEq] at e2
  exact h e2.2.1

end Go.Proofs.YtbanjoflgoiegaaGreat

namespace Go.Proofs.YtbanjoflgoiegaaGreat
open Go.RowKit

def Gd.goneQ (J : Nat → Nat → Int) : Nat → Bool := fun i => Gd.zeroB (J i 0) (J i 1) (J i 2) (J i 3)

def Gd.lay (I M : Nat → Nat → Int) : Nat → Nat → Nat → Int
  | 0 => I
  | m + 1 => if 0 ≤ En.first (Gd.goneQ (Gd.lay I M m)) 40 then En.put (Gd.lay I M m) (En.first (Gd.goneQ (Gd.lay I M m)) 40).toNat (Gd.row (M m 0) (M m 1) (M m 2) (M m 3)) else Gd.lay I M m

theorem Gd.lay_none {I M : Nat → Nat → Int} {m : Nat} (h : ∀ j, j < 40 → Gd.goneQ (Gd.lay I M m) j = false) : Gd.lay I M (m + 1) = Gd.lay I M m := by
  show (if _ then _ else _) = _
  rw [En.first_none h, if_neg (by omega)]

theorem Gd.lay_some {I M : Nat → Nat → Int} {m r : Nat} (hno : ∀ j, j < r → Gd.goneQ (Gd.lay I M m) j = false) (hr : Gd.goneQ (Gd.lay I M m) r = true) (h40 : r < 40) : Gd.lay I M (m + 1) = En.put (Gd.lay I M m) r (Gd.row (M m 0) (M m 1) (M m 2) (M m 3)) := by
  show (if _ then _ else _) = _
  rw [En.first_hit hno hr h40, if_pos (by omega), Int.toNat_natCast]

theorem Gd.lay_stuck {I M : Nat → Nat → Int} {m : Nat} (h : ∀ j, j < 40 → Gd.goneQ (Gd.lay I M m) j = false) : ∀ d, Gd.lay I M (m + d) = Gd.lay I M m
  | 0 => rfl
  | d + 1 => by
      have ih := Gd.lay_stuck h d
      have h' : ∀ j, j < 40 → Gd.goneQ (Gd.lay I M (m + d)) j = false := by rw [ih]; exact h
      rw [← Nat.add_assoc, Gd.lay_none h', ih]

def Gd.Some (w : World) (a : Option Addr) (n : Nat) (M : Nat → Nat → Int) : Prop := n ≤ 100 ∧ (n = 0 ∨ ∃ b o, a = some ⟨b, o, none⟩ ∧ Its w b o n M)

theorem Gd.Some.on {w w' : World} {a : Option Addr} {n : Nat} {M : Nat → Nat → Int} (h : Gd.Some w a n M) (hg : w.grownBy w' none) : Gd.Some w' a n M := by
  obtain ⟨h1, h0 | ⟨b, o, h2, h3⟩⟩ := h
  · exact ⟨h1, .inl h0⟩
  · exact ⟨h1, .inr ⟨b, o, h2, h3.on hg⟩⟩

theorem Gd.Some.row {w : World} {a : Option Addr} {n : Nat} {M : Nat → Nat → Int} (h : Gd.Some w a n M) {k : Nat} (hk : k < n) : ∃ b o, a = some ⟨b, o, none⟩ ∧ b < w.heap.size ∧ w.cell? ⟨b, o + k * 4, none⟩ = some (.int .i64 (M k 0)) ∧ w.cell? ⟨b, o + k * 4 + 1, none⟩ = some (.int .i64 (M k 1)) ∧ w.cell? ⟨b, o + k * 4 + 2, none⟩ = some (.int .i64 (M k 2)) ∧ w.cell? ⟨b, o + k * 4 + 3, none⟩ = some (.int .i64 (M k 3)) := by
  obtain ⟨_, h0 | ⟨b, o, h2, h3⟩⟩ := h
  · omega
  · exact ⟨b, o, h2, h3.2.1, h3.2.2 k 0 hk (by omega), h3.2.2 k 1 hk (by omega), h3.2.2 k 2 hk (by omega), h3.2.2 k 3 hk (by omega)⟩

def Gd.Gives40 (w : World) (J : Nat → Nat → Int) (e : Ending) (w' : World) : Prop :=
  ∃ g cap, e = .returned (.slice (some ⟨g, 0, none⟩) 40 cap) ∧ w.heap.size ≤ g ∧ Lie w' g 62 160 (Gd.flat J) ∧ w.grownBy w' none

end Go.Proofs.YtbanjoflgoiegaaGreat

namespace Go.Proofs.YtbanjoflgoiegaaGreat
open Go.RowKit

theorem Arr.three {w : World} {g : Nat} {T : TypeId} {F : Nat → Value} (h : Arr w g T 3 F) : w.cell? ⟨g, 0, none⟩ = some (F 0) ∧ w.cell? ⟨g, 1, none⟩ = some (F 1) ∧ w.cell? ⟨g, 2, none⟩ = some (F 2) := ⟨h.cell (by omega), h.cell (by omega), h.cell (by omega)⟩

end Go.Proofs.YtbanjoflgoiegaaGreat

namespace Go.Proofs.YtbanjoflgoiegaaGreat
open Go.RowKit

namespace Gn

def nzs (c : Nat → Int) : Nat → Nat
  | 0 => 0
  | n + 1 => nzs c n + if c n = 0 then 0 else 1

theorem nzs_mono (c : Nat → Int) {m n : Nat} (h : m ≤ n) : nzs c m ≤ nzs c n := by
  induction n with
  | zero => obtain rfl : m = 0 := by omega
            exact Nat.le_refl _
  | succ n ih =>
    by_cases e : m = n + 1
    · rw [e]; exact Nat.le_refl _
    · have := ih (by omega)
      rw [nzs]
      omega

theorem nzs_three (c : Nat → Int) (a : Nat) (h0 : c a ≠ 0) (h1 : c (a + 1) ≠ 0) (h2 : c (a + 2) ≠ 0) : nzs c (a + 3) = nzs c a + 3 := by
  rw [show a + 3 = a + 2 + 1 by omega, nzs, show a + 2 = a + 1 + 1 by omega, nzs, nzs, if_neg h0, if_neg h1, if_neg h2]

theorem Facts.six {d : Dice} (hd : Fair d) {c F : Nat → Int} {far : Nat} (h : Facts d c F far) : 6 ≤ nzs c 384 := by
  have hb := room_bd hd 0
  obtain ⟨a, ha⟩ : ∃ a : Nat, ry d 0 * 24 + rx d 0 = (a : Int) := ⟨(ry d 0 * 24 + rx d 0).toNat, by omega⟩
  have hin : ∀ x y : Int, 0 ≤ x → x < 3 → 0 ≤ y → y < 2 → c ((ry d 0 + y) * 24 + (rx d 0 + x)).toNat ≠ 0 := by
    intro x y h1 h2 h3 h4
    exact (h.nz _).2 ((dug_nz d 5 _).2 (.inl ⟨0, by omega, inRoom_at hd (by omega) (by omega) (by omega) (by omega)⟩))
  have e : ∀ x y : Int, ∀ n : Nat, (a : Int) + y * 24 + x = (n : Int) → ((ry d 0 + y) * 24 + (rx d 0 + x)).toNat = n := by
    intro x y n hn
    omega
  have h00 := hin 0 0 (by omega) (by omega) (by omega) (by omega)
  have h10 := hin 1 0 (by omega) (by omega) (by omega) (by omega)
  have h20 := hin 2 0 (by omega) (by omega) (by omega) (by omega)
  have h01 := hin 0 1 (by omega) (by omega) (by omega) (by omega)
  have h11 := hin 1 1 (by omega) (by omega) (by omega) (by omega)
  have h21 := hin 2 1 (by omega) (by omega) (by omega) (by omega)
  rw [e 0 0 a (by omega)] at h00
  rw [e 1 0 (a + 1) (by omega)] at h10
  rw [e 2 0 (a + 2) (by omega)] at h20
  rw [e 0 1 (a + 24) (by omega)] at h01
  rw [e 1 1 (a + 24 + 1) (by omega)] at h11
  rw [e 2 1 (a + 24 + 2) (by omega)] at h21
  have n1 := nzs_three c a h00 h10 h20
  have n2 := nzs_three c (a + 24) h01 h11 h21
  have m1 := nzs_mono c (show a + 3 ≤ a + 24 by omega)
  have m2 := nzs_mono c (show a + 24 + 3 ≤ 384 by omega)
  omega

def off : Nat → Int | 0 => -24 | 1 => 1 | 2 => 24 | _ => -1

theorem off_nb {i e n : Nat} (he : e < 4) (h : Gr.nbIn i e) (hn : Gr.nbOf i e = n) : (i : Int) + off e = (n : Int) := by
  have := Gr.nb_eq h
  rw [hn] at this
  match e, he with
  | 0, _ => simp only [off, Gr.dxOf, Gr.dyOf] at *; omega
  | 1, _ => simp only [off, Gr.dxOf, Gr.dyOf] at *; omega
  | 2, _ => simp only [off, Gr.dxOf, Gr.dyOf] at *; omega
  | 3, _ => simp only [off, Gr.dxOf, Gr.dyOf] at *; omega

theorem Facts.beside {d : Dice} (hd : Fair d) {c F : Nat → Int} {far : Nat} (h : Facts d c F far) (i : Nat) (hi : i < 384) (hc : c i ≠ 0) : ∃ e n : Nat, e < 4 ∧ (i : Int) + off e = (n : Int) ∧ c n ≠ 0 := by
  have h0 := (h.reach hd i hi).2 hc
  by_cases hz : F i = 0
  · have hu := (h.fld.zero i hi).1 hz
    obtain ⟨b1, _, b3, _⟩ := beside_up hd
    refine ⟨3, up d - 1, by omega, ?_, (h.nz _).2 b1⟩
    rw [hu]
    simp only [off]
    omega
  · obtain ⟨_, j, e, hj, he, hin, hnb, hv⟩ := h.fld.back i hi (by omega)
    obtain ⟨k1, k2⟩ := Gr.nb_back hj he hin
    rw [hnb] at k1 k2
    exact ⟨Gr.opp e, j, Gr.opp_lt he, off_nb (Gr.opp_lt he) k1 k2, (h.reach hd j hj).1 (by omega)⟩

end Gn

structure LevHold (w : World) (B G nE nI cE cI : Nat) (aE aI : Option Addr) (c : Nat → Int) (wr : World) : Prop where
  box : Arr wr B 80 3 (fun j => #[Value.slice (some ⟨G, 0, none⟩) 384 384, .slice aE nE cE, .slice aI nI cI][j]?.getD undef)
  cells : Arr wr G 5 384 (Byts c)
  grown : w.grownBy wr none

theorem LevHold.on {w : World} {B G nE nI cE cI : Nat} {aE aI : Option Addr} {c : Nat → Int} {wr wx : World} (h : LevHold w B G nE nI cE cI aE aI c wr) (hg : wr.grownBy wx none) : LevHold w B G nE nI cE cI aE aI c wx :=
  ⟨h.box.grown hg (by simp), h.cells.grown hg (by simp), grown_none h.grown hg⟩

theorem LevHold.c0 {w : World} {B G nE nI cE cI : Nat} {aE aI : Option Addr} {c : Nat → Int} {wr : World} (h : LevHold w B G nE nI cE cI aE aI c wr) : wr.cell? ⟨B, 0, none⟩ = some (.slice (some ⟨G, 0, none⟩) 384 384) := h.box.cell (by omega)
theorem LevHold.c1 {w : World} {B G nE nI cE cI : Nat} {aE aI : Option Addr} {c : Nat → Int} {wr : World} (h : LevHold w B G nE nI cE cI aE aI c wr) : wr.cell? ⟨B, 1, none⟩ = some (.slice aE nE cE) := h.box.cell (by omega)
theorem LevHold.c2 {w : World} {B G nE nI cE cI : Nat} {aE aI : Option Addr} {c : Nat → Int} {wr : World} (h : LevHold w B G nE nI cE cI aE aI c wr) : wr.cell? ⟨B, 2, none⟩ = some (.slice aI nI cI) := h.box.cell (by omega)

end Go.Proofs.YtbanjoflgoiegaaGreat
