/-
  GridFree Dice GenSmall GenStep
-/
import Derived.Test.YtbanjoflgoiegaaGreatPart03
import Derived.Test.YtbanjoflgoiegaaGreatPart04
import Derived.Test.YtbanjoflgoiegaaGreatPart01
import Derived.Handy
import Derived.Deep.RegionHeld3
namespace Go.Proofs.YtbanjoflgoiegaaGreat
open Go.RowKit

def Gr.openB (f : Nat → Int) (blen : Nat) (g : Nat → Bool) (i : Nat) : Bool := Gr.walkB (f i) && !(decide (i < blen) && g i)

theorem Gr.open_no {f : Nat → Int} {blen : Nat} {g : Nat → Bool} {i : Nat} (h : Gr.walkB (f i) = false) : Gr.openB f blen g i = false := by simp [Gr.openB, h]
theorem Gr.open_past {f : Nat → Int} {blen : Nat} {g : Nat → Bool} {i : Nat} (h : Gr.walkB (f i) = true) (hi : ¬ i < blen) : Gr.openB f blen g i = true := by simp [Gr.openB, h, hi]
theorem Gr.open_in {f : Nat → Int} {blen : Nat} {g : Nat → Bool} {i : Nat} (h : Gr.walkB (f i) = true) (hi : i < blen) : Gr.openB f blen g i = !(g i) := by simp [Gr.openB, h, hi]

theorem Gr.at_in {f : Nat → Int} {x y : Int} {k : Nat} (h : Gr.inB x y = true) (hk : y * 24 + x = (k : Int)) : Gr.at 384 f x y = f k := by
  have := (Gr.inB_iff x y).1 h
  unfold Gr.at
  rw [if_pos ⟨h, by omega⟩, hk, Int.toNat_natCast]

theorem Gr.at_out {len : Nat} {f : Nat → Int} {x y : Int} (h : Gr.inB x y = false) : Gr.at len f x y = 0 := by
  unfold Gr.at
  rw [if_neg]
  rintro ⟨h', _⟩
  rw [h] at h'
  cases h'

set_option maxRecDepth 8000 in
set_option maxHeartbeats 800000 in
theorem isFree_out (B : Nat) (a b : Option Addr) (blen c1 c2 : Nat) (f : Nat → Int) (x y : Int) (w : World) (h : Vec B w a 384 (Byts f)) (hf : ∀ i, 0 ≤ f i ∧ f i ≤ 255) (hin : Gr.inB x y = false) :
    Calls Tryz.prog 177 #[.slice a 384 c1, .slice b blen c2, .int .i64 x, .int .i64 y] w fun e w' => e = .returned (.bool false) ∧ w' = w := by
  have c : ∀ w' : World, w' = w → Calls Tryz.prog 116 #[.slice a 384 c1, .int .i64 x, .int .i64 y] w' fun e w1 => e = .returned (.int .i64 0) ∧ w1 = w' := by
    rintro w' rfl
    have := at_any B a 384 c1 f x y w' h hf
    rwa [Gr.at_out hin] at this
  have cw : ∀ w' : World, Calls Tryz.prog 115 #[.int .i64 0] w' fun e w1 => e = .returned (.bool false) ∧ w1 = w' := fun w' => walk_any 0 w'
  clear h hf
  go_enter Tryz.func177, Tryz.ntmps177
  go_wp2_with (first | (go_at_call 116; refine (c _ rfl).mono ?_; rintro e w' ⟨rfl, hw⟩; subst w') | (go_at_call 115; refine (cw _).mono ?_; rintro e w' ⟨rfl, hw⟩; subst w'))
  go_ret
  exact ⟨rfl, rfl⟩

set_option maxRecDepth 8000 in
set_option maxHeartbeats 800000 in
theorem isFree_in (B : Nat) (a b : Option Addr) (blen c1 c2 : Nat) (f : Nat → Int) (g : Nat → Bool) (x y : Int) (k : Nat) (w : World) (h : Vec B w a 384 (Byts f)) (hf : ∀ i, 0 ≤ f i ∧ f i ≤ 255) (hb : Vec B w b blen (Bols g)) (hin : Gr.inB x y = true) (hk : y * 24 + x = (k : Int)) :
    Calls Tryz.prog 177 #[.slice a 384 c1, .slice b blen c2, .int .i64 x, .int .i64 y] w fun e w' => e = .returned (.bool (Gr.openB f blen g k)) ∧ w' = w := by
  have hm : blen ≤ 9223372036854775807 := hb.1
  obtain ⟨b1, b2, b3, b4⟩ := (Gr.inB_iff x y).1 hin
  have c : ∀ w' : World, w' = w → Calls Tryz.prog 116 #[.slice a 384 c1, .int .i64 x, .int .i64 y] w' fun e w1 => e = .returned (.int .i64 (f k)) ∧ w1 = w' := by
    rintro w' rfl
    have := at_any B a 384 c1 f x y w' h hf
    rwa [Gr.at_in hin hk] at this
  clear h hf
  by_cases hwk : Gr.walkB (f k) = true
  · by_cases hl : k < blen
    · have hd := hide (Gr.open_in (g := g) hwk hl)
      obtain ⟨bb, off, rfl, _, hc⟩ := hb.at hl
      have hc' : w.cell? ⟨bb, off + k, none⟩ = some (.bool (g k)) := hc
      have hl' : (k : Int) < (blen : Int) := by omega
      clear hc hb
      go_enter Tryz.func177, Tryz.ntmps177
      go_wp2_with (first | (go_at_call 116; refine (c _ rfl).mono ?_; rintro e w' ⟨rfl, hw⟩; subst w') | (go_at_call 115; refine (walk_any _ _).mono ?_; rintro e w' ⟨rfl, hw⟩; subst w') | (go_at_call 153; refine (number_any _ _ _ (by omega) (by omega) (by omega) (by omega)).mono ?_; rintro e w' ⟨rfl, hw⟩; subst w'))
      go_ret
      exact ⟨ret_bool (by rw [unhide hd, decide_eq_false (show ¬ blen ≤ k by omega)]; rfl), rfl⟩
    · have hd := hide (Gr.open_past (g := g) hwk hl)
      have hl' : (blen : Int) ≤ (k : Int) := by omega
      clear hb
      go_enter Tryz.func177, Tryz.ntmps177
      go_wp2_with (first | (go_at_call 116; refine (c _ rfl).mono ?_; rintro e w' ⟨rfl, hw⟩; subst w') | (go_at_call 115; refine (walk_any _ _).mono ?_; rintro e w' ⟨rfl, hw⟩; subst w') | (go_at_call 153; refine (number_any _ _ _ (by omega) (by omega) (by omega) (by omega)).mono ?_; rintro e w' ⟨rfl, hw⟩; subst w'))
      go_ret
      exact ⟨ret_bool (unhide hd).symm, rfl⟩
  · have hwk' : Gr.walkB (f k) = false := by simpa using hwk
    have hd := hide (Gr.open_no (blen := blen) (g := g) hwk')
    clear hwk hb
    go_enter Tryz.func177, Tryz.ntmps177
    go_wp2_with (first | (go_at_call 116; refine (c _ rfl).mono ?_; rintro e w' ⟨rfl, hw⟩; subst w') | (go_at_call 115; refine (walk_any _ _).mono ?_; rintro e w' ⟨rfl, hw⟩; subst w'))
    go_ret
    exact ⟨ret_bool (unhide hd).symm, rfl⟩

theorem grown_trans {a b c : World} {r : Option Nat} (h : a.grownBy b r) (k : b.grownBy c r) : a.grownBy c r :=
  ⟨k.os.trans h.os, k.tape.trans h.tape, k.output.trans h.output, Nat.le_trans h.size k.size, fun i hi hr => (k.block i (Nat.lt_of_lt_of_le hi h.size) hr).trans (h.block i hi hr)⟩

theorem grown_own {a b c : World} {r s : Option Nat} (h : a.grownBy b r) (k : b.grownBy c s) (hs : ∀ n, s = some n → a.heap.size ≤ n) : a.grownBy c r :=
  ⟨k.os.trans h.os, k.tape.trans h.tape, k.output.trans h.output, Nat.le_trans h.size k.size, fun i hi hr => (k.block i (Nat.lt_of_lt_of_le hi h.size) (fun e => by have := hs i e.symm; omega)).trans (h.block i hi hr)⟩

theorem grown_set {a b : World} {g : Nat} (h : a.grownBy b (some g)) (i : Nat) (u : Value) : a.grownBy (b.setCell ⟨g, i, none⟩ u) (some g) :=
  grown_trans h ⟨rfl, rfl, rfl, by simp, fun k _ hk => heap_setCell_other b ⟨g, i, none⟩ k u (fun e => hk (by rw [e]))⟩

theorem grown_alloc {a b : World} {r : Option Nat} (h : a.grownBy b r) (o : Obj) : a.grownBy (b.alloc o) r := grown_trans h (World.grownBy_alloc b o r)

theorem grown_drew {a b : World} {r : Option Nat} (h : a.grownBy b r) (n : Nat) : a.grownBy (b.drewN n) r := by
  have k := below_drewN (Below.refl b.heap.size b) n
  exact grown_trans h ⟨k.os, k.tape, k.output, k.size, fun i hi _ => k.block i hi⟩

theorem grown_below {a b : World} {g : Nat} (h : a.grownBy b (some g)) (hg : g ≤ a.heap.size) : Below g a b :=
  ⟨h.os, h.tape, h.output, h.size, fun i hi => h.block i (by omega) (fun e => by cases e; omega)⟩

def Vex (G : Nat) (w : World) (a : Option Addr) (len : Nat) (F : Nat → Value) : Prop :=
  len ≤ maxLen ∧ (len = 0 ∨ ∃ b off, a = some ⟨b, off, none⟩ ∧ b < w.heap.size ∧ b ≠ G ∧ ∀ i, i < len → w.cell? ⟨b, off + i, none⟩ = some (F i))

theorem Vex.at {G : Nat} {w wr : World} {a : Option Addr} {len : Nat} {F : Nat → Value} (h : Vex G w a len F) (hg : w.grownBy wr (some G)) {k : Nat} (hk : k < len) :
    ∃ b off, a = some ⟨b, off, none⟩ ∧ wr.cell? ⟨b, off + k, none⟩ = some (F k) := by
  obtain ⟨_, h0 | ⟨b, off, ha, hlt, hne, hc⟩⟩ := h
  · omega
  · exact ⟨b, off, ha, (World.cell?_of_block (a := ⟨b, off + k, none⟩) (hg.block b hlt (fun e => hne (by cases e; rfl)))).trans (hc k hk)⟩

theorem one_at (w : World) (x : Value) (t : TypeId) (B : Nat) (hB : B = w.heap.size) : ∀ j u, [x][j]? = some u → (w.alloc (.cells #[x] t)).cell? ((⟨B, 0, none⟩ : Addr).add j) = some u := by
  subst hB
  exact cell_one_new w x t

def natInts (l : List Nat) : List Int := l.map Int.ofNat

theorem natInts_more (l : List Nat) (b : Nat) : (natInts l).map (Value.int .i64) ++ [.int .i64 (b : Int)] = (natInts (l ++ [b])).map (Value.int .i64) := by
  simp [natInts]

theorem natInts_len (l : List Nat) : (natInts l).length = l.length := by simp [natInts]

theorem natInts_at (l : List Nat) (i : Nat) : (natInts l)[i]?.getD 0 = ((l[i]?.getD 0 : Nat) : Int) := by
  unfold natInts
  rw [List.getElem?_map]
  cases l[i]? <;> rfl

theorem own_vex {w : World} {base G : Nat} {v : Value} {l : List Nat} (h : w.ownsRow base 3 1 v l.length ((natInts l).map (Value.int .i64))) (hG : G < base) (hm : l.length ≤ maxLen) :
    ∃ a cap, v = .slice a l.length cap ∧ Vex G w a l.length (Ints fun i => ((l[i]?.getD 0 : Nat) : Int)) := by
  rcases h.2 with ⟨rfl, h0⟩ | ⟨g, cap, cur, rfl, hb, hg, _, _, _, _⟩
  · exact ⟨none, 0, by rw [h0], hm, .inl h0⟩
  · refine ⟨_, cap, rfl, hm, .inr ⟨g, 0, rfl, lt_of_block hg, by omega, fun i hi => ?_⟩⟩
    rw [Nat.zero_add, h.cellAt i (by omega), List.getElem?_map]
    show _ = some (Value.int .i64 ((l[i]?.getD 0 : Nat) : Int))
    rw [← natInts_at, List.getElem?_eq_getElem (by rw [natInts_len]; exact hi)]
    rfl

theorem Arr.grown {w w' : World} {g : Nat} {T : TypeId} {n : Nat} {F : Nat → Value} {r : Option Nat} (h : Arr w g T n F) (hg : w.grownBy w' r) (hr : r ≠ some g) : Arr w' g T n F := by
  have hlt := h.lt
  obtain ⟨cur, h1, hs, hc⟩ := h
  exact ⟨cur, (hg.block g hlt (fun e => hr e.symm)).trans h1, hs, hc⟩

theorem Arr.alloc {w : World} {g : Nat} {T : TypeId} {n : Nat} {F : Nat → Value} (h : Arr w g T n F) (o : Obj) : Arr (w.alloc o) g T n F := h.grown (World.grownBy_alloc w o none) (by simp)

theorem Arr.upd {w : World} {g n i : Nat} {T : TypeId} {F : Nat → Int} (h : Arr w g T n (Ints F)) (v : Int) : Arr (w.setCell ⟨g, i, none⟩ (.int .i64 v)) g T n (Ints (Gr.upd F i v)) := by
  refine (h.store i _).congr fun j _ => ?_
  show (if j = i then Value.int .i64 v else .int .i64 (F j)) = .int .i64 (if j = i then v else F j)
  split <;> rfl

end Go.Proofs.YtbanjoflgoiegaaGreat

namespace Go.Proofs.YtbanjoflgoiegaaGreat
open Go.RowKit

def Dc.fold (x c : Int) : Int := bits BinOp.xor IntKind.u64 x (x / c)

def Dc.m (x : Int) : Int :=
  Dc.fold (IntKind.u64.wrap (Dc.fold (IntKind.u64.wrap (Dc.fold x 1073741824 * 13787848793156543929)) 134217728 * 10723151780598845931)) 2147483648

theorem Dc.m_bd (x : Int) : 0 ≤ Dc.m x ∧ Dc.m x < 18446744073709551616 := by
  have h := wf_bits BinOp.xor IntKind.u64 (IntKind.u64.wrap (Dc.fold (IntKind.u64.wrap (Dc.fold x 1073741824 * 13787848793156543929)) 134217728 * 10723151780598845931)) (IntKind.u64.wrap (Dc.fold (IntKind.u64.wrap (Dc.fold x 1073741824 * 13787848793156543929)) 134217728 * 10723151780598845931) / 2147483648)
  simp only [Lit.wf, Bool.and_eq_true, decide_eq_true_eq, show IntKind.u64.min = 0 from by decide, show IntKind.u64.max = 18446744073709551615 from by decide] at h
  obtain ⟨h1, h2⟩ := h
  exact ⟨h1, Int.lt_of_le_of_lt h2 (by decide)⟩

theorem stir_any (x : Int) (w : World) :
    Calls Tryz.prog 187 #[.int .u64 x] w fun e w' => e = .returned (.int .u64 (Dc.m x)) ∧ w' = w := by
  go_enter Tryz.func187, Tryz.ntmps187
  go_wp2
  go_ret
  exact ⟨rfl, rfl⟩

theorem m_any (x : Int) (w : World) :
    Calls Tryz.prog 159 #[.int .u64 x] w fun e w' => e = .returned (.int .u64 (Dc.m x)) ∧ w' = w := by
  go_enter Tryz.func159, Tryz.ntmps159
  go_wp2
  go_ret
  exact ⟨rfl, rfl⟩

def Dc.step (x v : Int) : Int := Dc.m (IntKind.u64.wrap (bits BinOp.xor IntKind.u64 x (IntKind.u64.wrap v) + 11400714819323198485))

def Dc.mix (seed : Int) (zs : List Int) : Int := zs.foldl Dc.step (Dc.m (IntKind.u64.wrap (IntKind.u64.wrap seed + 11400714819323198485)))

theorem Dc.mix_bd (seed : Int) (zs : List Int) : 0 ≤ Dc.mix seed zs ∧ Dc.mix seed zs < 18446744073709551616 := by
  unfold Dc.mix
  generalize hx : Dc.m (IntKind.u64.wrap (IntKind.u64.wrap seed + 11400714819323198485)) = x
  have h : 0 ≤ x ∧ x < 18446744073709551616 := by rw [← hx]; exact Dc.m_bd _
  clear hx
  induction zs generalizing x with
  | nil => exact h
  | cons z zs ih => exact ih _ (Dc.m_bd _)

theorem Dc.mix_more (seed : Int) (zs : List Int) (k : Nat) (h : k < zs.length) : Dc.m (IntKind.u64.wrap (bits BinOp.xor IntKind.u64 (Dc.mix seed (zs.take k)) (IntKind.u64.wrap (zs[k]?.getD 0)) + 11400714819323198485)) = Dc.mix seed (zs.take (k + 1)) := by
  show Dc.step (Dc.mix seed (zs.take k)) (zs[k]?.getD 0) = _
  have e : zs.take (k + 1) = zs.take k ++ [zs[k]?.getD 0] := by
    rw [List.take_add_one, List.getElem?_eq_getElem h]; rfl
  rw [e]
  simp only [Dc.mix, List.foldl_append, List.foldl_cons, List.foldl_nil]

def Row (w : World) (a : Option Addr) (len : Nat) (zs : List Int) : Prop :=
  zs.length = len ∧ len ≤ maxLen ∧ (len = 0 ∨ ∃ b off, a = some ⟨b, off, none⟩ ∧ ∀ i, i < len → w.cell? ⟨b, off + i, none⟩ = some (.int .i64 (zs[i]?.getD 0)))

theorem mix_none (seed : Int) (a : Option Addr) (cap : Nat) (w : World) :
    Calls Tryz.prog 174 #[.int .i64 seed, .slice a 0 cap] w fun e w' => e = .returned (.int .u64 (Dc.mix seed [])) ∧ w' = w := by
  go_enter Tryz.func174, Tryz.ntmps174
  go_wp2_with fail
  refine (stir_any _ _).mono ?_
  rintro e w1 ⟨rfl, rfl⟩
  go_wp2_with fail
  refine wp_loop_rounds 1 ?_
  rw [rounds_succ]
  go_wp2
  go_ret
  exact ⟨rfl, rfl⟩

theorem mix_some (seed : Int) (b off : Nat) (len cap : Nat) (zs : List Int) (w : World) (hz : zs.length = len) (hm : len ≤ 9223372036854775807)
    (hc : ∀ i, i < len → w.cell? ⟨b, off + i, none⟩ = some (.int .i64 (zs[i]?.getD 0))) :
    Calls Tryz.prog 174 #[.int .i64 seed, .slice (some ⟨b, off, none⟩) len cap] w fun e w' => e = .returned (.int .u64 (Dc.mix seed zs)) ∧ w' = w := by
  go_enter Tryz.func174, Tryz.ntmps174
  go_wp2_with fail
  refine (stir_any _ _).mono ?_
  rintro e w1 ⟨rfl, rfl⟩
  go_wp2_with fail
  go_loop [5, 14] (fun x i => ∃ k : Nat, k ≤ len ∧ i = .int .i64 k ∧ x = .int .u64 (Dc.mix seed (zs.take k))) (fun _ i => len - (intOf i).toNat)
  case atStart => exact ⟨0, Nat.zero_le _, rfl, rfl⟩
  case round =>
    obtain ⟨k, hk, rfl, rfl⟩ := hrel
    have hcell : k < len → w1.cell? ⟨b, off + k, none⟩ = some (.int .i64 (zs[k]?.getD 0)) := fun h => hc k h
    go_wp2_with fail
    · refine (stir_any _ _).mono ?_
      rintro e w2 ⟨rfl, rfl⟩
      have hlt : k < len := by assumption
      have hstep := hide (Dc.mix_more seed zs k (by omega))
      go_wp2
      go_round
      case rel =>
        refine ⟨k + 1, by omega, by go_num, ?_⟩
        rw [← unhide hstep, List.getElem?_eq_getElem (by omega)]
        rfl
      case measure => simp [intOf]; omega
    · obtain rfl : k = len := by omega
      go_ret
      rw [List.take_of_length_le (by omega)]
      exact ⟨rfl, rfl⟩

theorem refMix_none (seed : Int) (a : Option Addr) (cap : Nat) (w : World) :
    Calls Tryz.prog 126 #[.int .i64 seed, .slice a 0 cap] w fun e w' => e = .returned (.int .u64 (Dc.mix seed [])) ∧ w' = w := by
  go_enter Tryz.func126, Tryz.ntmps126
  go_wp2_with fail
  refine (m_any _ _).mono ?_
  rintro e w1 ⟨rfl, rfl⟩
  go_wp2_with fail
  refine wp_loop_rounds 1 ?_
  rw [rounds_succ]
  go_wp2
  go_ret
  exact ⟨rfl, rfl⟩

theorem refMix_some (seed : Int) (b off : Nat) (len cap : Nat) (zs : List Int) (w : World) (hz : zs.length = len) (hm : len ≤ 9223372036854775807)
    (hc : ∀ i, i < len → w.cell? ⟨b, off + i, none⟩ = some (.int .i64 (zs[i]?.getD 0))) :
    Calls Tryz.prog 126 #[.int .i64 seed, .slice (some ⟨b, off, none⟩) len cap] w fun e w' => e = .returned (.int .u64 (Dc.mix seed zs)) ∧ w' = w := by
  go_enter Tryz.func126, Tryz.ntmps126
  go_wp2_with fail
  refine (m_any _ _).mono ?_
  rintro e w1 ⟨rfl, rfl⟩
  go_wp2_with fail
  go_loop [5, 6] (fun x i => ∃ k : Nat, k ≤ len ∧ i = .int .i64 k ∧ x = .int .u64 (Dc.mix seed (zs.take k))) (fun _ i => len - (intOf i).toNat)
  case atStart => exact ⟨0, Nat.zero_le _, rfl, rfl⟩
  case round =>
    obtain ⟨k, hk, rfl, rfl⟩ := hrel
    have hcell : k < len → w1.cell? ⟨b, off + k, none⟩ = some (.int .i64 (zs[k]?.getD 0)) := fun h => hc k h
    go_wp2_with fail
    · refine (m_any _ _).mono ?_
      rintro e w2 ⟨rfl, rfl⟩
      have hlt : k < len := by assumption
      have hstep := hide (Dc.mix_more seed zs k (by omega))
      go_wp2
      go_round
      case rel =>
        refine ⟨k + 1, by omega, by go_num, ?_⟩
        rw [← unhide hstep, List.getElem?_eq_getElem (by omega)]
        rfl
      case measure => simp [intOf]; omega
    · obtain rfl : k = len := by omega
      go_ret
      rw [List.take_of_length_le (by omega)]
      exact ⟨rfl, rfl⟩

theorem mix_row (seed : Int) (a : Option Addr) (len cap : Nat) (zs : List Int) (w : World) (h : Row w a len zs) :
    Calls Tryz.prog 174 #[.int .i64 seed, .slice a len cap] w fun e w' => e = .returned (.int .u64 (Dc.mix seed zs)) ∧ w' = w := by
  obtain ⟨hz, hm, rfl | ⟨b, off, rfl, hc⟩⟩ := h
  · obtain rfl := List.eq_nil_of_length_eq_zero hz
    exact mix_none _ _ _ _
  · exact mix_some _ _ _ _ _ _ _ hz hm hc

theorem refMix_row (seed : Int) (a : Option Addr) (len cap : Nat) (zs : List Int) (w : World) (h : Row w a len zs) :
    Calls Tryz.prog 126 #[.int .i64 seed, .slice a len cap] w fun e w' => e = .returned (.int .u64 (Dc.mix seed zs)) ∧ w' = w := by
  obtain ⟨hz, hm, rfl | ⟨b, off, rfl, hc⟩⟩ := h
  · obtain rfl := List.eq_nil_of_length_eq_zero hz
    exact refMix_none _ _ _ _
  · exact refMix_some _ _ _ _ _ _ _ hz hm hc

def Dc.die (n seed : Int) (zs : List Int) : Int := if n < 1 then 0 else Dc.mix seed zs % n

theorem Dc.die_bd (n seed : Int) (zs : List Int) (h : 1 ≤ n) : 0 ≤ Dc.die n seed zs ∧ Dc.die n seed zs < n := by
  unfold Dc.die
  rw [if_neg (by omega)]
  exact ⟨Int.emod_nonneg _ (by omega), Int.emod_lt_of_pos _ (by omega)⟩

theorem Dc.die_low (n seed : Int) (zs : List Int) (h : n < 1) : Dc.die n seed zs = 0 := if_pos h

set_option maxHeartbeats 400000 in
theorem die_row (n seed : Int) (a : Option Addr) (len cap : Nat) (zs : List Int) (w : World) (h : Row w a len zs) (hn : n ≤ 9223372036854775807) :
    Calls Tryz.prog 160 #[.int .i64 n, .int .i64 seed, .slice a len cap] w fun e w' => e = .returned (.int .i64 (Dc.die n seed zs)) ∧ w' = w := by
  by_cases hl : n < 1
  · have hd := hide (Dc.die_low n seed zs hl)
    clear h
    go_enter Tryz.func160, Tryz.ntmps160
    go_wp2
    go_ret
    rw [unhide hd]
    exact ⟨rfl, rfl⟩
  · have hd := hide (show Dc.die n seed zs = Dc.mix seed zs % n from if_neg hl)
    have hb := Dc.mix_bd seed zs
    have h1 := Int.emod_nonneg (Dc.mix seed zs) (show n ≠ 0 by omega)
    have h2 := Int.emod_lt_of_pos (Dc.mix seed zs) (show 0 < n by omega)
    have hr := hide h
    clear h
    obtain ⟨hb1, hb2⟩ := hb
    go_enter Tryz.func160, Tryz.ntmps160
    go_wp2_with fail
    refine (mix_row _ _ _ _ _ _ (unhide hr)).mono ?_
    rintro e w1 ⟨rfl, rfl⟩
    go_wp2
    go_ret
    rw [unhide hd]
    exact ⟨rfl, rfl⟩

set_option maxHeartbeats 400000 in
theorem refDie_row (n seed : Int) (a : Option Addr) (len cap : Nat) (zs : List Int) (w : World) (h : Row w a len zs) (hn : n ≤ 9223372036854775807) :
    Calls Tryz.prog 92 #[.int .i64 n, .int .i64 seed, .slice a len cap] w fun e w' => e = .returned (.int .i64 (Dc.die n seed zs)) ∧ w' = w := by
  by_cases hl : n < 1
  · have hd := hide (Dc.die_low n seed zs hl)
    clear h
    go_enter Tryz.func92, Tryz.ntmps92
    go_wp2
    go_ret
    rw [unhide hd]
    exact ⟨rfl, rfl⟩
  · have hd := hide (show Dc.die n seed zs = Dc.mix seed zs % n from if_neg hl)
    have hb := Dc.mix_bd seed zs
    have h1 := Int.emod_nonneg (Dc.mix seed zs) (show n ≠ 0 by omega)
    have h2 := Int.emod_lt_of_pos (Dc.mix seed zs) (show 0 < n by omega)
    have hr := hide h
    clear h
    obtain ⟨hb1, hb2⟩ := hb
    go_enter Tryz.func92, Tryz.ntmps92
    go_wp2_with fail
    refine (refMix_row _ _ _ _ _ _ (unhide hr)).mono ?_
    rintro e w1 ⟨rfl, rfl⟩
    go_wp2
    go_ret
    rw [unhide hd]
    exact ⟨rfl, rfl⟩

theorem Row.kept {w w' : World} {a : Option Addr} {len : Nat} {zs : List Int} (h : Row w a len zs) (hb : Below w.heap.size w w') : Row w' a len zs := by
  obtain ⟨hz, hm, h0 | ⟨b, off, ha, hc⟩⟩ := h
  · exact ⟨hz, hm, .inl h0⟩
  · exact ⟨hz, hm, .inr ⟨b, off, ha, fun i hi => cell_later hb (hc i hi)⟩⟩

theorem Row.taken {w : World} {a : Option Addr} {len : Nat} {zs : List Int} (h : Row w a len zs) (k : Nat) (hk : k ≤ len) : Row w a k (zs.take k) := by
  obtain ⟨hz, hm, h0 | ⟨b, off, ha, hc⟩⟩ := h
  · exact ⟨by simp; omega, Nat.le_trans hk hm, .inl (by omega)⟩
  · exact ⟨by simp; omega, Nat.le_trans hk hm, .inr ⟨b, off, ha, fun i hi => by rw [hc i (by omega), List.getElem?_take, if_pos hi]⟩⟩

theorem Row.one (w : World) (v : Int) (T : TypeId) : Row (w.alloc (.cells #[.int .i64 v] T)) (some ⟨w.heap.size, 0, none⟩) 1 [v] := by
  refine ⟨rfl, by decide, .inr ⟨_, _, rfl, fun i hi => ?_⟩⟩
  obtain rfl : i = 0 := by omega
  simp

end Go.Proofs.YtbanjoflgoiegaaGreat

namespace Go.Proofs.YtbanjoflgoiegaaGreat
open Go.RowKit

def Gn.D (s f a b n : Int) : Int := Dc.die n s [f, a, b]

theorem Gn.D_bd (s f a b n : Int) (h : 1 ≤ n) : 0 ≤ Gn.D s f a b n ∧ Gn.D s f a b n < n := Dc.die_bd n s [f, a, b] h

def Says (w : World) (v : Value) (e : Ending) (w' : World) : Prop := e = .returned v ∧ w.grownBy w' none

theorem Row.three (w : World) (x y z : Int) (T : TypeId) : Row (w.alloc (.cells #[.int .i64 x, .int .i64 y, .int .i64 z] T)) (some ⟨w.heap.size, 0, none⟩) 3 [x, y, z] := by
  refine ⟨rfl, by decide, .inr ⟨_, _, rfl, fun i hi => ?_⟩⟩
  rcases (show i = 0 ∨ i = 1 ∨ i = 2 by omega) with rfl | rfl | rfl <;> simp

theorem grown_store {a b : World} (h : a.grownBy b none) (p : Addr) (hp : a.heap.size ≤ p.block) (u : Value) : a.grownBy (b.setCell p u) none :=
  ⟨h.os, h.tape, h.output, by simpa using h.size, fun k hk hr => (heap_setCell_other b p k u (by omega)).trans (h.block k hk hr)⟩

theorem num_any (x y : Int) (w : World) (h1 : -1000 ≤ x) (h2 : x ≤ 1000) (h3 : -1000 ≤ y) (h4 : y ≤ 1000) :
    Calls Tryz.prog 129 #[.agg #[.int .i64 x, .int .i64 y]] w (Says w (.int .i64 (y * 24 + x))) := by
  go_enter Tryz.func129, Tryz.ntmps129
  go_wp2
  go_ret
  exact ⟨rfl, World.grownBy_alloc _ _ _⟩

theorem placeOf_any (c : Int) (w : World) (h1 : 0 ≤ c) (h2 : c ≤ 1000) :
    Calls Tryz.prog 138 #[.int .i64 c] w (Says w (.agg #[.int .i64 (c % 24), .int .i64 (c / 24)])) := by
  go_enter Tryz.func138, Tryz.ntmps138
  go_wp2
  go_returns
  exact ⟨rfl, World.grownBy_alloc _ _ _⟩

theorem die3_any (s f a b n : Int) (w : World) (hn : n ≤ 9223372036854775807) :
    Calls Tryz.prog 128 #[.agg #[.int .i64 s, .int .i64 f], .int .i64 a, .int .i64 b, .int .i64 n] w (Says w (.int .i64 (Gn.D s f a b n))) := by
  have c : ∀ (w' : World) (B : Nat), B = w'.heap.size → Calls Tryz.prog 160 #[.int .i64 n, .int .i64 s, .slice (some ⟨B, 0, none⟩) 3 3] (w'.alloc (.cells #[.int .i64 f, .int .i64 a, .int .i64 b] 3)) fun e w1 => e = .returned (.int .i64 (Gn.D s f a b n)) ∧ w1 = w'.alloc (.cells #[.int .i64 f, .int .i64 a, .int .i64 b] 3) := by
    rintro w' B rfl
    exact die_row n s _ 3 3 [f, a, b] _ (Row.three w' f a b 3) hn
  go_enter Tryz.func128, Tryz.ntmps128
  go_wp2_with fail
  refine (c _ _ (by simp)).mono ?_
  rintro e w1 ⟨rfl, rfl⟩
  go_wp2
  go_ret
  exact ⟨rfl, grown_trans (World.grownBy_alloc _ _ _) (World.grownBy_alloc _ _ _)⟩

theorem refD_any (s f a b n : Int) (w : World) (hn : n ≤ 9223372036854775807) :
    Calls Tryz.prog 59 #[.int .i64 s, .int .i64 f, .int .i64 a, .int .i64 b, .int .i64 n] w (Says w (.int .i64 (Gn.D s f a b n))) := by
  have c : ∀ (w' : World) (B : Nat), B = w'.heap.size → Calls Tryz.prog 92 #[.int .i64 n, .int .i64 s, .slice (some ⟨B, 0, none⟩) 3 3] (w'.alloc (.cells #[.int .i64 f, .int .i64 a, .int .i64 b] 3)) fun e w1 => e = .returned (.int .i64 (Gn.D s f a b n)) ∧ w1 = w'.alloc (.cells #[.int .i64 f, .int .i64 a, .int .i64 b] 3) := by
    rintro w' B rfl
    exact refDie_row n s _ 3 3 [f, a, b] _ (Row.three w' f a b 3) hn
  go_enter Tryz.func59, Tryz.ntmps59
  go_wp2_with fail
  refine (c _ _ (by simp)).mono ?_
  rintro e w1 ⟨rfl, rfl⟩
  go_wp2
  go_ret
  exact ⟨rfl, World.grownBy_alloc _ _ _⟩

def Gn.to1 (a b : Int) : Int := if a < b then a + 1 else if b < a then a - 1 else a

theorem nan_any (x : Int) (w : World) : Calls Tryz.prog 188 #[.int .i64 x] w fun e w' => e = .returned (.bool false) ∧ w' = w := by
  go_enter Tryz.func188, Tryz.ntmps188
  go_wp2
  go_ret
  exact ⟨rfl, rfl⟩

def Gn.cmp (x y : Int) : Int := if x < y then -1 else if y < x then 1 else 0

theorem cmp_any (x y : Int) (w : World) : Calls Tryz.prog 175 #[.int .i64 x, .int .i64 y] w fun e w' => e = .returned (.int .i64 (Gn.cmp x y)) ∧ w' = w := by
  by_cases h1 : x < y
  · have hd := hide (show Gn.cmp x y = -1 from if_pos h1)
    go_enter Tryz.func175, Tryz.ntmps175
    go_wp2_with (go_at_call 188; refine (nan_any _ _).mono ?_; rintro e w' ⟨rfl, rfl⟩)
    go_ret
    exact ⟨ret_int (unhide hd).symm, rfl⟩
  · by_cases h2 : y < x
    · have hd := hide (show Gn.cmp x y = 1 by unfold Gn.cmp; rw [if_neg h1, if_pos h2])
      go_enter Tryz.func175, Tryz.ntmps175
      go_wp2_with (go_at_call 188; refine (nan_any _ _).mono ?_; rintro e w' ⟨rfl, rfl⟩)
      go_ret
      exact ⟨ret_int (unhide hd).symm, rfl⟩
    · have hd := hide (show Gn.cmp x y = 0 by unfold Gn.cmp; rw [if_neg h1, if_neg h2])
      go_enter Tryz.func175, Tryz.ntmps175
      go_wp2_with (go_at_call 188; refine (nan_any _ _).mono ?_; rintro e w' ⟨rfl, rfl⟩)
      go_ret
      exact ⟨ret_int (unhide hd).symm, rfl⟩

def Gn.hp (k : Int) : Int := if k = 2 then 4 else if k = 3 then 9 else 6
def Gn.atk (k : Int) : Int := if k = 2 then 2 else if k = 3 then 4 else 3
def Gn.df (k : Int) : Int := if k = 3 then 1 else 0
def Gn.ent (k x y : Int) : Array Value := #[.int .i64 k, .int .i64 0, .int .i64 0, .int .i64 x, .int .i64 y, .int .i64 (Gn.hp k), .int .i64 (Gn.hp k), .int .i64 (Gn.atk k), .int .i64 (Gn.df k), .int .i64 0, .int .i64 0]

theorem stats_any (k : Int) (w : World) (h1 : 2 ≤ k) (h2 : k ≤ 4) : Calls Tryz.prog 137 #[.int .i64 k] w (Says w (.agg (Gn.ent k 0 0))) := by
  rcases (show k = 2 ∨ k = 3 ∨ k = 4 by omega) with rfl | rfl | rfl
  all_goals
    go_enter Tryz.func137, Tryz.ntmps137
    go_wp2
    go_returns
    exact ⟨rfl, World.grownBy_alloc _ _ _⟩

end Go.Proofs.YtbanjoflgoiegaaGreat

namespace Go.Proofs.YtbanjoflgoiegaaGreat
open Go.RowKit

def Gn.way (x y tx ty : Int) (first : Bool) : Bool := (y == ty) || (first && x != tx)
def Gn.stepX (x y tx ty : Int) (first : Bool) : Int := if Gn.way x y tx ty first then Gn.to1 x tx else x
def Gn.stepY (x y tx ty : Int) (first : Bool) : Int := if Gn.way x y tx ty first then y else Gn.to1 y ty

theorem Gn.cmp_add (a b : Int) : a + Gn.cmp b a = Gn.to1 a b := by
  unfold Gn.cmp Gn.to1
  split
  · split <;> omega
  · split <;> omega

theorem Gn.cmp_bd (a b : Int) : -1 ≤ Gn.cmp a b ∧ Gn.cmp a b ≤ 1 := by
  unfold Gn.cmp
  split
  · omega
  · split <;> omega

theorem grown_drew1 {a b : World} {r : Option Nat} (h : a.grownBy b r) : a.grownBy b.drew r := ⟨h.os, h.tape, h.output, h.size, h.block⟩

theorem grown_three (w : World) (o1 o2 o3 : Obj) : w.grownBy (((w.alloc o1).alloc o2).alloc o3).drew none := grown_drew1 (grown_alloc (grown_alloc (World.grownBy_alloc _ _ _) _) _)

set_option maxHeartbeats 2000000 in
theorem nearer_any (x y tx ty : Int) (first : Bool) (w : World) (h1 : -1000 ≤ x) (h2 : x ≤ 1000) (h3 : -1000 ≤ y) (h4 : y ≤ 1000) :
    Calls Tryz.prog 161 #[.agg #[.int .i64 x, .int .i64 y], .agg #[.int .i64 tx, .int .i64 ty], .bool first] w
      (Says w (.agg #[.int .i64 (Gn.stepX x y tx ty first), .int .i64 (Gn.stepY x y tx ty first)])) := by
  obtain ⟨b1, b2⟩ := Gn.cmp_bd tx x
  obtain ⟨b3, b4⟩ := Gn.cmp_bd ty y
  by_cases hw : Gn.way x y tx ty first = true
  · have e1 : Gn.stepX x y tx ty first = x + Gn.cmp tx x := by unfold Gn.stepX; rw [if_pos hw, Gn.cmp_add]
    have e2 : Gn.stepY x y tx ty first = y := by unfold Gn.stepY; rw [if_pos hw]
    rw [e1, e2]
    unfold Gn.way at hw
    clear e1 e2
    by_cases hy : (y == ty) = true
    · clear hw
      go_enter Tryz.func161, Tryz.ntmps161
      go_wp2
      go_region_with (go_at_call 175; refine (cmp_any _ _ _).mono ?_; rintro e w' ⟨rfl, rfl⟩)
      all_goals go_wp2
      all_goals go_returns
      all_goals exact ⟨rfl, grown_three _ _ _ _⟩
    · have hy' : (y == ty) = false := by simpa using hy
      rw [hy', Bool.false_or, Bool.and_eq_true] at hw
      obtain ⟨rfl, hx⟩ := hw
      clear hy
      go_enter Tryz.func161, Tryz.ntmps161
      go_wp2
      go_region_with (go_at_call 175; refine (cmp_any _ _ _).mono ?_; rintro e w' ⟨rfl, rfl⟩)
      all_goals go_wp2
      all_goals go_returns
      all_goals exact ⟨rfl, grown_three _ _ _ _⟩
  · have e1 : Gn.stepX x y tx ty first = x := by unfold Gn.stepX; rw [if_neg hw]
    have e2 : Gn.stepY x y tx ty first = y + Gn.cmp ty y := by unfold Gn.stepY; rw [if_neg hw, Gn.cmp_add]
    rw [e1, e2]
    have hw' : Gn.way x y tx ty first = false := by simpa using hw
    unfold Gn.way at hw'
    rw [Bool.or_eq_false_iff] at hw'
    obtain ⟨hy, hf⟩ := hw'
    clear e1 e2 hw
    cases first with
    | false =>
      clear hf
      go_enter Tryz.func161, Tryz.ntmps161
      go_wp2
      go_region_with (go_at_call 175; refine (cmp_any _ _ _).mono ?_; rintro e w' ⟨rfl, rfl⟩)
      all_goals go_wp2
      all_goals go_returns
      all_goals exact ⟨rfl, grown_three _ _ _ _⟩
    | true =>
      rw [Bool.true_and] at hf
      go_enter Tryz.func161, Tryz.ntmps161
      go_wp2
      go_region_with (go_at_call 175; refine (cmp_any _ _ _).mono ?_; rintro e w' ⟨rfl, rfl⟩)
      all_goals go_wp2
      all_goals go_returns
      all_goals exact ⟨rfl, grown_three _ _ _ _⟩

end Go.Proofs.YtbanjoflgoiegaaGreat
