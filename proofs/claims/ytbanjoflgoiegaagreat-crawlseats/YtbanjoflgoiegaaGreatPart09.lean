/-
  GridField GenStairs
-/
import Derived.Test.YtbanjoflgoiegaaGreatPart08
import Derived.Test.YtbanjoflgoiegaaGreatPart07
import Derived.Test.YtbanjoflgoiegaaGreatPart06
namespace Go.Proofs.YtbanjoflgoiegaaGreat
open Go.RowKit

def IsFieldOf (w : World) (op tg : Nat → Prop) (e : Ending) (w' : World) : Prop := ∃ F, Made w 3 384 (Ints F) e w' ∧ Gr.IsField op tg F

set_option maxRecDepth 8000 in
set_option maxHeartbeats 4000000 in
theorem field_any (ca ba ta : Option Addr) (blen tlen cc bc tc : Nat) (f t : Nat → Int) (g : Nat → Bool) (w : World)
    (hc : Vec w.heap.size w ca 384 (Byts f)) (hf : ∀ i, 0 ≤ f i ∧ f i ≤ 255) (hb : Vec w.heap.size w ba blen (Bols g)) (ht : Vec w.heap.size w ta tlen (Ints t)) (htb : ∀ i, -9223372036854775808 ≤ t i ∧ t i ≤ 9223372036854775807) :
    Calls Tryz.prog 131 #[.slice ca 384 cc, .slice ba blen bc, .slice ta tlen tc] w (IsFieldOf w (fun i => Gr.openB f blen g i = true) (Gr.tgt f t tlen)) := by
  have hc' := hide hc
  have hf' := hide hf
  have hb' := hide hb
  have ht' := hide ht
  have htb' := hide htb
  obtain ⟨i0, hi, hz0, hz1, hz2⟩ := info_parts info_int
  clear hc hf hb ht htb
  go_enter Tryz.func131, Tryz.ntmps131
  obtain ⟨G, hG⟩ : ∃ G, G = w.heap.size := ⟨_, rfl⟩
  rw [← hG] at hc' hb' ht'
  have hG' := hide hG
  clear hG
  go_wp2_with fail
  refine wp_scope_ghost 0 (fun m a' w' => ∃ (ra : Option Addr) (rcap : Nat) (pre ring : List Nat) (F : Nat → Int) (u3 u4 u5 u6 u8 u10 u11 u12 u13 u14 u15 u16 u17 u18 u19 u20 u21 u22 u23 u24 u25 u26 u27 u28 u29 u30 u31 u32 : Value), a' = { tmps := #[.slice ca 384 cc, .slice ba blen bc, .slice ta tlen tc, u3, u4, u5, u6, .slice (some ⟨G, 0, none⟩) 384 384, u8, .slice ra ring.length rcap, u10, u11, u12, u13, u14, u15, u16, u17, u18, u19, u20, u21, u22, u23, u24, u25, u26, u27, u28, u29, u30, u31, u32], defers := [] } ∧ Vex G w' ra ring.length (Ints fun i => ((ring[i]?.getD 0 : Nat) : Int)) ∧ Arr w' G 3 384 (Ints F) ∧ Gr.Inv (fun i => Gr.openB f blen g i = true) (Gr.tgt f t tlen) F (pre ++ ring) pre.length 0 ∧ Below G w w' ∧ m = 384 - pre.length) rfl ?_ ?_
  · go_wp2_with (at_make; refine wpList_make_full _ rfl _ _ 38 rfl G 3 i0 (.int .i64 0) 1 Tryz.underlying38 hi hz0 hz1 .i64 .i64 _ _ 384 rfl rfl rfl rfl ?q3 ?q4 (Nat.le_of_eq (unhide hG')) ?_)
    case q3 => rw [hz2]; omega
    case q4 => unfold maxLen; omega
    intro w2 hown hgrow
    rw [← unhide hG'] at hown ⊢
    have hA := hide (Arr.zero hown)
    have hB0 : Below G w w2 := (Below.refl _ _).grown hgrow (Nat.le_of_eq (unhide hG')) (by intro k hk; cases hk)
    clear hown hgrow hi hz0 hz1 hz2
    go_wp2_with fail
    go_loopw [13] (fun i wr => ∃ k : Nat, k ≤ 384 ∧ i = .int .i64 k ∧ Arr wr G 3 384 (fun j => .int .i64 (if j < k then -1 else 0)) ∧ Below G w wr) (fun i _ => 384 - (intOf i).toNat)
    case atStart => exact ⟨0, Nat.zero_le _, rfl, (unhide hA).congr fun j _ => by rw [if_neg (Nat.not_lt_zero _)], hB0⟩
    case round =>
      obtain ⟨k, hk, rfl, hA1, hB1⟩ := hrel
      have hA2 := hide hA1
      clear hA1 hA hB0
      by_cases hlt : k < 384
      · have hcc := (unhide hA2).cell hlt
        have hff := (unhide hA2).free k
        have hlt' : (k : Int) < 384 := by omega
        have HL := hide hlt
        clear hlt hk
        go_wp2
        go_roundw
        case rel => exact ⟨k + 1, by have := unhide HL; omega, by go_num, ((unhide hA2).store k _).congr fun j _ => fill_more (g := fun _ => -1) rfl j, hB1.setCell (Nat.le_refl _) _⟩
        case measure => have := unhide HL; simp [intOf]; omega
      · have hge : ¬ (k : Int) < 384 := by omega
        have hA := hide ((unhide hA2).congr (G := Ints fun _ => -1) fun j hj => by rw [if_pos (by omega)]; rfl)
        clear hA2 hk hlt
        go_wp2_with fail
        refine (inmost_any G _ _ _ _ _ f t (fun i => Gr.openB f blen g i = true) _ ((unhide hc').kept hB1) (unhide hf') ((unhide ht').kept hB1) (unhide htb') (unhide hA)).mono ?_
        rintro e w3 ⟨ring, F, ra, rcap, rfl, hvx, hA3, hI3, hg3⟩
        have hB := hB1.trans (grown_below hg3 (Nat.le_of_lt (unhide hA).lt))
        have hvx := hide hvx
        have hI := hide hI3
        have hA := hide hA3
        obtain ⟨pre, hpre⟩ : ∃ pre : List Nat, pre = [] := ⟨_, rfl⟩
        rw [← hpre] at hI
        have hpre' := hide hpre
        clear hI3 hA3 hg3 hB1 hpre
        go_wp2_with fail
        go_step3
        by_cases hz : ring.length = 0
        · obtain rfl := List.eq_nil_of_length_eq_zero hz
          have hfin := hide ((unhide hI).done (by simp))
          have hz' : (((([] : List Nat).length : Nat) : Int) == 0) = true := by simp
          clear hz
          go_wp2
          simp only [Exit.jump]
          go_ret
          exact ⟨F, ⟨G, rfl, Nat.le_of_eq (unhide hG').symm, unhide hA, by rw [← unhide hG']; exact hB⟩, unhide hfin⟩
        · have hz' : ((ring.length : Int) == 0) = false := by rw [beq_eq_false_iff_ne]; omega
          have hpl : pre.length + ring.length ≤ 384 := by have h := (unhide hI).len; simp at h; omega
          go_wp2_with fail
          refine (outward_any G _ _ _ _ _ _ _ f g (Gr.tgt f t tlen) pre ring F _ ((unhide hc').kept hB) (unhide hf') ((unhide hb').kept hB) (unhide hvx) (unhide hA) (unhide hI)).mono ?_
          rintro e w3 ⟨nx, F2, ra2, rcap2, rfl, hvx2, hA2, hI2, hg2⟩
          have hB2 := hB.trans (grown_below hg2 (Nat.le_of_lt (unhide hA).lt))
          have hvx2' := hide hvx2
          have hI2' := hide hI2
          have hA2' := hide hA2
          clear hvx2 hI2 hA2 hg2
          go_wp2_with fail
          go_step3
          exact ⟨rfl, 384 - (pre ++ ring).length, ra2, rcap2, pre ++ ring, nx, F2, _, _, _, _, _, _, _, _, _, _, _, _, _, _, _, _, _, _, _, _, _, _, _, _, _, _, _, _, rfl, unhide hvx2', unhide hA2', unhide hI2', hB2, rfl⟩
  · rintro m a' w2 ⟨ra, rcap, pre, ring, F, u3, u4, u5, u6, u8, u10, u11, u12, u13, u14, u15, u16, u17, u18, u19, u20, u21, u22, u23, u24, u25, u26, u27, u28, u29, u30, u31, u32, rfl, hvx, hA, hI, hB, rfl⟩
    have hvx := hide hvx
    have hI := hide hI
    have hA := hide hA
    clear hi hz0 hz1 hz2
    by_cases hz : ring.length = 0
    · obtain rfl := List.eq_nil_of_length_eq_zero hz
      have hfin := hide ((unhide hI).done (by simp))
      have hz' : (((([] : List Nat).length : Nat) : Int) == 0) = true := by simp
      clear hz
      go_wp2
      simp only [Exit.jump]
      go_ret
      exact ⟨F, ⟨G, rfl, Nat.le_of_eq (unhide hG').symm, unhide hA, by rw [← unhide hG']; exact hB⟩, unhide hfin⟩
    · have hz' : ((ring.length : Int) == 0) = false := by rw [beq_eq_false_iff_ne]; omega
      have hpl : pre.length + ring.length ≤ 384 := by have h := (unhide hI).len; simp at h; omega
      go_wp2_with fail
      refine (outward_any G _ _ _ _ _ _ _ f g (Gr.tgt f t tlen) pre ring F _ ((unhide hc').kept hB) (unhide hf') ((unhide hb').kept hB) (unhide hvx) (unhide hA) (unhide hI)).mono ?_
      rintro e w3 ⟨nx, F2, ra2, rcap2, rfl, hvx2, hA2, hI2, hg2⟩
      have hB2 := hB.trans (grown_below hg2 (Nat.le_of_lt (unhide hA).lt))
      have hvx2' := hide hvx2
      have hI2' := hide hI2
      have hA2' := hide hA2
      clear hvx2 hI2 hA2 hg2
      go_wp2_with fail
      go_step3
      exact ⟨rfl, 384 - (pre ++ ring).length, by simp; omega, ra2, rcap2, pre ++ ring, nx, F2, _, _, _, _, _, _, _, _, _, _, _, _, _, _, _, _, _, _, _, _, _, _, _, _, _, _, _, _, rfl, unhide hvx2', unhide hA2', unhide hI2', hB2, rfl⟩

end Go.Proofs.YtbanjoflgoiegaaGreat

namespace Go.Proofs.YtbanjoflgoiegaaGreat
open Go.RowKit

theorem fieldHigh {op tg : Nat → Prop} {F : Nat → Int} (h : Gr.IsField op tg F) : ∀ (n : Nat) i, i < 384 → F i = n → n ≤ 400 := by
  intro n i hi hn
  have key : ∀ m : Nat, m ≤ n → ∃ j, j < 384 ∧ F j = m := by
    intro m hm
    induction hnm : n - m generalizing m with
    | zero => exact ⟨i, hi, by omega⟩
    | succ q ih =>
      obtain ⟨j, hj, he⟩ := ih (m + 1) (by omega) (by omega)
      obtain ⟨_, j', _, hj', _, _, _, he'⟩ := h.back j hj (by omega)
      exact ⟨j', hj', by omega⟩
  by_cases hc : n ≤ 400
  · exact hc
  · exfalso
    have inj : ∀ m : Nat, m ≤ n + 1 → m ≤ (List.range 384).countP (fun i => decide (0 ≤ F i ∧ F i < m)) := by
      intro m
      induction m with
      | zero => intro _; exact Nat.zero_le _
      | succ m ih =>
        intro hm
        have h1 := ih (by omega)
        obtain ⟨j, hj, he⟩ := key m (by omega)
        have h2 : (List.range 384).countP (fun i => decide (0 ≤ F i ∧ F i < m)) < (List.range 384).countP (fun i => decide (0 ≤ F i ∧ F i < ((m + 1 : Nat) : Int))) := by
          have hs : ∀ (l : List Nat), j ∈ l → l.countP (fun i => decide (0 ≤ F i ∧ F i < m)) < l.countP (fun i => decide (0 ≤ F i ∧ F i < ((m + 1 : Nat) : Int))) := by
            intro l
            induction l with
            | nil => intro hm; cases hm
            | cons x l ih =>
              intro hm
              have hle : l.countP (fun i => decide (0 ≤ F i ∧ F i < m)) ≤ l.countP (fun i => decide (0 ≤ F i ∧ F i < ((m + 1 : Nat) : Int))) :=
                List.countP_mono_left fun y _ hy => by simp only [decide_eq_true_eq] at *; omega
              rw [List.countP_cons, List.countP_cons]
              rcases List.mem_cons.1 hm with rfl | hm
              · rw [if_neg (by simp; omega), if_pos (by simp; omega)]
                omega
              · have := ih hm
                by_cases hx : 0 ≤ F x ∧ F x < m
                · rw [if_pos (by simpa using hx), if_pos (by simp; omega)]
                  omega
                · rw [if_neg (by simpa using hx)]
                  omega
          exact hs _ (List.mem_range.2 hj)
        omega
    have := inj 401 (by omega)
    have hle : (List.range 384).countP (fun i => decide (0 ≤ F i ∧ F i < ((401 : Nat) : Int))) ≤ (List.range 384).length := List.countP_le_length
    rw [List.length_range] at hle
    omega

namespace Gn

structure Fld (c : Nat → Int) (up : Nat) (F : Nat → Int) : Prop where
  is : Gr.IsField (fun i => Gr.walkB (c i) = true) (fun i => i = up) F
  out : ∀ i, 384 ≤ i → F i = 0

theorem Fld.one {c : Nat → Int} {up : Nat} {F H : Nat → Int} (h : Fld c up F) (k : Fld c up H) : F = H := by
  funext i
  by_cases hi : i < 384
  · exact h.is.one k.is i hi
  · rw [h.out i (by omega), k.out i (by omega)]

theorem isField_congr {op op' tg tg' : Nat → Prop} {F H : Nat → Int} (h : Gr.IsField op tg F) (ho : ∀ i, i < 384 → (op i ↔ op' i)) (ht : ∀ i, i < 384 → (tg i ↔ tg' i)) (hF : ∀ i, i < 384 → F i = H i) : Gr.IsField op' tg' H := by
  refine ⟨fun i hi => ?_, fun i hi => ?_, fun i hi hp => ?_, fun j hj h0 d hd hn hop => ?_⟩
  · rw [← hF i hi]; exact h.lo i hi
  · rw [← hF i hi, h.zero i hi]; exact ht i hi
  · rw [← hF i hi] at hp
    obtain ⟨o, j, d, hj, hd, hn, he, hv⟩ := h.back i hi hp
    exact ⟨(ho i hi).1 o, j, d, hj, hd, hn, he, by rw [← hF i hi, ← hF j hj]; exact hv⟩
  · rw [← hF j hj] at h0
    have hb := Gr.nb_lt hn
    have := h.fwd j hj h0 d hd hn ((ho _ hb).2 hop)
    rw [← hF j hj, ← hF _ hb]
    exact this

theorem Fld.make {op tg : Nat → Prop} {c F : Nat → Int} {up : Nat} (h : Gr.IsField op tg F) (ho : ∀ i, i < 384 → (op i ↔ Gr.walkB (c i) = true)) (ht : ∀ i, i < 384 → (tg i ↔ i = up)) : Fld c up (fun i => if i < 384 then F i else 0) := by
  refine ⟨isField_congr h ho ht fun i hi => by rw [if_pos hi], fun i hi => by rw [if_neg (by omega)]⟩

structure IsFar (F : Nat → Int) (far : Nat) : Prop where
  lt : far < 384
  top : ∀ i, i < 384 → F i ≤ F far
  fst : ∀ i, i < far → F i < F far

theorem IsFar.one {F : Nat → Int} {a b : Nat} (h : IsFar F a) (k : IsFar F b) : a = b := by
  have h1 := h.top b k.lt
  have h2 := k.top a h.lt
  rcases Nat.lt_trichotomy a b with g | g | g
  · have := k.fst a g; omega
  · exact g
  · have := h.fst b g; omega

theorem far_is (F : Nat → Int) : ∃ far, IsFar F far ∧ F far = most F 383 := by
  obtain ⟨i, hi, he⟩ := most_is F 383
  obtain ⟨m, hm, hl⟩ := least (fun i => i ≤ 383 ∧ F i = most F 383) i ⟨hi, he⟩
  refine ⟨m, ⟨by omega, fun j hj => by rw [hm.2]; exact most_ge F 383 j (by omega), fun j hj => ?_⟩, hm.2⟩
  have h1 := most_ge F 383 j (by omega)
  rw [hm.2]
  by_cases e : F j = most F 383
  · have := hl j ⟨by omega, e⟩; omega
  · omega

def shop (c F : Nat → Int) (v : Int) : Option Nat := (List.range 384).find? (fun i => F i == v && c i == 1)

def shopped (c : Nat → Int) : Option Nat → Nat → Int
  | none => c
  | some k => Gr.upd c k 5

def stocked (d : Dice) (c F : Nat → Int) (far : Nat) : Nat → Int :=
  if d 6 0 2 = 0 then shopped (Gr.upd c far 4) (shop (Gr.upd c far 4) F (F far / 2)) else Gr.upd c far 4

theorem shop_some {c F : Nat → Int} {v : Int} {k : Nat} (hk : k < 384) (hp : (F k == v && c k == 1) = true) (hn : ∀ i, i < k → (F i == v && c i == 1) = false) : shop c F v = some k := by
  unfold shop
  rw [List.find?_range_eq_some]
  exact ⟨hp, List.mem_range.2 hk, fun j hj => by rw [hn j hj]; rfl⟩

theorem shop_none {c F : Nat → Int} {v : Int} (hn : ∀ i, i < 384 → (F i == v && c i == 1) = false) : shop c F v = none := by
  unfold shop
  rw [List.find?_range_eq_none]
  exact fun j hj => by rw [hn j hj]; rfl

end Gn

theorem below_grown {w w' : World} (h : Below w.heap.size w w') : w.grownBy w' none := ⟨h.os, h.tape, h.output, h.size, fun k hk _ => h.block k hk⟩

theorem Vec.none0 (B : Nat) (w : World) (a : Option Addr) (F : Nat → Value) : Vec B w a 0 F := ⟨Nat.zero_le _, .inl rfl⟩

theorem Vec.one (w : World) (B : Nat) (hB : B = w.heap.size) (v : Value) (T : TypeId) (F : Nat → Value) (hv : F 0 = v) : Vec (w.alloc (.cells #[v] T)).heap.size (w.alloc (.cells #[v] T)) (some ⟨B, 0, none⟩) 1 F := by
  subst hB
  refine ⟨by decide, .inr ⟨_, _, rfl, by simp, fun i hi => ?_⟩⟩
  obtain rfl : i = 0 := by omega
  simp [hv]

structure StairsHold (w : World) (G : Nat) (s f ux uy : Int) (wr : World) : Prop where
  plan : Arr wr w.heap.size 116 2 (fun j => .int .i64 (if j = 0 then s else f))
  up : Arr wr (w.heap.size + 1) 118 2 (fun j => .int .i64 (if j = 0 then ux else uy))
  grown : w.grownBy wr (some G)

theorem StairsHold.on {w : World} {G : Nat} {s f ux uy : Int} {wr wx : World} (h : StairsHold w G s f ux uy wr) (hg : wr.grownBy wx none) : StairsHold w G s f ux uy wx :=
  ⟨h.plan.grown hg (by simp), h.up.grown hg (by simp), grown_none h.grown hg⟩

theorem StairsHold.put {w : World} {G : Nat} {s f ux uy : Int} {wr : World} (h : StairsHold w G s f ux uy wr) (hG : G < w.heap.size) (i : Nat) (u : Value) : StairsHold w G s f ux uy (wr.setCell ⟨G, i, none⟩ u) :=
  ⟨h.plan.grown (grown_put wr G i u) (by simp; omega), h.up.grown (grown_put wr G i u) (by simp; omega), grown_set h.grown i u⟩

theorem StairsHold.start (w : World) (G : Nat) (s f ux uy : Int) :
    StairsHold w G s f ux uy ((w.alloc (.cells #[.int .i64 s, .int .i64 f] 116)).alloc (.cells #[.int .i64 ux, .int .i64 uy] 118)) := by
  refine ⟨(Arr.pair _ _ _ _).alloc _, ?_, grown_alloc (World.grownBy_alloc _ _ _) _⟩
  have h := Arr.pair (w.alloc (.cells #[.int .i64 s, .int .i64 f] 116)) ux uy 118
  simpa using h

def StairsDone (w : World) (G : Nat) (d : Gn.Dice) (c : Nat → Int) (up : Nat) (e : Ending) (w' : World) : Prop :=
  ∃ (F : Nat → Int) (far g : Nat), Gn.Fld c up F ∧ Gn.IsFar F far ∧ e = .returned (.slice (some ⟨g, 0, none⟩) 384 384) ∧ w.heap.size ≤ g ∧ Arr w' g 3 384 (Ints F) ∧ Arr w' G 5 384 (Byts (Gn.stocked d c F far)) ∧ w.grownBy w' (some G)

set_option maxRecDepth 8000 in
set_option maxHeartbeats 4000000 in
theorem stairs_any (s f : Int) (d : Gn.Dice) (hd : ∀ a b n, Gn.D s f a b n = d a b n) (G : Nat) (c : Nat → Int) (ux uy : Int) (up : Nat) (w : World) (hA : Arr w G 5 384 (Byts c)) (h5 : ∀ i, 0 ≤ c i ∧ c i ≤ 5) (hx : (1 ≤ ux ∧ ux ≤ 22) ∧ 1 ≤ uy ∧ uy ≤ 14) (hu : uy * 24 + ux = (up : Int)) :
    Calls Tryz.prog 99 #[.agg #[.int .i64 s, .int .i64 f], .slice (some ⟨G, 0, none⟩) 384 384, .agg #[.int .i64 ux, .int .i64 uy]] w (StairsDone w G d (Gr.upd c up 3) up) := by
  have hG := hA.lt
  obtain ⟨⟨x1, x2⟩, x3, x4⟩ := hx
  have hul : up < 384 := by omega
  have hul' : (up : Int) < 384 := by omega
  have hc5 : ∀ i, 0 ≤ Gr.upd c up 3 i ∧ Gr.upd c up 3 i ≤ 5 := Gn.upd_5 h5 (by omega)
  have hcu : Gr.upd c up 3 up = 3 := Gr.upd_at _ _ _
  obtain ⟨c1, hc1⟩ : ∃ c1, c1 = Gr.upd c up 3 := ⟨_, rfl⟩
  rw [← hc1] at hc5 hcu ⊢
  have hc1' := hide hc1
  have hA' := hide hA
  have hd' := hide hd
  have hc5' := hide hc5
  have hcu' := hide hcu
  have hu' := hide hu
  have hH0 := hide (StairsHold.start w G s f ux uy)
  have p1 := (unhide hH0).up.cell (i := 0) (by omega)
  have p2 := (unhide hH0).up.cell (i := 1) (by omega)
  simp only [ite_true, Nat.one_ne_zero, ite_false] at p1 p2
  clear hA hd h5 hc1 hc5 hcu
  go_enter Tryz.func99, Tryz.ntmps99
  go_wp2_with fail
  clear p1 p2
  refine (num_any ux uy _ (by omega) (by omega) (by omega) (by omega)).mono ?_
  rintro e wn ⟨rfl, hgn⟩
  have hA1 := hide ((((unhide hA').alloc _).alloc _).grown hgn (by simp))
  have hH1 := hide ((unhide hH0).on hgn)
  rw [hu]
  have q1 := (unhide hA1).cell hul
  have q2 := (unhide hA1).free up
  have hA2 : Hid (Arr (wn.setCell ⟨G, up, none⟩ (.int .u8 3)) G 5 384 (Byts c1)) := by rw [unhide hc1']; exact (unhide hA1).byte up 3
  have hH2 := hide ((unhide hH1).put hG up (.int .u8 3))
  obtain ⟨wm, hwm⟩ : ∃ wm, wn.setCell ⟨G, up, none⟩ (.int .u8 3) = wm := ⟨_, rfl⟩
  rw [hwm] at hA2 hH2
  have p1 := (unhide hH2).up.cell (i := 0) (by omega)
  have p2 := (unhide hH2).up.cell (i := 1) (by omega)
  simp only [ite_true, Nat.one_ne_zero, ite_false] at p1 p2
  clear hgn hA1 hH1 hA' hH0 hu
  go_wp2_with fail
  clear q1 q2 p1 p2 hwm
  clear wn
  refine (num_any ux uy _ (by omega) (by omega) (by omega) (by omega)).mono ?_
  rintro e wv ⟨rfl, hgv⟩
  have hA3 := hide ((unhide hA2).grown hgv (by simp))
  have hH3 := hide ((unhide hH2).on hgv)
  rw [unhide hu']
  clear hgv hA2 hH2
  clear wm
  go_wp2_with fail
  have hA4 := hide ((unhide hA3).alloc (.cells #[.int .i64 (up : Int)] 3))
  have hH4 := hide ((unhide hH3).on (World.grownBy_alloc wv (.cells #[.int .i64 (up : Int)] 3) none))
  have hV := Vec.one wv wv.heap.size rfl (.int .i64 (up : Int)) 3 (Ints fun _ => (up : Int)) rfl
  refine (field_any _ _ _ 0 1 _ _ _ c1 (fun _ => (up : Int)) (fun _ => false) _ ((unhide hA4).vec _ (unhide hA4).lt (by decide)) (fun i => by have := unhide hc5' i; omega) (Vec.none0 _ _ _ _) hV (fun _ => by constructor <;> omega)).mono ?_
  rintro e w5 ⟨F0, ⟨g, rfl, hg, hAF, hbel⟩, hfld⟩
  have hF : Gn.Fld c1 up (fun i => if i < 384 then F0 i else 0) := Gn.Fld.make hfld
    (fun i hi => by simp [Gr.openB])
    (fun i hi => by
      constructor
      · rintro ⟨_, j, _, he⟩
        have he' : (up : Int) = (i : Int) := he
        omega
      · rintro rfl
        exact ⟨by rw [unhide hcu']; rfl, 0, by omega, rfl⟩)
  have hAF2 : Arr w5 g 3 384 (Ints fun i => if i < 384 then F0 i else 0) := hAF.congr fun j hj => by
    show Value.int .i64 (F0 j) = .int .i64 (if j < 384 then F0 j else 0)
    rw [if_pos hj]
  obtain ⟨F, hFF⟩ : ∃ F : Nat → Int, F = fun i => if i < 384 then F0 i else 0 := ⟨_, rfl⟩
  rw [← hFF] at hF hAF2
  have hgr := below_grown hbel
  have hA5 := hide ((unhide hA4).grown hgr (by simp))
  have hH5 := hide ((unhide hH4).on hgr)
  have hF' := hide hF
  have hAF' := hide hAF2
  have hgw : w.heap.size + 1 + 1 ≤ g := by have := (unhide hH3).up.lt; simp at hg; omega
  clear hfld hAF hbel hgr hA4 hH4 hV hFF hF hAF2 hA3 hH3 hg
  clear F0
  go_wp2_with fail
  refine (max_any w5.heap.size _ _ F _ ((unhide hAF').vec _ (unhide hAF').lt (by decide))).mono ?_
  rintro e w' ⟨rfl, hw⟩
  subst w'
  obtain ⟨far, hfar, hmost⟩ := Gn.far_is F
  rw [← hmost]
  clear hmost
  go_wp2_with fail
  refine (index_any w5.heap.size _ _ F _ far _ ((unhide hAF').vec _ (unhide hAF').lt (by decide)) hfar.lt rfl (fun i hi => by have := hfar.fst i hi; omega)).mono ?_
  rintro e w' ⟨rfl, hw⟩
  subst w'
  have hfar' := hide hfar
  have hfl : far < 384 := hfar.lt
  have hfl' : (far : Int) < 384 := by omega
  have hnn : 0 ≤ F far := by
    have h0 := (unhide hF').is.zero up hul
    have := hfar.top up hul
    have := h0.2 rfl
    omega
  have hnx : F far ≤ 400 := by
    have := fieldHigh (unhide hF').is (F far).toNat far hfl (by omega)
    omega
  have q1 := (unhide hA5).cell hfl
  have q2 := (unhide hA5).free far
  have hA6 := hide ((unhide hA5).byte far 4)
  have hH6 := hide ((unhide hH5).put hG far (.int .u8 4))
  have hAF6 := hide ((unhide hAF').grown (grown_put w5 G far (.int .u8 4)) (by simp; omega))
  obtain ⟨c2, hc2⟩ : ∃ c2, c2 = Gr.upd c1 far 4 := ⟨_, rfl⟩
  rw [← hc2] at hA6
  have hc2' := hide hc2
  have h25 : Hid (∀ i, 0 ≤ c2 i ∧ c2 i ≤ 5) := by rw [hc2]; exact Gn.upd_5 (unhide hc5') (by omega)
  obtain ⟨w6, hw6⟩ : ∃ wm, w5.setCell ⟨G, far, none⟩ (.int .u8 4) = wm := ⟨_, rfl⟩
  rw [hw6] at hA6 hH6 hAF6
  have p1 := (unhide hH6).plan.cell (i := 0) (by omega)
  have p2 := (unhide hH6).plan.cell (i := 1) (by omega)
  simp only [ite_true, Nat.one_ne_zero, ite_false] at p1 p2
  clear hfar hc2 hA5 hH5 hAF'
  go_wp2_with fail
  clear q1 q2 p1 p2 hw6
  have hdie := die3_any s f 6 0 2 w6 (by omega)
  rw [unhide hd'] at hdie
  obtain ⟨D0, hD0⟩ : ∃ x, x = d 6 0 2 := ⟨_, rfl⟩
  rw [← hD0] at hdie
  have hD0' := hide hD0
  clear hD0
  refine hdie.mono ?_
  rintro e w7 ⟨rfl, hg7⟩
  have hA7 := hide ((unhide hA6).grown hg7 (by simp))
  have hH7 := hide ((unhide hH6).on hg7)
  have hAF7 := hide ((unhide hAF6).grown hg7 (by simp))
  clear hdie hg7 hA6 hH6 hAF6
  clear w6
  by_cases hz : D0 = 0
  · have hz' : (D0 != 0) = false := by simpa using hz
    have hzz := hide (show d 6 0 2 = 0 by rw [← unhide hD0']; exact hz)
    clear hz
    go_wp2_with fail
    go_loop [33] (fun i => ∃ k : Nat, k ≤ 384 ∧ i = .int .i64 (k : Int) ∧ ∀ j, j < k → (F j == F far / 2 && c2 j == 1) = false) (fun i => 400 - (intOf i).toNat)
    case atStart => exact ⟨0, by omega, rfl, fun j hj => by omega⟩
    case round =>
      obtain ⟨k, hk, rfl, hno⟩ := hrel
      have hno' := hide hno
      clear hno
      by_cases hlt : k < 384
      · have q1 : w7.cell? ⟨g, k, none⟩ = some (.int .i64 (F k)) := (unhide hAF7).cell hlt
        have q2 : w7.cell? ⟨G, k, none⟩ = some (.int .u8 (c2 k)) := (unhide hA7).cell hlt
        have q3 := (unhide hA7).free k
        have hlt' : (k : Int) < 384 := by omega
        have HL := hide hlt
        clear hlt hk
        by_cases e1 : (F k == F far / 2) = true
        · by_cases e2 : (c2 k == 1) = true
          · have hsh := Gn.shop_some (c := c2) (F := F) (v := F far / 2) (unhide HL) (by rw [e1, e2]; rfl) (unhide hno')
            have hst : Hid (Gn.stocked d c1 F far = Gr.upd c2 k 5) := by
              show Gn.stocked d c1 F far = Gr.upd c2 k 5
              unfold Gn.stocked
              rw [if_pos (unhide hzz), ← unhide hc2', hsh]
              rfl
            clear hsh
            go_wp2
            go_ret
            exact ⟨F, far, g, unhide hF', unhide hfar', rfl, by omega, (unhide hAF7).grown (grown_put _ _ _ _) (by simp; omega), by rw [unhide hst]; exact (unhide hA7).byte k 5, grown_set (unhide hH7).grown _ _⟩
          · have e2' : (c2 k == 1) = false := by simpa using e2
            clear e2
            go_wp2
            go_round
            case rel =>
              refine ⟨k + 1, by have := unhide HL; omega, by go_num, fun j hj => ?_⟩
              by_cases hjk : j = k
              · subst hjk; rw [e1, e2']; rfl
              · exact unhide hno' j (by omega)
            case measure => simp [intOf]; omega
        · have e1' : (F k == F far / 2) = false := by simpa using e1
          clear e1
          go_wp2
          go_round
          case rel =>
            refine ⟨k + 1, by have := unhide HL; omega, by go_num, fun j hj => ?_⟩
            by_cases hjk : j = k
            · subst hjk; rw [e1']; rfl
            · exact unhide hno' j (by omega)
          case measure => simp [intOf]; omega
      · have hge : ¬ (k : Int) < 384 := by omega
        obtain rfl : k = 384 := by omega
        have hsh := Gn.shop_none (c := c2) (F := F) (v := F far / 2) (unhide hno')
        have hst : Hid (Gn.stocked d c1 F far = c2) := by
          show Gn.stocked d c1 F far = c2
          unfold Gn.stocked
          rw [if_pos (unhide hzz), ← unhide hc2', hsh]
          rfl
        clear hsh hk hlt
        go_wp2
        go_ret
        exact ⟨F, far, g, unhide hF', unhide hfar', rfl, by omega, unhide hAF7, by rw [unhide hst]; exact unhide hA7, (unhide hH7).grown⟩
  · have hz' : (D0 != 0) = true := by simpa using hz
    have hst : Hid (Gn.stocked d c1 F far = c2) := by
      show Gn.stocked d c1 F far = c2
      unfold Gn.stocked
      rw [if_neg (by rw [← unhide hD0']; exact hz)]
      exact (unhide hc2').symm
    clear hz
    go_wp2
    go_ret
    exact ⟨F, far, g, unhide hF', unhide hfar', rfl, by omega, unhide hAF7, by rw [unhide hst]; exact unhide hA7, (unhide hH7).grown⟩

end Go.Proofs.YtbanjoflgoiegaaGreat
