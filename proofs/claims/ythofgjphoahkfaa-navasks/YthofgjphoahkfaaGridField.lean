/-
  The program's field: ring by ring, by a goto from one to the next.
-/
import Derived.Test.YthofgjphoahkfaaGridIn
import Derived.Test.YthofgjphoahkfaaGenBase
namespace Go.Proofs.Ythofgjphoahkfaa
open Go.RowKit

/-- A call hands back the field. -/
def IsFieldOf (w : World) (op tg : Nat → Prop) (e : Ending) (w' : World) : Prop := ∃ F, Made w 3 384 (Ints F) e w' ∧ Gr.IsField op tg F

set_option maxRecDepth 8000 in
set_option maxHeartbeats 4000000 in
theorem field_any (ca ba ta : Option Addr) (blen tlen cc bc tc : Nat) (f t : Nat → Int) (g : Nat → Bool) (w : World)
    (hc : Vec w.heap.size w ca 384 (Byts f)) (hf : ∀ i, 0 ≤ f i ∧ f i ≤ 255) (hb : Vec w.heap.size w ba blen (Bols g)) (ht : Vec w.heap.size w ta tlen (Ints t)) (htb : ∀ i, -9223372036854775808 ≤ t i ∧ t i ≤ 9223372036854775807) :
    Calls Try.prog 29 #[.slice ca 384 cc, .slice ba blen bc, .slice ta tlen tc] w (IsFieldOf w (fun i => Gr.openB f blen g i = true) (Gr.tgt f t tlen)) := by
  have hc' := hide hc
  have hf' := hide hf
  have hb' := hide hb
  have ht' := hide ht
  have htb' := hide htb
  obtain ⟨i0, hi, hz0, hz1, hz2⟩ := info_parts info_int
  clear hc hf hb ht htb
  go_enter Try.func29, Try.ntmps29
  obtain ⟨G, hG⟩ : ∃ G, G = w.heap.size := ⟨_, rfl⟩
  rw [← hG] at hc' hb' ht'
  have hG' := hide hG
  clear hG
  go_wp2_with fail
  refine wp_scope_ghost 0 (fun m a' w' => ∃ (ra : Option Addr) (rcap : Nat) (pre ring : List Nat) (F : Nat → Int) (u3 u4 u5 u6 u8 u10 u11 u12 u13 u14 u15 u16 u17 u18 u19 u20 u21 u22 u23 u24 u25 u26 u27 u28 u29 u30 u31 u32 : Value), a' = { tmps := #[.slice ca 384 cc, .slice ba blen bc, .slice ta tlen tc, u3, u4, u5, u6, .slice (some ⟨G, 0, none⟩) 384 384, u8, .slice ra ring.length rcap, u10, u11, u12, u13, u14, u15, u16, u17, u18, u19, u20, u21, u22, u23, u24, u25, u26, u27, u28, u29, u30, u31, u32], defers := [] } ∧ Vex G w' ra ring.length (Ints fun i => ((ring[i]?.getD 0 : Nat) : Int)) ∧ Arr w' G 3 384 (Ints F) ∧ Gr.Inv (fun i => Gr.openB f blen g i = true) (Gr.tgt f t tlen) F (pre ++ ring) pre.length 0 ∧ Below G w w' ∧ m = 384 - pre.length) rfl ?_ ?_
  · go_wp2_with (at_make; refine wpList_make_full _ rfl _ _ 22 rfl G 3 i0 (.int .i64 0) 1 Try.underlying22 hi hz0 hz1 .i64 .i64 _ _ 384 rfl rfl rfl rfl ?q3 ?q4 (Nat.le_of_eq (unhide hG')) ?_)
    case q3 => rw [hz2]; omega
    case q4 => unfold maxLen; omega
    intro w2 hown hgrow
    rw [← unhide hG'] at hown ⊢
    have hA := hide (Arr.zero hown)
    have hB0 : Below G w w2 := (Below.refl _ _).grown hgrow (Nat.le_of_eq (unhide hG')) (by intro k hk; cases hk)
    clear hown hgrow hi hz0 hz1 hz2
    go_wp2_with fail
    go_loopw [13] (fun i wr => ∃ k : Nat, k ≤ 384 ∧ i = .int .i64 k ∧ Arr wr G 3 384 (fun j => .int .i64 (if j < k then -1 else 0)) ∧ Below G w wr) (fun i _ => 384 - (intOf i).toNat)
    case atStart => exact ⟨0, Nat.zero_le _, rfl, (unhide hA).congr fun j _ => by rw [if_neg (Nat.not_lt_zero _)], hB0⟩
    case round =>
      obtain ⟨k, hk, rfl, hA1, hB1⟩ := hrel
      have hA2 := hide hA1
      clear hA1 hA hB0
      by_cases hlt : k < 384
      · have hcc := (unhide hA2).cell hlt
        have hff := (unhide hA2).free k
        have hlt' : (k : Int) < 384 := by omega
        have HL := hide hlt
        clear hlt hk
        go_wp2
        go_roundw
        case rel => exact ⟨k + 1, by have := unhide HL; omega, by go_num, ((unhide hA2).store k _).congr fun j _ => fill_more (g := fun _ => -1) rfl j, hB1.setCell (Nat.le_refl _) _⟩
        case measure => have := unhide HL; simp [intOf]; omega
      · have hge : ¬ (k : Int) < 384 := by omega
        have hA := hide ((unhide hA2).congr (G := Ints fun _ => -1) fun j hj => by rw [if_pos (by omega)]; rfl)
        clear hA2 hk hlt
        go_wp2_with fail
        refine (inmost_any G _ _ _ _ _ f t (fun i => Gr.openB f blen g i = true) _ ((unhide hc').kept hB1) (unhide hf') ((unhide ht').kept hB1) (unhide htb') (unhide hA)).mono ?_
        rintro e w3 ⟨ring, F, ra, rcap, rfl, hvx, hA3, hI3, hg3⟩
        have hB := hB1.trans (grown_below hg3 (Nat.le_of_lt (unhide hA).lt))
        have hvx := hide hvx
        have hI := hide hI3
        have hA := hide hA3
        obtain ⟨pre, hpre⟩ : ∃ pre : List Nat, pre = [] := ⟨_, rfl⟩
        rw [← hpre] at hI
        have hpre' := hide hpre
        clear hI3 hA3 hg3 hB1 hpre
        go_wp2_with fail
        go_step3
        by_cases hz : ring.length = 0
        · obtain rfl := List.eq_nil_of_length_eq_zero hz
          have hfin := hide ((unhide hI).done (by simp))
          have hz' : (((([] : List Nat).length : Nat) : Int) == 0) = true := by simp
          clear hz
          go_wp2
          simp only [Exit.jump]
          go_ret
          exact ⟨F, ⟨G, rfl, Nat.le_of_eq (unhide hG').symm, unhide hA, by rw [← unhide hG']; exact hB⟩, unhide hfin⟩
        · have hz' : ((ring.length : Int) == 0) = false := by rw [beq_eq_false_iff_ne]; omega
          have hpl : pre.length + ring.length ≤ 384 := by have h := (unhide hI).len; simp at h; omega
          go_wp2_with fail
          refine (outward_any G _ _ _ _ _ _ _ f g (Gr.tgt f t tlen) pre ring F _ ((unhide hc').kept hB) (unhide hf') ((unhide hb').kept hB) (unhide hvx) (unhide hA) (unhide hI)).mono ?_
          rintro e w3 ⟨nx, F2, ra2, rcap2, rfl, hvx2, hA2, hI2, hg2⟩
          have hB2 := hB.trans (grown_below hg2 (Nat.le_of_lt (unhide hA).lt))
          have hvx2' := hide hvx2
          have hI2' := hide hI2
          have hA2' := hide hA2
          clear hvx2 hI2 hA2 hg2
          go_wp2_with fail
          go_step3
          exact ⟨rfl, 384 - (pre ++ ring).length, ra2, rcap2, pre ++ ring, nx, F2, _, _, _, _, _, _, _, _, _, _, _, _, _, _, _, _, _, _, _, _, _, _, _, _, _, _, _, _, rfl, unhide hvx2', unhide hA2', unhide hI2', hB2, rfl⟩
  · rintro m a' w2 ⟨ra, rcap, pre, ring, F, u3, u4, u5, u6, u8, u10, u11, u12, u13, u14, u15, u16, u17, u18, u19, u20, u21, u22, u23, u24, u25, u26, u27, u28, u29, u30, u31, u32, rfl, hvx, hA, hI, hB, rfl⟩
    have hvx := hide hvx
    have hI := hide hI
    have hA := hide hA
    clear hi hz0 hz1 hz2
    by_cases hz : ring.length = 0
    · obtain rfl := List.eq_nil_of_length_eq_zero hz
      have hfin := hide ((unhide hI).done (by simp))
      have hz' : (((([] : List Nat).length : Nat) : Int) == 0) = true := by simp
      clear hz
      go_wp2
      simp only [Exit.jump]
      go_ret
      exact ⟨F, ⟨G, rfl, Nat.le_of_eq (unhide hG').symm, unhide hA, by rw [← unhide hG']; exact hB⟩, unhide hfin⟩
    · have hz' : ((ring.length : Int) == 0) = false := by rw [beq_eq_false_iff_ne]; omega
      have hpl : pre.length + ring.length ≤ 384 := by have h := (unhide hI).len; simp at h; omega
      go_wp2_with fail
      refine (outward_any G _ _ _ _ _ _ _ f g (Gr.tgt f t tlen) pre ring F _ ((unhide hc').kept hB) (unhide hf') ((unhide hb').kept hB) (unhide hvx) (unhide hA) (unhide hI)).mono ?_
      rintro e w3 ⟨nx, F2, ra2, rcap2, rfl, hvx2, hA2, hI2, hg2⟩
      have hB2 := hB.trans (grown_below hg2 (Nat.le_of_lt (unhide hA).lt))
      have hvx2' := hide hvx2
      have hI2' := hide hI2
      have hA2' := hide hA2
      clear hvx2 hI2 hA2 hg2
      go_wp2_with fail
      go_step3
      exact ⟨rfl, 384 - (pre ++ ring).length, by simp; omega, ra2, rcap2, pre ++ ring, nx, F2, _, _, _, _, _, _, _, _, _, _, _, _, _, _, _, _, _, _, _, _, _, _, _, _, _, _, _, _, rfl, unhide hvx2', unhide hA2', unhide hI2', hB2, rfl⟩

end Go.Proofs.Ythofgjphoahkfaa
