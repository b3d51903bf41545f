/-
  Steps of Toward, one behind the other, on an empty floor, lead from any cell that can be walked on to any other, in as many steps as the field says, over cells that can be walked on; for every floor, at this commit; no condition.
-/
import Derived.Test.YthofgjphoahkfaaRows
import Derived.WalkKit
import Derived.ProofKit
import Derived.OpenShut
import Derived.Test.YthofgjphoahkfaaNavRefSpot
import Derived.Test.YthofgjphoahkfaaNavMake
import Derived.Test.YthofgjphoahkfaaNavBeside
import Derived.BigQuiet
import Derived.Deep.Cut
import Derived.Below
import Derived.ChangeOld
import Derived.ShutString
namespace Go.Proofs.Ythofgjphoahkfaa.navLeads
open Go.ChangeShapes Go.WideShapes Go.ChangeAt Go.RowKit
open Go.ChangeMaps (open_string shut_string)
set_option linter.unusedVariables false

theorem own : ownKnob Try.prog.godebug = none := by kernel_rfl

theorem Nv.step_pos (F : Nat → Int) (st : Nat → Bool) (m : Nat) : Nv.step F st m = 0 ∨ ∃ k p : Nat, 1 ≤ k ∧ k ≤ 4 ∧ Nv.step F st m = (k : Int) ∧ 1 ≤ F m ∧ Nv.next m k = (p : Int) ∧ p < 384 ∧ F p = F m - 1 ∧ st p = false := by
  unfold Nv.step
  by_cases h : F m < 1
  · rw [if_pos h]; exact .inl rfl
  rw [if_neg h]
  have key : ∀ n i : Nat, Nv.wayFrom (Nv.may F st m) n i = 0 ∨ ∃ k : Nat, i ≤ k ∧ k < i + n ∧ Nv.wayFrom (Nv.may F st m) n i = (k : Int) ∧ Nv.may F st m k = true := by
    intro n
    induction n with
    | zero => intro i; exact .inl rfl
    | succ n ih =>
      intro i
      unfold Nv.wayFrom
      by_cases e : Nv.may F st m i = true
      · rw [if_pos e]; exact .inr ⟨i, by omega, by omega, rfl, e⟩
      · rw [if_neg e]
        rcases ih (i + 1) with h0 | ⟨k, h1, h2, h3⟩
        · exact .inl h0
        · exact .inr ⟨k, by omega, by omega, h3⟩
  rcases key 4 1 with h0 | ⟨k, h1, h2, h3, h4⟩
  · exact .inl h0
  · right
    rcases Nv.next_cases m k with e | ⟨p, hp, e⟩
    · rw [Nv.may_out e] at h4; cases h4
    · rw [Nv.may_in e] at h4
      simp only [Bool.and_eq_true, decide_eq_true_eq, Bool.not_eq_true'] at h4
      exact ⟨k, p, h1, by omega, h3, by omega, e, hp, h4.1, h4.2⟩

theorem Nv.reach_walk {f t : Nat → Int} {tlen blen : Nat} {g : Nat → Bool} {F : Nat → Int} (h : Gr.IsField (fun i => Gr.openB f blen g i = true) (Gr.tgt f t tlen) F) {p : Nat} (hp : p < 384) (h0 : 0 ≤ F p) : Gr.walkB (f p) = true := by
  by_cases e : F p = 0
  · exact ((h.zero p hp).1 e).1
  · have ho := (h.back p hp (by omega)).1
    by_cases hw : Gr.walkB (f p) = true
    · exact hw
    · rw [Bool.not_eq_true] at hw
      rw [Gr.open_no hw] at ho
      cases ho

theorem Nv.way_zero {q : Nat → Bool} : ∀ (n i : Nat), 1 ≤ i → Nv.wayFrom q n i = 0 → ∀ j, i ≤ j → j < i + n → q j = false
  | 0, _, _, _, j, h1, h2 => by omega
  | n + 1, i, hi, h, j, h1, h2 => by
      unfold Nv.wayFrom at h
      by_cases e : q i = true
      · rw [if_pos e] at h; omega
      · rw [if_neg e] at h
        by_cases ej : j = i
        · rw [ej]; simpa using e
        · exact Nv.way_zero n (i + 1) (by omega) h j (by omega) (by omega)

theorem Nv.way_dir {d : Nat} (hd : d < 4) : Fx.way ((d + 1 : Nat) : Int) = (Gr.dxOf d, Gr.dyOf d) := by
  rcases (show d = 0 ∨ d = 1 ∨ d = 2 ∨ d = 3 by omega) with rfl | rfl | rfl | rfl <;> rfl

theorem Nv.next_dir {m d : Nat} (hd : d < 4) (h : Gr.nbIn m d) : Nv.next m (d + 1) = ((Gr.nbOf m d : Nat) : Int) := by
  have e := Gr.nb_eq h
  unfold Nv.next Nv.num
  rw [Nv.way_dir hd, if_pos (by rw [Gr.inB_iff]; unfold Gr.nbIn at h; simp only; omega), e]

/-- Where nobody stands there is a step to each cell but the target that is reached. -/
theorem Nv.step_on {op tg : Nat → Prop} {H : Nat → Int} (h : Gr.IsField op tg H) {st : Nat → Bool} (hst : ∀ i, st i = false) {m : Nat} (hm : m < 384) (h1 : 1 ≤ H m) : ∃ k p : Nat, 1 ≤ k ∧ k ≤ 4 ∧ Nv.step H st m = (k : Int) ∧ Nv.next m k = (p : Int) ∧ p < 384 ∧ H p = H m - 1 := by
  rcases Nv.step_pos H st m with hz | ⟨k, p, k1, k4, hk, _, hn, hp, hF, _⟩
  · exfalso
    unfold Nv.step at hz
    rw [if_neg (by omega)] at hz
    obtain ⟨_, j, d, hj, hd, hn, rfl, he⟩ := h.back m hm (by omega)
    obtain ⟨b1, b2⟩ := Gr.nb_back hj hd hn
    have hq := Nv.way_zero 4 1 (by omega) hz (Gr.opp d + 1) (by omega) (by have := Gr.opp_lt hd; omega)
    have hx := Nv.next_dir (Gr.opp_lt hd) b1
    rw [b2] at hx
    rw [Nv.may_in hx, hst, he, decide_eq_true rfl] at hq
    cases hq
  · exact ⟨k, p, k1, k4, hk, hn, hp, hF⟩

theorem Nv.st_none (E : Nat → Nat → Int) (i : Nat) : Nv.st E 0 i = false := rfl

theorem Nv.empty_field {cs t : Nat → Int} {tlen : Nat} {E : Nat → Nat → Int} {m : Nat} {H : Nat → Int} (h : Gr.IsField (fun i => Gr.openB cs 0 (fun _ => false) i = true) (Gr.tgt cs t tlen) H) : Gr.IsField (fun i => Gr.openB cs 384 (Nv.blk E 0 m) i = true) (Gr.tgt cs t tlen) H :=
  Gn.isField_congr h (fun i _ => by
    unfold Gr.openB Nv.blk
    rw [Nv.st_none]
    simp) (fun _ _ => Iff.rfl) (fun _ _ => rfl)

/-- On a floor each cell that can be walked on is reached from each other one. -/
theorem Nv.Floor.all {cs : Nat → Int} (hf : Nv.Floor cs) {H : Nat → Int} {b : Nat} (hb : b < 384) (hcb : cs b ≠ 0) (h : Gr.IsField (fun i => Gr.openB cs 0 (fun _ => false) i = true) (Gr.tgt cs (fun _ => (b : Int)) 1) H) (i : Nat) (hi : i < 384) (hci : cs i ≠ 0) : 0 ≤ H i := by
  have hw : ∀ j, cs j ≠ 0 → Gr.walkB (cs j) = true := fun j hj => (Gn.walk_nz (hf.five j)).2 hj
  refine hf.hang (fun j => 0 ≤ H j) ?_ b hb hcb ?_ i hi hci
  · intro j e hj he hP hn hc
    exact (h.fwd j hj hP e he hn (by show Gr.openB cs 0 (fun _ => false) _ = true; exact Gr.open_past (hw _ hc) (by omega))).1
  · have : H b = 0 := (h.zero b hb).2 ⟨hw b hcb, 0, by omega, rfl⟩
    show 0 ≤ H b
    omega

theorem Gn.those_at {p : Nat → Bool} {n i : Nat} (hi : i < (Gn.those p n).length) : ∃ c : Nat, (Gn.those p n)[i]? = some c ∧ c < n ∧ p c = true := by
  refine ⟨(Gn.those p n)[i], List.getElem?_eq_getElem hi, ?_⟩
  have h := List.getElem_mem hi
  unfold Gn.those at h
  rw [List.mem_filter, List.mem_range] at h
  exact h

theorem natInts_is {l : List Nat} {i c : Nat} (h : l[i]? = some c) : (natInts l)[i]?.getD 0 = (c : Int) := by
  unfold natInts
  rw [List.getElem?_map, h]
  rfl

theorem Gn.those_pos {p : Nat → Bool} {n i : Nat} (hi : i < n) (h : p i = true) : 0 < (Gn.those p n).length := by
  refine List.length_pos_of_mem (a := i) ?_
  unfold Gn.those
  rw [List.mem_filter, List.mem_range]
  exact ⟨hi, h⟩

set_option maxRecDepth 8000 in
set_option maxHeartbeats 8000000 in

theorem walk (a0 : Int) (a1 : Int) (a2 : Int) (a3 : Int) (w0 : (Lit.int .i64 a0).wf = true) (w1 : (Lit.int .i64 a1).wf = true) (w2 : (Lit.int .i64 a2).wf = true) (w3 : (Lit.int .i64 a3).wf = true) (w : World) :
    Calls Try.prog 4 #[.int .i64 a0, .int .i64 a1, .int .i64 a2, .int .i64 a3] w fun e w' => e = .returned (.bool true) ∧ Below w.heap.size w w' := by
  obtain ⟨fl, hfl⟩ : ∃ fl, fl = 1 + a1 % 3 := ⟨_, rfl⟩
  have hf1 : 1 ≤ fl := by omega
  have hf3 : fl ≤ 3 := by omega
  have cW := hide (fun wq => within_any a1 3 wq (by omega) (by omega))
  have hmod : a1 % 3 = fl - 1 := by omega
  rw [hmod] at cW
  clear hfl hmod w0 w1 w2 w3
  obtain ⟨i0, hi, hz0, hz1, hz2⟩ := info_parts info_int
  go_enter Try.func4, Try.ntmps4
  go_wp2_with fail
  refine (known_any _).mono ?_
  rintro e wk ⟨rfl, hk⟩
  subst hk
  go_wp2_with fail
  refine (unhide cW _).mono ?_
  rintro e wx ⟨rfl, hx⟩
  subst hx
  have hsum : 1 + (fl - 1) = fl := by omega
  go_wp2_with fail
  refine (navMake_any a0 fl hf1 hf3 _).mono ?_
  rintro e wm ⟨cs, G, nE, nI, cE, cI, aE, aI, rfl, hfloor, hG, hA, hgm⟩
  have hA' := hide hA
  have hgm' := hide hgm
  have hfloor' := hide hfloor
  have hfive : Hid (∀ i, 0 ≤ cs i ∧ cs i ≤ 255) := fun i => by have := hfloor.five i; omega
  clear hA hgm hfloor hsum
  have hfc := fun wq => field_cells (some ⟨G, 0, none⟩) aE aI 384 nE nI 384 cE cI wq
  go_wp2_with fail
  clear hfc
  go_loopw [10, 11] (fun v i wr => ∃ k : Nat, k ≤ 384 ∧ i = .int .i64 (k : Int) ∧ Lst wr wm.heap.size v (Gn.those (fun i => Gr.walkB (cs i)) k) ∧ wm.grownBy wr none) (fun _ i _ => 400 - (intOf i).toNat)
  case atStart => exact ⟨0, by omega, rfl, World.ownsRow_nil _ _ _ _, World.grownBy.refl _ _⟩
  case round =>
    obtain ⟨k, hk, rfl, hown, hg⟩ := hrel
    have hown1 := hide hown
    have hg1 := hide hg
    have hsz := hg.size
    have hln := Gn.those_len (fun i => Gr.walkB (cs i)) k
    clear hown hg
    by_cases hlt : k < 384
    · have q1 : wr.cell? ⟨G, k, none⟩ = some (.int .u8 (cs k)) := ((unhide hA').grown (unhide hg1) (by simp)).cell hlt
      have qb := unhide hfive k
      have cK := hide (fun wq => refWalk_any (cs k) wq)
      have hlt' : (k : Int) < 384 := by omega
      have HL := hide hlt
      clear hlt hk
      by_cases hq : Gr.walkB (cs k) = true
      · have hyes := hide (Gn.those_yes (p := fun i => Gr.walkB (cs i)) hq)
        rw [hq] at cK
        obtain ⟨l, hl⟩ : ∃ l, l = Gn.those (fun i => Gr.walkB (cs i)) k := ⟨_, rfl⟩
        rw [← hl] at hown1 hln hyes
        clear hl hq
        go_wp2_with fail
        refine (unhide cK _).mono ?_
        rintro e wy ⟨rfl, hy⟩
        subst hy
        go_wp2_with (at_builtin; refine wpList_append_own _ rfl _ _ 22 rfl wm.heap.size 3 i0 (.int .i64 0) 1 8 Try.underlying22 hi hz0 hz1 hz2 rfl (by decide) _ _ _ rfl ((unhide hown1).alloc _) ⟨wy.heap.size, 0, none⟩ 1 1 [.int .i64 (k : Int)] rfl rfl ?_ ?_ ?_ ?_ ?_ ?_)
        · exact one_at _ _ _ _ rfl
        · intro u hu; simp at hu; subst hu; rfl
        · unfold maxLen; omega
        · omega
        · simp; omega
        intro v' w1 hown' hgrow _
        rw [natInts_more] at hown'
        have hown2 : Hid (Lst w1 wm.heap.size v' (Gn.those (fun i => Gr.walkB (cs i)) (k + 1))) := by
          rw [unhide hyes]
          show w1.ownsRow _ _ _ _ _ _
          rw [List.length_append]
          exact hown'
        have hg2 := hide (grown_own (grown_alloc (unhide hg1) _) hgrow (fun n e => ((unhide hown1).lt n e).1))
        clear hown' hgrow hown1 hg1
        go_wp2
        go_roundw
        case rel => exact ⟨k + 1, by have := unhide HL; omega, by go_num, unhide hown2, unhide hg2⟩
        case measure => simp [intOf]; omega
      · rw [Bool.not_eq_true] at hq
        have hno := hide (Gn.those_no (p := fun i => Gr.walkB (cs i)) hq)
        rw [hq] at cK
        clear hq
        go_wp2_with fail
        refine (unhide cK _).mono ?_
        rintro e wy ⟨rfl, hy⟩
        subst hy
        go_wp2
        go_roundw
        case rel => exact ⟨k + 1, by have := unhide HL; omega, by go_num, by rw [unhide hno]; exact unhide hown1, unhide hg1⟩
        case measure => simp [intOf]; omega
    · have hge : ¬ (k : Int) < 384 := by omega
      obtain rfl : k = 384 := by omega
      obtain ⟨oa, ocap, hov, hol, hovec⟩ := own_vec (unhide hown1) (by unfold maxLen; omega)
      subst hov
      obtain ⟨xw, hxw, hxc⟩ := (unhide hfloor').some
      have hnz : ∀ j, Gr.walkB (cs j) = true ↔ cs j ≠ 0 := fun j => Gn.walk_nz ((unhide hfloor').five j)
      have hpos := Gn.those_pos (p := fun i => Gr.walkB (cs i)) hxw ((hnz xw).2 hxc)
      obtain ⟨L, hL⟩ : ∃ L, L = (Gn.those (fun i => Gr.walkB (cs i)) 384).length := ⟨_, rfl⟩
      obtain ⟨I, hI⟩ : ∃ I : Nat, (I : Int) = a2 % (L : Int) := ⟨(a2 % (L : Int)).toNat, Int.toNat_of_nonneg (Int.emod_nonneg _ (by omega))⟩
      obtain ⟨J, hJ⟩ : ∃ J : Nat, (J : Int) = a3 % (L : Int) := ⟨(a3 % (L : Int)).toNat, Int.toNat_of_nonneg (Int.emod_nonneg _ (by omega))⟩
      have hIL : I < L := by have := Int.emod_lt_of_pos a2 (b := (L : Int)) (by omega); omega
      have hJL : J < L := by have := Int.emod_lt_of_pos a3 (b := (L : Int)) (by omega); omega
      obtain ⟨A, hA1, hA4', hAw⟩ := Gn.those_at (p := fun i => Gr.walkB (cs i)) (n := 384) (i := I) (by omega)
      obtain ⟨T, hT1, hT4, hTw⟩ := Gn.those_at (p := fun i => Gr.walkB (cs i)) (n := 384) (i := J) (by omega)
      have hvI := hovec.at (k := I) (by omega)
      have hvJ := hovec.at (k := J) (by omega)
      obtain ⟨ob, oo, rfl, hob, hcI⟩ := hvI
      obtain ⟨ob2, oo2, he2, _, hcJ⟩ := hvJ
      simp only [Option.some.injEq, Addr.mk.injEq, and_true] at he2
      obtain ⟨rfl, rfl⟩ := he2
      have qI : wr.cell? ⟨ob, oo + I, none⟩ = some (.int .i64 (A : Int)) := by rw [hcI]; show some (Value.int .i64 ((natInts (Gn.those (fun i => Gr.walkB (cs i)) 384))[I]?.getD 0)) = _; rw [natInts_is hA1]
      have qJ : wr.cell? ⟨ob, oo + J, none⟩ = some (.int .i64 (T : Int)) := by rw [hcJ]; show some (Value.int .i64 ((natInts (Gn.those (fun i => Gr.walkB (cs i)) 384))[J]?.getD 0)) = _; rw [natInts_is hT1]
      have cI : ∀ (z : Int) (wq : World), Calls Try.prog 9 #[.int .i64 z, .int .i64 (L : Int)] wq fun e w' => e = .returned (.int .i64 (z % (L : Int))) ∧ w' = wq := fun z wq => within_any z (L : Int) wq (by omega) (by omega)
      have hI' := hI.symm
      have hJ' := hJ.symm
      have hgS := hide (grown_trans (unhide hgm') (unhide hg1))
      have hA2 := hide ((unhide hA').grown (unhide hg1) (by simp))
      have hcA : cs A ≠ 0 := (hnz A).1 hAw
      have hcT : cs T ≠ 0 := (hnz T).1 hTw
      have hcA' := hide hcA
      have hcT' := hide hcT
      rw [← hL] at hln ⊢
      clear hk hlt hown1 hg1 hovec hol hcI hcJ hA1 hT1 hAw hTw hI hJ hL hob hpos hnz hxw hxc hA' hgm' hcA hcT cW hsz
      go_wp2_with fail
      go_quiet ((go_at_call 9; exact Calls.quiet_of_same (cI _ _)))
      have hgd := hide (grown_drew (unhide hgS) nq)
      have hAd := hide ((unhide hA2).grown (grown_drew (World.grownBy.refl _ none) nq) (by simp))
      generalize wr.drewN nq = wd at hgd hAd ⊢
      clear qI qJ hgS hA2 hI' hJ' cI
      go_wp2_with fail
      obtain ⟨w3, hw3⟩ : ∃ w3, w3 = wd.alloc (.cells #[.int .i64 (T : Int)] 3) := ⟨_, rfl⟩
      have hal : wd.grownBy w3 none := by rw [hw3]; exact World.grownBy_alloc _ _ _
      have hVr : Vec w3.heap.size w3 (some ⟨wd.heap.size, 0, none⟩) 1 (Ints fun _ => (T : Int)) := by rw [hw3]; exact Nv.one_row wd _ _
      rw [← hw3]
      have hA3 := (unhide hAd).grown hal (by simp)
      refine (refField_any (some ⟨G, 0, none⟩) none (some ⟨wd.heap.size, 0, none⟩) 0 1 384 0 1 cs (fun _ => (T : Int)) (fun _ => false) w3 (hA3.vec _ hA3.lt (by unfold maxLen; omega)) (unhide hfive) ⟨by unfold maxLen; omega, .inl rfl⟩ hVr (fun _ => ⟨by omega, by omega⟩)).mono ?_
      rintro e w4 ⟨H, ⟨g4, rfl, hg4, hA4, hB4⟩, hH⟩
      have hg34 := below_grown hB4
      have hgw := hide (grown_trans (unhide hgd) (grown_trans hal hg34))
      have hAw := hide (hA3.grown hg34 (by simp))
      have hcH : w4.cell? ⟨g4, A, none⟩ = some (.int .i64 (H A)) := hA4.cell hA4'
      have h0 : 0 ≤ H A := Nv.Floor.all (unhide hfloor') hT4 (unhide hcT') hH A hA4' (unhide hcA')
      have hhi := fieldHigh hH (H A).toNat A hA4' (by omega)
      obtain ⟨N, hN⟩ : ∃ N : Nat, H A = (N : Int) := ⟨(H A).toNat, by omega⟩
      have hN4 : N ≤ 400 := by omega
      rw [hN] at hcH
      have hH' := hide hH
      have hN' := hide hN
      have cT : Hid (∀ (wx : World) (P : Nat), Hid (w4.grownBy wx none) → Hid (P < 384) → Calls Try.prog 11 #[.slice (some ⟨G, 0, none⟩) 384 384, .slice none 0 0, .int .i64 ((P : Int) % 24), .int .i64 ((P : Int) / 24), .slice (some ⟨wx.heap.size, 0, none⟩) 1 1] (wx.alloc (.cells #[.int .i64 (T : Int)] 3)) (Says (wx.alloc (.cells #[.int .i64 (T : Int)] 3)) (.int .i64 (Nv.step H (Nv.st (fun _ _ => 0) 0) P)))) := fun wx P hg hP => by
        have hP' := unhide hP
        have hA5 := (unhide hAw).grown (grown_trans (unhide hg) (World.grownBy_alloc wx (.cells #[.int .i64 (T : Int)] 3) none)) (by simp)
        have h := navToward_any (some ⟨G, 0, none⟩) none (some ⟨wx.heap.size, 0, none⟩) 384 0 0 1 1 cs (fun _ => (T : Int)) (fun _ _ => 0) ((P : Int) % 24) ((P : Int) / 24) (wx.alloc (.cells #[.int .i64 (T : Int)] 3)) (hA5.vec _ hA5.lt (by unfold maxLen; omega)) (unhide hfive) ⟨by omega, by omega, .inl rfl⟩ (fun i hi => by omega) (Nv.one_row wx _ _) (fun _ => ⟨by omega, by omega⟩) (by omega) (by omega) (by omega) (by omega)
        have hnum : Nv.num ((P : Int) % 24) ((P : Int) / 24) = (P : Int) := Nv.num_of hP'
        refine h.mono ?_
        rintro e w' ⟨v, hv, rfl, hgv⟩
        obtain ⟨F, hF, rfl⟩ := hv.at hnum
        rw [Nv.step_congr hP' fun i hi => hF.one (Nv.empty_field hH) i hi]
        exact ⟨rfl, hgv⟩
      clear hA4 hB4 hg34 hA3 hal hVr hw3 hg4 hgd hAd hH hN h0 hhi
      go_wp2_with fail
      go_loopw [12, 15] (fun p i wr => ∃ j P : Nat, j ≤ N ∧ P < 384 ∧ p = .int .i64 (P : Int) ∧ i = .int .i64 (j : Int) ∧ H P = ((N - j : Nat) : Int) ∧ w4.grownBy wr none) (fun _ i _ => 500 - (intOf i).toNat)
      case atStart => exact ⟨0, A, by omega, hA4', rfl, rfl, unhide hN', World.grownBy.refl _ _⟩
      case round =>
        obtain ⟨j, P, hj, hP, rfl, rfl, hHP, hgr⟩ := hrel
        have hgr' := hide hgr
        have HP := hide hP
        clear hgr hcH
        by_cases hlt : j < N
        · have hlt' : (j : Int) < (N : Int) := by omega
          obtain ⟨k, p, k1, k4, hk, hnx, hp, hHp⟩ := Nv.step_on (unhide hH') (st := Nv.st (fun _ _ => 0) 0) (fun i => Nv.st_none _ i) hP (by omega)
          have cTk := hide (unhide cT wr P hgr' HP)
          rw [hk] at cTk
          have wb := Fx.way_bd (k : Int)
          have cw := hide (fun wq => refWay_any (k : Int) wq)
          have hat : (P : Int) + (Fx.way (k : Int)).2 * 24 + (Fx.way (k : Int)).1 = (p : Int) := by
            obtain ⟨e1, e2, _⟩ := Nv.num_at hnx
            omega
          have hk0 : ((k : Int) == 0) = false := by rw [beq_eq_false_iff_ne]; omega
          have hwalk : Gr.walkB (cs p) = true := Nv.reach_walk (unhide hH') hp (by omega)
          have cK := hide (fun wq => refWalk_any (cs p) wq)
          rw [hwalk] at cK
          have hHp' : Hid (H p = ((N - (j + 1) : Nat) : Int)) := by show _ = _; omega
          generalize (Fx.way (k : Int)).1 = dx at *
          generalize (Fx.way (k : Int)).2 = dy at *
          obtain ⟨d1, d2, d3, d4⟩ := wb
          have hPp : (P : Int) < 384 := by omega
          have hpp : (p : Int) < 384 := by omega
          have HL := hide hlt
          have Hp := hide hp
          have hcb := unhide hfive p
          clear hlt hk hnx hp hHp hwalk hHP hP hj
          go_wp2_with fail
          refine (unhide cTk).mono ?_
          rintro e w5 ⟨rfl, hg5⟩
          have hg5' := hide (grown_trans (unhide hgr') (grown_trans (World.grownBy_alloc _ _ _) hg5))
          have hcp : w5.cell? ⟨G, p, none⟩ = some (.int .u8 (cs p)) := ((unhide hAw).grown (unhide hg5') (by simp)).cell (unhide Hp)
          clear hg5 cTk
          go_wp2_with fail
          refine (unhide cw _).mono ?_
          rintro e w6 ⟨rfl, h6⟩
          subst h6
          go_wp2_with fail
          refine (unhide cK _).mono ?_
          rintro e w6 ⟨rfl, h6⟩
          subst h6
          go_wp2
          go_roundw
          case rel => exact ⟨j + 1, p, by have := unhide HL; omega, unhide Hp, rfl, by go_num, unhide hHp', unhide hg5'⟩
          case measure => have := unhide HL; simp [intOf]; omega
        · have hge : ¬ (j : Int) < (N : Int) := by omega
          have hH0 : H P = 0 := by omega
          have htg := ((unhide hH').zero P hP).1 hH0
          obtain ⟨_, q, _, hq⟩ := htg
          have hPT : P = T := by
            have : (T : Int) = (P : Int) := hq
            omega
          subst hPT
          have cTk := hide (unhide cT wr P hgr' HP)
          rw [show Nv.step H (Nv.st (fun _ _ => 0) 0) P = 0 from if_pos (by omega)] at cTk
          clear hlt hHP hH0 hq hj
          go_wp2_with fail
          refine (unhide cTk).mono ?_
          rintro e w5 ⟨rfl, hg5⟩
          have hfin := hide (none_below (grown_trans (unhide hgw) (grown_trans (unhide hgr') (grown_trans (World.grownBy_alloc _ _ _) hg5))))
          clear hg5 cTk
          go_wp2
          go_ret
          exact ⟨rfl, unhide hfin⟩

set_option maxRecDepth 100000 in
theorem lifted (os : Os) (started : os.Started) (H : Type) (enc : TypeId × Value → H) :
    ReturnsInHanded {} Try.checked os 4 .any (Rows.navLeadsSpec.pre6 enc Try.prog Try.f4 Rows.navLeadsRow.domain false) (Rows.navLeadsSpec.post enc Try.prog Try.f4 false true false false) := by
  refine returnsInHanded_of_change (C := Try.checked) own started (by kernel_rfl) Try.func4
    (ChangeSpec.witness6 (enc := enc) (C := Try.checked) false ⟨#[], #[.int .i64 0, .int .i64 0, .int .i64 0, .int .i64 0], []⟩ 8 (by kernel_rfl) (by kernel_rfl) (by kernel_rfl) (by kernel_rfl)) ?_
  intro W base args ds gs before hval0 hW hcnd _
  have hval : ∀ (j : Nat) t v, Try.f4.params[j]? = some t → args[j]? = some v → Value.okWide Try.prog W .any base t v := hval0
  have hW' := hW
  obtain ⟨p, q, hA0, hV, rfl, hfz, hnd⟩ := hW
  have hA : DataW.TrodAll enc Try.prog W 0 (fun _ => true) true Try.f4.params.toList args.toList ds p := hA0
  rw [Try.params4] at hA hval
  obtain ⟨v0, vs0, d0, ds0, p0, q0, hargs, rfl, rfl, h0, r0⟩ := trodAll_cons hA
  obtain ⟨v1, vs1, d1, ds1, p1, q1, rfl, rfl, rfl, h1, r1⟩ := trodAll_cons r0
  obtain ⟨v2, vs2, d2, ds2, p2, q2, rfl, rfl, rfl, h2, r2⟩ := trodAll_cons r1
  obtain ⟨v3, vs3, d3, ds3, p3, q3, rfl, rfl, rfl, h3, r3⟩ := trodAll_cons r2
  obtain ⟨rfl, rfl, rfl⟩ := trodAll_nil r3
  obtain rfl : args = #[v0, v1, v2, v3] := by cases args; simp_all
  obtain ⟨rfl, rfl⟩ := trodVars_none hV
  obtain ⟨a0, rfl, rfl, rfl, w0⟩ := open_int Try.underlying2 (hval 0 2 v0 rfl rfl) h0
  obtain ⟨a1, rfl, rfl, rfl, w1⟩ := open_int Try.underlying3 (hval 1 3 v1 rfl rfl) h1
  obtain ⟨a2, rfl, rfl, rfl, w2⟩ := open_int Try.underlying3 (hval 2 3 v2 rfl rfl) h2
  obtain ⟨a3, rfl, rfl, rfl, w3⟩ := open_int Try.underlying3 (hval 3 3 v3 rfl rfl) h3
  clear hA0 hval0
  refine (walk a0 a1 a2 a3 w0 w1 w2 w3 W).mono fun e W' ⟨he, hg⟩ => ?_
  subst he
  exact ⟨_, rfl, _, _, _, [], _, [], hW', trodAll_mk1 (shut_bool Try.underlying4 _), (trodAll_cons_mk (shut_int Try.underlying2 w0) (trodAll_cons_mk (shut_int Try.underlying3 w1) (trodAll_cons_mk (shut_int Try.underlying3 w2) (trodAll_cons_mk (shut_int Try.underlying3 w3) trodAll_mk0)))), rfl, hg.frame _, fun h => by cases h⟩

theorem over : Rows.navLeadsRow.holds Try.pinned (OpenSpec.ofChange Rows.navLeadsSpec) :=
  OpenClaim.holds_of_wide 4 Try.f4 rfl rfl rfl rfl rfl rfl rfl ⟨rfl, rfl, rfl, rfl, rfl⟩ rfl rfl rfl rfl rfl (by kernel_rfl) Try.func4 (by kernel_rfl)
    (of_decide_eq_true (by kernel_rfl)) (by unfold Func.isWrapper; first | (rw [if_pos (by decide +kernel)]; kernel_rfl) | (rw [if_neg (by decide +kernel)]; exact ⟨rfl, rfl⟩))
    (fun os started H enc _ => lifted os started H enc)

theorem proved : Rows.NavLeadsSaid :=
  over
#print axioms proved
end Go.Proofs.Ythofgjphoahkfaa.navLeads
