/-
  Among any entities a step of Toward leads to a cell that can be walked on, where nobody stands, and that is one step nearer to the target, going about them; for every floor, place and target, at this commit; no condition.
-/
import Derived.Test.YthofgjphoahkfaaRows
import Derived.WalkKit
import Derived.ProofKit
import Derived.OpenShut
import Derived.Test.YthofgjphoahkfaaNavRefSpot
import Derived.Test.YthofgjphoahkfaaNavSome
import Derived.Test.YthofgjphoahkfaaNavMake
import Derived.Test.YthofgjphoahkfaaNavBeside
import Derived.BigQuiet
import Derived.Deep.Cut
import Derived.ShutString
import Derived.ChangeOld
import Derived.Below
namespace Go.Proofs.Ythofgjphoahkfaa.navFree
open Go.ChangeShapes Go.WideShapes Go.ChangeAt Go.RowKit
open Go.ChangeMaps (open_string shut_string)
set_option linter.unusedVariables false

theorem own : ownKnob Try.prog.godebug = none := by kernel_rfl
theorem laidOut : laidOutB Try.prog = true := by kernel_rfl

/-- WHAT THE WALK IS TOLD OF A SLICE OF INTEGERS THAT CAME IN: it is nil; or it leads to a row of 'cap' cells, the numbers 'zs' (the first 'len' are its elements, the rest its spare room), each fitting its kind. -/
def IsRow (k : IntKind) (w : World) (a : Option Addr) (len cap : Nat) (zs : List Int) : Prop :=
  (a = none ∧ len = 0 ∧ cap = 0 ∧ zs = []) ∨
  ∃ x, a = some x ∧ len ≤ cap ∧ cap ≤ maxLen ∧ zs.length = cap ∧ (∀ i, i < zs.length → w.cell? (x.add i) = some (.int k (zs.getD i 0))) ∧ ∀ n ∈ zs, (Lit.int k n).wf = true

theorem IsRow.vec {k : IntKind} {w : World} {a : Option Addr} {len cap : Nat} {zs : List Int} (h : IsRow k w a len cap zs) : Vec w.heap.size w a len (fun i => .int k (zs[i]?.getD 0)) := by
  rcases h with ⟨rfl, rfl, rfl, rfl⟩ | ⟨x, rfl, hl, hm, hz, hcell, _⟩
  · exact ⟨Nat.zero_le _, .inl rfl⟩
  · refine ⟨Nat.le_trans hl hm, ?_⟩
    by_cases h0 : len = 0
    · exact .inl h0
    · right
      obtain ⟨b, off, spot⟩ := x
      have hc0 := hcell 0 (by omega)
      have hspot : spot = none := by simpa [Addr.add] using World.cell?_spot hc0
      subst hspot
      refine ⟨b, off, rfl, ?_, fun i hi => ?_⟩
      · have h := Go.block_lt_of_cell hc0
        simpa [Addr.add] using h
      · have h := hcell i (by omega)
        by_cases hi0 : i = 0
        · subst hi0
          simpa [Addr.add] using h
        · simpa [Addr.add, hi0] using h

theorem IsRow.long {w : World} {a : Option Addr} {len cap : Nat} {zs : List Int} (h : IsRow .i64 w a len cap zs) (i : Nat) : -9223372036854775808 ≤ zs[i]?.getD 0 ∧ zs[i]?.getD 0 ≤ 9223372036854775807 := by
  rcases h with ⟨_, _, _, rfl⟩ | ⟨_, _, _, _, _, _, hw⟩
  · simp
  · by_cases hi : i < zs.length
    · have h := hw zs[i] (List.getElem_mem hi)
      simp only [Lit.wf, Bool.and_eq_true, decide_eq_true_eq, show IntKind.i64.min = -9223372036854775808 from by decide, show IntKind.i64.max = 9223372036854775807 from by decide] at h
      rw [List.getElem?_eq_getElem hi]
      exact h
    · rw [List.getElem?_eq_none (by omega)]
      simp

theorem wf_bd {z : Int} (h : (Lit.int .i64 z).wf = true) : -9223372036854775808 ≤ z ∧ z ≤ 9223372036854775807 := by
  simpa only [Lit.wf, Bool.and_eq_true, decide_eq_true_eq, show IntKind.i64.min = -9223372036854775808 from by decide, show IntKind.i64.max = 9223372036854775807 from by decide] using h

theorem Nv.step_pos (F : Nat → Int) (st : Nat → Bool) (m : Nat) : Nv.step F st m = 0 ∨ ∃ k p : Nat, 1 ≤ k ∧ k ≤ 4 ∧ Nv.step F st m = (k : Int) ∧ 1 ≤ F m ∧ Nv.next m k = (p : Int) ∧ p < 384 ∧ F p = F m - 1 ∧ st p = false := by
  unfold Nv.step
  by_cases h : F m < 1
  · rw [if_pos h]; exact .inl rfl
  rw [if_neg h]
  have key : ∀ n i : Nat, Nv.wayFrom (Nv.may F st m) n i = 0 ∨ ∃ k : Nat, i ≤ k ∧ k < i + n ∧ Nv.wayFrom (Nv.may F st m) n i = (k : Int) ∧ Nv.may F st m k = true := by
    intro n
    induction n with
    | zero => intro i; exact .inl rfl
    | succ n ih =>
      intro i
      unfold Nv.wayFrom
      by_cases e : Nv.may F st m i = true
      · rw [if_pos e]; exact .inr ⟨i, by omega, by omega, rfl, e⟩
      · rw [if_neg e]
        rcases ih (i + 1) with h0 | ⟨k, h1, h2, h3⟩
        · exact .inl h0
        · exact .inr ⟨k, by omega, by omega, h3⟩
  rcases key 4 1 with h0 | ⟨k, h1, h2, h3, h4⟩
  · exact .inl h0
  · right
    rcases Nv.next_cases m k with e | ⟨p, hp, e⟩
    · rw [Nv.may_out e] at h4; cases h4
    · rw [Nv.may_in e] at h4
      simp only [Bool.and_eq_true, decide_eq_true_eq, Bool.not_eq_true'] at h4
      exact ⟨k, p, h1, by omega, h3, by omega, e, hp, h4.1, h4.2⟩

theorem Nv.reach_walk {f t : Nat → Int} {tlen blen : Nat} {g : Nat → Bool} {F : Nat → Int} (h : Gr.IsField (fun i => Gr.openB f blen g i = true) (Gr.tgt f t tlen) F) {p : Nat} (hp : p < 384) (h0 : 0 ≤ F p) : Gr.walkB (f p) = true := by
  by_cases e : F p = 0
  · exact ((h.zero p hp).1 e).1
  · have ho := (h.back p hp (by omega)).1
    by_cases hw : Gr.walkB (f p) = true
    · exact hw
    · rw [Bool.not_eq_true] at hw
      rw [Gr.open_no hw] at ho
      cases ho

set_option maxRecDepth 8000 in
set_option maxHeartbeats 8000000 in

theorem walk (a0 : Int) (a1 : Int) (a2 : Option Addr) (len2 cap2 : Nat) (z2 : List Int) (a3 : Int) (a4 : Int) (w : World) (w0 : (Lit.int .i64 a0).wf = true) (w1 : (Lit.int .i64 a1).wf = true) (w2 : IsRow .i64 w a2 len2 cap2 z2) (w3 : (Lit.int .i64 a3).wf = true) (w4 : (Lit.int .i64 a4).wf = true) :
    Calls Try.prog 5 #[.int .i64 a0, .int .i64 a1, .slice a2 len2 cap2, .int .i64 a3, .int .i64 a4] w fun e w' => e = .returned (.bool true) ∧ Below w.heap.size w w' := by
  have hV2 := hide w2.vec
  obtain ⟨fl, hfl⟩ : ∃ fl, fl = 1 + a1 % 3 := ⟨_, rfl⟩
  have hf1 : 1 ≤ fl := by omega
  have hf3 : fl ≤ 3 := by omega
  have cW := hide (fun wq => within_any a1 3 wq (by omega) (by omega))
  obtain ⟨M, hM⟩ : ∃ M : Nat, (M : Int) = a3 % 384 := ⟨(a3 % 384).toNat, by omega⟩
  obtain ⟨V, hV⟩ : ∃ V : Nat, (V : Int) = a4 % 384 := ⟨(a4 % 384).toNat, by omega⟩
  have hM4 : M < 384 := by omega
  have hV4 : V < 384 := by omega
  have cX := hide (fun wq => within_any a3 384 wq (by omega) (by omega))
  have cY := hide (fun wq => within_any a4 384 wq (by omega) (by omega))
  rw [← hM] at cX
  rw [← hV] at cY
  have hmod : a1 % 3 = fl - 1 := by omega
  rw [hmod] at cW
  clear hM hV hfl hmod w0 w1 w2 w3 w4
  go_enter Try.func5, Try.ntmps5
  go_wp2_with fail
  refine (known_any _).mono ?_
  rintro e wk ⟨rfl, hk⟩
  subst hk
  go_wp2_with fail
  refine (unhide cW _).mono ?_
  rintro e wx ⟨rfl, hx⟩
  subst hx
  have hsum : 1 + (fl - 1) = fl := by omega
  go_wp2_with fail
  refine (navMake_any a0 fl hf1 hf3 _).mono ?_
  rintro e wm ⟨cs, G, nE, nI, cE, cI, aE, aI, rfl, hfloor, hG, hA, hgm⟩
  have hA' := hide hA
  have hgm' := hide hgm
  have hfive : Hid (∀ i, 0 ≤ cs i ∧ cs i ≤ 255) := fun i => by have := hfloor.five i; omega
  clear hA hgm hfloor hsum
  have hfc := fun wq => field_cells (some ⟨G, 0, none⟩) aE aI 384 nE nI 384 cE cI wq
  go_wp2_with fail
  refine (some_any a2 len2 cap2 _ _ (((unhide hV2).kept (none_below (unhide hgm'))).mono (unhide hgm').size)).mono ?_
  rintro e ws ⟨g, E, rfl, hg, hO, hfit, hgs⟩
  have hgS := hide (grown_trans (unhide hgm') hgs)
  have hA2 := hide ((unhide hA').grown hgs (by simp))
  have hE2 := hide hO.ents
  have hfit2 := hide hfit
  clear hO hfit hgs hA' hgm' hfc
  go_wp2_with fail
  refine (unhide cX _).mono ?_
  rintro e wc ⟨rfl, hc⟩
  subst hc
  go_wp2_with fail
  refine (unhide cY _).mono ?_
  rintro e wc ⟨rfl, hc⟩
  subst hc
  go_wp2_with fail
  obtain ⟨w3, hw3⟩ : ∃ w3, w3 = wc.alloc (.cells #[.int .i64 (V : Int)] 3) := ⟨_, rfl⟩
  have hal : wc.grownBy w3 none := by rw [hw3]; exact World.grownBy_alloc _ _ _
  have hVr : Vec w3.heap.size w3 (some ⟨wc.heap.size, 0, none⟩) 1 (Ints fun _ => (V : Int)) := by rw [hw3]; exact Nv.one_row wc _ _
  rw [← hw3]
  have hA3 := (unhide hA2).grown hal (by simp)
  have hE3 := (unhide hE2).on hal
  refine (navToward_any (some ⟨G, 0, none⟩) (some ⟨g, 0, none⟩) (some ⟨wc.heap.size, 0, none⟩) 384 32 32 1 1 cs (fun _ => (V : Int)) E _ _ w3 (hA3.vec _ hA3.lt (by unfold maxLen; omega)) (unhide hfive) ⟨by omega, by omega, .inr ⟨g, rfl, hE3⟩⟩ (unhide hfit2).words hVr (fun _ => ⟨by omega, by omega⟩) (by omega) (by omega) (by omega) (by omega)).mono ?_
  rintro e w4 ⟨D, hD, rfl, hg4⟩
  have hgw := hide (grown_trans (unhide hgS) (grown_trans hal hg4))
  have hA4 := hide (hA3.grown hg4 (by simp))
  have hE4 := hide (hE3.on hg4)
  have hnum : Nv.num ((M : Int) % 24) ((M : Int) / 24) = (M : Int) := Nv.num_of hM4
  obtain ⟨F, hF, rfl⟩ := hD.at hnum
  clear hA3 hE3 hal hVr hw3 hg4 hA2 hE2 hgS hnum cX cY cW hV2
  have hF' := hide hF
  clear hF
  rcases Nv.step_pos F (Nv.st E 32) M with hz | ⟨k, p, k1, k4, hk, hF1, hnx, hp, hFp, hst⟩
  · rw [hz]
    clear hz
    go_wp2
    go_ret
    exact ⟨rfl, none_below (unhide hgw)⟩
  rw [hk]
  have hk0 : ((k : Int) == 0) = false := by rw [beq_eq_false_iff_ne]; omega
  have cw := hide (fun wq => refWay_any (k : Int) wq)
  have wb := Fx.way_bd (k : Int)
  obtain ⟨PX, hPX⟩ : ∃ PX : Nat, (M : Int) % 24 + (Fx.way (k : Int)).1 = (PX : Int) := ⟨p % 24, (Nv.num_at hnx).1⟩
  obtain ⟨PY, hPY⟩ : ∃ PY : Nat, (M : Int) / 24 + (Fx.way (k : Int)).2 = (PY : Int) := ⟨p / 24, (Nv.num_at hnx).2.1⟩
  have hpxy : p = PY * 24 + PX ∧ PX < 24 ∧ PY < 16 := by
    have h1 := (Nv.num_at hnx).1
    have h2 := (Nv.num_at hnx).2.1
    have h3 : ((M % 24 : Nat) : Int) = (M : Int) % 24 := by omega
    have h4 : ((M / 24 : Nat) : Int) = (M : Int) / 24 := by omega
    rw [h3, hPX] at h1
    rw [h4, hPY] at h2
    omega
  obtain ⟨hpxy, hPX24, hPY16⟩ := hpxy
  subst hpxy
  generalize (Fx.way (k : Int)).1 = dx at *
  generalize (Fx.way (k : Int)).2 = dy at *
  obtain ⟨d1, d2, d3, d4⟩ := wb
  have hFF := hide (And.intro hF1 hFp)
  have hst' := hide hst
  clear hnx hk hF1 hFp hst
  obtain ⟨i0, hi, hz0, hz1, hz2⟩ := info_parts info_bools
  obtain ⟨B, hB⟩ : ∃ B, B = w4.heap.size := ⟨_, rfl⟩
  have hB' := hide hB
  clear hB
  go_wp2_with fail
  refine (unhide cw _).mono ?_
  rintro e wc2 ⟨rfl, hc2⟩
  subst hc2
  go_wp2_with (at_make; refine wpList_make_full _ rfl _ _ 42 rfl B 4 i0 (.bool false) 1 Try.underlying42 hi hz0 hz1 .i64 .i64 _ _ 384 rfl rfl rfl rfl ?q3 ?q4 (Nat.le_of_eq (unhide hB')) ?_)
  case q3 => rw [hz2]; omega
  case q4 => unfold maxLen; omega
  intro w5 hown hgrow
  rw [← unhide hB'] at hown ⊢
  have hAb := hide (Arr.zero hown)
  have hB0 : Below B wc2 w5 := (Below.refl _ _).grown hgrow (Nat.le_of_eq (unhide hB')) (by intro k hk; cases hk)
  clear hown hgrow hi hz0 hz1 hz2
  go_wp2_with fail
  go_loopw [19] (fun i wr => ∃ j : Nat, j ≤ 32 ∧ i = .int .i64 (j : Int) ∧ Arr wr B 4 384 (Bols (Nv.blTo E M j)) ∧ Below B wc2 wr) (fun i _ => 40 - (intOf i).toNat)
  case atStart => exact ⟨0, Nat.zero_le _, rfl, unhide hAb, hB0⟩
  case round =>
    obtain ⟨j, hj, rfl, hA1, hB1⟩ := hrel
    have hAj := hide hA1
    have hBj := hide hB1
    clear hA1 hB1 hAb hB0
    by_cases hlt : j < 32
    · have hgr : wc2.grownBy wr none := below_grown (by rw [← unhide hB']; exact unhide hBj)
      obtain ⟨u0, _, _, u3, u4, _⟩ := ((unhide hE4).on hgr).row hlt
      obtain ⟨f1, f2, f3, f4⟩ := unhide hfit2 j hlt
      obtain ⟨X, hX⟩ : ∃ X : Nat, E j 3 = (X : Int) := ⟨(E j 3).toNat, by omega⟩
      obtain ⟨Y, hY⟩ : ∃ Y : Nat, E j 4 = (Y : Int) := ⟨(E j 4).toNat, by omega⟩
      have hn : Nv.num (E j 3) (E j 4) = ((Y * 24 + X : Nat) : Int) := by
        unfold Nv.num
        rw [if_pos (by rw [Gr.inB_iff]; omega), hX, hY]
        omega
      have hX24 : X < 24 := by omega
      have hY16 : Y < 16 := by omega
      rw [hX] at u3
      rw [hY] at u4
      have hlt' : (j : Int) < 32 := by omega
      have HL := hide hlt
      clear hgr f1 f2 f3 f4 hX hY
      have dA : Hid (∀ q, Arr (wr.drewN q) B 4 384 (Bols (Nv.blTo E M j))) := fun q => (unhide hAj).grown (grown_drew (World.grownBy.refl _ none) q) (by simp)
      have dB : Hid (∀ q, Below B wc2 (wr.drewN q)) := fun q => below_drewN (unhide hBj) q
      clear hlt
      go_wp2_with fail
      go_quiet (fail)
      have hA6 := hide (unhide dA nq)
      have hB6 := hide (unhide dB nq)
      have v0 : (wr.drewN nq).cell? ⟨g, j * 11, none⟩ = some (.int .i64 (E j 0)) := u0
      generalize wr.drewN nq = wd at hA6 hB6 v0 ⊢
      clear u0 u3 u4 dA dB hAj hBj
      by_cases h0 : E j 0 = 0
      · have h0' : (E j 0 != 0) = false := by simp [h0]
        have hs : Hid (∀ i, Nv.blTo E M j i = Nv.blTo E M (j + 1) i) := fun i => Nv.bl_same (fun h => h.1 h0) i
        clear h0 hn
        go_wp2
        go_roundw
        case rel => exact ⟨j + 1, by have := unhide HL; omega, by go_num, (unhide hA6).congr fun i _ => by show Value.bool _ = Value.bool _; rw [unhide hs i], unhide hB6⟩
        case measure => have := unhide HL; simp [intOf]; omega
      · have h0' : (E j 0 != 0) = true := by simp [h0]
        by_cases hM' : Y * 24 + X = M
        · have hs : Hid (∀ i, Nv.blTo E M j i = Nv.blTo E M (j + 1) i) := fun i => Nv.bl_same (fun h => h.2.2 (by rw [hn, hM'])) i
          have hne : (((Y : Int) * 24 + (X : Int)) != (M : Int)) = false := by rw [bne_eq_false_iff_eq]; omega
          clear h0 hn hM'
          go_wp2
          go_roundw
          case rel => exact ⟨j + 1, by have := unhide HL; omega, by go_num, (unhide hA6).congr fun i _ => by show Value.bool _ = Value.bool _; rw [unhide hs i], unhide hB6⟩
          case measure => have := unhide HL; simp [intOf]; omega
        · have hs : Hid (∀ i, (if i = Y * 24 + X then Value.bool true else .bool (Nv.blTo E M j i)) = .bool (Nv.blTo E M (j + 1) i)) := fun i => Nv.bl_more h0 hn hM' i
          have hne : (((Y : Int) * 24 + (X : Int)) != (M : Int)) = true := by rw [bne_iff_ne]; omega
          have hcc : wd.cell? ⟨B, Y * 24 + X, none⟩ = some (.bool (Nv.blTo E M j (Y * 24 + X))) := (unhide hA6).cell (by omega)
          have hff := (unhide hA6).free (Y * 24 + X)
          clear h0 hn hM'
          go_wp2
          go_roundw
          case rel => exact ⟨j + 1, by have := unhide HL; omega, by go_num, ((unhide hA6).store (Y * 24 + X) _).congr fun i _ => unhide hs i, (unhide hB6).setCell (Nat.le_refl _) _⟩
          case measure => have := unhide HL; simp [intOf]; omega
    · have hge : ¬ (j : Int) < 32 := by omega
      obtain rfl : j = 32 := by omega
      have hAf := (unhide hAj).congr (G := Bols (Nv.blk E 32 M)) fun i hi => by show Value.bool _ = Value.bool _; rw [Nv.blTo_all E 32 M i hi]
      have hAf' := hide hAf
      clear hj hlt hAf hAj
      go_wp2_with fail
      have hgr := below_grown (w := wc2) (w' := wr) (by rw [← unhide hB']; exact unhide hBj)
      obtain ⟨w6, hw6⟩ : ∃ w6, w6 = wr.alloc (.cells #[.int .i64 (V : Int)] 3) := ⟨_, rfl⟩
      have hal : wr.grownBy w6 none := by rw [hw6]; exact World.grownBy_alloc _ _ _
      have hVr : Vec w6.heap.size w6 (some ⟨wr.heap.size, 0, none⟩) 1 (Ints fun _ => (V : Int)) := by rw [hw6]; exact Nv.one_row wr _ _
      rw [← hw6]
      have hA6 := (unhide hA4).grown (grown_trans hgr hal) (by simp)
      have hE6 := (unhide hE4).on (grown_trans hgr hal)
      have hAb6 := (unhide hAf').grown hal (by simp)
      refine (refField_any (some ⟨G, 0, none⟩) (some ⟨B, 0, none⟩) (some ⟨wr.heap.size, 0, none⟩) 384 1 384 384 1 cs (fun _ => (V : Int)) (Nv.blk E 32 M) w6 (hA6.vec _ hA6.lt (by unfold maxLen; omega)) (unhide hfive) (hAb6.vec _ hAb6.lt (by unfold maxLen; omega)) hVr (fun _ => ⟨by omega, by omega⟩)).mono ?_
      rintro e w7 ⟨H, ⟨g7, rfl, hg7, hA7, hB7⟩, hH⟩
      have hg67 := below_grown hB7
      have hEe := hide (hE6.on hg67)
      have hfin := hide (grown_trans (unhide hgw) (grown_trans (grown_trans hgr hal) hg67))
      have hcp : w7.cell? ⟨G, PY * 24 + PX, none⟩ = some (.int .u8 (cs (PY * 24 + PX))) := (hA6.grown hg67 (by simp)).cell hp
      have hcb := unhide hfive (PY * 24 + PX)
      have hHp : w7.cell? ⟨g7, PY * 24 + PX, none⟩ = some (.int .i64 (H (PY * 24 + PX))) := hA7.cell hp
      have hHm : w7.cell? ⟨g7, M, none⟩ = some (.int .i64 (H M)) := hA7.cell hM4
      have e1 := (unhide hF').one hH M hM4
      have e2 := (unhide hF').one hH (PY * 24 + PX) hp
      have hFF2 := unhide hFF
      rw [e1, e2] at hFF2
      have hwalk : Gr.walkB (cs (PY * 24 + PX)) = true := Nv.reach_walk hH hp (by omega)
      have hhi : H M ≤ 400 := by have := fieldHigh hH (H M).toNat M hM4 (by omega); omega
      have hlo : 1 ≤ H M := hFF2.1
      have heq : (H (PY * 24 + PX) == H M - 1) = true := by rw [beq_iff_eq]; exact hFF2.2
      have hz : (PY : Int) * 24 + (M : Int) % 24 + dx = ((PY * 24 + PX : Nat) : Int) := by omega
      have cA : ∀ q, Calls Try.prog 20 #[.slice (some ⟨g, 0, none⟩) 32 32, .int .i64 (PX : Int), .int .i64 (PY : Int)] (w7.drewN q) fun e w' => e = .returned (.int .i64 (En.first (En.atQ E (PX : Int) (PY : Int)) 32)) ∧ w' = w7.drewN q := fun q => entRefAt_same g 32 32 E _ _ _ ((unhide hEe).on (grown_drew (World.grownBy.refl _ none) q))
      have cK : ∀ wq, Calls Try.prog 17 #[.int .i64 (cs (PY * 24 + PX))] wq fun e w' => e = .returned (.bool true) ∧ w' = wq := fun wq => by
        have h := refWalk_any (cs (PY * 24 + PX)) wq
        rwa [hwalk] at h
      have hr : En.first (En.atQ E (PX : Int) (PY : Int)) 32 < 0 := by
        have h := unhide hst'
        unfold Nv.st at h
        rw [show (PY * 24 + PX) % 24 = PX by omega, show (PY * 24 + PX) / 24 = PY by omega, decide_eq_false_iff_not] at h
        omega
      generalize En.first (En.atQ E (PX : Int) (PY : Int)) 32 = r at cA hr
      have hr' : decide (r < 0) = true := decide_eq_true hr
      have hk1 : decide ((k : Int) ≥ 1) = true := decide_eq_true (by omega)
      have hk4 : decide ((k : Int) ≤ 4) = true := decide_eq_true (by omega)
      have hdr : Hid (∀ q, Below wx.heap.size wx (w7.drewN q)) := fun q => none_below (grown_drew (unhide hfin) q)
      clear hA7 hB7 hH e1 e2 hFF2 hwalk hg67 hA6 hE6 hAb6 hal hVr hw6 hgr hg7
      go_wp2_with fail
      go_quiet (first | (go_at_call 20; exact Calls.quiet_of_same (cA _)) | (go_at_call 17; exact Calls.quiet_of_same (cK _)))
      go_wp2
      go_ret
      exact ⟨rfl, unhide hdr _⟩

set_option maxRecDepth 100000 in
theorem lifted (os : Os) (started : os.Started) (H : Type) (enc : TypeId × Value → H) :
    ReturnsInHanded {} Try.checked os 5 .any (Rows.navFreeSpec.pre6 enc Try.prog Try.f5 Rows.navFreeRow.domain false) (Rows.navFreeSpec.post enc Try.prog Try.f5 false true false false) := by
  refine returnsInHanded_of_change (C := Try.checked) own started (by kernel_rfl) Try.func5
    (ChangeSpec.witness6 (enc := enc) (C := Try.checked) false ⟨#[], #[.int .i64 0, .int .i64 0, .slice none 0 0, .int .i64 0, .int .i64 0], []⟩ 8 (by kernel_rfl) (by kernel_rfl) (by kernel_rfl) (by kernel_rfl)) ?_
  intro W base args ds gs before hval0 hW hcnd _
  have hval : ∀ (j : Nat) t v, Try.f5.params[j]? = some t → args[j]? = some v → Value.okWide Try.prog W .any base t v := hval0
  have hW' := hW
  obtain ⟨p, q, hA0, hV, rfl, hfz, hnd⟩ := hW
  have hA : DataW.TrodAll enc Try.prog W 0 (fun _ => true) true Try.f5.params.toList args.toList ds p := hA0
  rw [Try.params5] at hA hval
  obtain ⟨v0, vs0, d0, ds0, p0, q0, hargs, rfl, rfl, h0, r0⟩ := trodAll_cons hA
  obtain ⟨v1, vs1, d1, ds1, p1, q1, rfl, rfl, rfl, h1, r1⟩ := trodAll_cons r0
  obtain ⟨v2, vs2, d2, ds2, p2, q2, rfl, rfl, rfl, h2, r2⟩ := trodAll_cons r1
  obtain ⟨v3, vs3, d3, ds3, p3, q3, rfl, rfl, rfl, h3, r3⟩ := trodAll_cons r2
  obtain ⟨v4, vs4, d4, ds4, p4, q4, rfl, rfl, rfl, h4, r4⟩ := trodAll_cons r3
  obtain ⟨rfl, rfl, rfl⟩ := trodAll_nil r4
  obtain rfl : args = #[v0, v1, v2, v3, v4] := by cases args; simp_all
  obtain ⟨rfl, rfl⟩ := trodVars_none hV
  obtain ⟨a0, rfl, rfl, rfl, w0⟩ := open_int Try.underlying2 (hval 0 2 v0 rfl rfl) h0
  obtain ⟨a1, rfl, rfl, rfl, w1⟩ := open_int Try.underlying3 (hval 1 3 v1 rfl rfl) h1
  obtain ⟨a2, len2, cap2, rfl⟩ := okWide_slice Try.underlying22 (hval 2 22 v2 rfl rfl)
  have k2 := h2
  have lt2 : ∀ x ∈ p2, x.block < W.heap.size := by obtain ⟨m, hm⟩ := k2; exact DataW.trod_lt m _ _ _ hm
  obtain ⟨z2, w2⟩ : ∃ zs, IsRow .i64 W a2 len2 cap2 zs := by
    obtain ⟨fuel, hf⟩ := h2
    rcases open_ints Try.underlying22 Try.underlying3 (by kernel_rfl) hf with ⟨hcs, _⟩ | ⟨x, l, c, zs, hcs, _, hl, hm, hz, _, hcell, hwz⟩
    · simp [Value.cells] at hcs
      obtain ⟨rfl, rfl, rfl⟩ := hcs
      exact ⟨[], .inl ⟨rfl, rfl, rfl, rfl⟩⟩
    · simp [Value.cells] at hcs
      obtain ⟨rfl, rfl, rfl⟩ := hcs
      exact ⟨zs, .inr ⟨_, rfl, hl, hm, by simpa using hz, hcell, hwz⟩⟩
  obtain ⟨a3, rfl, rfl, rfl, w3⟩ := open_int Try.underlying3 (hval 3 3 v3 rfl rfl) h3
  obtain ⟨a4, rfl, rfl, rfl, w4⟩ := open_int Try.underlying3 (hval 4 3 v4 rfl rfl) h4
  clear hA0 hval0
  refine (walk a0 a1 a2 len2 cap2 z2 a3 a4 W w0 w1 w2 w3 w4).mono fun e W' ⟨he, bel⟩ => ?_
  subst he
  exact ⟨_, rfl, _, _, _, [], _, [], hW', trodAll_mk1 (shut_bool Try.underlying4 _), (trodAll_cons_mk (shut_int Try.underlying2 w0) (trodAll_cons_mk (shut_int Try.underlying3 w1) (trodAll_cons_mk (Below.trod laidOut (by kernel_rfl) (of_decide_eq_true (by kernel_rfl)) k2 bel lt2) (trodAll_cons_mk (shut_int Try.underlying3 w3) (trodAll_cons_mk (shut_int Try.underlying3 w4) trodAll_mk0))))), rfl, bel.frame _, fun h => by cases h⟩

theorem over : Rows.navFreeRow.holds Try.pinned (OpenSpec.ofChange Rows.navFreeSpec) :=
  OpenClaim.holds_of_wide 5 Try.f5 rfl rfl rfl rfl rfl rfl rfl ⟨rfl, rfl, rfl, rfl, rfl⟩ rfl rfl rfl rfl rfl (by kernel_rfl) Try.func5 (by kernel_rfl)
    (of_decide_eq_true (by kernel_rfl)) (by unfold Func.isWrapper; first | (rw [if_pos (by decide +kernel)]; kernel_rfl) | (rw [if_neg (by decide +kernel)]; exact ⟨rfl, rfl⟩))
    (fun os started H enc _ => lifted os started H enc)

theorem proved : Rows.NavFreeSaid := over
#print axioms proved
end Go.Proofs.Ythofgjphoahkfaa.navFree
