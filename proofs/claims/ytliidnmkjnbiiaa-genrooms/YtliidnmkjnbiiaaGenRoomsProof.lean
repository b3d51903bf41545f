/-
  For any seed and floor the law GenRooms answers true: a floor has six cells at least that can be walked on, and beside each of them is one more; no condition.
-/
import Derived.Test.YtliidnmkjnbiiaaRows
import Derived.WalkKit
import Derived.ProofKit
import Derived.OpenShut
import Derived.Test.YtliidnmkjnbiiaaGenNear
import Derived.Deep.LoopGhost
import Derived.Below
import Derived.ChangeOld
import Derived.ShutString
namespace Go.Proofs.Ytliidnmkjnbiiaa.genRooms
open Go.ChangeShapes Go.WideShapes Go.ChangeAt Go.RowKit
open Go.ChangeMaps (open_string shut_string)
set_option linter.unusedVariables false

theorem own : ownKnob Try.prog.godebug = none := by kernel_rfl

set_option maxRecDepth 8000 in
set_option maxHeartbeats 4000000 in

theorem walk (a0 : Int) (a1 : Int) (w0 : (Lit.int .i64 a0).wf = true) (w1 : (Lit.int .i64 a1).wf = true) (w : World) :
    Calls Try.prog 7 #[.int .i64 a0, .int .i64 a1] w fun e w' => e = .returned (.bool true) ∧ Below w.heap.size w w' := by
  clear w0 w1
  go_enter Try.func7, Try.ntmps7
  go_wp2_with fail
  refine (known_any _).mono ?_
  rintro e wk ⟨rfl, hgk⟩
  go_wp2_with fail
  refine (within_ex a1 3 _ (by omega) (by omega)).mono ?_
  rintro e w' ⟨m, rfl, hm1, hm2, hw⟩
  subst w'
  obtain ⟨f, hf⟩ : ∃ f, 1 + m = f := ⟨_, rfl⟩
  have hf1 : 1 ≤ f := by omega
  have hf3 : f ≤ 3 := by omega
  obtain ⟨d, hd, hF⟩ := dice_of a0 f
  have hmk := hide (fun w => make_any a0 f d hd hF hf1 hf3 w)
  have hF' := hide hF
  clear hd hF
  go_wp2_with fail
  refine (unhide hmk _).mono ?_
  rintro e wa ⟨c, F, G, nE, nI, cE, cI, aE, aI, hlev, rfl, hG, hA, -, -, -, -, hga⟩
  obtain ⟨far, hfx⟩ := hlev.facts (unhide hF')
  have hfx' := hide hfx
  have h5 := hide hlev.five
  have hGl := hA.lt
  obtain ⟨w2, hw2⟩ : ∃ w2, wa.alloc (.cells #[.slice (some ⟨G, 0, none⟩) 384 384, .slice aE nE cE, .slice aI nI cI] 27) = w2 := ⟨_, rfl⟩
  have hH2 : Hid (LevHold w wa.heap.size G nE nI cE cI aE aI c w2) := by
    rw [← hw2]
    exact ⟨Arr.lit (heap_alloc_new _ _), hA.alloc _, grown_alloc (grown_none hgk hga) _⟩
  have b0 := (unhide hH2).c0
  clear hlev hA hga hgk hmk hfx
  go_wp2_with fail
  clear b0 hw2
  go_loopw [7, 8] (fun vn vi wr => ∃ k : Nat, k ≤ 384 ∧ vi = .int .i64 (k : Int) ∧ vn = .int .i64 ((Gn.nzs c k : Nat) : Int) ∧ LevHold w wa.heap.size G nE nI cE cI aE aI c wr) (fun _ vi _ => 400 - (intOf vi).toNat)
  case atStart => exact ⟨0, by omega, rfl, rfl, unhide hH2⟩
  case round =>
    clear hH2
    obtain ⟨k, hk, rfl, rfl, hH⟩ := hrel
    have hH1 := hide hH
    have b0 := hH.c0
    clear hH
    have hnl := Gn.nzs_le c k
    by_cases hlt : k < 384
    · have hlt' : (k : Int) < 384 := by omega
      have q1 : wr.cell? ⟨G, k, none⟩ = some (.int .u8 (c k)) := (unhide hH1).cells.cell hlt
      have HL := hide hlt
      clear hlt hk
      by_cases hz : c k = 0
      · have hz' : (c k == 0) = true := by simpa using hz
        have hs : Hid (Gn.nzs c (k + 1) = Gn.nzs c k) := by show Gn.nzs c (k + 1) = _; rw [Gn.nzs, if_pos hz]; rfl
        clear hz
        go_wp2
        go_roundw
        case rel => exact ⟨k + 1, by have := unhide HL; omega, by go_num, by rw [unhide hs], unhide hH1⟩
        case measure => simp [intOf]; omega
      · have hz' : (c k == 0) = false := by simpa using hz
        have hs : Hid (Gn.nzs c (k + 1) = Gn.nzs c k + 1) := by show Gn.nzs c (k + 1) = _; rw [Gn.nzs, if_neg hz]
        have HZ := hide hz
        clear hz
        go_wp2_with fail
        go_loopw [9, 10] (fun vb vq wr2 => ∃ q b : Nat, q ≤ 4 ∧ b ≤ q ∧ vq = .int .i64 (q : Int) ∧ vb = .int .i64 (b : Int) ∧ (b = 0 → ∀ e n : Nat, e < q → (k : Int) + Gn.off e = (n : Int) → c n = 0) ∧ LevHold w wa.heap.size G nE nI cE cI aE aI c wr2) (fun _ vq _ => 10 - (intOf vq).toNat)
        case atStart => exact ⟨0, 0, by omega, by omega, rfl, rfl, fun _ e n he => by omega, unhide hH1⟩
        case round =>
          clear hH1 b0 q1
          obtain ⟨q, b, hq, hb, rfl, rfl, hno, hH⟩ := hrel
          have hno' := hide hno
          have hH1 := hide hH
          have b0 := hH.c0
          clear hno hH
          by_cases hq4 : q < 4
          · obtain ⟨n, hn, hn3⟩ := (unhide hfx').inner (unhide hF') k (unhide HL) (unhide HZ) q hq4
            have hn' := hide hn
            have q2 : wr.cell? ⟨G, n, none⟩ = some (.int .u8 (c n)) := (unhide hH1).cells.cell hn3
            have hblt := (unhide hH1).box.lt
            have hglt := (unhide hH1).cells.lt
            have hn3' : (n : Int) < 384 := by omega
            by_cases hcn : c n = 0
            · have hcn' : (c n != 0) = false := by simpa using hcn
              have hnx : Hid (b = 0 → ∀ e n : Nat, e < q + 1 → (k : Int) + Gn.off e = (n : Int) → c n = 0) := by
                intro h0 e n2 he hen
                by_cases heq : e = q
                · subst heq
                  have : n2 = n := by have := unhide hn'; omega
                  rw [this]; exact hcn
                · exact unhide hno' h0 e n2 (by omega) hen
              clear hcn
              rcases (show q = 0 ∨ q = 1 ∨ q = 2 ∨ q = 3 by omega) with rfl | rfl | rfl | rfl
              all_goals
                simp only [Gn.off] at hn
                have hwr : IntKind.i64.wrap (n : Int) = (n : Int) := by rw [IntKind.wrap_i64]; omega
                go_wp2_with fail
                go_region
                all_goals go_wp2
                all_goals go_roundw
                case rel => first | exact ⟨1, b, by omega, by omega, by go_num, rfl, unhide hnx, (unhide hH1).on (grown_drew1 (World.grownBy_alloc _ _ _))⟩ | exact ⟨2, b, by omega, by omega, by go_num, rfl, unhide hnx, (unhide hH1).on (grown_drew1 (World.grownBy_alloc _ _ _))⟩ | exact ⟨3, b, by omega, by omega, by go_num, rfl, unhide hnx, (unhide hH1).on (grown_drew1 (World.grownBy_alloc _ _ _))⟩ | exact ⟨4, b, by omega, by omega, by go_num, rfl, unhide hnx, (unhide hH1).on (grown_drew1 (World.grownBy_alloc _ _ _))⟩
                case measure => simp [intOf]
            · have hcn' : (c n != 0) = true := by simpa using hcn
              clear hcn
              rcases (show q = 0 ∨ q = 1 ∨ q = 2 ∨ q = 3 by omega) with rfl | rfl | rfl | rfl
              all_goals
                simp only [Gn.off] at hn
                have hwr : IntKind.i64.wrap (n : Int) = (n : Int) := by rw [IntKind.wrap_i64]; omega
                go_wp2_with fail
                go_region
                all_goals go_wp2
                all_goals go_roundw
                case rel => first | exact ⟨1, b + 1, by omega, by omega, by go_num, by go_num, fun h0 => by omega, (unhide hH1).on (grown_drew1 (World.grownBy_alloc _ _ _))⟩ | exact ⟨2, b + 1, by omega, by omega, by go_num, by go_num, fun h0 => by omega, (unhide hH1).on (grown_drew1 (World.grownBy_alloc _ _ _))⟩ | exact ⟨3, b + 1, by omega, by omega, by go_num, by go_num, fun h0 => by omega, (unhide hH1).on (grown_drew1 (World.grownBy_alloc _ _ _))⟩ | exact ⟨4, b + 1, by omega, by omega, by go_num, by go_num, fun h0 => by omega, (unhide hH1).on (grown_drew1 (World.grownBy_alloc _ _ _))⟩
                case measure => simp [intOf]
          · have hge : ¬ (q : Int) < 4 := by omega
            have hq4' : q = 4 := by omega
            have hb0 : b ≠ 0 := by
              intro h0
              obtain ⟨e, n, he, hen, hcn⟩ := (unhide hfx').beside (unhide hF') k (unhide HL) (unhide HZ)
              exact hcn (unhide hno' h0 e n (by omega) hen)
            have hb0' : ((b : Int) == 0) = false := by rw [beq_eq_false_iff_ne]; omega
            clear hq4' hb0
            go_wp2
            go_roundw
            case rel => exact ⟨k + 1, by have := unhide HL; omega, by go_num, by rw [unhide hs]; go_num, unhide hH1⟩
            case measure => simp [intOf]; omega
    · have hge : ¬ (k : Int) < 384 := by omega
      obtain rfl : k = 384 := by omega
      have h6 := (unhide hfx').six (unhide hF')
      have h6' : (6 : Int) ≤ ((Gn.nzs c 384 : Nat) : Int) := by omega
      clear hlt hk h6
      go_wp2
      go_ret
      exact ⟨rfl, grown_belowAll (unhide hH1).grown⟩

set_option maxRecDepth 100000 in
theorem lifted (os : Os) (started : os.Started) (H : Type) (enc : TypeId × Value → H) :
    ReturnsInHanded {} Try.checked os 7 .any (Rows.genRoomsSpec.pre6 enc Try.prog Try.f7 Rows.genRoomsRow.domain false) (Rows.genRoomsSpec.post enc Try.prog Try.f7 false true false false) := by
  refine returnsInHanded_of_change (C := Try.checked) own started (by kernel_rfl) Try.func7
    (ChangeSpec.witness6 (enc := enc) (C := Try.checked) false ⟨#[], #[.int .i64 0, .int .i64 0], []⟩ 8 (by kernel_rfl) (by kernel_rfl) (by kernel_rfl) (by kernel_rfl)) ?_
  intro W base args ds gs before hval0 hW hcnd _
  have hval : ∀ (j : Nat) t v, Try.f7.params[j]? = some t → args[j]? = some v → Value.okWide Try.prog W .any base t v := hval0
  have hW' := hW
  obtain ⟨p, q, hA0, hV, rfl, hfz, hnd⟩ := hW
  have hA : DataW.TrodAll enc Try.prog W 0 (fun _ => true) true Try.f7.params.toList args.toList ds p := hA0
  rw [Try.params7] at hA hval
  obtain ⟨v0, vs0, d0, ds0, p0, q0, hargs, rfl, rfl, h0, r0⟩ := trodAll_cons hA
  obtain ⟨v1, vs1, d1, ds1, p1, q1, rfl, rfl, rfl, h1, r1⟩ := trodAll_cons r0
  obtain ⟨rfl, rfl, rfl⟩ := trodAll_nil r1
  obtain rfl : args = #[v0, v1] := by cases args; simp_all
  obtain ⟨rfl, rfl⟩ := trodVars_none hV
  obtain ⟨a0, rfl, rfl, rfl, w0⟩ := open_int Try.underlying2 (hval 0 2 v0 rfl rfl) h0
  obtain ⟨a1, rfl, rfl, rfl, w1⟩ := open_int Try.underlying3 (hval 1 3 v1 rfl rfl) h1
  clear hA0 hval0
  refine (walk a0 a1 w0 w1 W).mono fun e W' ⟨he, hg⟩ => ?_
  subst he
  exact ⟨_, rfl, _, _, _, [], _, [], hW', trodAll_mk1 (shut_bool Try.underlying4 _), (trodAll_cons_mk (shut_int Try.underlying2 w0) (trodAll_cons_mk (shut_int Try.underlying3 w1) trodAll_mk0)), rfl, hg.frame _, fun h => by cases h⟩

theorem over : Rows.genRoomsRow.holds Try.pinned (OpenSpec.ofChange Rows.genRoomsSpec) :=
  OpenClaim.holds_of_wide 7 Try.f7 rfl rfl rfl rfl rfl rfl rfl ⟨rfl, rfl, rfl, rfl, rfl⟩ rfl rfl rfl rfl rfl (by kernel_rfl) Try.func7 (by kernel_rfl)
    (of_decide_eq_true (by kernel_rfl)) (by unfold Func.isWrapper; first | (rw [if_pos (by decide +kernel)]; kernel_rfl) | (rw [if_neg (by decide +kernel)]; exact ⟨rfl, rfl⟩))
    (fun os started H enc _ => lifted os started H enc)

theorem proved : Rows.GenRoomsSaid :=
  over
#print axioms proved
end Go.Proofs.Ytliidnmkjnbiiaa.genRooms
