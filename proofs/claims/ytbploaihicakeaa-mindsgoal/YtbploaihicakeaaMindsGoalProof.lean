/-
  A robot alone, with nothing in its way and nothing to take, goes to the down stair in as many steps as the field says, each one nearer, and descends there: for every seed, floor and place, at this commit; no condition.
-/
import Derived.Test.YtbploaihicakeaaRows
import Derived.WalkKit
import Derived.ProofKit
import Derived.OpenShut
import Derived.Test.YtbploaihicakeaaPart40
import Derived.Test.YtbploaihicakeaaPart42
import Derived.Test.YtbploaihicakeaaPart33
import Derived.Test.YtbploaihicakeaaPart24
import Derived.Test.YtbploaihicakeaaPart05
import Derived.Test.YtbploaihicakeaaPart29
import Derived.BigQuiet
import Derived.BigRegion
import Derived.Deep.Cut
import Derived.Deep.CutRange
import Derived.Deep.CutBlock
import Derived.Deep.RegionHeld3
import Derived.Below
import Derived.ChangeOld
import Derived.ShutString
namespace Go.Proofs.Ytbploaihicakeaa.mindsGoal
open Go.ChangeShapes Go.WideShapes Go.ChangeAt Go.RowKit
open Go.ChangeMaps (open_string shut_string)
set_option linter.unusedVariables false

theorem own : ownKnob Try.prog.godebug = none := by kernel_rfl

set_option maxRecDepth 8000 in
set_option maxHeartbeats 12800000 in

theorem walk (a0 : Int) (a1 : Int) (a2 : Int) (w0 : (Lit.int .i64 a0).wf = true) (w1 : (Lit.int .i64 a1).wf = true) (w2 : (Lit.int .i64 a2).wf = true) (w : World) :
    Calls Try.prog 6 #[.int .i64 a0, .int .i64 a1, .int .i64 a2] w fun e w' => e = .returned (.bool true) ∧ Below w.heap.size w w' := by
  have cW := hide (fun wq => within9_any a2 1000 wq (by omega) (by omega))
  obtain ⟨q, hq⟩ : ∃ q, a2 % 1000 = q := ⟨_, rfl⟩
  have q0 : 0 ≤ q := by omega
  have q9 : q < 1000 := by omega
  rw [hq] at cW
  clear w0 w1 w2 hq
  go_enter Try.func6, Try.ntmps6
  go_wp2_with fail
  refine (known9_any _).mono ?_
  rintro e wk ⟨rfl, hgk⟩
  have hgk' := hide hgk
  clear hgk
  go_wp2_with fail
  refine (unhide cW _).mono ?_
  rintro e wy ⟨rfl, hy⟩
  subst wy
  have ww := hide (world_wide a0 a1 1 (1 + 3 * q) 0 (by omega) (by omega) wk)
  have hr32 : ((1 + 3 * q) % 32).toNat < 32 := by omega
  clear cW
  go_wp2_with fail
  refine (unhide ww).mono ?_
  rintro e wa ⟨c, kc, s, g, E0, hSit, hFl, hE0, hWd, gC, gE, gI, cC, cE, cI, rfl, hcap, l1, l2, l3, n1, n2, n3, hL, hg⟩
  obtain ⟨r, hr⟩ : ∃ r, ((1 + 3 * q) % 32).toNat = r := ⟨_, rfl⟩
  rw [hr] at hr32 hE0
  have hW := hide (Gd.law_new (s := s) (g := g) (cC := cC) (cI := cI) (unhide hgk') hcap l1 l2 l3 n1 n2 n3 hL hg)
  have hLone : Hid (Md.Lone E0 r 1 kc) := by rw [hE0]; exact Md.lone_folk hr32 hSit.kc4
  have hFl' := hide hFl
  have hcw : Hid (384 ≤ cC) := hWd.cap
  have hc1 := hide hcap
  have hkw := hide hSit.walk
  have hc8 : Hid (∀ i, 0 ≤ c i ∧ c i ≤ 255) := fun i => ⟨(hFl.five i).1, by have := (hFl.five i).2; omega⟩
  obtain ⟨D, hD4, hDf, hcD, hDo⟩ := Md.stair hFl
  have hD := hide (And.intro hD4 (And.intro hcD hDo))
  have hDf' := hide hDf
  clear hcap l1 l2 l3 n1 n2 n3 hL hg hSit hFl hE0 hWd hr hgk' ww hD4 hDf hcD hDo q0 q9
  unfold Gd.world at hW ⊢
  go_upto_region 4 with fail
  obtain ⟨T, hT⟩ : ∃ T, wa.heap.size = T := ⟨_, rfl⟩
  rw [hT] at hW ⊢
  generalize wa.alloc (.cells #[.int .i64 (s 0), .int .i64 (s 1), .int .i64 (s 2), .int .i64 (s 3), .slice (some ⟨gC, 0, none⟩) 384 cC, .slice (some ⟨gE, 0, none⟩) 32 cE, .slice (some ⟨gI, 0, none⟩) 40 cI, .int .i64 (g 0), .int .i64 (g 1), .int .i64 (g 2), .int .i64 (g 3)] 29) = wb at hW ⊢
  clear hT
  have b5 := (unhide hW).eleven.2.2.2.2.2.1
  have ch := hide (refHero7_any gE cE E0 1 wb (unhide hW).hold.lists.own)
  rw [(unhide hLone).hero] at ch
  go_wp2_with fail
  refine (unhide ch).mono ?_
  rintro e w1 ⟨rfl, hg⟩
  have hW1 := hide ((unhide hW).on hg)
  clear hg ch b5 hW
  have b5 := (unhide hW1).eleven.2.2.2.2.2.1
  have fE := (unhide hW1).hold.lists.ents.free
  have r5 := ((unhide hW1).hold.lists.own.ents.row hr32).2.2.2.2.2.1
  have hr' : (r : Int) < 32 := by omega
  have hW2 := hide ((unhide hW1).stat r 5 (by omega) 20)
  have hLone2 := hide ((unhide hLone).heal 20)
  have hHP : Hid (Gd.set E0 r 5 20 r 5 = 20) := Md.set_at _ _ _ _
  go_upto_region 6 with fail
  generalize w1.setCell ⟨gE, r * 11 + 5, none⟩ (.int .i64 20) = w2 at hW2 ⊢
  clear b5 fE r5 hW1 hLone
  obtain ⟨E, hEe⟩ : ∃ E, Gd.set E0 r 5 20 = E := ⟨_, rfl⟩
  rw [hEe] at hW2 hLone2 hHP
  clear hEe
  have cF := hide (fun z (hz : w2.grownBy z none) => refFind_any z.heap.size (some ⟨gC, 0, none⟩) 384 cC c 4 z ((unhide hW2).hold.lists.on hz).vec (unhide hc8))
  rw [unhide hDf'] at cF
  have hgz := hide (grown_drew1 (World.grownBy_alloc w2 (.cells #[.int .i64 (D : Int)] 3) none))
  have cf : Hid (∀ b, b = w2.heap.size → Calls Try.prog 27 #[.slice (some ⟨gC, 0, none⟩) 384 cC, .slice none 0 0, .slice (some ⟨b, 0, none⟩) 1 1] (w2.alloc (.cells #[.int .i64 (D : Int)] 3)).drew (IsFieldOf (w2.alloc (.cells #[.int .i64 (D : Int)] 3)).drew (fun i => Gr.openB c 0 (fun _ => false) i = true) (Gr.tgt c (fun _ => (D : Int)) 1))) := fun b hb => by
    subst hb
    have hL := (unhide hW2).hold.lists.on (unhide hgz)
    have h4 := (unhide hD).1
    exact refField_any (some ⟨gC, 0, none⟩) none (some ⟨w2.heap.size, 0, none⟩) 0 1 cC 0 1 c (fun _ => (D : Int)) (fun _ => false) _ hL.vec (unhide hc8) ⟨by unfold maxLen; omega, .inl rfl⟩ (Nv.one_row w2 (D : Int) 3) (fun _ => ⟨by omega, by omega⟩)
  have hdr := hide (grown_drew1 (World.grownBy.refl w2 none))
  have hkeep : Hid (∀ z, w2.grownBy z none → z.cell? ⟨T, 4, none⟩ = some (.slice (some ⟨gC, 0, none⟩) 384 cC)) := fun z hz => ((unhide hW2).on hz).eleven.2.2.2.2.1
  have hS0 := unhide hkeep w2 (World.grownBy.refl _ none)
  go_region_held3 (fun z => z.cell? ⟨T, 4, none⟩ = some (.slice (some ⟨gC, 0, none⟩) 384 cC)) (go_keep) (first
    | (go_at_call 30; refine (unhide cF _ (unhide hdr)).mono ?_; rintro e wy ⟨rfl, hy⟩; subst wy)
    | (go_at_call 27; refine (unhide cf _ rfl).mono ?_; rintro e w3 ⟨F, ⟨gF, rfl, hgF, hAF, hB3⟩, hFd⟩; have hg3 := hide (grown_trans (unhide hgz) (below_grown hB3)); have hA3 := hide hAF; have hgF' := hide hgF; have hFd' := hide hFd; have hS1 := unhide hkeep _ (unhide hg3); clear hgF hAF hB3 hFd))
  have hW3 := hide ((unhide hW2).on (unhide hg3))
  have hne : Hid (gE ≠ gF) := (show gE ≠ gF by have h1 := ((unhide hW2).on (unhide hgz)).hold.lists.ents.lt; have h2 := unhide hgF'; omega)
  clear hS0 hS1 hkeep hdr cF cf hgz hg3 hgF' hW2
  have h0 : 0 ≤ F kc := Nv.Floor.all (unhide hFl') (unhide hD).1 (by rw [(unhide hD).2.1]; omega) (unhide hFd') kc (unhide hLone2).m4 ((Gn.walk_nz ((unhide hFl').five kc)).1 (unhide hkw))
  have hhi := Md.field_high (unhide hFd') (unhide hLone2).m4
  obtain ⟨NN, hNN⟩ : ∃ NN : Nat, F kc = (NN : Int) := ⟨(F kc).toNat, by omega⟩
  have hN4 : NN ≤ 400 := by omega
  have hNN' := hide hNN
  have b5 := (unhide hW3).eleven.2.2.2.2.2.1
  obtain ⟨-, -, -, u3, u4, -, -, -, -, -, -⟩ := (unhide hW3).hold.lists.own.ents.row hr32
  rw [(unhide hLone2).x] at u3
  rw [(unhide hLone2).y] at u4
  have hk4 := (unhide hLone2).m4
  have uF : w3.cell? ⟨gF, kc, none⟩ = some (.int .i64 (NN : Int)) := by rw [← hNN]; exact (unhide hA3).cell hk4
  obtain ⟨x, hx⟩ : ∃ x, (kc : Int) % 24 = x := ⟨_, rfl⟩
  obtain ⟨y, hy⟩ : ∃ y, (kc : Int) / 24 = y := ⟨_, rfl⟩
  rw [hx] at u3
  rw [hy] at u4
  have m1 : IntKind.i64.wrap (y * 24) = y * 24 := by rw [IntKind.wrap_i64]; omega
  have m2 : IntKind.i64.wrap (y * 24 + x) = (kc : Int) := by rw [IntKind.wrap_i64]; omega
  have m3 : (kc : Int) < 384 := by omega
  clear hx hy h0 hhi hNN hk4
  go_upto_region 7 with fail
  go_cut [10] from 32 (fun va wx => va = .int .i64 (NN : Int) ∧ Hid (Gd.Law w wx T gC gE gI cC cE cI s g c E (fun _ _ => 0)) ∧ Hid (Arr wx gF 3 384 (Ints F)))
  case first =>
    go_quiet (fail)
    go_wp2_with fail
    go_meet
    exact ⟨rfl, (unhide hW3).on (grown_drew (World.grownBy.refl _ none) _), (unhide hA3).grown (grown_drew (World.grownBy.refl _ none) _) (by simp)⟩
  case rest =>
    clear hW3 hA3 b5 u3 u4 uF m1 m2 m3
    obtain ⟨rfl, hW, hA⟩ := hcut
    have cR : Hid (∀ (E : Nat → Nat → Int) (m : Nat) (z : World), Md.Lone E r 1 m → Gd.Lists z gC gE gI c E (fun _ _ => 0) → Calls Try.prog 13 #[.agg (Gd.world s gC gE gI cC cE cI g), .int .i64 1] z (Md.Says z (Md.IsRobot c E (fun _ _ => 0) 1))) := fun E m z hl hz => mindsRobot_any s g c E (fun _ _ => 0) gC gE gI cC cE cI 1 z hz (unhide hc8) (unhide hc1) (unhide hcw) (hl.good (Md.ok_none c))
    unfold Gd.world at cR
    clear hc1 hcw hkw hFl'
    go_wp2_with fail
    go_loopw [11, 12, 13, 14] (fun v11 _ _ _ wr => ∃ (k m : Nat) (E : Nat → Nat → Int), k ≤ NN ∧ v11 = .int .i64 (k : Int) ∧ Hid (Md.Lone E r 1 m) ∧ Hid (E r 5 = 20) ∧ Hid (F m = (NN : Int) - (k : Int)) ∧ Hid (Gd.Law w wr T gC gE gI cC cE cI s g c E (fun _ _ => 0)) ∧ Hid (Arr wr gF 3 384 (Ints F))) (fun v11 _ _ _ _ => 500 - (intOf v11).toNat)
    case atStart => exact ⟨0, kc, E, by omega, rfl, hLone2, hHP, (show F kc = (NN : Int) - ((0 : Nat) : Int) by rw [unhide hNN']; omega), hW, hA⟩
    case round =>
      clear hW hA hLone2 hHP hNN'
      obtain ⟨k, m, E, hk, rfl, hLn, hHp, hFm, hW, hA⟩ := hrel
      obtain ⟨b0, b1, b2, b3, b4, b5, b6, b7, b8, b9, b10⟩ := (unhide hW).eleven
      have cRk := hide (unhide cR E m wr (unhide hLn) (unhide hW).hold.lists)
      by_cases hlt : k < NN
      · have hlt' : (k : Int) < (NN : Int) := by omega
        have HL := hide hlt
        clear hlt hk
        go_wp2_with fail
        refine (unhide cRk).mono ?_
        rintro e w5 ⟨v, hv, rfl, hg⟩
        obtain ⟨d, p, d1, d4, rfl, hp, ex, ey, hFp⟩ := (unhide hLn).goes (by have := unhide hHp; omega) hv (unhide hD).1 (unhide hDf') (unhide hD).2.1 (unhide hD).2.2 (unhide hFd') (by have := unhide hFm; have := unhide HL; omega)
        have hW5 := hide ((unhide hW).on hg)
        have hA5 := hide ((unhide hA).grown hg (by simp))
        have HP := hide hp
        have hFp' : Hid (F p = (NN : Int) - (k : Int) - 1) := (show F p = (NN : Int) - (k : Int) - 1 by rw [hFp, unhide hFm])
        have wb := Fx.way_bd (d : Int)
        have cw := hide (fun wq => refWay_any (d : Int) wq)
        have hmv : Hid (Md.Lone (Gd.set (Gd.set E r 3 ((m : Int) % 24 + (Fx.way (d : Int)).1)) r 4 ((m : Int) / 24 + (Fx.way (d : Int)).2)) r 1 p ∧ Gd.set (Gd.set E r 3 ((m : Int) % 24 + (Fx.way (d : Int)).1)) r 4 ((m : Int) / 24 + (Fx.way (d : Int)).2) r 5 = E r 5) := (unhide hLn).move hp ex ey
        obtain ⟨-, -, -, u3, u4, -, -, -, -, -, -⟩ := (unhide hW5).hold.lists.own.ents.row hr32
        rw [(unhide hLn).x] at u3
        rw [(unhide hLn).y] at u4
        have hm4 := (unhide hLn).m4
        have hb : (0 ≤ (m : Int) % 24 ∧ (m : Int) % 24 < 24) ∧ 0 ≤ (m : Int) / 24 ∧ (m : Int) / 24 < 16 := by omega
        obtain ⟨dx, hdx⟩ : ∃ dx, (Fx.way (d : Int)).1 = dx := ⟨_, rfl⟩
        obtain ⟨dy, hdy⟩ : ∃ dy, (Fx.way (d : Int)).2 = dy := ⟨_, rfl⟩
        obtain ⟨x, hx⟩ : ∃ x, (m : Int) % 24 = x := ⟨_, rfl⟩
        obtain ⟨y, hy⟩ : ∃ y, (m : Int) / 24 = y := ⟨_, rfl⟩
        rw [hdx] at cw hmv wb ex
        rw [hdy] at cw hmv wb ey
        rw [hx] at u3 hmv ex hb
        rw [hy] at u4 hmv ey hb
        have s1 : IntKind.i64.wrap (x + dx) = x + dx := by rw [IntKind.wrap_i64]; omega
        have s2 : IntKind.i64.wrap (y + dy) = y + dy := by rw [IntKind.wrap_i64]; omega
        have exy := hide (And.intro ex ey)
        have hd1 : ¬ (d : Int) < 1 := by omega
        have hd4 : ¬ (d : Int) > 4 := by omega
        clear b0 b1 b2 b3 b4 b5 b6 b7 b8 b9 b10 hv hg cRk hW hA hp hFp ex ey wb hm4 hb hdx hdy hx hy d1 d4
        have b5 := (unhide hW5).eleven.2.2.2.2.2.1
        have fE := (unhide hW5).hold.lists.ents.free
        go_wp2_with fail
        refine (unhide cw _).mono ?_
        rintro e wy ⟨rfl, hy⟩
        subst wy
        clear cw
        go_upto_region 15 with fail
        go_cut [] from 56 to 121 (fun wx => Hid (Gd.Law w wx T gC gE gI cC cE cI s g c (Gd.set (Gd.set E r 3 (x + dx)) r 4 (y + dy)) (fun _ _ => 0)) ∧ Hid (Arr wx gF 3 384 (Ints F)))
        case first =>
          have hTE : T ≠ gE := (unhide hW5).hold.bE
          have hET : gE ≠ T := hTE.symm
          go_region
          all_goals (go_wp2_with fail; go_meet)
          exact ⟨(((unhide hW5).stat r 3 (by omega) (x + dx)).stat r 4 (by omega) (y + dy)).on (grown_drew1 (World.grownBy.refl _ none)), ((unhide hA5).grown (grown_set (grown_set (World.grownBy.refl w5 (some gE)) _ _) _ _) (by simpa using unhide hne)).grown (grown_drew1 (World.grownBy.refl _ none)) (by simp)⟩
        case rest =>
          obtain ⟨hW6, hA6⟩ := hcut
          clear hW5 hA5 b5 fE u3 u4 s1 s2
          obtain ⟨X, hX⟩ : ∃ X, x + dx = X := ⟨_, rfl⟩
          obtain ⟨Y, hY⟩ : ∃ Y, y + dy = Y := ⟨_, rfl⟩
          rw [hX, hY] at hW6 hmv exy
          clear hX hY
          obtain ⟨E2, hE2⟩ : ∃ E2, Gd.set (Gd.set E r 3 X) r 4 Y = E2 := ⟨_, rfl⟩
          rw [hE2] at hW6 hmv
          clear hE2
          have b5 := (unhide hW6).eleven.2.2.2.2.2.1
          obtain ⟨-, -, -, u3, u4, -, -, -, -, -, -⟩ := (unhide hW6).hold.lists.own.ents.row hr32
          rw [(unhide hmv).1.x, ← (unhide exy).1] at u3
          rw [(unhide hmv).1.y, ← (unhide exy).2] at u4
          have uF : wc.cell? ⟨gF, p, none⟩ = some (.int .i64 ((NN : Int) - (k : Int) - 1)) := by rw [← unhide hFp']; exact (unhide hA6).cell (unhide HP)
          have m1 : IntKind.i64.wrap (Y * 24) = Y * 24 := by have h1 := unhide exy; have h2 := unhide HP; rw [IntKind.wrap_i64]; omega
          have m2 : IntKind.i64.wrap (Y * 24 + X) = (p : Int) := by have h1 := unhide exy; have h2 := unhide HP; rw [IntKind.wrap_i64]; omega
          have m3 : (p : Int) < 384 := by have := unhide HP; omega
          have hL2 : Hid (Md.Lone E2 r 1 p) := (unhide hmv).1
          have hP2 : Hid (E2 r 5 = 20) := (unhide hmv).2.trans (unhide hHp)
          have hF2 : Hid (F p = (NN : Int) - ((k + 1 : Nat) : Int)) := (show F p = (NN : Int) - ((k + 1 : Nat) : Int) by rw [unhide hFp']; omega)
          clear hmv exy hLn hHp hFm hFp'
          go_upto_region 16 with fail
          go_quiet (fail)
          go_wp2
          go_roundw
          case rel => exact ⟨k + 1, p, E2, by have := unhide HL; omega, by go_num, hL2, hP2, hF2, (unhide hW6).on (grown_drew (World.grownBy.refl _ none) _), (unhide hA6).grown (grown_drew (World.grownBy.refl _ none) _) (by simp)⟩
          case measure => simp [intOf]; have := unhide HL; omega
      · obtain rfl : k = NN := by omega
        have hge : ¬ (k : Int) < (k : Int) := by omega
        clear hlt hk
        go_wp2_with fail
        refine (unhide cRk).mono ?_
        rintro e w5 ⟨v, hv, rfl, hg⟩
        obtain rfl := (unhide hLn).ends (by have := unhide hHp; omega) hv (unhide hD).2.1 (unhide hFd') (by have := unhide hFm; omega)
        have hfin := hide (grown_trans (unhide hW).grown hg)
        clear hv hg b0 b1 b2 b3 b4 b5 b6 b7 b8 b9 b10 cRk hW
        go_wp2
        go_ret
        exact ⟨rfl, none_below (unhide hfin)⟩

set_option maxRecDepth 100000 in
theorem lifted (os : Os) (started : os.Started) (H : Type) (enc : TypeId × Value → H) :
    ReturnsInHanded {} Try.checked os 6 .any (Rows.mindsGoalSpec.pre6 enc Try.prog Try.f6 Rows.mindsGoalRow.domain false) (Rows.mindsGoalSpec.post enc Try.prog Try.f6 false true false false) := by
  refine returnsInHanded_of_change (C := Try.checked) own started (by kernel_rfl) Try.func6
    (ChangeSpec.witness6 (enc := enc) (C := Try.checked) false ⟨#[], #[.int .i64 0, .int .i64 0, .int .i64 0], []⟩ 8 (by kernel_rfl) (by kernel_rfl) (by kernel_rfl) (by kernel_rfl)) ?_
  intro W base args ds gs before hval0 hW hcnd _
  have hval : ∀ (j : Nat) t v, Try.f6.params[j]? = some t → args[j]? = some v → Value.okWide Try.prog W .any base t v := hval0
  have hW' := hW
  obtain ⟨p, q, hA0, hV, rfl, hfz, hnd⟩ := hW
  have hA : DataW.TrodAll enc Try.prog W 0 (fun _ => true) true Try.f6.params.toList args.toList ds p := hA0
  rw [Try.params6] at hA hval
  obtain ⟨v0, vs0, d0, ds0, p0, q0, hargs, rfl, rfl, h0, r0⟩ := trodAll_cons hA
  obtain ⟨v1, vs1, d1, ds1, p1, q1, rfl, rfl, rfl, h1, r1⟩ := trodAll_cons r0
  obtain ⟨v2, vs2, d2, ds2, p2, q2, rfl, rfl, rfl, h2, r2⟩ := trodAll_cons r1
  obtain ⟨rfl, rfl, rfl⟩ := trodAll_nil r2
  obtain rfl : args = #[v0, v1, v2] := by cases args; simp_all
  obtain ⟨rfl, rfl⟩ := trodVars_none hV
  obtain ⟨a0, rfl, rfl, rfl, w0⟩ := open_int Try.underlying2 (hval 0 2 v0 rfl rfl) h0
  obtain ⟨a1, rfl, rfl, rfl, w1⟩ := open_int Try.underlying3 (hval 1 3 v1 rfl rfl) h1
  obtain ⟨a2, rfl, rfl, rfl, w2⟩ := open_int Try.underlying3 (hval 2 3 v2 rfl rfl) h2
  clear hA0 hval0
  refine (walk a0 a1 a2 w0 w1 w2 W).mono fun e W' ⟨he, hg⟩ => ?_
  subst he
  exact ⟨_, rfl, _, _, _, [], _, [], hW', trodAll_mk1 (shut_bool Try.underlying4 _), (trodAll_cons_mk (shut_int Try.underlying2 w0) (trodAll_cons_mk (shut_int Try.underlying3 w1) (trodAll_cons_mk (shut_int Try.underlying3 w2) trodAll_mk0))), rfl, hg.frame _, fun h => by cases h⟩

theorem over : Rows.mindsGoalRow.holds Try.pinned (OpenSpec.ofChange Rows.mindsGoalSpec) :=
  OpenClaim.holds_of_wide 6 Try.f6 rfl rfl rfl rfl rfl rfl rfl ⟨rfl, rfl, rfl, rfl, rfl⟩ rfl rfl rfl rfl rfl (by kernel_rfl) Try.func6 (by kernel_rfl)
    (of_decide_eq_true (by kernel_rfl)) (by unfold Func.isWrapper; first | (rw [if_pos (by decide +kernel)]; kernel_rfl) | (rw [if_neg (by decide +kernel)]; exact ⟨rfl, rfl⟩))
    (fun os started H enc _ => lifted os started H enc)

theorem proved : Rows.MindsGoalSaid :=
  over
#print axioms proved
end Go.Proofs.Ytbploaihicakeaa.mindsGoal
