/-
  What a mind wants may be done: a way leads to a cell that can be walked on, a monster's to none but a hero, a robot's to no hero; a robot descends on the down stair alone, takes up what lies there, uses what it has when it is weak: for every seed, floor, kinds, items and frame, at this commit; no condition.
-/
import Derived.Test.YtbploaihicakeaaRows
import Derived.WalkKit
import Derived.ProofKit
import Derived.OpenShut
import Derived.Test.YtbploaihicakeaaPart40
import Derived.Test.YtbploaihicakeaaPart41
import Derived.Test.YtbploaihicakeaaPart34
import Derived.Test.YtbploaihicakeaaPart24
import Derived.BigQuiet
import Derived.Deep.Cut
import Derived.Deep.CutRange
import Derived.Deep.CutBlock
import Derived.ShutString
import Derived.ChangeOld
import Derived.Below
namespace Go.Proofs.Ytbploaihicakeaa.mindsMay
open Go.ChangeShapes Go.WideShapes Go.ChangeAt Go.RowKit
open Go.ChangeMaps (open_string shut_string)
set_option linter.unusedVariables false

theorem own : ownKnob Try.prog.godebug = none := by kernel_rfl
theorem laidOut : laidOutB Try.prog = true := by kernel_rfl

/-- WHAT THE WALK IS TOLD OF A SLICE OF INTEGERS THAT CAME IN: it is nil; or it leads to a row of 'cap' cells, the numbers 'zs' (the first 'len' are its elements, the rest its spare room), each fitting its kind. -/
def IsRow (k : IntKind) (w : World) (a : Option Addr) (len cap : Nat) (zs : List Int) : Prop :=
  (a = none ∧ len = 0 ∧ cap = 0 ∧ zs = []) ∨
  ∃ x, a = some x ∧ len ≤ cap ∧ cap ≤ maxLen ∧ zs.length = cap ∧ (∀ i, i < zs.length → w.cell? (x.add i) = some (.int k (zs.getD i 0))) ∧ ∀ n ∈ zs, (Lit.int k n).wf = true

theorem IsRow.num {w : World} {a : Option Addr} {len cap : Nat} {zs : List Int} (h : IsRow .i64 w a len cap zs) : NumArg w a len (fun i => zs.getD i 0) := by
  rcases h with ⟨rfl, rfl, rfl, rfl⟩ | ⟨x, rfl, hl, hm, hz, hcell, _⟩
  · exact ⟨Nat.zero_le _, .inl rfl⟩
  · refine ⟨Nat.le_trans hl hm, ?_⟩
    by_cases h0 : len = 0
    · exact .inl h0
    · right
      obtain ⟨b, off, spot⟩ := x
      have hspot : spot = none := by simpa [Addr.add] using World.cell?_spot (hcell 0 (by omega))
      subst hspot
      have hlt := Go.block_lt_of_cell (hcell 0 (by omega))
      refine ⟨b, off, rfl, by simpa [Addr.add] using hlt, fun i hi => ?_⟩
      have h := hcell i (by omega)
      by_cases hi0 : i = 0
      · subst hi0
        simpa [Addr.add] using h
      · simpa [Addr.add, hi0] using h


set_option maxRecDepth 8000 in
set_option maxHeartbeats 12800000 in

theorem walk (a0 : Int) (a1 : Int) (a2 : Option Addr) (len2 cap2 : Nat) (z2 : List Int) (a3 : Option Addr) (len3 cap3 : Nat) (z3 : Nat → Nat → Int) (a4 : Int) (w : World) (w0 : (Lit.int .i64 a0).wf = true) (w1 : (Lit.int .i64 a1).wf = true) (w2 : IsRow .i64 w a2 len2 cap2 z2) (w3 : ItArg w a3 len3 cap3 z3) (w4 : (Lit.int .i64 a4).wf = true) :
    Calls Try.prog 4 #[.int .i64 a0, .int .i64 a1, .slice a2 len2 cap2, .slice a3 len3 cap3, .int .i64 a4] w fun e w' => e = .returned (.bool true) ∧ Below w.heap.size w w' := by
  have hKd := hide (IsRow.num w2)
  have hIt := hide w3
  clear w0 w1 w2 w3 w4
  go_enter Try.func4, Try.ntmps4
  go_wp2_with fail
  refine (known9_any _).mono ?_
  rintro e wk ⟨rfl, hgk⟩
  have hIk := hide ((unhide hIt).on hgk)
  have hKk := hide ((unhide hKd).on hgk)
  have hgk' := hide hgk
  clear hgk hIt hKd
  go_wp2_with fail
  refine (crowd_full a0 a1 a4 a2 len2 cap2 _ a3 len3 cap3 z3 wk (unhide hKk) (unhide hIk)).mono ?_
  rintro e wa ⟨c, s, g, E, I, hFit, hSet, -, -, hWd, gC, gE, gI, cC, cE, cI, rfl, hcap, l1, l2, l3, n1, n2, n3, hL, hg⟩
  have hW := hide (Gd.law_new (s := s) (g := g) (cC := cC) (cI := cI) (unhide hgk') hcap l1 l2 l3 n1 n2 n3 hL hg)
  have hF := hide hFit
  have hSt := hide hSet.stands
  have hGd := hide (Md.good_fit hFit hSet)
  have hcw : Hid (384 ≤ cC) := hWd.cap
  have hc1 := hide hcap
  have hbd : Hid (∀ k, k < 32 → (0 ≤ E k 3 ∧ E k 3 < 24) ∧ 0 ≤ E k 4 ∧ E k 4 < 16) := fun k hk => by
    by_cases k0 : E k 0 = 0
    · rcases (hFit.rows k hk).2.2 with hz | ht
      · have h3 := hz 3 (by omega) (by omega)
        have h4 := hz 4 (by omega) (by omega)
        omega
      · omega
    · have := hSet.stands.on k hk k0
      omega
  clear hcap l1 l2 l3 n1 n2 n3 hL hg hFit hSet hWd hIk hKk hgk'
  unfold Gd.world at hW ⊢
  go_upto_region 4 with fail
  obtain ⟨T, hT⟩ : ∃ T, wa.heap.size = T := ⟨_, rfl⟩
  rw [hT] at hW ⊢
  generalize wa.alloc (.cells #[.int .i64 (s 0), .int .i64 (s 1), .int .i64 (s 2), .int .i64 (s 3), .slice (some ⟨gC, 0, none⟩) 384 cC, .slice (some ⟨gE, 0, none⟩) 32 cE, .slice (some ⟨gI, 0, none⟩) 40 cI, .int .i64 (g 0), .int .i64 (g 1), .int .i64 (g 2), .int .i64 (g 3)] 29) = wb at hW ⊢
  clear hT
  have cm : Hid (∀ (i : Int) (x : World), Gd.Lists x gC gE gI c E I → Calls Try.prog 11 #[.agg (Gd.world s gC gE gI cC cE cI g), .int .i64 i] x (Md.Says x (Md.IsMonster s c E i))) := fun i x hx => mindsMonster_any s g c E I gC gE gI cC cE cI i x hx (unhide hF).cells (unhide hc1) (unhide hGd)
  have cr : Hid (∀ (i : Int) (x : World), Gd.Lists x gC gE gI c E I → Calls Try.prog 13 #[.agg (Gd.world s gC gE gI cC cE cI g), .int .i64 i] x (Md.Says x (Md.IsRobot c E I i))) := fun i x hx => mindsRobot_any s g c E I gC gE gI cC cE cI i x hx (unhide hF).cells (unhide hc1) (unhide hcw) (unhide hGd)
  clear hGd hcw hc1
  unfold Gd.world at cm cr
  go_wp2_with fail
  go_loopw [12, 13, 14, 15, 16, 17] (fun vi _ _ _ _ _ wr => ∃ i : Nat, i ≤ 32 ∧ vi = .int .i64 (i : Int) ∧ Hid (Gd.Law w wr T gC gE gI cC cE cI s g c E I)) (fun vi _ _ _ _ _ _ => 50 - (intOf vi).toNat)
  case atStart => exact ⟨0, by omega, rfl, hW⟩
  case round =>
    clear hW
    obtain ⟨i, hi, rfl, hW⟩ := hrel
    by_cases hlt : i < 32
    · have hlt' : (i : Int) < 32 := by omega
      have HL := hide hlt
      have HR := hide hlt
      have hB := hide (unhide hbd i hlt)
      clear hlt hi
      have q5 := (unhide hW).eleven.2.2.2.2.2.1
      obtain ⟨r0, r1, r2, r3, r4, r5, r6, r7, r8, r9, r10⟩ := (unhide hW).hold.lists.own.ents.row (unhide HR)
      have hQ := hide (Lie.copied wr (E i) 36)
      have hWq := hide ((unhide hW).on (World.grownBy_alloc wr (.cells (En.cells (E i)) 36) none))
      unfold En.cells at hQ hWq
      clear hW
      go_upto_region 8 with fail
      obtain ⟨Q, hQe⟩ : ∃ Q, wr.heap.size = Q := ⟨_, rfl⟩
      rw [hQe] at hQ ⊢
      generalize wr.alloc (.cells #[.int .i64 (E i 0), .int .i64 (E i 1), .int .i64 (E i 2), .int .i64 (E i 3), .int .i64 (E i 4), .int .i64 (E i 5), .int .i64 (E i 6), .int .i64 (E i 7), .int .i64 (E i 8), .int .i64 (E i 9), .int .i64 (E i 10)] 36) = wq at hQ hWq ⊢
      clear hQe q5 r0 r1 r2 r3 r4 r5 r6 r7 r8 r9 r10
      obtain ⟨b0, b1, b2, b3, b4, b5, b6, b7, b8, b9, b10⟩ := (unhide hWq).eleven
      have cmi := hide (unhide cm (i : Int) wq (unhide hWq).hold.lists)
      go_wp2_with fail
      refine (unhide cmi).mono ?_
      rintro e w2 ⟨v, hv, rfl, hg⟩
      have hmay : Hid (Md.MonMay c E i v) := Md.mon_may (unhide hF) (unhide hSt) (unhide HR) hv
      have hW2 := hide ((unhide hWq).on hg)
      have hQ2 := hide ((unhide hQ).on hg)
      clear b0 b1 b2 b3 b4 b5 b6 b7 b8 b9 b10 cmi hv hg hWq hQ
      unfold Md.MonMay at hmay
      have cz := hide (entRefAt_same gE 32 cE E (E i 3 + (Fx.way v).1) (E i 4 + (Fx.way v).2) w2 (unhide hW2).hold.lists.own.ents)
      have ca := hide (refAt_any w2.heap.size (some ⟨gC, 0, none⟩) 384 cC c (E i 3 + (Fx.way v).1) (E i 4 + (Fx.way v).2) w2 (unhide hW2).hold.lists.vec (unhide hF).cells)
      have ck := hide (fun wq => refWalk_any (Gr.at 384 c (E i 3 + (Fx.way v).1) (E i 4 + (Fx.way v).2)) wq)
      have wb := Fx.way_bd v
      have hb := unhide hB
      have x1 : IntKind.i64.wrap (E i 3 + (Fx.way v).1) = E i 3 + (Fx.way v).1 := by rw [IntKind.wrap_i64]; omega
      have y1 : IntKind.i64.wrap (E i 4 + (Fx.way v).2) = E i 4 + (Fx.way v).2 := by rw [IntKind.wrap_i64]; omega
      have cw := hide (fun wq => refWay_any v wq)
      clear wb hb
      obtain ⟨z, hz⟩ : ∃ z, En.first (En.atQ E (E i 3 + (Fx.way v).1) (E i 4 + (Fx.way v).2)) 32 = z := ⟨_, rfl⟩
      obtain ⟨A, hA⟩ : ∃ A, Gr.at 384 c (E i 3 + (Fx.way v).1) (E i 4 + (Fx.way v).2) = A := ⟨_, rfl⟩
      obtain ⟨wk, hwk⟩ : ∃ wk, Gr.walkB A = wk := ⟨_, rfl⟩
      rw [hz] at cz hmay
      rw [hA] at ca ck hmay
      rw [hwk] at ck hmay
      obtain ⟨dx, hdx⟩ : ∃ dx, (Fx.way v).1 = dx := ⟨_, rfl⟩
      obtain ⟨dy, hdy⟩ : ∃ dy, (Fx.way v).2 = dy := ⟨_, rfl⟩
      rw [hdx] at cz ca cw x1
      rw [hdy] at cz ca cw y1
      clear hz hA hwk hdx hdy
      have z0 : w2.cell? ⟨Q, 0, none⟩ = some (.int .i64 (E i 0)) := (unhide hQ2).cell (c := 0) (by omega)
      have z3 : w2.cell? ⟨Q, 3, none⟩ = some (.int .i64 (E i 3)) := (unhide hQ2).cell (c := 3) (by omega)
      have z4 : w2.cell? ⟨Q, 4, none⟩ = some (.int .i64 (E i 4)) := (unhide hQ2).cell (c := 4) (by omega)
      have q5 := (unhide hW2).eleven.2.2.2.2.2.1
      have q4 := (unhide hW2).eleven.2.2.2.2.1
      go_wp2_with fail
      refine (unhide cw _).mono ?_
      rintro e wy ⟨rfl, hy⟩
      subst wy
      go_wp2_with fail
      refine (unhide cz).mono ?_
      rintro e wy ⟨rfl, hy⟩
      subst wy
      clear cw cz
      rcases unhide hmay with rfl | ⟨⟨v1, v4⟩, k2, rfl, hz⟩
      · clear hmay ca ck
        go_wp2
        go_roundw
        case rel => exact ⟨i + 1, by have := unhide HL; omega, by go_num, hW2⟩
        case measure => simp [intOf]; have := unhide HL; omega
      · have k2' : ¬ E i 0 < 2 := by omega
        have v4' : ¬ v > 4 := by omega
        have v0 : ¬ v < 0 := by omega
        have vp : v > 0 := by omega
        have hz' := hide hz
        clear hz hmay k2 v1 v4
        go_wp2_with fail
        refine (unhide ca).mono ?_
        rintro e wy ⟨rfl, hy⟩
        subst wy
        go_wp2_with fail
        refine (unhide ck _).mono ?_
        rintro e wy ⟨rfl, hy⟩
        subst wy
        clear ca ck
        rcases unhide hz' with rfl | ⟨j, hj, rfl, hj1⟩
        · clear hz'
          go_wp2
          go_roundw
          case rel => exact ⟨i + 1, by have := unhide HL; omega, by go_num, hW2⟩
          case measure => simp [intOf]; have := unhide HL; omega
        · have u0 := ((unhide hW2).hold.lists.own.ents.row hj).1
          rw [hj1] at u0
          have hj' : (j : Int) < 32 := by omega
          have hjp : (j : Int) ≥ 0 := by omega
          clear hz' hj hj1
          go_wp2
          go_roundw
          case rel => exact ⟨i + 1, by have := unhide HL; omega, by go_num, hW2⟩
          case measure => simp [intOf]; have := unhide HL; omega
    · obtain rfl : i = 32 := by omega
      have hge : ¬ ((32 : Nat) : Int) < 32 := by omega
      clear hlt hi
      go_wp2_with fail
      go_loopw [18, 19, 20, 21, 22, 23, 24] (fun vi _ _ _ _ _ _ wr => ∃ i : Nat, i ≤ 4 ∧ vi = .int .i64 (i : Int) ∧ Hid (Gd.Law w wr T gC gE gI cC cE cI s g c E I)) (fun vi _ _ _ _ _ _ _ => 50 - (intOf vi).toNat)
      case atStart => exact ⟨0, by omega, rfl, hW⟩
      case round =>
        clear hW
        obtain ⟨i, hi, rfl, hW⟩ := hrel
        by_cases hlt : i < 4
        · have hlt' : (i : Int) < 4 := by omega
          have HL := hide hlt
          clear hlt hi
          have q5 := (unhide hW).eleven.2.2.2.2.2.1
          have ch := hide (refHero7_any gE cE E (i : Int) _ (unhide hW).hold.lists.own)
          have hrow := hide (@Md.hero_row E (i : Int))
          have hdef : Hid (∀ v, Md.IsRobot c E I (i : Int) v → if Gd.hero E (i : Int) < 0 then v = 0 else Md.robotAt c E I (i : Int) (Gd.hero E (i : Int)).toNat v) := fun v hv => hv
          obtain ⟨h0, hh⟩ : ∃ h, Gd.hero E (i : Int) = h := ⟨_, rfl⟩
          rw [hh] at ch hrow hdef
          clear hh
          go_wp2_with fail
          refine (unhide ch).mono ?_
          rintro e w3 ⟨rfl, hg⟩
          have hW3 := hide ((unhide hW).on hg)
          clear hg ch q5 hW
          obtain ⟨b0, b1, b2, b3, b4, b5, b6, b7, b8, b9, b10⟩ := (unhide hW3).eleven
          have cri := hide (unhide cr (i : Int) w3 (unhide hW3).hold.lists)
          go_wp2_with fail
          refine (unhide cri).mono ?_
          rintro e w4 ⟨v, hv, rfl, hg⟩
          have hv' := hide (unhide hdef v hv)
          have hW := hide ((unhide hW3).on hg)
          clear b0 b1 b2 b3 b4 b5 b6 b7 b8 b9 b10 cri hv hg hW3 hdef
          by_cases hneg : h0 < 0
          · have hv0 : v = 0 := by have := unhide hv'; rwa [if_pos hneg] at this
            subst hv0
            clear hv' hrow
            go_wp2
            go_roundw
            case rel => exact ⟨i + 1, by have := unhide HL; omega, by go_num, hW⟩
            case measure => simp [intOf]; have := unhide HL; omega
          obtain ⟨k, hk, rfl, k1, -⟩ := unhide hrow (by omega)
          have hmay : Hid (Md.RobMay c E I (i : Int) k v) := by
            have h1 := unhide hv'
            rw [if_neg hneg, Int.toNat_natCast] at h1
            exact Md.rob_may (unhide hSt) h1
          have HR := hide hk
          have hk' : (k : Int) < 32 := by omega
          have hkn : ¬ (k : Int) < 0 := by omega
          have hB := hide (unhide hbd k hk)
          have hm6 := hide ((unhide hF).rows k hk |>.taken (by omega))
          clear hv' hrow hneg hk k1
          have q5 := (unhide hW).eleven.2.2.2.2.2.1
          obtain ⟨r0, r1, r2, r3, r4, r5, r6, r7, r8, r9, r10⟩ := (unhide hW).hold.lists.own.ents.row (unhide HR)
          have hQ := hide (Lie.copied w4 (E k) 36)
          have hWq := hide ((unhide hW).on (World.grownBy_alloc w4 (.cells (En.cells (E k)) 36) none))
          unfold En.cells at hQ hWq
          clear hW
          go_upto_region 22 with fail
          obtain ⟨Q, hQe⟩ : ∃ Q, w4.heap.size = Q := ⟨_, rfl⟩
          rw [hQe] at hQ ⊢
          generalize w4.alloc (.cells #[.int .i64 (E k 0), .int .i64 (E k 1), .int .i64 (E k 2), .int .i64 (E k 3), .int .i64 (E k 4), .int .i64 (E k 5), .int .i64 (E k 6), .int .i64 (E k 7), .int .i64 (E k 8), .int .i64 (E k 9), .int .i64 (E k 10)] 36) = wq at hQ hWq ⊢
          clear hQe q5 r0 r1 r2 r3 r4 r5 r6 r7 r8 r9 r10
          unfold Md.RobMay at hmay
          have hW5 := hide (unhide hWq)
          clear hWq
          have cz := hide (entRefAt_same gE 32 cE E (E k 3 + (Fx.way v).1) (E k 4 + (Fx.way v).2) wq (unhide hW5).hold.lists.own.ents)
          have ca := hide (refAt_any wq.heap.size (some ⟨gC, 0, none⟩) 384 cC c (E k 3 + (Fx.way v).1) (E k 4 + (Fx.way v).2) wq (unhide hW5).hold.lists.vec (unhide hF).cells)
          have ck := hide (fun wq => refWalk_any (Gr.at 384 c (E k 3 + (Fx.way v).1) (E k 4 + (Fx.way v).2)) wq)
          have wb := Fx.way_bd v
          have hb := unhide hB
          have x1 : IntKind.i64.wrap (E k 3 + (Fx.way v).1) = E k 3 + (Fx.way v).1 := by rw [IntKind.wrap_i64]; omega
          have y1 : IntKind.i64.wrap (E k 4 + (Fx.way v).2) = E k 4 + (Fx.way v).2 := by rw [IntKind.wrap_i64]; omega
          have cw := hide (fun wq => refWay_any v wq)
          clear wb hb
          obtain ⟨z, hz⟩ : ∃ z, En.first (En.atQ E (E k 3 + (Fx.way v).1) (E k 4 + (Fx.way v).2)) 32 = z := ⟨_, rfl⟩
          obtain ⟨A, hA⟩ : ∃ A, Gr.at 384 c (E k 3 + (Fx.way v).1) (E k 4 + (Fx.way v).2) = A := ⟨_, rfl⟩
          obtain ⟨wk, hwk⟩ : ∃ wk, Gr.walkB A = wk := ⟨_, rfl⟩
          rw [hz] at cz hmay
          rw [hA] at ca ck hmay
          rw [hwk] at ck hmay
          obtain ⟨dx, hdx⟩ : ∃ dx, (Fx.way v).1 = dx := ⟨_, rfl⟩
          obtain ⟨dy, hdy⟩ : ∃ dy, (Fx.way v).2 = dy := ⟨_, rfl⟩
          rw [hdx] at cz ca cw x1
          rw [hdy] at cz ca cw y1
          clear hz hA hwk hdx hdy
          have z3 : wq.cell? ⟨Q, 3, none⟩ = some (.int .i64 (E k 3)) := (unhide hQ).cell (c := 3) (by omega)
          have z4 : wq.cell? ⟨Q, 4, none⟩ = some (.int .i64 (E k 4)) := (unhide hQ).cell (c := 4) (by omega)
          have z5 : wq.cell? ⟨Q, 5, none⟩ = some (.int .i64 (E k 5)) := (unhide hQ).cell (c := 5) (by omega)
          have z6 : wq.cell? ⟨Q, 6, none⟩ = some (.int .i64 (E k 6)) := (unhide hQ).cell (c := 6) (by omega)
          have q6 := (unhide hW5).eleven.2.2.2.2.2.2.1
          have q5 := (unhide hW5).eleven.2.2.2.2.2.1
          have q4 := (unhide hW5).eleven.2.2.2.2.1
          go_wp2_with fail
          refine (unhide cw _).mono ?_
          rintro e wy ⟨rfl, hy⟩
          subst wy
          go_wp2_with fail
          refine (unhide cz).mono ?_
          rintro e wy ⟨rfl, hy⟩
          subst wy
          clear cw cz
          rcases unhide hmay with hv0 | ⟨⟨v1, v4⟩, rfl, hz⟩ | ⟨hv5, hf⟩ | ⟨hv6, hf, hp⟩ | ⟨hv9, hf⟩
          · subst hv0
            clear hmay ca ck
            go_wp2
            go_roundw
            case rel => exact ⟨i + 1, by have := unhide HL; omega, by go_num, hW5⟩
            case measure => simp [intOf]; have := unhide HL; omega
          · have hz' := hide hz
            clear hz
            rcases (show v = 1 ∨ v = 2 ∨ v = 3 ∨ v = 4 by omega) with hv1 | hv1 | hv1 | hv1
            · have e0 : v = 1 := hv1
              subst e0
              clear hmay
              go_wp2_with fail
              refine (unhide ca).mono ?_
              rintro e wy ⟨rfl, hy⟩
              subst wy
              go_wp2_with fail
              refine (unhide ck _).mono ?_
              rintro e wy ⟨rfl, hy⟩
              subst wy
              clear ca ck
              rcases unhide hz' with rfl | ⟨j, hj, rfl, hj1⟩
              · clear hz'
                go_wp2
                go_roundw
                case rel => exact ⟨i + 1, by have := unhide HL; omega, by go_num, hW5⟩
                case measure => simp [intOf]; have := unhide HL; omega
              · have u0 := ((unhide hW5).hold.lists.own.ents.row hj).1
                have hj1' : (E j 0 == 1) = false := by simpa using hj1
                have hj' : (j : Int) < 32 := by omega
                have hjp : (j : Int) ≥ 0 := by omega
                clear hz' hj hj1
                go_wp2
                go_roundw
                case rel => exact ⟨i + 1, by have := unhide HL; omega, by go_num, hW5⟩
                case measure => simp [intOf]; have := unhide HL; omega
            · have e0 : v = 2 := hv1
              subst e0
              clear hmay
              go_wp2_with fail
              refine (unhide ca).mono ?_
              rintro e wy ⟨rfl, hy⟩
              subst wy
              go_wp2_with fail
              refine (unhide ck _).mono ?_
              rintro e wy ⟨rfl, hy⟩
              subst wy
              clear ca ck
              rcases unhide hz' with rfl | ⟨j, hj, rfl, hj1⟩
              · clear hz'
                go_wp2
                go_roundw
                case rel => exact ⟨i + 1, by have := unhide HL; omega, by go_num, hW5⟩
                case measure => simp [intOf]; have := unhide HL; omega
              · have u0 := ((unhide hW5).hold.lists.own.ents.row hj).1
                have hj1' : (E j 0 == 1) = false := by simpa using hj1
                have hj' : (j : Int) < 32 := by omega
                have hjp : (j : Int) ≥ 0 := by omega
                clear hz' hj hj1
                go_wp2
                go_roundw
                case rel => exact ⟨i + 1, by have := unhide HL; omega, by go_num, hW5⟩
                case measure => simp [intOf]; have := unhide HL; omega
            · have e0 : v = 3 := hv1
              subst e0
              clear hmay
              go_wp2_with fail
              refine (unhide ca).mono ?_
              rintro e wy ⟨rfl, hy⟩
              subst wy
              go_wp2_with fail
              refine (unhide ck _).mono ?_
              rintro e wy ⟨rfl, hy⟩
              subst wy
              clear ca ck
              rcases unhide hz' with rfl | ⟨j, hj, rfl, hj1⟩
              · clear hz'
                go_wp2
                go_roundw
                case rel => exact ⟨i + 1, by have := unhide HL; omega, by go_num, hW5⟩
                case measure => simp [intOf]; have := unhide HL; omega
              · have u0 := ((unhide hW5).hold.lists.own.ents.row hj).1
                have hj1' : (E j 0 == 1) = false := by simpa using hj1
                have hj' : (j : Int) < 32 := by omega
                have hjp : (j : Int) ≥ 0 := by omega
                clear hz' hj hj1
                go_wp2
                go_roundw
                case rel => exact ⟨i + 1, by have := unhide HL; omega, by go_num, hW5⟩
                case measure => simp [intOf]; have := unhide HL; omega
            · have e0 : v = 4 := hv1
              subst e0
              clear hmay
              go_wp2_with fail
              refine (unhide ca).mono ?_
              rintro e wy ⟨rfl, hy⟩
              subst wy
              go_wp2_with fail
              refine (unhide ck _).mono ?_
              rintro e wy ⟨rfl, hy⟩
              subst wy
              clear ca ck
              rcases unhide hz' with rfl | ⟨j, hj, rfl, hj1⟩
              · clear hz'
                go_wp2
                go_roundw
                case rel => exact ⟨i + 1, by have := unhide HL; omega, by go_num, hW5⟩
                case measure => simp [intOf]; have := unhide HL; omega
              · have u0 := ((unhide hW5).hold.lists.own.ents.row hj).1
                have hj1' : (E j 0 == 1) = false := by simpa using hj1
                have hj' : (j : Int) < 32 := by omega
                have hjp : (j : Int) ≥ 0 := by omega
                clear hz' hj hj1
                go_wp2
                go_roundw
                case rel => exact ⟨i + 1, by have := unhide HL; omega, by go_num, hW5⟩
                case measure => simp [intOf]; have := unhide HL; omega
          · subst hv5
            have ci := hide (refIn7_same gI 40 cI I 1 (E k 3) (E k 4) wq (unhide hW5).hold.lists.its)
            obtain ⟨f, hfe⟩ : ∃ f, Gd.find I 40 1 (E k 3) (E k 4) = f := ⟨_, rfl⟩
            rw [hfe] at ci hf
            have hf' : ¬ f < 0 := by omega
            clear hmay ca ck hf hfe
            go_wp2_with fail
            refine (unhide ci).mono ?_
            rintro e wy ⟨rfl, hy⟩
            subst wy
            clear ci
            go_wp2
            go_roundw
            case rel => exact ⟨i + 1, by have := unhide HL; omega, by go_num, hW5⟩
            case measure => simp [intOf]; have := unhide HL; omega
          · subst hv6
            have ci := hide (refPotion_same gI 40 cI I (i : Int) wq (unhide hW5).hold.lists.its)
            obtain ⟨f, hfe⟩ : ∃ f, Gd.has I 40 (i : Int) 1 1 = f := ⟨_, rfl⟩
            rw [hfe] at ci hf
            have hf' : ¬ f < 0 := by omega
            have m0 : 0 ≤ E k 6 := by have := unhide hm6; omega
            have m9 : E k 6 ≤ 20 := by have := unhide hm6; omega
            have hd : (E k 6).tdiv 3 = E k 6 / 3 := Int.tdiv_eq_ediv_of_nonneg (by have := unhide hm6; omega)
            have hp' : ¬ E k 5 > E k 6 / 3 := by omega
            clear hmay ca ck hf hfe hp
            go_wp2_with fail
            refine (unhide ci).mono ?_
            rintro e wy ⟨rfl, hy⟩
            subst wy
            clear ci
            go_wp2
            go_roundw
            case rel => exact ⟨i + 1, by have := unhide HL; omega, by go_num, hW5⟩
            case measure => simp [intOf]; have := unhide HL; omega
          · subst hv9
            have ci := hide (refAt_any wq.heap.size (some ⟨gC, 0, none⟩) 384 cC c (E k 3) (E k 4) wq (unhide hW5).hold.lists.vec (unhide hF).cells)
            rw [hf] at ci
            clear hmay ca ck hf
            go_wp2_with fail
            refine (unhide ci).mono ?_
            rintro e wy ⟨rfl, hy⟩
            subst wy
            clear ci
            go_wp2
            go_roundw
            case rel => exact ⟨i + 1, by have := unhide HL; omega, by go_num, hW5⟩
            case measure => simp [intOf]; have := unhide HL; omega
        · obtain rfl : i = 4 := by omega
          have hge : ¬ ((4 : Nat) : Int) < 4 := by omega
          have hfin := hide (unhide hW).grown
          clear hlt hi
          go_wp2
          go_ret
          exact ⟨rfl, none_below (unhide hfin)⟩

set_option maxRecDepth 100000 in
theorem lifted (os : Os) (started : os.Started) (H : Type) (enc : TypeId × Value → H) :
    ReturnsInHanded {} Try.checked os 4 .any (Rows.mindsMaySpec.pre6 enc Try.prog Try.f4 Rows.mindsMayRow.domain false) (Rows.mindsMaySpec.post enc Try.prog Try.f4 false true false false) := by
  refine returnsInHanded_of_change (C := Try.checked) own started (by kernel_rfl) Try.func4
    (ChangeSpec.witness6 (enc := enc) (C := Try.checked) false ⟨#[], #[.int .i64 0, .int .i64 0, .slice none 0 0, .slice none 0 0, .int .i64 0], []⟩ 8 (by kernel_rfl) (by kernel_rfl) (by kernel_rfl) (by kernel_rfl)) ?_
  intro W base args ds gs before hval0 hW hcnd _
  have hval : ∀ (j : Nat) t v, Try.f4.params[j]? = some t → args[j]? = some v → Value.okWide Try.prog W .any base t v := hval0
  have hW' := hW
  obtain ⟨p, q, hA0, hV, rfl, hfz, hnd⟩ := hW
  have hA : DataW.TrodAll enc Try.prog W 0 (fun _ => true) true Try.f4.params.toList args.toList ds p := hA0
  rw [Try.params4] at hA hval
  obtain ⟨v0, vs0, d0, ds0, p0, q0, hargs, rfl, rfl, h0, r0⟩ := trodAll_cons hA
  obtain ⟨v1, vs1, d1, ds1, p1, q1, rfl, rfl, rfl, h1, r1⟩ := trodAll_cons r0
  obtain ⟨v2, vs2, d2, ds2, p2, q2, rfl, rfl, rfl, h2, r2⟩ := trodAll_cons r1
  obtain ⟨v3, vs3, d3, ds3, p3, q3, rfl, rfl, rfl, h3, r3⟩ := trodAll_cons r2
  obtain ⟨v4, vs4, d4, ds4, p4, q4, rfl, rfl, rfl, h4, r4⟩ := trodAll_cons r3
  obtain ⟨rfl, rfl, rfl⟩ := trodAll_nil r4
  obtain rfl : args = #[v0, v1, v2, v3, v4] := by cases args; simp_all
  obtain ⟨rfl, rfl⟩ := trodVars_none hV
  obtain ⟨a0, rfl, rfl, rfl, w0⟩ := open_int Try.underlying2 (hval 0 2 v0 rfl rfl) h0
  obtain ⟨a1, rfl, rfl, rfl, w1⟩ := open_int Try.underlying3 (hval 1 3 v1 rfl rfl) h1
  obtain ⟨a2, len2, cap2, rfl⟩ := okWide_slice Try.underlying22 (hval 2 22 v2 rfl rfl)
  have k2 := h2
  have lt2 : ∀ x ∈ p2, x.block < W.heap.size := by obtain ⟨m, hm⟩ := k2; exact DataW.trod_lt m _ _ _ hm
  obtain ⟨z2, w2⟩ : ∃ zs, IsRow .i64 W a2 len2 cap2 zs := by
    obtain ⟨fuel, hf⟩ := h2
    rcases open_ints Try.underlying22 Try.underlying3 (by kernel_rfl) hf with ⟨hcs, _⟩ | ⟨x, l, c, zs, hcs, _, hl, hm, hz, _, hcell, hwz⟩
    · simp [Value.cells] at hcs
      obtain ⟨rfl, rfl, rfl⟩ := hcs
      exact ⟨[], .inl ⟨rfl, rfl, rfl, rfl⟩⟩
    · simp [Value.cells] at hcs
      obtain ⟨rfl, rfl, rfl⟩ := hcs
      exact ⟨zs, .inr ⟨_, rfl, hl, hm, by simpa using hz, hcell, hwz⟩⟩
  obtain ⟨a3, len3, cap3, rfl⟩ := okWide_slice Try.underlying23 (hval 3 23 v3 rfl rfl)
  have k3 := h3
  have lt3 : ∀ x ∈ p3, x.block < W.heap.size := by obtain ⟨m, hm⟩ := k3; exact DataW.trod_lt m _ _ _ hm
  obtain ⟨z3, w3⟩ : ∃ M, ItArg W a3 len3 cap3 M := by
    obtain ⟨fuel, hf⟩ := h3
    exact open_items (by simpa [Value.cells] using hf)
  obtain ⟨a4, rfl, rfl, rfl, w4⟩ := open_int Try.underlying3 (hval 4 3 v4 rfl rfl) h4
  clear hA0 hval0
  refine (walk a0 a1 a2 len2 cap2 z2 a3 len3 cap3 z3 a4 W w0 w1 w2 w3 w4).mono fun e W' ⟨he, bel⟩ => ?_
  subst he
  exact ⟨_, rfl, _, _, _, [], _, [], hW', trodAll_mk1 (shut_bool Try.underlying4 _), (trodAll_cons_mk (shut_int Try.underlying2 w0) (trodAll_cons_mk (shut_int Try.underlying3 w1) (trodAll_cons_mk (Below.trod laidOut (by kernel_rfl) (of_decide_eq_true (by kernel_rfl)) k2 bel lt2) (trodAll_cons_mk (Below.trod laidOut (by kernel_rfl) (of_decide_eq_true (by kernel_rfl)) k3 bel lt3) (trodAll_cons_mk (shut_int Try.underlying3 w4) trodAll_mk0))))), rfl, bel.frame _, fun h => by cases h⟩

theorem over : Rows.mindsMayRow.holds Try.pinned (OpenSpec.ofChange Rows.mindsMaySpec) :=
  OpenClaim.holds_of_wide 4 Try.f4 rfl rfl rfl rfl rfl rfl rfl ⟨rfl, rfl, rfl, rfl, rfl⟩ rfl rfl rfl rfl rfl (by kernel_rfl) Try.func4 (by kernel_rfl)
    (of_decide_eq_true (by kernel_rfl)) (by unfold Func.isWrapper; first | (rw [if_pos (by decide +kernel)]; kernel_rfl) | (rw [if_neg (by decide +kernel)]; exact ⟨rfl, rfl⟩))
    (fun os started H enc _ => lifted os started H enc)

theorem proved : Rows.MindsMaySaid := over
#print axioms proved
end Go.Proofs.Ytbploaihicakeaa.mindsMay
