/-
  What a robot does first: it heals when it is weak and can; then it hits who is beside it, by the lowest way; then it takes what lies there; then it goes, or descends: for every seed and place, weak or not, with or without a potion, foes and an item, at this commit; no condition.
-/
import Derived.Test.YtbploaihicakeaaRows
import Derived.WalkKit
import Derived.ProofKit
import Derived.OpenShut
import Derived.Test.YtbploaihicakeaaPart40
import Derived.Test.YtbploaihicakeaaPart43
import Derived.Test.YtbploaihicakeaaPart33
import Derived.Test.YtbploaihicakeaaPart24
import Derived.Test.YtbploaihicakeaaPart27
import Derived.BigQuiet
import Derived.Deep.Cut
import Derived.Deep.CutRange
import Derived.Deep.CutBlock
import Derived.Deep.RegionHeld3
import Derived.Below
import Derived.ChangeOld
import Derived.ShutString
namespace Go.Proofs.Ytbploaihicakeaa.mindsFirst
open Go.ChangeShapes Go.WideShapes Go.ChangeAt Go.RowKit
open Go.ChangeMaps (open_string shut_string)
set_option linter.unusedVariables false

theorem own : ownKnob Try.prog.godebug = none := by kernel_rfl

set_option maxRecDepth 8000 in
set_option maxHeartbeats 12800000 in

theorem walk (a0 : Int) (a1 : Bool) (a2 : Bool) (a3 : Bool) (a4 : Bool) (a5 : Int) (w0 : (Lit.int .i64 a0).wf = true) (w5 : (Lit.int .i64 a5).wf = true) (w : World) :
    Calls Try.prog 7 #[.int .i64 a0, .bool a1, .bool a2, .bool a3, .bool a4, .int .i64 a5] w fun e w' => e = .returned (.bool true) ∧ Below w.heap.size w w' := by
  have cW := hide (fun wq => within9_any a5 1000 wq (by omega) (by omega))
  obtain ⟨q, hq⟩ : ∃ q, a5 % 1000 = q := ⟨_, rfl⟩
  have q0 : 0 ≤ q := by omega
  have q9 : q < 1000 := by omega
  rw [hq] at cW
  clear w0 w5 hq
  go_enter Try.func7, Try.ntmps7
  go_wp2_with fail
  refine (known9_any _).mono ?_
  rintro e wk ⟨rfl, hgk⟩
  have hgk' := hide hgk
  clear hgk
  go_wp2_with fail
  refine (unhide cW _).mono ?_
  rintro e wy ⟨rfl, hy⟩
  subst wy
  have ww := hide (world_wide a0 0 0 (1 + 3 * q) 0 (by omega) (by omega) wk)
  have hr32 : ((1 + 3 * q) % 32).toNat < 32 := by omega
  clear cW
  go_wp2_with fail
  refine (unhide ww).mono ?_
  rintro e wa ⟨c, kc, s, g, E0, hSit, hFl, hE0, hWd, gC, gE, gI, cC, cE, cI, rfl, hcap, l1, l2, l3, n1, n2, n3, hL, hg⟩
  obtain ⟨r, hr⟩ : ∃ r, ((1 + 3 * q) % 32).toNat = r := ⟨_, rfl⟩
  rw [hr] at hr32 hE0
  have hW := hide (Gd.law_new (s := s) (g := g) (cC := cC) (cI := cI) (unhide hgk') hcap l1 l2 l3 n1 n2 n3 hL hg)
  have hLone : Hid (Md.Lone E0 r 0 kc) := by rw [hE0]; exact Md.lone_folk hr32 hSit.kc4
  have hFl2 := hide hFl
  have hcw : Hid (384 ≤ cC) := hWd.cap
  have hkw := hide hSit.walk
  have hc8 : Hid (∀ i, 0 ≤ c i ∧ c i ≤ 255) := fun i => ⟨(hFl.five i).1, by have := (hFl.five i).2; omega⟩
  clear hcap l1 l2 l3 n1 n2 n3 hL hg hSit hFl hE0 hWd hr hgk' ww q0 q9
  unfold Gd.world at hW ⊢
  go_upto_region 4 with fail
  obtain ⟨T, hT⟩ : ∃ T, wa.heap.size = T := ⟨_, rfl⟩
  rw [hT] at hW ⊢
  generalize wa.alloc (.cells #[.int .i64 (s 0), .int .i64 (s 1), .int .i64 (s 2), .int .i64 (s 3), .slice (some ⟨gC, 0, none⟩) 384 cC, .slice (some ⟨gE, 0, none⟩) 32 cE, .slice (some ⟨gI, 0, none⟩) 40 cI, .int .i64 (g 0), .int .i64 (g 1), .int .i64 (g 2), .int .i64 (g 3)] 29) = wb at hW ⊢
  clear hT
  have b5 := (unhide hW).eleven.2.2.2.2.2.1
  have ch := hide (refHero7_any gE cE E0 0 wb (unhide hW).hold.lists.own)
  rw [(unhide hLone).hero] at ch
  go_wp2_with fail
  refine (unhide ch).mono ?_
  rintro e w1 ⟨rfl, hg⟩
  have hW1 := hide ((unhide hW).on hg)
  clear hg ch b5 hW
  have b5 := (unhide hW1).eleven.2.2.2.2.2.1
  have hr' : (r : Int) < 32 := by omega
  obtain ⟨-, -, -, u3, u4, -, -, -, -, -, -⟩ := (unhide hW1).hold.lists.own.ents.row hr32
  rw [(unhide hLone).x] at u3
  rw [(unhide hLone).y] at u4
  have hk4 := (unhide hLone).m4
  have hxb : Hid ((0 ≤ (kc : Int) % 24 ∧ (kc : Int) % 24 < 24) ∧ 0 ≤ (kc : Int) / 24 ∧ (kc : Int) / 24 < 16) := (show (0 ≤ (kc : Int) % 24 ∧ (kc : Int) % 24 < 24) ∧ 0 ≤ (kc : Int) / 24 ∧ (kc : Int) / 24 < 16 by omega)
  have hok : Hid (Gd.Ok c 40 (Md.kit a2 a4 ((kc : Int) % 24) ((kc : Int) / 24))) := Md.kit_ok ((Gr.inB_iff _ _).2 (by omega)) (by rw [Gr.at_in (k := kc) ((Gr.inB_iff _ _).2 (by omega)) (by omega)]; exact unhide hkw)
  obtain ⟨x, hx⟩ : ∃ x, (kc : Int) % 24 = x := ⟨_, rfl⟩
  obtain ⟨y, hy⟩ : ∃ y, (kc : Int) / 24 = y := ⟨_, rfl⟩
  rw [hx] at u3
  rw [hy] at u4
  rw [hx, hy] at hxb hok
  have hxy := hide (And.intro hx hy)
  clear hx hy hk4
  go_upto_region 5 with fail
  go_cut [15, 16] from 37 (fun va vb wx => va = .int .i64 x ∧ vb = .int .i64 y ∧ Hid (Gd.Law w wx T gC gE gI cC cE cI s g c E0 (fun _ _ => 0)))
  case first =>
    go_quiet (fail)
    go_wp2_with fail
    go_meet
    exact ⟨rfl, rfl, (unhide hW1).on (grown_drew (World.grownBy.refl _ none) _)⟩
  case rest =>
    clear hW1 b5 u3 u4
    obtain ⟨rfl, rfl, hW⟩ := hcut
    have b5 := (unhide hW).eleven.2.2.2.2.2.1
    have fE := (unhide hW).hold.lists.ents.free
    have r5 := ((unhide hW).hold.lists.own.ents.row hr32).2.2.2.2.2.1
    have hW2 := hide ((unhide hW).stat r 5 (by omega) 7)
    have hLn7 := hide ((unhide hLone).heal 7)
    have hHp7 : Hid (Gd.set E0 r 5 7 r 5 = 7) := Md.set_at _ _ _ _
    go_upto_if 54 with fail
    generalize wc.setCell ⟨gE, r * 11 + 5, none⟩ (.int .i64 7) = w2 at hW2 ⊢
    clear b5 fE r5 hW hLone
    obtain ⟨E1, hE1⟩ : ∃ E1, Gd.set E0 r 5 7 = E1 := ⟨_, rfl⟩
    rw [hE1] at hW2 hLn7 hHp7
    clear hE1
    go_cut [] from 54 to 59 (fun wx => ∃ E : Nat → Nat → Int, Hid (Md.Lone E r 0 kc) ∧ Hid (E r 5 = if a1 = true then 6 else 7) ∧ Hid (Gd.Law w wx T gC gE gI cC cE cI s g c E (fun _ _ => 0)))
    case first =>
      cases a1
      · go_wp2_with fail
        go_meet
        exact ⟨E1, hLn7, (show E1 r 5 = if false = true then 6 else 7 by rw [unhide hHp7]; rfl), hW2⟩
      · have b5 := (unhide hW2).eleven.2.2.2.2.2.1
        have fE := (unhide hW2).hold.lists.ents.free
        have r5 := ((unhide hW2).hold.lists.own.ents.row hr32).2.2.2.2.2.1
        have hW3 := hide ((unhide hW2).stat r 5 (by omega) 6)
        go_wp2_with fail
        go_meet
        exact ⟨Gd.set E1 r 5 6, (unhide hLn7).heal 6, (show Gd.set E1 r 5 6 r 5 = if true = true then 6 else 7 by rw [Md.set_at]; rfl), hW3⟩
    case rest =>
      clear hW2 hLn7 hHp7
      obtain ⟨E, hLn, hHp, hW⟩ := hcut
      go_upto_if 60 with fail
      go_cut [] from 60 to 64 (fun wx => Hid (Gd.Law w wx T gC gE gI cC cE cI s g c E (Md.kit a2 false x y)))
      case first =>
        cases a2
        · have hp : Hid (Gd.Law w wc T gC gE gI cC cE cI s g c E (Md.kit false false x y)) := by
            rw [Md.kit_zero]
            exact unhide hW
          go_wp2_with fail
          go_meet
          exact hp
        · have q6 := (unhide hW).eleven.2.2.2.2.2.2.1
          obtain ⟨x0, x1, x2, x3⟩ := (unhide hW).hold.lists.its.row (show 0 < 40 by omega)
          have fI := (unhide hW).hold.lists.items.free
          have hp := hide ((unhide hW).put 0 1 2 0 3)
          rw [Md.kit_potion x y] at hp
          go_wp2_with fail
          go_meet
          exact hp
      case rest =>
        clear hW
        have hW := hcut
        clear hcut
        go_upto_if 65 with fail
        go_cut [] from 65 to 71 (fun wx => Hid (Gd.Law w wx T gC gE gI cC cE cI s g c E (Md.kit a2 a4 x y)))
        case first =>
          cases a4
          · go_wp2_with fail
            go_meet
            exact hW
          · have q6 := (unhide hW).eleven.2.2.2.2.2.2.1
            obtain ⟨x0, x1, x2, x3⟩ := (unhide hW).hold.lists.its.row (show 1 < 40 by omega)
            have fI := (unhide hW).hold.lists.items.free
            have hp := hide ((unhide hW).put 1 2 1 x y)
            rw [Md.kit_sword] at hp
            go_wp2_with fail
            go_meet
            exact hp
        case rest =>
          clear hW
          have hW := hcut
          clear hcut
          cases a3
          · have hkt : Hid (∀ v, Md.IsRobot c E (Md.kit a2 a4 x y) 0 v → Md.IsRobot c E (Md.kit a2 a4 ((kc : Int) % 24) ((kc : Int) / 24)) 0 v) := fun v h => by
              rw [(unhide hxy).1, (unhide hxy).2]
              exact h
            have cR := hide (mindsRobot_any s g c E (Md.kit a2 a4 x y) gC gE gI cC cE cI 0 wc (unhide hW).hold.lists (unhide hc8) (unhide hW).cap (unhide hcw) ((unhide hLn).good (unhide hok)))
            unfold Gd.world at cR
            go_wp2_with fail
            go_loopw [17, 18, 19, 20, 21, 22, 23, 24] (fun v17 v18 _ _ _ _ _ _ wr => v17 = .int .i64 0 ∧ v18 = .int .i64 4 ∧ wr = wc) (fun _ _ _ _ _ _ _ _ _ => 1)
            case atStart => exact ⟨rfl, rfl, rfl⟩
            case round =>
              obtain ⟨rfl, rfl, hwe⟩ := hrel
              subst hwe
              obtain ⟨b0, b1, b2, b3, b4, b5, b6, b7, b8, b9, b10⟩ := (unhide hW).eleven
              go_wp2_with fail
              refine (unhide cR).mono ?_
              rintro e w5 ⟨v, hv, rfl, hg⟩
              have hv2 := hide ((unhide hLn).first (unhide hFl2) (unhide hkw) (unhide hHp) (unhide hkt v hv))
              have hfin := hide (grown_trans (unhide hW).grown hg)
              clear hv hg b0 b1 b2 b3 b4 b5 b6 b7 b8 b9 b10 cR hW hkt hHp hLn
              cases a1 <;> cases a2 <;> cases a4
              · have h1 : v = 9 ∨ (1 ≤ v ∧ v ≤ 4) := by have := unhide hv2; simpa using this
                clear hv2
                rcases h1 with rfl | ⟨h1, h4⟩
                · go_wp2
                  go_ret
                  exact ⟨rfl, none_below (unhide hfin)⟩
                · have h9 : (v == 9) = false := by simp; omega
                  have h1' : v ≥ 1 := by omega
                  clear h1
                  go_wp2
                  go_ret
                  exact ⟨rfl, none_below (unhide hfin)⟩
              · obtain rfl : v = 5 := by have := unhide hv2; simpa using this
                clear hv2
                go_wp2
                go_ret
                exact ⟨rfl, none_below (unhide hfin)⟩
              · have h1 : v = 9 ∨ (1 ≤ v ∧ v ≤ 4) := by have := unhide hv2; simpa using this
                clear hv2
                rcases h1 with rfl | ⟨h1, h4⟩
                · go_wp2
                  go_ret
                  exact ⟨rfl, none_below (unhide hfin)⟩
                · have h9 : (v == 9) = false := by simp; omega
                  have h1' : v ≥ 1 := by omega
                  clear h1
                  go_wp2
                  go_ret
                  exact ⟨rfl, none_below (unhide hfin)⟩
              · obtain rfl : v = 5 := by have := unhide hv2; simpa using this
                clear hv2
                go_wp2
                go_ret
                exact ⟨rfl, none_below (unhide hfin)⟩
              · have h1 : v = 9 ∨ (1 ≤ v ∧ v ≤ 4) := by have := unhide hv2; simpa using this
                clear hv2
                rcases h1 with rfl | ⟨h1, h4⟩
                · go_wp2
                  go_ret
                  exact ⟨rfl, none_below (unhide hfin)⟩
                · have h9 : (v == 9) = false := by simp; omega
                  have h1' : v ≥ 1 := by omega
                  clear h1
                  go_wp2
                  go_ret
                  exact ⟨rfl, none_below (unhide hfin)⟩
              · obtain rfl : v = 5 := by have := unhide hv2; simpa using this
                clear hv2
                go_wp2
                go_ret
                exact ⟨rfl, none_below (unhide hfin)⟩
              · obtain rfl : v = 6 := by have := unhide hv2; simpa using this
                clear hv2
                go_wp2
                go_ret
                exact ⟨rfl, none_below (unhide hfin)⟩
              · obtain rfl : v = 6 := by have := unhide hv2; simpa using this
                clear hv2
                go_wp2
                go_ret
                exact ⟨rfl, none_below (unhide hfin)⟩
          · have hCp0 : Hid (Md.Camp c E r kc 4) := (unhide hLn).camp
            have hWy0 : Hid (Md.Way c kc 4 0) := .inl ⟨rfl, fun j h1 h2 => by omega⟩
            clear hLn
            go_wp2_with fail
            go_loopw [17, 18, 19, 20, 21, 22, 23, 24] (fun v17 v18 _ _ _ _ _ _ wr => ∃ (d : Nat) (way : Int) (E : Nat → Nat → Int) (gE cE : Nat), d ≤ 4 ∧ v17 = .int .i64 way ∧ v18 = .int .i64 (d : Int) ∧ Hid (Md.Camp c E r kc d) ∧ Hid (Md.Way c kc d way) ∧ Hid (E r 5 = if a1 = true then 6 else 7) ∧ Hid (Gd.Law w wr T gC gE gI cC cE cI s g c E (Md.kit a2 a4 x y))) (fun _ v18 _ _ _ _ _ _ _ => (intOf v18).toNat)
            case atStart => exact ⟨4, 0, E, gE, cE, by omega, rfl, rfl, hCp0, hWy0, hHp, hW⟩
            case round =>
              clear hW hCp0 hWy0 hHp
              obtain ⟨d, way, E, gE, cE, hd4, rfl, rfl, hCp, hWy, hHp, hW⟩ := hrel
              rcases (show d = 0 ∨ ∃ n, d = n + 1 by cases d; exact .inl rfl; exact .inr ⟨_, rfl⟩) with rfl | ⟨n, rfl⟩
              · have hge : ¬ ((0 : Nat) : Int) ≥ 1 := by omega
                have hkt : Hid (∀ v, Md.IsRobot c E (Md.kit a2 a4 x y) 0 v → Md.IsRobot c E (Md.kit a2 a4 ((kc : Int) % 24) ((kc : Int) / 24)) 0 v) := fun v h => by
                  rw [(unhide hxy).1, (unhide hxy).2]
                  exact h
                have cR := hide (mindsRobot_any s g c E (Md.kit a2 a4 x y) gC gE gI cC cE cI 0 wr (unhide hW).hold.lists (unhide hc8) (unhide hW).cap (unhide hcw) ((unhide hCp).good (unhide hok)))
                unfold Gd.world at cR
                clear hd4
                obtain ⟨b0, b1, b2, b3, b4, b5, b6, b7, b8, b9, b10⟩ := (unhide hW).eleven
                go_wp2_with fail
                refine (unhide cR).mono ?_
                rintro e w5 ⟨v, hv, rfl, hg⟩
                have hv2 := hide ((unhide hCp).first (unhide hWy) (unhide hFl2) (unhide hkw) (unhide hHp) (unhide hkt v hv))
                have hfin := hide (grown_trans (unhide hW).grown hg)
                clear hv hg b0 b1 b2 b3 b4 b5 b6 b7 b8 b9 b10 cR hW hkt hHp hCp hWy
                cases a1 <;> cases a2
                · obtain rfl : v = way := by have := unhide hv2; simpa using this
                  clear hv2
                  go_wp2
                  go_ret
                  exact ⟨rfl, none_below (unhide hfin)⟩
                · obtain rfl : v = way := by have := unhide hv2; simpa using this
                  clear hv2
                  go_wp2
                  go_ret
                  exact ⟨rfl, none_below (unhide hfin)⟩
                · obtain rfl : v = way := by have := unhide hv2; simpa using this
                  clear hv2
                  go_wp2
                  go_ret
                  exact ⟨rfl, none_below (unhide hfin)⟩
                · obtain rfl : v = 6 := by have := unhide hv2; simpa using this
                  clear hv2
                  go_wp2
                  go_ret
                  exact ⟨rfl, none_below (unhide hfin)⟩
              · have HD := hide hd4
                have hn9 : (n : Int) ≤ 3 := by omega
                have hge : ((n + 1 : Nat) : Int) ≥ 1 := by omega
                have b4 := (unhide hW).eleven.2.2.2.2.1
                have cw := hide (fun wq => refWay_any ((n + 1 : Nat) : Int) wq)
                have ca := hide (refAt_any wr.heap.size (some ⟨gC, 0, none⟩) 384 cC c (x + (Fx.way ((n + 1 : Nat) : Int)).1) (y + (Fx.way ((n + 1 : Nat) : Int)).2) wr (unhide hW).hold.lists.vec (unhide hc8))
                have ck : Hid (∀ wq, Calls Try.prog 18 #[.int .i64 (Gr.at 384 c (x + (Fx.way ((n + 1 : Nat) : Int)).1) (y + (Fx.way ((n + 1 : Nat) : Int)).2))] wq fun e w' => e = .returned (.bool (Md.wk c kc (n + 1))) ∧ w' = wq) := fun wq => by
                  unfold Md.wk
                  rw [(unhide hxy).1, (unhide hxy).2]
                  exact refWalk_any _ wq
                have wb := Fx.way_bd ((n + 1 : Nat) : Int)
                have hb := unhide hxb
                have s1 : IntKind.i64.wrap (x + (Fx.way ((n + 1 : Nat) : Int)).1) = x + (Fx.way ((n + 1 : Nat) : Int)).1 := by rw [IntKind.wrap_i64]; omega
                have s2 : IntKind.i64.wrap (y + (Fx.way ((n + 1 : Nat) : Int)).2) = y + (Fx.way ((n + 1 : Nat) : Int)).2 := by rw [IntKind.wrap_i64]; omega
                have hmg : Hid (∀ (st : Nat → Int), st 0 = 4 → (0 ≤ st 6 ∧ st 6 ≤ 20) → (∀ f gn, f < 32 → f + 2 * n < 9 → E f 0 = 0 → f ≠ r → Md.wk c kc (n + 1) = true → (0 ≤ gn ∧ gn ≤ 255) → Md.Camp c (En.put E f (En.gen (En.upd (En.upd st 3 (x + (Fx.way ((n + 1 : Nat) : Int)).1)) 4 (y + (Fx.way ((n + 1 : Nat) : Int)).2)) gn)) r kc n)) := fun st h0 h6 f gn f1 f2 f3 f4 f5 f6 => (unhide hCp).join (by have := unhide HD; omega) f5 f1 f2 f3 f4 (by rw [En.upd_other (by omega), En.upd_other (by omega)]; exact h0) (by rw [En.upd_other (by omega), En.upd_same, (unhide hxy).1]) (by rw [En.upd_same, (unhide hxy).2]) (by rw [En.upd_other (by omega), En.upd_other (by omega)]; exact h6) f6
                have hwt : Hid (Md.wk c kc (n + 1) = true → Md.Way c kc n ((n + 1 : Nat) : Int)) := fun h => Md.Way.take (by have := unhide HD; omega) h
                have hsk : Hid (Md.wk c kc (n + 1) = false → Md.Camp c E r kc n ∧ Md.Way c kc n way) := fun h => ⟨(unhide hCp).skip h, (unhide hWy).skip h⟩
                have hsp := hide ((unhide hCp).spare (by have := unhide HD; omega))
                have hGn := hide (unhide hCp).gens
                have hr5 : Hid (∀ f e, f ≠ r → En.put E f e r 5 = if a1 = true then 6 else 7) := fun f e h => by
                  rw [En.put_other (Ne.symm h)]
                  exact unhide hHp
                obtain ⟨dx, hdx⟩ : ∃ dx, (Fx.way ((n + 1 : Nat) : Int)).1 = dx := ⟨_, rfl⟩
                obtain ⟨dy, hdy⟩ : ∃ dy, (Fx.way ((n + 1 : Nat) : Int)).2 = dy := ⟨_, rfl⟩
                rw [hdx] at cw ca ck s1 hmg
                rw [hdy] at cw ca ck s2 hmg
                obtain ⟨A, hA⟩ : ∃ A, Gr.at 384 c (x + dx) (y + dy) = A := ⟨_, rfl⟩
                rw [hA] at ca ck
                obtain ⟨q, hq⟩ : ∃ q, Md.wk c kc (n + 1) = q := ⟨_, rfl⟩
                rw [hq] at ck hmg hwt hsk
                clear hdx hdy hA hq wb hb hd4 hCp hWy
                go_wp2_with fail
                refine (unhide cw _).mono ?_
                rintro e wy ⟨rfl, hy⟩
                subst wy
                go_wp2_with fail
                refine (unhide ca).mono ?_
                rintro e wy ⟨rfl, hy⟩
                subst wy
                go_wp2_with fail
                refine (unhide ck _).mono ?_
                rintro e wy ⟨rfl, hy⟩
                subst wy
                clear cw ca ck b4
                cases q
                · have hsk' := hide (unhide hsk (by first | rfl | trivial))
                  clear hmg hwt hsk hsp hGn hr5
                  go_wp2
                  go_roundw
                  case rel => exact ⟨n, way, E, gE, cE, by have := unhide HD; omega, rfl, by go_num, (unhide hsk').1, (unhide hsk').2, hHp, hW⟩
                  case measure => simp [intOf]
                have hwt' := hide (unhide hwt (by first | rfl | trivial))
                have hst6 : Hid (En.stats 4 0 = 4 ∧ (0 ≤ En.stats 4 6 ∧ En.stats 4 6 ≤ 20)) := ⟨rfl, by show (0 : Int) ≤ En.stats 4 6; decide, by show En.stats 4 6 ≤ (20 : Int); decide⟩
                have cst := hide (entRefStats_any 4 wr)
                obtain ⟨st, hst⟩ : ∃ st, En.stats 4 = st := ⟨_, rfl⟩
                rw [hst] at cst hst6
                clear hst hsk hwt hHp
                unfold En.cells at cst
                go_wp2_with fail
                refine (unhide cst).mono ?_
                rintro e w3 ⟨rfl, hg1⟩
                have hQ := hide (Lie.born w3 st 36)
                have hg2 := hide (grown_trans hg1 (World.grownBy_alloc w3 (.cells (En.cells st) 36) none))
                have hoff : Hid (Ft.Off w w3.heap.size T T gC gE gI) := by
                  have q1 := ((unhide hW).on hg1).hold.box.lt
                  have q3 := ((unhide hW).on hg1).hold.lists.cells.lt
                  have q4 := ((unhide hW).on hg1).hold.lists.ents.lt
                  have q5 := ((unhide hW).on hg1).hold.lists.items.lt
                  have q6 := (unhide hW).grown.size
                  have q7 := hg1.size
                  exact ⟨by omega, by omega, by omega, by omega, by omega, by omega⟩
                have hW1 := hide ((unhide hW).on (unhide hg2))
                clear hg1 cst hg2 hW
                unfold En.cells at hQ hW1
                go_upto_region 20 with fail
                obtain ⟨Q, hQe⟩ : ∃ Q, w3.heap.size = Q := ⟨_, rfl⟩
                rw [hQe] at hQ hoff ⊢
                generalize w3.alloc (.cells #[.int .i64 (st 0), .int .i64 (st 1), .int .i64 (st 2), .int .i64 (st 3), .int .i64 (st 4), .int .i64 (st 5), .int .i64 (st 6), .int .i64 (st 7), .int .i64 (st 8), .int .i64 (st 9), .int .i64 (st 10)] 36) = wd at hQ hW1 ⊢
                clear hQe
                have z3 := (unhide hQ).ent.2.2.2.1
                have z4 := (unhide hQ).ent.2.2.2.2.1
                have zf := (unhide hQ).free
                have hW2 := hide (((unhide hW1).off (unhide hoff) 3 (.int .i64 (x + dx))).off (unhide hoff) 4 (.int .i64 (y + dy)))
                have hQ2 := hide (((unhide hQ).upd 3 (x + dx)).upd 4 (y + dy))
                go_upto_region 21 with fail
                generalize (wd.setCell ⟨Q, 3, none⟩ (.int .i64 (x + dx))).setCell ⟨Q, 4, none⟩ (.int .i64 (y + dy)) = we at hW2 hQ2 ⊢
                clear z3 z4 zf hQ hW1 hoff s1 s2
                have hm2 := hide (unhide hmg st (unhide hst6).1 (unhide hst6).2)
                have hk4 : Hid (En.upd (En.upd st 3 (x + dx)) 4 (y + dy) 0 = 4) := (show En.upd (En.upd st 3 (x + dx)) 4 (y + dy) 0 = 4 by rw [En.upd_other (by omega), En.upd_other (by omega)]; exact (unhide hst6).1)
                obtain ⟨rt, hrt⟩ : ∃ z, En.upd (En.upd st 3 (x + dx)) 4 (y + dy) = z := ⟨_, rfl⟩
                rw [hrt] at hm2 hQ2 hk4
                obtain ⟨f, hf32, hf9, -, hf0, hfr, hfl⟩ := unhide hsp
                have csp := hide (refSpawn_some gE 32 cE f E rt we (unhide hW2).hold.lists.own.ents (by rw [unhide hk4]; omega) hf32 hf0 (fun j h => by unfold En.freeQ; simpa using hfl j h) (unhide hGn))
                have hCp2 : Hid (Md.Camp c (En.put E f (En.gen rt ((E f 1 + 1) % 256))) r kc n) := unhide hm2 f _ hf32 hf9 hf0 hfr (by first | rfl | trivial) (by omega)
                have hHp2 := hide (unhide hr5 f (En.gen rt ((E f 1 + 1) % 256)) hfr)
                obtain ⟨F, hFe⟩ : ∃ F, En.put E f (En.gen rt ((E f 1 + 1) % 256)) = F := ⟨_, rfl⟩
                rw [hFe] at csp hCp2 hHp2
                have b5 := (unhide hW2).eleven.2.2.2.2.2.1
                obtain ⟨c0, c1, c2, c3, c4, c5, c6, c7, c8, c9, c10⟩ := (unhide hQ2).ent
                clear hrt hFe hf32 hf9 hf0 hfr hfl hsp hmg hm2 hk4 hst6 hGn hr5
                unfold En.cells at csp
                go_wp2_with fail
                refine (unhide csp).mono ?_
                rintro e' wg ⟨jE, cap, rfl, hlo, hnc, hcm, hown, hgr⟩
                have hW5 := hide ((unhide hW2).folk hnc hlo hown hgr)
                have y5 := ((unhide hW2).on hgr).eleven.2.2.2.2.2.1
                have fT := ((unhide hW2).on hgr).hold.box.free
                clear hlo hnc hcm hown hgr csp b5 c0 c1 c2 c3 c4 c5 c6 c7 c8 c9 c10 hW2 hQ2
                go_wp2
                go_roundw
                case rel => exact ⟨n, ((n + 1 : Nat) : Int), F, jE, cap, by have := unhide HD; omega, rfl, by go_num, hCp2, hwt', hHp2, hW5⟩
                case measure => simp [intOf]

set_option maxRecDepth 100000 in
theorem lifted (os : Os) (started : os.Started) (H : Type) (enc : TypeId × Value → H) :
    ReturnsInHanded {} Try.checked os 7 .any (Rows.mindsFirstSpec.pre6 enc Try.prog Try.f7 Rows.mindsFirstRow.domain false) (Rows.mindsFirstSpec.post enc Try.prog Try.f7 false true false false) := by
  refine returnsInHanded_of_change (C := Try.checked) own started (by kernel_rfl) Try.func7
    (ChangeSpec.witness6 (enc := enc) (C := Try.checked) false ⟨#[], #[.int .i64 0, .bool false, .bool false, .bool false, .bool false, .int .i64 0], []⟩ 8 (by kernel_rfl) (by kernel_rfl) (by kernel_rfl) (by kernel_rfl)) ?_
  intro W base args ds gs before hval0 hW hcnd _
  have hval : ∀ (j : Nat) t v, Try.f7.params[j]? = some t → args[j]? = some v → Value.okWide Try.prog W .any base t v := hval0
  have hW' := hW
  obtain ⟨p, q, hA0, hV, rfl, hfz, hnd⟩ := hW
  have hA : DataW.TrodAll enc Try.prog W 0 (fun _ => true) true Try.f7.params.toList args.toList ds p := hA0
  rw [Try.params7] at hA hval
  obtain ⟨v0, vs0, d0, ds0, p0, q0, hargs, rfl, rfl, h0, r0⟩ := trodAll_cons hA
  obtain ⟨v1, vs1, d1, ds1, p1, q1, rfl, rfl, rfl, h1, r1⟩ := trodAll_cons r0
  obtain ⟨v2, vs2, d2, ds2, p2, q2, rfl, rfl, rfl, h2, r2⟩ := trodAll_cons r1
  obtain ⟨v3, vs3, d3, ds3, p3, q3, rfl, rfl, rfl, h3, r3⟩ := trodAll_cons r2
  obtain ⟨v4, vs4, d4, ds4, p4, q4, rfl, rfl, rfl, h4, r4⟩ := trodAll_cons r3
  obtain ⟨v5, vs5, d5, ds5, p5, q5, rfl, rfl, rfl, h5, r5⟩ := trodAll_cons r4
  obtain ⟨rfl, rfl, rfl⟩ := trodAll_nil r5
  obtain rfl : args = #[v0, v1, v2, v3, v4, v5] := by cases args; simp_all
  obtain ⟨rfl, rfl⟩ := trodVars_none hV
  obtain ⟨a0, rfl, rfl, rfl, w0⟩ := open_int Try.underlying2 (hval 0 2 v0 rfl rfl) h0
  obtain ⟨a1, rfl, rfl, rfl⟩ := open_bool Try.underlying4 (hval 1 4 v1 rfl rfl) h1
  obtain ⟨a2, rfl, rfl, rfl⟩ := open_bool Try.underlying4 (hval 2 4 v2 rfl rfl) h2
  obtain ⟨a3, rfl, rfl, rfl⟩ := open_bool Try.underlying4 (hval 3 4 v3 rfl rfl) h3
  obtain ⟨a4, rfl, rfl, rfl⟩ := open_bool Try.underlying4 (hval 4 4 v4 rfl rfl) h4
  obtain ⟨a5, rfl, rfl, rfl, w5⟩ := open_int Try.underlying3 (hval 5 3 v5 rfl rfl) h5
  clear hA0 hval0
  refine (walk a0 a1 a2 a3 a4 a5 w0 w5 W).mono fun e W' ⟨he, hg⟩ => ?_
  subst he
  exact ⟨_, rfl, _, _, _, [], _, [], hW', trodAll_mk1 (shut_bool Try.underlying4 _), (trodAll_cons_mk (shut_int Try.underlying2 w0) (trodAll_cons_mk (shut_bool Try.underlying4 _) (trodAll_cons_mk (shut_bool Try.underlying4 _) (trodAll_cons_mk (shut_bool Try.underlying4 _) (trodAll_cons_mk (shut_bool Try.underlying4 _) (trodAll_cons_mk (shut_int Try.underlying3 w5) trodAll_mk0)))))), rfl, hg.frame _, fun h => by cases h⟩

theorem over : Rows.mindsFirstRow.holds Try.pinned (OpenSpec.ofChange Rows.mindsFirstSpec) :=
  OpenClaim.holds_of_wide 7 Try.f7 rfl rfl rfl rfl rfl rfl rfl ⟨rfl, rfl, rfl, rfl, rfl⟩ rfl rfl rfl rfl rfl (by kernel_rfl) Try.func7 (by kernel_rfl)
    (of_decide_eq_true (by kernel_rfl)) (by unfold Func.isWrapper; first | (rw [if_pos (by decide +kernel)]; kernel_rfl) | (rw [if_neg (by decide +kernel)]; exact ⟨rfl, rfl⟩))
    (fun os started H enc _ => lifted os started H enc)

theorem proved : Rows.MindsFirstSaid :=
  over
#print axioms proved
end Go.Proofs.Ytbploaihicakeaa.mindsFirst
