/-
  The law's own world: its list of cells is as wide as it is long.
  The law's own crowd, and where everybody stands.
-/
import Derived.Test.YtbploaihicakeaaPart23
import Derived.Test.YtbploaihicakeaaPart27
namespace Go.Proofs.Ytbploaihicakeaa
open Go.RowKit

/-- A world is handed back whose list of cells has room for all of them. -/
def Md.Wide (e : Ending) : Prop := ∃ (s : Nat → Int) (gC gE gI cC cE cI : Nat) (g : Nat → Int), 384 ≤ cC ∧ e = .returned (.agg (Gd.world s gC gE gI cC cE cI g))

theorem Md.snug_cap {s : Nat → Int} {gC gE gI cC cE cI : Nat} {g : Nat → Int} (h : Gd.Snug (.returned (.agg (Gd.world s gC gE gI cC cE cI g)))) : 384 ≤ cC := by
  obtain ⟨s', gC', gE', gI', g', he⟩ := h
  simp [Gd.world] at he
  omega

theorem Md.Wide.cap {s : Nat → Int} {gC gE gI cC cE cI : Nat} {g : Nat → Int} (h : Md.Wide (.returned (.agg (Gd.world s gC gE gI cC cE cI g)))) : 384 ≤ cC := by
  obtain ⟨s', gC', gE', gI', cC', cE', cI', g', hc, he⟩ := h
  simp [Gd.world] at he
  omega

theorem Md.wide_snug {e : Ending} (h : Gd.Snug e) : Md.Wide e := by
  obtain ⟨s', gC', gE', gI', g', he⟩ := h
  exact ⟨s', gC', gE', gI', 384, 32, 40, g', Nat.le_refl _, he⟩

/-- The law's world without items, as world_bare has it. -/
theorem world_wide (seed floor seat at_ gold : Int) (s0 : 0 ≤ seat) (s4 : seat < 4) (w : World) :
    Calls Try.prog 23 #[.int .i64 seed, .int .i64 floor, .int .i64 seat, .int .i64 at_, .slice none 0 0, .int .i64 gold] w fun e w' => ∃ (c : Nat → Int) (kc : Nat) (s g : Nat → Int) (E : Nat → Nat → Int), Gd.Sit c g E (fun _ _ => 0) seat (at_ % 32).toNat kc ∧ Nv.Floor c ∧ E = En.put (fun _ _ => 0) (at_ % 32).toNat (Gd.folk seat kc (at_ % 20)) ∧ Md.Wide e ∧ Gd.Worlds w s g c E (fun _ _ => 0) e w' := by
  refine (world_any seed floor seat at_ gold none 0 0 (fun _ _ => 0) w ⟨by omega, .inl rfl⟩).mono ?_
  rintro e w' ⟨c, kc, hF, hkc, hkw, hshop, I, hW, hOk, hKn⟩
  have hI := hKn.1.1 rfl
  subst hI
  rw [Int.emod_eq_of_lt s0 s4] at hW
  exact ⟨c, kc, _, _, _, ⟨Gd.told_fine hF hOk (by omega) (by omega) (by omega) (by omega), s0, s4, Gd.folk_hero (by omega) _ _ _, by omega, hkc, hkw, by rw [En.put_same]; rfl, by rw [En.put_same]; rfl⟩, hF, rfl, Md.wide_snug hKn.2, hW⟩

end Go.Proofs.Ytbploaihicakeaa

namespace Go.Proofs.Ytbploaihicakeaa
open Go.RowKit

/-- Whoever is there stands on a cell that can be walked on, and alone. -/
structure Ft.Stands (c : Nat → Int) (E : Nat → Nat → Int) : Prop where
  on : ∀ k, k < 32 → E k 0 ≠ 0 → 0 ≤ E k 3 ∧ E k 3 < 24 ∧ 0 ≤ E k 4 ∧ E k 4 < 16 ∧ Gr.walkB (c (E k 4 * 24 + E k 3).toNat) = true
  apart : ∀ j k, j < 32 → k < 32 → E j 0 ≠ 0 → E k 0 ≠ 0 → E j 3 = E k 3 → E j 4 = E k 4 → j = k

structure Ft.Set (c : Nat → Int) (E : Nat → Nat → Int) : Prop where
  born : Ft.Born E
  stands : Ft.Stands c E

/-- A cell that can be walked on, where nobody stands. -/
def Ft.Room (c : Nat → Int) (E : Nat → Nat → Int) (q : Nat) : Prop := Gr.walkB (c q) = true ∧ En.first (En.atQ E ((q : Int) % 24) ((q : Int) / 24)) 32 < 0

/-- One that is made up, at a cell. -/
structure Ft.MonAt (kd : Int) (q : Nat) (e : Nat → Int) : Prop where
  mon : Ft.Mon kd e
  x : e 3 = (q : Int) % 24
  y : e 4 = (q : Int) / 24

theorem Ft.MonAt.ails {kd p r : Int} {q : Nat} {e : Nat → Int} (h : Ft.MonAt kd q e) (p0 : 0 ≤ p) (p9 : p ≤ 9) (r0 : 0 ≤ r) (r9 : r ≤ 9) : Ft.MonAt kd q (En.upd (En.upd e 9 p) 10 r) :=
  ⟨h.mon.ails p0 p9 r0 r9, by rw [En.upd_other (by omega), En.upd_other (by omega)]; exact h.x, by rw [En.upd_other (by omega), En.upd_other (by omega)]; exact h.y⟩

theorem Ft.cell_num {q : Nat} (hq : q < 384) : 0 ≤ (q : Int) % 24 ∧ (q : Int) % 24 < 24 ∧ 0 ≤ (q : Int) / 24 ∧ (q : Int) / 24 < 16 ∧ ((q : Int) / 24 * 24 + (q : Int) % 24).toNat = q := by omega

theorem Ft.room_none {E : Nat → Nat → Int} {x y : Int} (h : En.first (En.atQ E x y) 32 < 0) : ∀ j, j < 32 → E j 0 ≠ 0 → ¬ (E j 3 = x ∧ E j 4 = y) := by
  rcases En.first_cases (En.atQ E x y) 32 with ⟨_, hno⟩ | ⟨k, _, he, _⟩
  · intro j hj h0 hxy
    have := hno j hj
    simp [En.atQ, h0, hxy.1, hxy.2] at this
  · omega

theorem Ft.Set.put {c : Nat → Int} {E : Nat → Nat → Int} (h : Ft.Set c E) {r q : Nat} {e : Nat → Int} {gn : Int} (_h0 : E r 0 = 0) (hq : q < 384) (hr : Ft.Room c E q) (hx : e 3 = (q : Int) % 24) (hy : e 4 = (q : Int) / 24) (he : e 6 = En.stats (e 0) 6 ∧ e 7 = En.stats (e 0) 7 ∧ e 8 = En.stats (e 0) 8) : Ft.Set c (En.put E r (En.gen e gn)) := by
  obtain ⟨n1, n2, n3, n4, n5⟩ := Ft.cell_num hq
  have hno := Ft.room_none hr.2
  have e3 : En.gen e gn 3 = (q : Int) % 24 := hx
  have e4 : En.gen e gn 4 = (q : Int) / 24 := hy
  refine ⟨h.born.put he, ⟨fun k hk k0 => ?_, fun j k hj hk j0 k0 hx' hy' => ?_⟩⟩
  · by_cases e' : k = r
    · subst e'
      rw [En.put_same, e3, e4, n5]
      exact ⟨n1, n2, n3, n4, hr.1⟩
    · rw [En.put_other e'] at k0 ⊢
      exact h.stands.on k hk k0
  · by_cases ej : j = r
    · by_cases ek : k = r
      · omega
      · subst ej
        rw [En.put_same, En.put_other ek, e3] at hx'
        rw [En.put_same, En.put_other ek, e4] at hy'
        rw [En.put_other ek] at k0
        exact absurd ⟨hx'.symm, hy'.symm⟩ (hno k hk k0)
    · by_cases ek : k = r
      · subst ek
        rw [En.put_same, En.put_other ej, e3] at hx'
        rw [En.put_same, En.put_other ej, e4] at hy'
        rw [En.put_other ej] at j0
        exact absurd ⟨hx', hy'⟩ (hno j hj j0)
      · rw [En.put_other ej, En.put_other ek] at hx' hy'
        rw [En.put_other ej] at j0
        rw [En.put_other ek] at k0
        exact h.stands.apart j k hj hk j0 k0 hx' hy'

theorem Ft.first_set {c : Nat → Int} {kc : Nat} (hkc : kc < 384) (hkw : Gr.walkB (c kc) = true) : Ft.Set c (En.put (fun _ _ => 0) 1 (Gd.folk 0 kc 1)) := by
  obtain ⟨n1, n2, n3, n4, n5⟩ := Ft.cell_num hkc
  have one : ∀ k, En.put (fun _ _ => 0) 1 (Gd.folk 0 kc 1) k 0 ≠ 0 → k = 1 := fun k h => by
    by_cases e : k = 1
    · exact e
    · rw [En.put_other e] at h
      exact absurd rfl h
  refine ⟨Ft.first_born kc, ⟨fun k _ k0 => ?_, fun j k _ _ j0 k0 _ _ => ?_⟩⟩
  · obtain rfl := one k k0
    rw [En.put_same]
    show 0 ≤ (kc : Int) % 24 ∧ (kc : Int) % 24 < 24 ∧ 0 ≤ (kc : Int) / 24 ∧ (kc : Int) / 24 < 16 ∧ Gr.walkB (c ((kc : Int) / 24 * 24 + (kc : Int) % 24).toNat) = true
    rw [n5]
    exact ⟨n1, n2, n3, n4, hkw⟩
  · rw [one j j0, one k k0]

set_option maxRecDepth 8000 in
set_option maxHeartbeats 12800000 in
theorem crowd_full (seed floor frame : Int) (aK : Option Addr) (lenK capK : Nat) (f : Nat → Int) (aL : Option Addr) (nL cL : Nat) (M : Nat → Nat → Int) (w : World) (hK : NumArg w aK lenK f) (hM : ItArg w aL nL cL M) :
    Calls Try.prog 9 #[.int .i64 seed, .int .i64 floor, .slice aK lenK capK, .slice aL nL cL, .int .i64 frame] w fun e w' => ∃ (c s g : Nat → Int) (E I : Nat → Nat → Int), Ft.Fit c E I ∧ Ft.Set c E ∧ 0 ≤ Gd.hero E 0 ∧ (0 < lenK → f 0 % 4 = 1 → Ft.Has E 2) ∧ Md.Wide e ∧ Gd.Worlds w s g c E I e w' := by
  have hm6 := hK.most
  unfold maxLen at hm6
  have hN := hide hK
  have hItw := hide ((hM.on (World.grownBy_alloc w (.cells #[.int .i64 0, .int .i64 0, .int .i64 0, .int .i64 0, .slice none 0 0, .slice none 0 0, .slice none 0 0, .int .i64 0, .int .i64 0, .int .i64 0, .int .i64 0] 29) none)).some (min nL 20) (by omega) (by omega))
  have hr0 := hide (Arr.lit (heap_alloc_new w (.cells #[.int .i64 0, .int .i64 0, .int .i64 0, .int .i64 0, .slice none 0 0, .slice none 0 0, .slice none 0 0, .int .i64 0, .int .i64 0, .int .i64 0, .int .i64 0] 29))).lie
  have hg0 := hide (World.grownBy_alloc w (.cells #[.int .i64 0, .int .i64 0, .int .i64 0, .int .i64 0, .slice none 0 0, .slice none 0 0, .slice none 0 0, .int .i64 0, .int .i64 0, .int .i64 0, .int .i64 0] 29) none)
  have hs0 : Hid ((w.alloc (.cells #[.int .i64 0, .int .i64 0, .int .i64 0, .int .i64 0, .slice none 0 0, .slice none 0 0, .slice none 0 0, .int .i64 0, .int .i64 0, .int .i64 0, .int .i64 0] 29)).heap.size = w.heap.size + 1) := by
    show _ = _
    simp
  obtain ⟨W, hWb, cW⟩ : ∃ W : Int → Int → Int, Hid (∀ a n, 0 < n → 0 ≤ W a n ∧ W a n < n) ∧ Hid (∀ a n wq, 0 < n → n ≤ 1048576 → Calls Try.prog 31 #[.int .i64 a, .int .i64 n] wq fun e w' => e = .returned (.int .i64 (W a n)) ∧ w' = wq) ∧ Hid (∀ a, W a 4 = a % 4) := ⟨fun a n => a % n, fun a n hn => ⟨Int.emod_nonneg _ (by omega), Int.emod_lt_of_pos _ hn⟩, fun a n wq h1 h2 => within8_any a n wq h1 (by omega), fun _ => rfl⟩
  obtain ⟨cW, hW4⟩ := cW
  have cX : Hid (∀ a n wq, 0 < n → n ≤ 1048576 → Calls Try.prog 31 #[.int .i64 a, .int .i64 n] wq fun e w' => ∃ m : Int, 0 ≤ m ∧ m < n ∧ e = .returned (.int .i64 m) ∧ w' = wq) := fun a n wq h1 h2 => (unhide cW a n wq h1 h2).mono fun e w' ⟨he, hw⟩ => ⟨_, (unhide hWb a n h1).1, (unhide hWb a n h1).2, he, hw⟩
  clear hK hM
  go_enter Try.func9, Try.ntmps9
  go_wp2_with fail
  refine (world_any seed floor 0 1 50 aL nL cL M _ (unhide hItw)).mono ?_
  rintro e wa ⟨c, kc, hF, hkc, hkw, -, I, ⟨gC, gE, gI, cC, cE, cI, rfl, hcap, l1, l2, l3, n1, n2, n3, hL, hg⟩, hOk, -, hSn⟩
  have hcw : Hid (384 ≤ cC) := Md.snug_cap hSn
  clear hSn
  have hfit : Hid (Ft.Fit c (En.put (fun _ _ => 0) 1 (Gd.folk 0 kc 1)) I) := Ft.first_fit hF hOk
  have hborn : Hid (Ft.Set c (En.put (fun _ _ => 0) 1 (Gd.folk 0 kc 1))) := Ft.first_set hkc hkw
  have hroom := hide (Ft.first_room (kc := kc) hF)
  have hone : Hid (En.put (fun _ _ => 0) 1 (Gd.folk 0 kc 1) 1 0 = 1 ∧ En.put (fun _ _ => 0) 1 (Gd.folk 0 kc 1) 1 2 = 0) := ⟨rfl, rfl⟩
  have hcc : Hid (∀ i, 0 ≤ c i ∧ c i ≤ 255) := (unhide hfit).cells
  have hz0 : Hid (En.put (fun _ _ => 0) 1 (Gd.folk 0 kc 1) 0 0 = 0) := rfl
  obtain ⟨E0, hE0⟩ : ∃ E0, En.put (fun _ _ => 0) 1 (Gd.folk 0 kc 1) = E0 := ⟨_, rfl⟩
  have hL2 : Gd.Lists wa gC gE gI c E0 I := by rw [← hE0]; exact hL
  rw [hE0] at hfit hborn hroom hone hz0
  obtain ⟨s, hs⟩ : ∃ s, Gd.head seed (1 + floor % 3) = s := ⟨_, rfl⟩
  obtain ⟨g, hge⟩ : ∃ g, Gd.give (fun _ => 0) ((0 : Int) % 4).toNat ((50 : Int) % 1000) = g := ⟨_, rfl⟩
  rw [hs, hge]
  have hW := hide (Gd.law_new (s := s) (g := g) (cC := cC) (cI := cI) (unhide hg0) hcap l1 l2 l3 n1 n2 n3 hL2 hg)
  have lC : Hid (w.heap.size ≤ gC) := (show w.heap.size ≤ gC by have := unhide hs0; omega)
  have hR := hide ((unhide hr0).on (grown_trans hg (World.grownBy_alloc wa (.cells #[.int .i64 (s 0), .int .i64 (s 1), .int .i64 (s 2), .int .i64 (s 3), .slice (some ⟨gC, 0, none⟩) 384 cC, .slice (some ⟨gE, 0, none⟩) 32 cE, .slice (some ⟨gI, 0, none⟩) 40 cI, .int .i64 (g 0), .int .i64 (g 1), .int .i64 (g 2), .int .i64 (g 3)] 29) none)))
  have hRT : Hid (wa.heap.size ≠ w.heap.size) := (show wa.heap.size ≠ w.heap.size by have := unhide hs0; have := hg.size; omega)
  clear hcap l1 l2 l3 n1 n2 n3 hL hL2 hg hOk hF hkc hkw hE0 hs hge hItw hg0 hs0 hr0
  unfold Gd.world at hW ⊢
  go_upto_region 2 with fail
  obtain ⟨T, hT⟩ : ∃ T, wa.heap.size = T := ⟨_, rfl⟩
  rw [hT] at hW hRT ⊢
  generalize wa.alloc (.cells #[.int .i64 (s 0), .int .i64 (s 1), .int .i64 (s 2), .int .i64 (s 3), .slice (some ⟨gC, 0, none⟩) 384 cC, .slice (some ⟨gE, 0, none⟩) 32 cE, .slice (some ⟨gI, 0, none⟩) 40 cI, .int .i64 (g 0), .int .i64 (g 1), .int .i64 (g 2), .int .i64 (g 3)] 29) = wb at hW hR ⊢
  clear hT
  obtain ⟨R, hRe⟩ : ∃ R, w.heap.size = R := ⟨_, rfl⟩
  rw [hRe] at hR hRT ⊢
  have lR : Hid (w.heap.size ≤ R) := (show w.heap.size ≤ R by omega)
  clear hRe
  have b1 := (unhide hW).eleven.2.1
  have fT := (unhide hW).hold.box.free
  have hfr := unhide hWb frame 1048576 (by omega)
  go_wp2_with fail
  refine (unhide cW _ _ _ (by decide) (by decide)).mono ?_
  rintro e wy ⟨rfl, hy⟩
  subst wy
  obtain ⟨fr, hfe⟩ : ∃ fr, W frame 1048576 = fr := ⟨_, rfl⟩
  rw [hfe]
  have hW1 := hide ((unhide hW).tick fr)
  have hR1 := hide ((unhide hR).other (unhide hRT) 1 (.int .i64 fr))
  obtain ⟨s2, hs2⟩ : ∃ s2, Ft.tick s fr = s2 := ⟨_, rfl⟩
  rw [hs2] at hW1
  clear hfe hfr hs2
  go_upto_region 3 with fail
  generalize wb.setCell ⟨T, 1, none⟩ (.int .i64 fr) = wc at hW1 hR1 ⊢
  clear b1 fT hW hR
  go_upto_block 0 with fail
  go_cut [] from 12 (fun wx => ∃ (E : Nat → Nat → Int) (gE cE : Nat), Hid (Ft.Fit c E I) ∧ Hid (Ft.Set c E) ∧ Hid (E 1 0 = 1 ∧ E 1 2 = 0) ∧ Hid (0 < lenK → f 0 % 4 = 1 → Ft.Has E 2) ∧ Hid (Gd.Law w wx T gC gE gI cC cE cI s2 g c E I) ∧ Hid (Lie wx R 29 11 (fun j => #[.int .i64 0, .int .i64 0, .int .i64 0, .int .i64 0, .slice none 0 0, .slice none 0 0, .slice none 0 0, .int .i64 0, .int .i64 0, .int .i64 0, Value.int .i64 0][j]?.getD undef)))
  case first =>
    go_wp2_with fail
    go_loopw [12, 13] (fun va vi wr => ∃ (a i : Nat) (E : Nat → Nat → Int) (gE cE : Nat), i ≤ lenK ∧ i ≤ 12 ∧ a ≤ 400 ∧ va = .int .i64 (a : Int) ∧ vi = .int .i64 (i : Int) ∧ Hid (Ft.Fit c E I) ∧ Hid (Ft.Set c E) ∧ Hid (E 1 0 = 1 ∧ E 1 2 = 0) ∧ Hid ((i = 0 → a = 0 ∧ E = E0) ∧ (0 < i → f 0 % 4 = 1 → Ft.Has E 2)) ∧ Hid (Gd.Law w wr T gC gE gI cC cE cI s2 g c E I) ∧ Hid (Lie wr R 29 11 (fun j => #[.int .i64 0, .int .i64 0, .int .i64 0, .int .i64 0, .slice none 0 0, .slice none 0 0, .slice none 0 0, .int .i64 0, .int .i64 0, .int .i64 0, Value.int .i64 0][j]?.getD undef))) (fun _ vi _ => 30 - (intOf vi).toNat)
    case atStart => exact ⟨0, 0, E0, gE, cE, by omega, by omega, by omega, rfl, rfl, hfit, hborn, hone, ⟨fun _ => ⟨rfl, rfl⟩, fun h => by omega⟩, hW1, hR1⟩
    case round =>
      clear hW1 hR1 hfit hborn hone
      obtain ⟨a, i, E, gE, cE, hi, hi12, ha, rfl, rfl, hFit, hBorn, hOne, hSt, hW, hR⟩ := hrel
      by_cases hlt : i < lenK ∧ i < 12
      · have hlt' : (i : Int) < (lenK : Int) := by omega
        have hlt2 : (i : Int) < 12 := by omega
        have HL := hide hlt
        clear hi hi12
        obtain ⟨b, o, rfl, hbw, hcw⟩ := (unhide hN).at hlt.1
        have hbl : b < wr.heap.size := Nat.lt_of_lt_of_le hbw (unhide hW).grown.size
        have hcell := (grown_cell (unhide hW).grown b (o + i) hbw (by simp)).trans hcw
        have hbT : Hid (T ≠ b) := (show T ≠ b by have := (unhide hW).lT; omega)
        clear hbw hcw
        have hcl : Hid (∀ x, wr.grownBy x none → x.cell? ⟨b, o + i, none⟩ = some (.int .i64 (f i))) := fun x hx => (grown_cell hx b _ hbl (by simp)).trans hcell
        obtain ⟨v, hv⟩ : ∃ v, f i = v := ⟨_, rfl⟩
        have hv0 : Hid (i = 0 → f 0 = v) := fun h => by rw [← hv, h]
        rw [hv] at hcl hcell
        clear hlt hv
        obtain ⟨p, hp, hpw, hpf⟩ := unhide hroom
        have hp' := hide (show p < 384 ∧ Gr.walkB (c p) = true ∧ En.first (En.atQ E0 ((p : Int) % 24) ((p : Int) / 24)) 32 < 0 from ⟨hp, hpw, hpf⟩)
        clear hp hpw hpf
        go_upto_block 2 with fail
        go_cut [12] from 35 to 58 (fun va wx => ∃ q : Nat, q ≤ 400 ∧ va = .int .i64 (q : Int) ∧ wx = wr ∧ Hid (i = 0 → q < 384) ∧ Hid (q < 384 → Ft.Room c E q))
        case first =>
          have b4 := (unhide hW).eleven.2.2.2.2.1
          have b5 := (unhide hW).eleven.2.2.2.2.2.1
          go_wp2_with fail
          go_loop [12] (fun va => ∃ q : Nat, q ≤ 400 ∧ va = .int .i64 (q : Int) ∧ Hid (i = 0 → q ≤ p)) (fun va => 500 - (intOf va).toNat)
          case atStart => exact ⟨a, ha, rfl, fun h => by rw [((unhide hSt).1 h).1]; omega⟩
          case round =>
            obtain ⟨q, hq, rfl, hqp⟩ := hrel
            by_cases hq4 : q < 384
            · have hq4' : (q : Int) < 384 := by omega
              have HQ := hide hq4
              have u0 : wr.cell? ⟨gC, q, none⟩ = some (.int .u8 (c q)) := (unhide hW).hold.lists.cells.cell hq4
              have c0 := (unhide hcc q).1
              have c9 := (unhide hcc q).2
              have cw := hide (fun wx => refWalk_any (c q) wx)
              have ca := hide (fun wx (hx : Own wx gE 32 E) => entRefAt_same gE 32 cE E ((q : Int) % 24) ((q : Int) / 24) wx hx.ents)
              have hpq : Hid (i = 0 → q = p → Gr.walkB (c q) = true ∧ En.first (En.atQ E ((q : Int) % 24) ((q : Int) / 24)) 32 < 0) := fun h e => by
                rw [e, ((unhide hSt).1 h).2]
                exact (unhide hp').2
              obtain ⟨wk, hwk⟩ : ∃ b, Gr.walkB (c q) = b := ⟨_, rfl⟩
              obtain ⟨z, hz⟩ : ∃ z, En.first (En.atQ E ((q : Int) % 24) ((q : Int) / 24)) 32 = z := ⟨_, rfl⟩
              rw [hwk] at cw hpq
              rw [hz] at ca hpq
              have HRm : Hid (wk = true → z < 0 → Ft.Room c E q) := fun h1 h2 => ⟨hwk.trans h1, by rw [hz]; exact h2⟩
              clear hwk hz hq4 hq
              go_wp2_with fail
              refine (unhide cw _).mono ?_
              rintro e wy ⟨rfl, hy⟩
              subst wy
              cases wk
              · go_wp2
                go_round
                case rel => exact ⟨q + 1, by have := unhide HQ; omega, by go_num, fun h => by
                  have h1 := unhide hqp h
                  by_cases e : q = p
                  · have := (unhide hpq h e).1
                    simp at this
                  · omega⟩
                case measure => simp [intOf]; have := unhide HQ; omega
              · go_wp2_with fail
                refine (unhide ca _ (unhide hW).hold.lists.own).mono ?_
                rintro e wy ⟨rfl, hy⟩
                subst wy
                by_cases hz0 : z < 0
                · go_wp2_with fail
                  go_meet
                  exact ⟨q, by have := unhide HQ; omega, rfl, rfl, fun _ => unhide HQ, fun _ => unhide HRm (by first | rfl | trivial) hz0⟩
                · go_wp2
                  go_round
                  case rel => exact ⟨q + 1, by have := unhide HQ; omega, by go_num, fun h => by
                    have h1 := unhide hqp h
                    by_cases e : q = p
                    · have := (unhide hpq h e).2
                      omega
                    · omega⟩
                  case measure => simp [intOf]; have := unhide HQ; omega
            · have hq4' : ¬ (q : Int) < 384 := by omega
              have hpl := (unhide hp').1
              go_wp2_with fail
              go_meet
              exact ⟨q, hq, rfl, rfl, fun h => by have := unhide hqp h; omega, fun h => absurd h hq4⟩
        case rest =>
          obtain ⟨q, hq, rfl, hwe, hq0, hqr⟩ := hcut
          subst hwe
          clear hp' ha
          by_cases hq4 : q < 384
          · have hq4' : (q : Int) < 384 := by omega
            have hq4n : ¬ 384 ≤ (q : Int) := by omega
            have HQ := hide hq4
            have hw4 := unhide hWb v 4 (by omega)
            have hw4v := hide (unhide hW4 v)
            go_wp2_with fail
            refine (unhide cW _ _ _ (by decide) (by decide)).mono ?_
            rintro e wy ⟨rfl, hy⟩
            subst wy
            obtain ⟨kd, hkd⟩ : ∃ kd, 1 + W v 4 = kd := ⟨_, rfl⟩
            have kd1 : 1 ≤ kd := by omega
            have kd4 : kd ≤ 4 := by omega
            have hkv : Hid (i = 0 → kd = 1 + f 0 % 4) := fun h => by rw [unhide hv0 h, ← hkd, unhide hw4v]
            have cst := hide (entRefStats_any kd wc)
            obtain ⟨st, hst⟩ : ∃ st, En.stats kd = st := ⟨_, rfl⟩
            have hsf := En.stats_fit kd1 kd4
            rw [hst] at hsf cst
            have hst' := hide hst
            obtain ⟨w40, w44⟩ := hw4
            have HSF := hide hsf
            clear hw4v hst hq4 hq hsf
            unfold En.cells at cst
            go_wp2_with fail
            refine (unhide cst).mono ?_
            rintro e w1 ⟨rfl, hg1⟩
            clear hkd w40 w44
            have hQ := hide (Lie.born w1 st 36)
            have hg2 := hide (grown_trans hg1 (World.grownBy_alloc w1 (.cells (En.cells st) 36) none))
            have hoff : Hid (Ft.Off w w1.heap.size T R gC gE gI) := by
              have q1 := ((unhide hW).on hg1).hold.box.lt
              have q2 := ((unhide hR).on hg1).lt
              have q3 := ((unhide hW).on hg1).hold.lists.cells.lt
              have q4 := ((unhide hW).on hg1).hold.lists.ents.lt
              have q5 := ((unhide hW).on hg1).hold.lists.items.lt
              have q6 := (unhide hW).grown.size
              have q7 := hg1.size
              exact ⟨by omega, by omega, by omega, by omega, by omega, by omega⟩
            have hW1 := hide ((unhide hW).on (unhide hg2))
            have hR1 := hide ((unhide hR).on (unhide hg2))
            have hcl1 : Hid (∀ x, (w1.alloc (.cells (En.cells st) 36)).grownBy x none → x.cell? ⟨b, o + i, none⟩ = some (.int .i64 v)) := fun x hx => unhide hcl x (grown_trans (unhide hg2) hx)
            have hbQ : Hid (b < w1.heap.size) := Nat.lt_of_lt_of_le hbl hg1.size
            clear hg1 cst
            unfold En.cells at hQ hg2 hW1 hR1 hcl1
            go_upto_region 11 with fail
            obtain ⟨Q, hQe⟩ : ∃ Q, w1.heap.size = Q := ⟨_, rfl⟩
            rw [hQe] at hQ hoff hbQ ⊢
            generalize w1.alloc (.cells #[.int .i64 (st 0), .int .i64 (st 1), .int .i64 (st 2), .int .i64 (st 3), .int .i64 (st 4), .int .i64 (st 5), .int .i64 (st 6), .int .i64 (st 7), .int .i64 (st 8), .int .i64 (st 9), .int .i64 (st 10)] 36) = wd at hQ hg2 hW1 hR1 hcl1 ⊢
            clear hQe hcell hcl hbl hg2
            have hnb : Q ≠ b := by have := unhide hbQ; omega
            have hbn : b ≠ Q := hnb.symm
            have z0 := (unhide hQ).ent.1
            rw [(unhide HSF).1] at z0
            obtain ⟨r1, hr1⟩ : ∃ r : Bool, (kd == 1) = r := ⟨_, rfl⟩
            go_upto_if 70 with fail
            go_cut [] from 70 to 84 (fun wx => ∃ sx : Int, Hid (Gd.Law w wx T gC gE gI cC cE cI s2 g c E I) ∧ Hid (Lie wx R 29 11 (fun j => #[.int .i64 0, .int .i64 0, .int .i64 0, .int .i64 0, .slice none 0 0, .slice none 0 0, .slice none 0 0, .int .i64 0, .int .i64 0, .int .i64 0, Value.int .i64 0][j]?.getD undef)) ∧ Hid (Lie wx Q 36 11 (Ints (En.upd st 2 sx))) ∧ Hid (∀ x, wx.grownBy x none → x.cell? ⟨b, o + i, none⟩ = some (.int .i64 v)))
            case first =>
              cases r1
              rotate_left
              · have hk1 : kd = 1 := by simpa using hr1
                have hnot : Hid (i = 0 → f 0 % 4 ≠ 1) := fun h e => by have := unhide hkv h; omega
                have hcell := unhide hcl1 wd (World.grownBy.refl _ _)
                have z2 := (unhide hQ).ent.2.2.1
                have zf := (unhide hQ).free
                clear hk1
                go_wp2_with fail
                refine (unhide cX _ _ _ (by decide) (by decide)).mono ?_
                rintro e wy ⟨m, m0, m9, rfl, hy⟩
                subst wy
                have hW2 := hide ((unhide hW1).off (unhide hoff) 2 (.int .i64 (1 + m)))
                have hR2 := hide ((unhide hR1).other (unhide hoff).nR 2 (.int .i64 (1 + m)))
                have hQ2 := hide ((unhide hQ).upd 2 (1 + m))
                have hcl2 : Hid (∀ x, (wd.setCell ⟨Q, 2, none⟩ (.int .i64 (1 + m))).grownBy x none → x.cell? ⟨b, o + i, none⟩ = some (.int .i64 v)) := fun x hx => (grown_cell hx b _ (by have := unhide hbQ; have := (unhide hQ2).lt; omega) (by simp)).trans ((grown_cell (grown_set0 wd Q 2 (.int .i64 (1 + m))) b _ (by have := unhide hbQ; have := (unhide hQ).lt; omega) (by simpa using hnb)).trans (unhide hcl1 wd (World.grownBy.refl _ _)))
                go_upto_region 13 with fail
                generalize wd.setCell ⟨Q, 2, none⟩ (.int .i64 (1 + m)) = we at hW2 hR2 hQ2 hcl2 ⊢
                clear hcell z2 zf z0 hW1 hR1
                have y2 := (unhide hQ2).ent.2.2.1
                rw [En.upd_same] at y2
                have b5 := (unhide hW2).eleven.2.2.2.2.2.1
                have ch := refHero7_any gE cE E (1 + m) we (unhide hW2).hold.lists.own
                obtain ⟨hh, hhe⟩ : ∃ hh, Gd.hero E (1 + m) = hh := ⟨_, rfl⟩
                rw [hhe] at ch
                have ch' := hide ch
                clear ch hhe
                go_wp2_with fail
                refine (unhide ch').mono ?_
                rintro e wf ⟨rfl, hg⟩
                have hW3 := hide ((unhide hW2).on hg)
                have hR3 := hide ((unhide hR2).on hg)
                have hQ3 := hide ((unhide hQ2).on hg)
                have hcl3 : Hid (∀ x, wf.grownBy x none → x.cell? ⟨b, o + i, none⟩ = some (.int .i64 v)) := fun x hx => unhide hcl2 x (grown_trans hg hx)
                clear hg ch' y2 b5 hW2 hR2
                by_cases hn : hh < 0
                · go_wp2_with fail
                  go_meet
                  exact ⟨1 + m, hW3, hR3, hQ3, hcl3⟩
                · go_wp2
                  go_roundw
                  case rel => exact ⟨q, i + 1, E, gE, cE, by have := unhide HL; omega, by have := unhide HL; omega, by have := unhide HQ; omega, rfl, by go_num, hFit, hBorn, hOne, ⟨fun h => by omega, fun _ h1 => by
                    by_cases e : i = 0
                    · exact absurd h1 (unhide hnot e)
                    · exact (unhide hSt).2 (by omega) h1⟩, hW3, hR3⟩
                  case measure => simp [intOf]; have := unhide HL; omega
              · have hQ2 : Hid (Lie wd Q 36 11 (Ints (En.upd st 2 0))) := (unhide hQ).congr fun j _ => by
                  show Value.int .i64 (st j) = .int .i64 (if j = 2 then 0 else st j)
                  split
                  · rename_i e
                    rw [e, (unhide HSF).2.2.1]
                  · rfl
                go_wp2_with fail
                go_meet
                exact ⟨0, hW1, hR1, hQ2, hcl1⟩
            case rest =>
              clear hW1 hR1 hQ hcl1 z0 hr1
              obtain ⟨sx, hW2, hR2, hQ2, hcl2⟩ := hcut
              have f6 : 4 ≤ st 6 := (unhide HSF).2.2.2.2.2.2.1
              have f6' : st 6 ≤ 20 := (unhide HSF).2.2.2.2.2.2.2.1
              go_upto_region 14 with fail
              go_cut [] from 85 to 100 (fun wx => ∃ e : Nat → Int, Hid (Ft.MonAt kd q e) ∧ Hid (Gd.Law w wx T gC gE gI cC cE cI s2 g c E I) ∧ Hid (Lie wx R 29 11 (fun j => #[.int .i64 0, .int .i64 0, .int .i64 0, .int .i64 0, .slice none 0 0, .slice none 0 0, .slice none 0 0, .int .i64 0, .int .i64 0, .int .i64 0, Value.int .i64 0][j]?.getD undef)) ∧ Hid (Lie wx Q 36 11 (Ints e)) ∧ Hid (wc.grownBy wx (some Q)))
              case first =>
                have hcell := unhide hcl2 wc (World.grownBy.refl _ _)
                have z6 : wc.cell? ⟨Q, 6, none⟩ = some (.int .i64 (st 6)) := by
                  have := (unhide hQ2).ent.2.2.2.2.2.2.1
                  rwa [En.upd_other (by omega)] at this
                have z3 := (unhide hQ2).ent.2.2.2.1
                have z4 := (unhide hQ2).ent.2.2.2.2.1
                have z5 := (unhide hQ2).ent.2.2.2.2.2.1
                have zf := (unhide hQ2).free
                have t1 : (q : Int).tmod 24 = (q : Int) % 24 := Int.tmod_eq_emod_of_nonneg (by omega)
                have t2 : IntKind.i64.wrap ((q : Int).tdiv 24) = (q : Int) / 24 := by
                  rw [Int.tdiv_eq_ediv_of_nonneg (by omega), IntKind.wrap_i64]
                  omega
                have t3 : Hid (IntKind.i64.wrap ((q : Int) / 24) = (q : Int) / 24) := (show IntKind.i64.wrap ((q : Int) / 24) = (q : Int) / 24 by rw [IntKind.wrap_i64]; omega)
                have hmk : Hid (∀ X Y m, X = (q : Int) % 24 → Y = (q : Int) / 24 → 0 ≤ m → m < st 6 → Ft.MonAt kd q (En.upd (En.upd (En.upd (En.upd st 2 sx) 3 X) 4 Y) 5 (1 + m))) := fun X Y m hX hY h1 h2 => ⟨Ft.mon_of (unhide hst') kd1 kd4 (by omega) (by omega), by rw [En.upd_other (by omega), En.upd_other (by omega), En.upd_same]; exact hX, by rw [En.upd_other (by omega), En.upd_same]; exact hY⟩
                have hput : Hid (∀ X Y m, Gd.Law w (((wc.setCell ⟨Q, 3, none⟩ (.int .i64 X)).setCell ⟨Q, 4, none⟩ (.int .i64 Y)).setCell ⟨Q, 5, none⟩ (.int .i64 (1 + m))) T gC gE gI cC cE cI s2 g c E I ∧ Lie (((wc.setCell ⟨Q, 3, none⟩ (.int .i64 X)).setCell ⟨Q, 4, none⟩ (.int .i64 Y)).setCell ⟨Q, 5, none⟩ (.int .i64 (1 + m))) R 29 11 (fun j => #[.int .i64 0, .int .i64 0, .int .i64 0, .int .i64 0, .slice none 0 0, .slice none 0 0, .slice none 0 0, .int .i64 0, .int .i64 0, .int .i64 0, Value.int .i64 0][j]?.getD undef) ∧ Lie (((wc.setCell ⟨Q, 3, none⟩ (.int .i64 X)).setCell ⟨Q, 4, none⟩ (.int .i64 Y)).setCell ⟨Q, 5, none⟩ (.int .i64 (1 + m))) Q 36 11 (Ints (En.upd (En.upd (En.upd (En.upd st 2 sx) 3 X) 4 Y) 5 (1 + m))) ∧ wc.grownBy (((wc.setCell ⟨Q, 3, none⟩ (.int .i64 X)).setCell ⟨Q, 4, none⟩ (.int .i64 Y)).setCell ⟨Q, 5, none⟩ (.int .i64 (1 + m))) (some Q)) := fun X Y m => ⟨(((unhide hW2).off (unhide hoff) 3 _).off (unhide hoff) 4 _).off (unhide hoff) 5 _, (((unhide hR2).other (unhide hoff).nR 3 _).other (unhide hoff).nR 4 _).other (unhide hoff).nR 5 _, (((unhide hQ2).upd 3 X).upd 4 Y).upd 5 (1 + m), grown_set (grown_set (grown_set (World.grownBy.refl _ _) _ _) _ _) _ _⟩
                go_region_held3 (fun x => x.cell? ⟨b, o + i, none⟩ = some (.int .i64 v) ∧ x.cell? ⟨Q, 6, none⟩ = some (.int .i64 (st 6))) (simp [*, World.cell?_setCell_far, World.cell?_setCell_other]) (first | (go_at_call 31; refine (unhide cX _ _ _ (by omega) (by omega)).mono ?_; rintro e wy ⟨m, m0, m9, rfl, hy⟩; subst wy; have hv1 : IntKind.i64.wrap (1 + m) = 1 + m := (by rw [IntKind.wrap_i64]; omega)))
                all_goals
                  go_wp2_with fail
                  go_meet
                  exact ⟨_, unhide hmk _ _ m (by first | rfl | exact unhide t3) (by first | rfl | exact unhide t3) m0 m9, (unhide hput _ _ m).1.on (grown_drew1 (World.grownBy.refl _ _)), (unhide hput _ _ m).2.1.on (grown_drew1 (World.grownBy.refl _ _)), (unhide hput _ _ m).2.2.1.on (grown_drew1 (World.grownBy.refl _ _)), grown_none (unhide hput _ _ m).2.2.2 (grown_drew1 (World.grownBy.refl _ _))⟩
              case rest =>
                obtain ⟨em, hMon, hW3, hR3, hQ3, hgQ⟩ := hcut
                have hb3 : Hid (b < wc.heap.size) := by have h1 := unhide hbQ; have h2 := (unhide hQ3).lt; exact (show b < wc.heap.size by omega)
                have hcl3 : Hid (wc.cell? ⟨b, o + i, none⟩ = some (.int .i64 v)) := by
                  show _ = _
                  rw [grown_cell (unhide hgQ) b _ (by have h1 := unhide hbQ; have h2 := (unhide hQ2).lt; omega) (by simpa using hnb)]
                  exact unhide hcl2 _ (World.grownBy.refl _ _)
                clear hQ2 hW2 hR2 hcl2 hgQ f6 f6'
                go_upto_region 15 with fail
                go_cut [] from 101 to 114 (fun wx => ∃ e : Nat → Int, Hid (Ft.MonAt kd q e) ∧ Hid (Gd.Law w wx T gC gE gI cC cE cI s2 g c E I) ∧ Hid (Lie wx R 29 11 (fun j => #[.int .i64 0, .int .i64 0, .int .i64 0, .int .i64 0, .slice none 0 0, .slice none 0 0, .slice none 0 0, .int .i64 0, .int .i64 0, .int .i64 0, Value.int .i64 0][j]?.getD undef)) ∧ Hid (Lie wx Q 36 11 (Ints e)) ∧ Hid (∀ x, wx.grownBy x none → x.cell? ⟨b, o + i, none⟩ = some (.int .i64 v)))
                case first =>
                  have hcell := unhide hcl3
                  have z9 := (unhide hQ3).ent.2.2.2.2.2.2.2.2.2.1
                  have z10 := (unhide hQ3).ent.2.2.2.2.2.2.2.2.2.2
                  have zf := (unhide hQ3).free
                  have hput : Hid (∀ p r, 0 ≤ p → p < 10 → 0 ≤ r → r < 10 → ∃ e : Nat → Int, Hid (Ft.MonAt kd q e) ∧ Hid (Gd.Law w ((wc.setCell ⟨Q, 9, none⟩ (.int .i64 p)).setCell ⟨Q, 10, none⟩ (.int .i64 r)).drew T gC gE gI cC cE cI s2 g c E I) ∧ Hid (Lie ((wc.setCell ⟨Q, 9, none⟩ (.int .i64 p)).setCell ⟨Q, 10, none⟩ (.int .i64 r)).drew R 29 11 (fun j => #[.int .i64 0, .int .i64 0, .int .i64 0, .int .i64 0, .slice none 0 0, .slice none 0 0, .slice none 0 0, .int .i64 0, .int .i64 0, .int .i64 0, Value.int .i64 0][j]?.getD undef)) ∧ Hid (Lie ((wc.setCell ⟨Q, 9, none⟩ (.int .i64 p)).setCell ⟨Q, 10, none⟩ (.int .i64 r)).drew Q 36 11 (Ints e)) ∧ Hid (∀ x, ((wc.setCell ⟨Q, 9, none⟩ (.int .i64 p)).setCell ⟨Q, 10, none⟩ (.int .i64 r)).drew.grownBy x none → x.cell? ⟨b, o + i, none⟩ = some (.int .i64 v))) := fun p r p0 p9 r0 r9 => by
                    have hdr := grown_drew1 (World.grownBy.refl ((wc.setCell ⟨Q, 9, none⟩ (.int .i64 p)).setCell ⟨Q, 10, none⟩ (.int .i64 r)) none)
                    have hgq : wc.grownBy ((wc.setCell ⟨Q, 9, none⟩ (.int .i64 p)).setCell ⟨Q, 10, none⟩ (.int .i64 r)) (some Q) := grown_set (grown_set (World.grownBy.refl _ _) _ _) _ _
                    refine ⟨_, (unhide hMon).ails p0 (by omega) r0 (by omega), (((unhide hW3).off (unhide hoff) 9 _).off (unhide hoff) 10 _).on hdr, (((unhide hR3).other (unhide hoff).nR 9 _).other (unhide hoff).nR 10 _).on hdr, (((unhide hQ3).upd 9 p).upd 10 r).on hdr, fun x hx => ?_⟩
                    rw [grown_cell (grown_trans hdr hx) b _ (Nat.lt_of_lt_of_le (unhide hb3) hgq.size) (by simp), grown_cell hgq b _ (unhide hb3) (by simpa using hnb)]
                    exact unhide hcl3
                  go_region_held3 (fun x => x.cell? ⟨b, o + i, none⟩ = some (.int .i64 v)) (go_keep) (first | (go_at_call 31; refine (unhide cX _ _ _ (by decide) (by decide)).mono ?_; rintro e wy ⟨m, m0, m9, rfl, hy⟩; subst wy))
                  all_goals
                    go_wp2_with fail
                    go_meet
                    exact unhide hput _ _ (by assumption) (by assumption) (by assumption) (by assumption)
                case rest =>
                  clear hMon hW3 hR3 hQ3 hcl3 hb3
                  obtain ⟨en, hMon, hW3, hR3, hQ3, hcl3⟩ := hcut
                  have b5 := (unhide hW3).eleven.2.2.2.2.2.1
                  obtain ⟨c0, c1, c2, c3, c4, c5, c6, c7, c8, c9, c10⟩ := (unhide hQ3).ent
                  have csp := hide (refSpawn_fit gE cE E en wc (unhide hW3).hold.lists.own.ents (by rw [(unhide hMon).mon.k]; exact kd1) (by rw [(unhide hMon).mon.k]; exact kd4) (unhide hFit).gens)
                  unfold En.cells at csp
                  go_wp2_with fail
                  refine (unhide csp).mono ?_
                  rintro e' wg (⟨r, hr, hr0, jE, cap, rfl, hlo, hnc, hcm, hown, hgr⟩ | ⟨hfull, rfl, hgr⟩)
                  · have hW5 := hide ((unhide hW3).folk hnc hlo hown hgr)
                    have hR5 := hide (((unhide hR3).on hgr).other (unhide hRT) 5 (.slice (some ⟨jE, 0, none⟩) 32 cap))
                    have hF5 : Hid (Ft.Fit c (En.put E r (En.gen en ((E r 1 + 1) % 256))) I) := (unhide hFit).put ((unhide hMon).mon.row kd1 kd4 (by omega) (by omega))
                    have hB5 : Hid (Ft.Set c (En.put E r (En.gen en ((E r 1 + 1) % 256)))) := (unhide hBorn).put hr0 (unhide HQ) (unhide hqr (unhide HQ)) (unhide hMon).x (unhide hMon).y (by
                      show en 6 = En.stats (en 0) 6 ∧ en 7 = En.stats (en 0) 7 ∧ en 8 = En.stats (en 0) 8
                      rw [(unhide hMon).mon.k]
                      exact ⟨(unhide hMon).mon.m, (unhide hMon).mon.atk, (unhide hMon).mon.dfn⟩)
                    have h1s : En.put E r (En.gen en ((E r 1 + 1) % 256)) 1 = E 1 := Ft.stays hr0 (by rw [(unhide hOne).1]; omega)
                    have hO5 : Hid (En.put E r (En.gen en ((E r 1 + 1) % 256)) 1 0 = 1 ∧ En.put E r (En.gen en ((E r 1 + 1) % 256)) 1 2 = 0) := by
                      show _ ∧ _
                      rw [h1s]
                      exact unhide hOne
                    have hS5 : Hid ((i + 1 = 0 → q + 1 = 0 ∧ En.put E r (En.gen en ((E r 1 + 1) % 256)) = E0) ∧ (0 < i + 1 → f 0 % 4 = 1 → Ft.Has (En.put E r (En.gen en ((E r 1 + 1) % 256))) 2)) := ⟨fun h => by omega, fun _ h1 => by
                      by_cases e : i = 0
                      · refine ⟨r, hr, ?_⟩
                        rw [En.put_same]
                        show en 0 = 2
                        have := unhide hkv e
                        rw [(unhide hMon).mon.k]
                        omega
                      · exact ((unhide hSt).2 (by omega) h1).put (by omega) hr0⟩
                    have y5 := ((unhide hW3).on hgr).eleven.2.2.2.2.2.1
                    have fT := ((unhide hW3).on hgr).hold.box.free
                    have hcl5 : Hid ((wg.setCell ⟨T, 5, none⟩ (.slice (some ⟨jE, 0, none⟩) 32 cap)).cell? ⟨b, o + i, none⟩ = some (.int .i64 v)) := by
                      show _ = _
                      rw [World.cell?_setCell_far _ _ _ _ (unhide hbT)]
                      exact unhide hcl3 wg hgr
                    obtain ⟨E5, hE5⟩ : ∃ E5, En.put E r (En.gen en ((E r 1 + 1) % 256)) = E5 := ⟨_, rfl⟩
                    rw [hE5] at hW5 hF5 hB5 hO5 hS5
                    clear hlo hnc hcm hown hgr hr0 hr h1s hE5 csp b5 c0 c1 c2 c3 c4 c5 c6 c7 c8 c9 c10 hW3 hR3 hQ3 hcl3 hMon hFit hBorn hOne
                    go_upto_region 19 with fail
                    generalize wg.setCell ⟨T, 5, none⟩ (.slice (some ⟨jE, 0, none⟩) 32 cap) = wh at hW5 hR5 hcl5 ⊢
                    clear y5 fT
                    have hcell := unhide hcl5
                    clear hcl5
                    go_wp2_with fail
                    refine (unhide cX _ _ _ (by decide) (by decide)).mono ?_
                    rintro e wy ⟨m, m0, m9, rfl, hy⟩
                    subst wy
                    obtain ⟨mn, rfl⟩ : ∃ n : Nat, m = (n : Int) := ⟨m.toNat, by omega⟩
                    clear hcell
                    go_wp2
                    go_roundw
                    case rel => exact ⟨q + 1 + mn, i + 1, E5, jE, cap, by have := unhide HL; omega, by have := unhide HL; omega, by have := unhide HQ; omega, by go_num, by go_num, hF5, hB5, hO5, ⟨fun h => by omega, (unhide hS5).2⟩, hW5, hR5⟩
                    case measure => simp [intOf]; have := unhide HL; omega
                  · have hW5 := hide ((unhide hW3).on hgr)
                    have hR5 := hide ((unhide hR3).on hgr)
                    have hcl5 := hide (unhide hcl3 wg hgr)
                    have hS5 : Hid (0 < i + 1 → f 0 % 4 = 1 → Ft.Has E 2) := fun _ h1 => by
                      by_cases e : i = 0
                      · have h0 := hfull 0 (by omega)
                        rw [((unhide hSt).1 e).2] at h0
                        exact absurd (unhide hz0) h0
                      · exact (unhide hSt).2 (by omega) h1
                    clear hfull hgr csp b5 c0 c1 c2 c3 c4 c5 c6 c7 c8 c9 c10 hW3 hR3 hQ3 hcl3 hMon
                    have hcell := unhide hcl5
                    clear hcl5
                    go_wp2_with fail
                    refine (unhide cX _ _ _ (by decide) (by decide)).mono ?_
                    rintro e wy ⟨m, m0, m9, rfl, hy⟩
                    subst wy
                    obtain ⟨mn, rfl⟩ : ∃ n : Nat, m = (n : Int) := ⟨m.toNat, by omega⟩
                    clear hcell
                    go_wp2
                    go_roundw
                    case rel => exact ⟨q + 1 + mn, i + 1, E, gE, cE, by have := unhide HL; omega, by have := unhide HL; omega, by have := unhide HQ; omega, by go_num, by go_num, hFit, hBorn, hOne, ⟨fun h => by omega, unhide hS5⟩, hW5, hR5⟩
                    case measure => simp [intOf]; have := unhide HL; omega
          · have hq4' : ¬ (q : Int) < 384 := by omega
            have hq4n : 384 ≤ (q : Int) := by omega
            have hgo : Hid (0 < lenK → f 0 % 4 = 1 → Ft.Has E 2) := fun h0 h1 => (unhide hSt).2 (by
              by_cases e : i = 0
              · exact absurd (unhide hq0 e) hq4
              · omega) h1
            clear hq4 hq
            go_wp2_with fail
            go_meet
            exact ⟨E, gE, cE, hFit, hBorn, hOne, hgo, hW, hR⟩
      · have hgo : Hid (0 < lenK → f 0 % 4 = 1 → Ft.Has E 2) := fun h0 h1 => (unhide hSt).2 (by omega) h1
        by_cases hl : i < lenK
        · have hl' : (i : Int) < (lenK : Int) := by omega
          have h20 : ¬ (i : Int) < 12 := by omega
          clear hlt hi hi12
          go_wp2_with fail
          go_meet
          exact ⟨E, gE, cE, hFit, hBorn, hOne, hgo, hW, hR⟩
        · have hl' : ¬ (i : Int) < (lenK : Int) := by omega
          clear hlt hi hi12
          go_wp2_with fail
          go_meet
          exact ⟨E, gE, cE, hFit, hBorn, hOne, hgo, hW, hR⟩
  case rest =>
    clear hW1 hR1 hfit hborn hone hroom
    obtain ⟨E, gE, cE, hFit, hBorn, hOne, hgo, hW, hR⟩ := hcut
    obtain ⟨b0, b1, b2, b3, b4, b5, b6, b7, b8, b9, b10⟩ := (unhide hW).eleven
    have fz := (unhide hR).free
    obtain ⟨z0, z1, z2, z3, z4, z5, z6, z7, z8, z9, z10⟩ := Gd.res_cells (unhide hR)
    have hfin := hide (fun vs => (unhide hW).worlds (unhide lC) (unhide lR) (unhide hR) vs)
    go_wp2
    refine bodyPost_ret (v := .agg (Gd.world s2 gC gE gI cC cE cI g)) (by simp [results, Try.results9, go_sem, Gd.world, z0, z1, z2, z3, z4, z5, z6, z7, z8, z9, z10]) rfl ?_
    exact ⟨c, s2, g, E, I, unhide hFit, unhide hBorn, Gd.hero_some (by omega) (unhide hOne).1 (unhide hOne).2, unhide hgo, ⟨s2, gC, gE, gI, cC, cE, cI, g, unhide hcw, rfl⟩, unhide hfin [_, _, _, _, _, _, _, _, _, _, _]⟩

end Go.Proofs.Ytbploaihicakeaa
