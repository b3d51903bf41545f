/-
  CrawlNew CrawlKnown CrawlScene CrawlSeated
-/
import Derived.Test.YtbanjoflgoiegaaGreatPart54
import Derived.Test.YtbanjoflgoiegaaGreatPart46
import Derived.Test.YtbanjoflgoiegaaGreatPart21
import Derived.Test.YtbanjoflgoiegaaGreatPart20
import Derived.BigQuiet
import Derived.Deep.Cut
import Derived.Deep.CutRange
import Derived.Deep.CutBlock
import Derived.Test.YtbanjoflgoiegaaGreatPart32
namespace Go.Proofs.YtbanjoflgoiegaaGreat
open Go.RowKit

def Cr.zero (seed : Int) : Nat → Int
  | 0 => seed
  | _ => 0

theorem Cr.sane_zero : Cr.Sane (fun _ => 0) (fun _ _ => 0) (fun _ _ => 0) := by
  refine ⟨⟨fun _ => ⟨by show (0 : Int) ≤ 0; omega, by show (0 : Int) ≤ 255; omega⟩, Md.ok_none _, fun k _ => ⟨by show (0 : Int) ≤ 0; omega, by show (0 : Int) ≤ 255; omega, .inl fun _ _ _ => rfl⟩⟩, ⟨fun k _ k0 => absurd rfl k0, ⟨fun k _ k0 => absurd rfl k0, fun j k _ _ j0 => absurd rfl j0⟩⟩, ⟨fun k _ k1 => ?_, fun j k _ _ j1 => ?_, fun k _ k0 => absurd rfl k0⟩⟩
  · exact absurd k1 (by show ¬ (0 : Int) = 1; omega)
  · exact absurd j1 (by show ¬ (0 : Int) = 1; omega)

theorem Cr.land_none {c : Nat → Int} : ∀ {t : Nat} {E F : Nat → Nat → Int}, Cr.LandTo c (fun _ _ => 0) t E F → F = E
  | 0, _, _, h => h
  | t + 1, _, _, ⟨G, hG, hF⟩ => by
    have hn : Gd.hero (fun _ _ => 0) (t : Int) < 0 := by
      unfold Gd.hero
      rw [En.first_none (fun j _ => by simp [En.heroQ])]
      omega
    unfold Cr.Lands at hF
    rw [if_pos hn] at hF
    rw [hF]
    exact Cr.land_none hG

theorem Cr.below_new {seed : Int} {T : Cr.W} (h : Cr.Below (Cr.zero seed) (fun _ => 0) (fun _ _ => 0) (fun _ _ => 0) T) : Cr.IsNew seed T := by
  obtain ⟨c, es, is, F, hl, hF, rfl⟩ := h
  have e1 := Cr.land_none hF
  have e2 : Cr.bare (fun _ _ => 0) = fun _ _ => 0 := by
    funext k j
    unfold Cr.bare En.hole
    split <;> rfl
  have e3 : Cr.kept (fun _ _ => 0) = fun _ _ => 0 := by
    funext k
    unfold Cr.kept
    rw [if_neg (by show ¬ ((0 : Int) = 1 ∨ (0 : Int) = 4); omega)]
  have e4 : Cr.num (Cr.zero seed) 2 (Cr.zero seed 2 + 1) = Cr.first seed := by
    funext j
    unfold Cr.num
    by_cases e : j = 2
    · rw [if_pos e, e]; rfl
    · rw [if_neg e]
      match j with
      | 0 => rfl
      | 1 => rfl
      | 2 => exact absurd rfl e
      | _ + 3 => rfl
  rw [e1, e2, e3, e4]
  exact ⟨c, es, is, hl, rfl⟩

def Cr.News (w : World) (seed : Int) (e : Ending) (w' : World) : Prop := ∃ T, Cr.IsNew seed T ∧ Gd.WorldsW w T.s T.g T.c T.E T.I e w'

theorem Cr.new_done {w w0 w2 w3 : World} {seed : Int} {T : Cr.W} {B jC jE jI dC dE dI : Nat} {H : Nat → Value} (hGw : w.grownBy w0 none) (hG2 : w0.grownBy w2 none) (hT : Cr.Below (Cr.zero seed) (fun _ => 0) (fun _ _ => 0) (fun _ _ => 0) T) (hcap : 32 ≤ dE ∧ 384 ≤ dC) (l1 : w2.heap.size ≤ jC) (l2 : w2.heap.size ≤ jE) (l3 : w2.heap.size ≤ jI) (n1 : jC ≠ jE) (n2 : jC ≠ jI) (n3 : jE ≠ jI) (hL : Gd.Lists w3 jC jE jI T.c T.E T.I) (hg : w2.grownBy w3 none) (hr : Lie w3 B 30 11 H) (hB : w.heap.size = B) (vs : List Value) :
    Cr.News w seed (.returned (.agg (Gd.world T.s jC jE jI dC dE dI T.g))) (w3.setCells B 0 vs) := by
  have q1 := hr.type_ne hL.cells (by decide)
  have q2 := hr.type_ne hL.ents (by decide)
  have q3 := hr.type_ne hL.items (by decide)
  have k1 := hGw.size
  have k2 := hG2.size
  exact ⟨T, Cr.below_new hT, jC, jE, jI, dC, dE, dI, rfl, hcap, by omega, by omega, by omega, n1, n2, n3, ⟨hL.cells.others q1 _ _, hL.ents.others q2 _ _, hL.items.others q3 _ _⟩, own_sets (by omega) _ 0 w3 (grown_trans hGw (grown_trans hG2 hg))⟩

set_option maxRecDepth 16000 in
set_option maxHeartbeats 12800000 in
theorem cNew_any (seed : Int) (w : World) : Calls Tryz.prog 10 #[.int .i64 seed] w (Cr.News w seed) := by
  obtain ⟨w0, hw0⟩ : ∃ w0, w0 = w.alloc (.cells #[.int .i64 0, .int .i64 0, .int .i64 0, .int .i64 0, .slice none 0 0, .slice none 0 0, .slice none 0 0, .int .i64 0, .int .i64 0, .int .i64 0, .int .i64 0] 30) := ⟨_, rfl⟩
  have hGw : Hid (w.grownBy w0 none) := by rw [hw0]; exact World.grownBy_alloc _ _ _
  obtain ⟨B, hB⟩ : ∃ B, w.heap.size = B := ⟨_, rfl⟩
  have hres : Hid (Lie w0 B 30 11 (fun j => #[.int .i64 0, .int .i64 0, .int .i64 0, .int .i64 0, .slice none 0 0, .slice none 0 0, .slice none 0 0, .int .i64 0, .int .i64 0, .int .i64 0, Value.int .i64 0][j]?.getD undef)) := by
    show Lie w0 B 30 11 (fun j => #[.int .i64 0, .int .i64 0, .int .i64 0, .int .i64 0, .slice none 0 0, .slice none 0 0, .slice none 0 0, .int .i64 0, .int .i64 0, .int .i64 0, Value.int .i64 0][j]?.getD undef)
    rw [hw0, ← hB]
    exact (Arr.lit (heap_alloc_new w _)).lie
  have hB' := hide hB
  go_enter Tryz.func10, Tryz.ntmps10
  go_upto_region 1 with fail
  rw [← hw0]
  clear hw0 hB
  obtain ⟨ZE, hmE, hZE⟩ := make32
  obtain ⟨ZI, hmI, hZI⟩ := make40
  have hE3 := hide (fun w => (hZE w).lie (m := 352) (by omega))
  have hI3 := hide hZI
  clear hZE hZI
  refine wp_region_till (h := 5) (S := fun _ => True) (by kernel_rfl) ?_
  refine wpTill_take (i := 0) (v := ?_) [5] rfl (by kernel_rfl) (by kernel_rfl) (by kernel_rfl) (by kernel_rfl) (fun _ _ _ h => h) trivial (Or.inl ⟨by rfl, ?_⟩) ?_
  rotate_left
  · intro x hSx
    try dsimp only at hSx
    go_simp
    try with_reducible rfl
  simp only [Act.put]
  refine wpTill_two (i := 1) (j := 2) (by kernel_rfl) rfl rfl (fun K hK => ?_) (fun K hK => ?_)
  · go_simp
    refine hK.out _ _ (fun _ => trivial) ?_
    clear hK K
    refine wpTill_only (j := 2) (by kernel_rfl) rfl (fun K hK => ?_)
    go_simp
    refine hK.out _ _ (fun _ => trivial) ?_
    clear hK K
    refine wpTill_take (i := 3) (v := ?_) [5] rfl (by kernel_rfl) (by kernel_rfl) (by kernel_rfl) (by kernel_rfl) (fun _ _ _ h => h) trivial (Or.inl ⟨by rfl, ?_⟩) ?_
    rotate_left
    · intro x hSx
      try dsimp only at hSx
      go_simp
      try with_reducible rfl
    simp only [Act.put]
    refine wpTill_only (j := 4) (by kernel_rfl) rfl (fun K hK => ?_)
    go_simp
    have hG2 : Hid (w0.grownBy ((w0.alloc (.cells ZE 54)).alloc (.cells ZI 62)).drew none) := grown_drew1 (grown_alloc (grown_alloc (World.grownBy.refl _ none) _) _)
    have hx1 : Hid (Lie ((w0.alloc (.cells ZE 54)).alloc (.cells ZI 62)).drew w0.heap.size 54 352 (En.flat (fun _ _ => 0))) := (unhide hE3 w0).on (grown_drew1 (World.grownBy_alloc _ _ _))
    have hx2 : Hid (Lie ((w0.alloc (.cells ZE 54)).alloc (.cells ZI 62)).drew (w0.heap.size + 1) 62 160 (Gd.flat (fun _ _ => 0))) := by
      have h := (unhide hI3 (w0.alloc (.cells ZE 54))).on (grown_drew1 (World.grownBy.refl _ none))
      rwa [show (w0.alloc (.cells ZE 54)).heap.size = w0.heap.size + 1 by simp] at h
    clear hE3 hI3 hmE hmI
    generalize ((w0.alloc (.cells ZE 54)).alloc (.cells ZI 62)).drew = w2 at hG2 hx1 hx2 ⊢
    obtain ⟨Q1, hq1⟩ : ∃ Q1, w0.heap.size = Q1 := ⟨_, rfl⟩
    obtain ⟨Q2, hq2⟩ : ∃ Q2, Q1 + 1 = Q2 := ⟨_, rfl⟩
    have hn : Hid (Q1 ≠ Q2) := (show Q1 ≠ Q2 by omega)
    rw [hq1] at hx1 hx2 ⊢
    rw [hq2] at hx2 ⊢
    clear hq1 hq2
    have ce := hide (cEntered_any (Cr.zero seed) (fun _ => 0) (fun _ => 0) (fun _ _ => 0) (fun _ _ => 0) none 0 0 Q1 Q2 32 40 w2 (unhide hx1) (unhide hx2) (Nat.le_refl _) (unhide hn) Cr.sane_zero (by show (0 : Int) ≤ 0; omega) (by show (0 : Int) ≤ 2; omega))
    refine (unhide ce).mono ?_
    rintro e w3 ⟨T, hT, jC, jE, jI, dC, dE, dI, rfl, hcap, l1, l2, l3, n1, n2, n3, hL, hg⟩
    unfold Gd.world
    have hG3 := hide (grown_trans (unhide hG2) hg)
    have hr := hide ((unhide hres).on (unhide hG3))
    have hfo := hide (fun vs => Cr.new_done (dI := dI) (unhide hGw) (unhide hG2) hT hcap l1 l2 l3 n1 n2 n3 hL hg (unhide hr) (unhide hB') vs)
    try go_simp
    refine hK.out _ _ (fun _ => trivial) ?_
    clear hK K ce hcap l1 l2 l3 n1 n2 n3 hL hg hT hx1 hx2
    refine wpTill_only (j := 5) (by kernel_rfl) rfl (fun K hK => ?_)
    have fz := (unhide hr).free
    obtain ⟨z0, z1, z2, z3, z4, z5, z6, z7, z8, z9, z10⟩ := Gd.res_cells (unhide hr)
    go_simp
    refine hK.out _ _ (fun hx => absurd (hx.symm.trans (by kernel_rfl)) Bool.false_ne_true) ?_
    clear hK K
    refine wpTill_done (by kernel_rfl) ?_ _
    rename_i K hK
    refine hK _ _ (wp_ret ?_)
    refine bodyPost_ret (v := .agg (Gd.world T.s jC jE jI dC dE dI T.g)) (by simp [results, Tryz.results10, go_sem, Gd.world, z0, z1, z2, z3, z4, z5, z6, z7, z8, z9, z10]) rfl ?_
    exact unhide hfo [_, _, _, _, _, _, _, _, _, _, _]
  · go_simp
    refine hK.out _ _ (fun _ => trivial) ?_
    clear hK K
    refine wpTill_only (j := 1) (by kernel_rfl) rfl (fun K hK => ?_)
    go_simp
    refine hK.out _ _ (fun _ => trivial) ?_
    clear hK K
    refine wpTill_take (i := 3) (v := ?_) [5] rfl (by kernel_rfl) (by kernel_rfl) (by kernel_rfl) (by kernel_rfl) (fun _ _ _ h => h) trivial (Or.inl ⟨by rfl, ?_⟩) ?_
    rotate_left
    · intro x hSx
      try dsimp only at hSx
      go_simp
      try with_reducible rfl
    simp only [Act.put]
    refine wpTill_only (j := 4) (by kernel_rfl) rfl (fun K hK => ?_)
    go_simp
    have hG2 : Hid (w0.grownBy ((w0.alloc (.cells ZI 62)).alloc (.cells ZE 54)).drew none) := grown_drew1 (grown_alloc (grown_alloc (World.grownBy.refl _ none) _) _)
    have hx1 : Hid (Lie ((w0.alloc (.cells ZI 62)).alloc (.cells ZE 54)).drew w0.heap.size 62 160 (Gd.flat (fun _ _ => 0))) := (unhide hI3 w0).on (grown_drew1 (World.grownBy_alloc _ _ _))
    have hx2 : Hid (Lie ((w0.alloc (.cells ZI 62)).alloc (.cells ZE 54)).drew (w0.heap.size + 1) 54 352 (En.flat (fun _ _ => 0))) := by
      have h := (unhide hE3 (w0.alloc (.cells ZI 62))).on (grown_drew1 (World.grownBy.refl _ none))
      rwa [show (w0.alloc (.cells ZI 62)).heap.size = w0.heap.size + 1 by simp] at h
    clear hE3 hI3 hmE hmI
    generalize ((w0.alloc (.cells ZI 62)).alloc (.cells ZE 54)).drew = w2 at hG2 hx1 hx2 ⊢
    obtain ⟨Q1, hq1⟩ : ∃ Q1, w0.heap.size = Q1 := ⟨_, rfl⟩
    obtain ⟨Q2, hq2⟩ : ∃ Q2, Q1 + 1 = Q2 := ⟨_, rfl⟩
    have hn : Hid (Q1 ≠ Q2) := (show Q1 ≠ Q2 by omega)
    rw [hq1] at hx1 hx2 ⊢
    rw [hq2] at hx2 ⊢
    clear hq1 hq2
    have ce := hide (cEntered_any (Cr.zero seed) (fun _ => 0) (fun _ => 0) (fun _ _ => 0) (fun _ _ => 0) none 0 0 Q2 Q1 32 40 w2 (unhide hx2) (unhide hx1) (Nat.le_refl _) (unhide hn).symm Cr.sane_zero (by show (0 : Int) ≤ 0; omega) (by show (0 : Int) ≤ 2; omega))
    refine (unhide ce).mono ?_
    rintro e w3 ⟨T, hT, jC, jE, jI, dC, dE, dI, rfl, hcap, l1, l2, l3, n1, n2, n3, hL, hg⟩
    unfold Gd.world
    have hG3 := hide (grown_trans (unhide hG2) hg)
    have hr := hide ((unhide hres).on (unhide hG3))
    have hfo := hide (fun vs => Cr.new_done (dI := dI) (unhide hGw) (unhide hG2) hT hcap l1 l2 l3 n1 n2 n3 hL hg (unhide hr) (unhide hB') vs)
    try go_simp
    refine hK.out _ _ (fun _ => trivial) ?_
    clear hK K ce hcap l1 l2 l3 n1 n2 n3 hL hg hT hx1 hx2
    refine wpTill_only (j := 5) (by kernel_rfl) rfl (fun K hK => ?_)
    have fz := (unhide hr).free
    obtain ⟨z0, z1, z2, z3, z4, z5, z6, z7, z8, z9, z10⟩ := Gd.res_cells (unhide hr)
    go_simp
    refine hK.out _ _ (fun hx => absurd (hx.symm.trans (by kernel_rfl)) Bool.false_ne_true) ?_
    clear hK K
    refine wpTill_done (by kernel_rfl) ?_ _
    rename_i K hK
    refine hK _ _ (wp_ret ?_)
    refine bodyPost_ret (v := .agg (Gd.world T.s jC jE jI dC dE dI T.g)) (by simp [results, Tryz.results10, go_sem, Gd.world, z0, z1, z2, z3, z4, z5, z6, z7, z8, z9, z10]) rfl ?_
    exact unhide hfo [_, _, _, _, _, _, _, _, _, _, _]

end Go.Proofs.YtbanjoflgoiegaaGreat

namespace Go.Proofs.YtbanjoflgoiegaaGreat
open Go.RowKit

def Cr.sp0 : Nat → Bool
  | 0 => true
  | _ => false

theorem cStep_first {w : World} {T : Cr.W} {gC gE gI cC cE cI : Nat} (hL : Gd.Lists w gC gE gI T.c T.E T.I) (hG : Cr.Good T) (h1 : -9223372036854775808 ≤ T.s 1) (h2 : T.s 1 < 9223372036854775807) :
    Calls Tryz.prog 15 #[.agg #[.int .i64 (T.s 0), .int .i64 (T.s 1), .int .i64 (T.s 2), .int .i64 (T.s 3), .slice (some ⟨gC, 0, none⟩) 384 cC, .slice (some ⟨gE, 0, none⟩) 32 cE, .slice (some ⟨gI, 0, none⟩) 40 cI, .int .i64 (T.g 0), .int .i64 (T.g 1), .int .i64 (T.g 2), .int .i64 (T.g 3)], .agg #[.int .i64 0, .int .i64 0, .bool true, .int .i64 0, .int .i64 0, .bool false, .int .i64 0, .int .i64 0, .bool false, .int .i64 0, .int .i64 0, .bool false]] w (Cr.Steps w (fun _ => 0) (fun _ => 0) Cr.sp0 T) :=
  cStep_any T.s T.g T.c T.E T.I gC gE gI cC cE cI (fun _ => 0) (fun _ => 0) Cr.sp0 w hL hG h1 h2

theorem Cr.at_one {c : Nat → Int} {E I : Nat → Nat → Int} (h : Cr.Sane c E I) {k : Nat} (hk : k < 32) (k0 : E k 0 ≠ 0) : En.first (En.atQ E (E k 3) (E k 4)) 32 = (k : Int) := by
  rcases En.first_cases (En.atQ E (E k 3) (E k 4)) 32 with ⟨_, hno⟩ | ⟨j, hj, he, hq, _⟩
  · have := hno k hk
    simp [En.atQ, k0] at this
  · have hq' : E j 0 ≠ 0 ∧ E j 3 = E k 3 ∧ E j 4 = E k 4 := by simpa [En.atQ] using hq
    rw [he, h.set.stands.apart j k hj hk hq'.1 k0 hq'.2.1 hq'.2.2]

theorem Cr.IsNew.frame {seed : Int} {T : Cr.W} (h : Cr.IsNew seed T) : T.s 0 = seed ∧ T.s 1 = 0 ∧ T.s 2 = 1 ∧ T.s 3 = 0 := by
  obtain ⟨c, es, is, _, rfl⟩ := h
  exact ⟨rfl, rfl, rfl, rfl⟩

set_option maxRecDepth 16000 in
set_option maxHeartbeats 12800000 in
theorem known10_any (w : World) : Calls Tryz.prog 9 #[] w (Says w (.bool true)) := by
  have cn := hide (cNew_any 1 w)
  go_enter Tryz.func9, Tryz.ntmps9
  go_wp2_with fail
  refine (unhide cn).mono ?_
  rintro e w1 ⟨T, hN, gC, gE, gI, cC, cE, cI, rfl, hcap, l1, l2, l3, n1, n2, n3, hL, hg1⟩
  obtain ⟨w2, hw2⟩ : ∃ w2, w2 = w1.alloc (.cells (Gd.world T.s gC gE gI cC cE cI T.g) 30) := ⟨_, rfl⟩
  have hg2 : w1.grownBy w2 none := by rw [hw2]; exact World.grownBy_alloc _ _ _
  have hB : Hid (Lie w2 w1.heap.size 30 11 (Gd.box T.s gC gE gI cC cE cI T.g)) := by rw [hw2]; exact (Arr.world (heap_alloc_new w1 _)).lie
  have hG := hide (grown_trans hg1 hg2)
  have hL2 := hide (hL.on hg2)
  have hN' := hide hN
  clear hcap l1 l2 l3 n1 n2 n3 hL hg1 hg2 cn hN
  unfold Gd.world at hw2 ⊢
  go_upto_region 2 with fail
  rw [← hw2]
  clear hw2
  obtain ⟨B, hBe⟩ : ∃ B, w1.heap.size = B := ⟨_, rfl⟩
  rw [hBe] at hB ⊢
  clear hBe
  clear w1
  obtain ⟨w3, hw3⟩ : ∃ w3, w3 = w2.alloc (.cells #[.int .i64 0, .int .i64 0, .bool false, .int .i64 0, .int .i64 0, .bool false, .int .i64 0, .int .i64 0, .bool false, .int .i64 0, .int .i64 0, .bool false] 36) := ⟨_, rfl⟩
  have hg3 : w2.grownBy w3 none := by rw [hw3]; exact World.grownBy_alloc _ _ _
  have hA : Hid (Lie w3 w2.heap.size 36 12 (Cr.actF (fun _ => 0) (fun _ => 0) (fun _ => false))) := by rw [hw3]; exact Cr.acts_lie (h := fun _ => 0) (i := fun _ => 0) (b := fun _ => false) (heap_alloc_new w2 _)
  have hB3 := hide ((unhide hB).on hg3)
  have hG3 := hide (grown_trans (unhide hG) hg3)
  have hL3 := hide ((unhide hL2).on hg3)
  have lA : Hid (w.heap.size ≤ w2.heap.size) := (unhide hG).size
  clear hg3 hG hL2 hB
  go_upto_region 3 with fail
  rw [← hw3]
  clear hw3
  obtain ⟨A, hAe⟩ : ∃ A, w2.heap.size = A := ⟨_, rfl⟩
  rw [hAe] at hA lA ⊢
  clear hAe
  clear w2
  have q2 : w3.cell? ⟨A, 2, none⟩ = some (.bool false) := (unhide hA).cell (c := 2) (by omega)
  have fA := (unhide hA).free
  have hA4 : Hid (Lie (w3.setCell ⟨A, 2, none⟩ (.bool true)) A 36 12 (Cr.actF (fun _ => 0) (fun _ => 0) Cr.sp0)) := ((unhide hA).store 2 (.bool true)).congr fun j hj => by
    rcases (show j = 0 ∨ j = 1 ∨ j = 2 ∨ j = 3 ∨ j = 4 ∨ j = 5 ∨ j = 6 ∨ j = 7 ∨ j = 8 ∨ j = 9 ∨ j = 10 ∨ j = 11 by omega) with rfl | rfl | rfl | rfl | rfl | rfl | rfl | rfl | rfl | rfl | rfl | rfl <;> rfl
  have hAB := (unhide hA).type_ne (unhide hB3) (by decide)
  have hB4 := hide ((unhide hB3).other hAB 2 (.bool true))
  have hL4 : Hid (Gd.Lists (w3.setCell ⟨A, 2, none⟩ (.bool true)) gC gE gI T.c T.E T.I) := ⟨(unhide hL3).cells.other ((unhide hA).type_ne (unhide hL3).cells (by decide)) _ _, (unhide hL3).ents.other ((unhide hA).type_ne (unhide hL3).ents (by decide)) _ _, (unhide hL3).items.other ((unhide hA).type_ne (unhide hL3).items (by decide)) _ _⟩
  have hG4 : Hid (w.grownBy (w3.setCell ⟨A, 2, none⟩ (.bool true)) none) := grown_store (unhide hG3) ⟨A, 2, none⟩ (unhide lA) _
  clear hA hB3 hL3 hG3 lA hAB
  go_upto_region 4 with fail
  generalize w3.setCell ⟨A, 2, none⟩ (.bool true) = w4 at hA4 hB4 hL4 hG4 ⊢
  clear q2 fA
  obtain ⟨b0, b1, b2, b3, b4, b5, b6, b7, b8, b9, b10⟩ := (unhide hB4).eleven
  have a0 : w4.cell? ⟨A, 0, none⟩ = some (.int .i64 0) := (unhide hA4).cell (c := 0) (by omega)
  have a1 : w4.cell? ⟨A, 1, none⟩ = some (.int .i64 0) := (unhide hA4).cell (c := 1) (by omega)
  have a2 : w4.cell? ⟨A, 2, none⟩ = some (.bool true) := (unhide hA4).cell (c := 2) (by omega)
  have a3 : w4.cell? ⟨A, 3, none⟩ = some (.int .i64 0) := (unhide hA4).cell (c := 3) (by omega)
  have a4 : w4.cell? ⟨A, 4, none⟩ = some (.int .i64 0) := (unhide hA4).cell (c := 4) (by omega)
  have a5 : w4.cell? ⟨A, 5, none⟩ = some (.bool false) := (unhide hA4).cell (c := 5) (by omega)
  have a6 : w4.cell? ⟨A, 6, none⟩ = some (.int .i64 0) := (unhide hA4).cell (c := 6) (by omega)
  have a7 : w4.cell? ⟨A, 7, none⟩ = some (.int .i64 0) := (unhide hA4).cell (c := 7) (by omega)
  have a8 : w4.cell? ⟨A, 8, none⟩ = some (.bool false) := (unhide hA4).cell (c := 8) (by omega)
  have a9 : w4.cell? ⟨A, 9, none⟩ = some (.int .i64 0) := (unhide hA4).cell (c := 9) (by omega)
  have a10 : w4.cell? ⟨A, 10, none⟩ = some (.int .i64 0) := (unhide hA4).cell (c := 10) (by omega)
  have a11 : w4.cell? ⟨A, 11, none⟩ = some (.bool false) := (unhide hA4).cell (c := 11) (by omega)
  have hfr := (unhide hN').frame
  have cs := hide (cStep_first (cC := cC) (cE := cE) (cI := cI) (unhide hL4) (unhide hN').good (by omega) (by omega))
  clear hfr
  go_wp2_with fail
  refine (unhide cs).mono ?_
  rintro e w5 ⟨U, hU, jC, jE, jI, dC, dE, dI, rfl, hcap, l1, l2, l3, n1, n2, n3, hL, hg5⟩
  have hgood := hide (hU.good (unhide hN').good).1
  obtain ⟨hUc, -, hU1, -, -, f, u, γ, hf, hu, hfu, hUf⟩ := Cr.first_frame (unhide hN') hU (fun _ _ => ⟨by show ¬ (0 : Int) = 1; omega, by show ¬ (0 : Int) = 2; omega⟩) rfl rfl rfl rfl
  rw [← hUc] at hfu
  have o := Cr.one_at 1 0 u
  have g : ∀ j, j ≠ 1 → En.gen (Cr.one 1 0 u) γ j = Cr.one 1 0 u j := fun j hj => if_neg hj
  have k0 : U.E f 0 = 1 := by rw [hUf, g 0 (by omega)]; exact o.1 (by omega) (by omega)
  have k3 : U.E f 3 = (u : Int) % 24 := by rw [hUf, g 3 (by omega)]; exact o.2.2.1
  have k4 : U.E f 4 = (u : Int) / 24 := by rw [hUf, g 4 (by omega)]; exact o.2.2.2.1
  have hat := Cr.at_one (unhide hgood).sane hf (by omega)
  rw [k3, k4] at hat
  obtain ⟨w6, hw6⟩ : ∃ w6, w6 = w5.alloc (.cells (Gd.world U.s jC jE jI dC dE dI U.g) 30) := ⟨_, rfl⟩
  have hg6 : w5.grownBy w6 none := by rw [hw6]; exact World.grownBy_alloc _ _ _
  have hV : Hid (Lie w6 w5.heap.size 30 11 (Gd.box U.s jC jE jI dC dE dI U.g)) := by rw [hw6]; exact (Arr.world (heap_alloc_new w5 _)).lie
  have hG6 := hide (grown_trans (unhide hG4) (grown_trans hg5 hg6))
  have hL6 := hide (hL.on hg6)
  have hc8 : ∀ i, 0 ≤ U.c i ∧ U.c i ≤ 255 := (unhide hgood).sane.fit.cells
  have cf := hide (fun z (hz : Gd.Lists z jC jE jI U.c U.E U.I) => refFind_any z.heap.size (some ⟨jC, 0, none⟩) 384 dC U.c 3 z hz.vec hc8)
  have ca := hide (fun z (hz : Gd.Lists z jC jE jI U.c U.E U.I) => entRefAt_same jE 32 dE U.E ((u : Int) % 24) ((u : Int) / 24) z hz.own.ents)
  rw [hfu] at cf
  rw [hat] at ca
  have hf' : (f : Int) < 32 := by omega
  have HF := hide hf
  have K0 := hide k0
  have U1 := hide hU1
  have hu' := hide hu
  clear hcap l1 l2 l3 n1 n2 n3 hL hg5 hg6 hU hUc hU1 hf hu hfu hUf o g k0 k3 k4 hat hc8 cs b0 b1 b2 b3 b4 b5 b6 b7 b8 b9 b10 a0 a1 a2 a3 a4 a5 a6 a7 a8 a9 a10 a11 hA4 hB4 hL4 hG4 hN' hgood
  unfold Gd.world at hw6 ⊢
  go_upto_region 5 with fail
  rw [← hw6]
  clear hw6
  obtain ⟨V, hVe⟩ : ∃ V, w5.heap.size = V := ⟨_, rfl⟩
  rw [hVe] at hV ⊢
  clear hVe
  clear w5
  have b4 := (unhide hV).eleven.2.2.2.2.1
  have cf' := hide (unhide cf _ (unhide hL6))
  go_wp2_with fail
  refine (unhide cf').mono ?_
  rintro e wy ⟨rfl, hy⟩
  subst wy
  clear cf cf' b4
  have t1 : IntKind.i64.wrap ((u : Int) / 24) = (u : Int) / 24 := by rw [IntKind.wrap_i64]; have := unhide hu'; omega
  have b1 := (unhide hV).eleven.2.1
  rw [unhide U1] at b1
  have b5 := (unhide hV).eleven.2.2.2.2.2.1
  have r0 := ((unhide hL6).own.ents.row (unhide HF)).1
  rw [unhide K0] at r0
  have hge : decide ((u : Int) ≥ 0) = true := by simp
  have hgf : decide ((f : Int) ≥ 0) = true := by simp
  go_upto_region 6 with fail
  go_quiet (first | (go_at_call 24; refine Calls.quiet_of_same (unhide ca _ ?_); exact (unhide hL6).on (grown_drew (World.grownBy.refl _ none) _)) | fail)
  have hfin := hide (grown_drew (unhide hG6) 33)
  clear b1 b5 r0 ca
  go_wp2
  go_ret
  exact ⟨rfl, grown_drew (unhide hG6) _⟩

end Go.Proofs.YtbanjoflgoiegaaGreat

namespace Go.Proofs.YtbanjoflgoiegaaGreat
open Go.RowKit

structure Cr.Scene (w x : World) (T A gC gE gI cC cE cI : Nat) (how inp : Nat → Int) (sp : Nat → Bool) (S : Cr.W) : Prop where
  law : Gd.Law w x T gC gE gI cC cE cI S.s S.g S.c S.E S.I
  acts : Lie x A 36 12 (Cr.actF how inp sp)
  lA : w.heap.size ≤ A

theorem Cr.Scene.on {w x y : World} {T A gC gE gI cC cE cI : Nat} {how inp : Nat → Int} {sp : Nat → Bool} {S : Cr.W} (h : Cr.Scene w x T A gC gE gI cC cE cI how inp sp S) (hg : x.grownBy y none) : Cr.Scene w y T A gC gE gI cC cE cI how inp sp S :=
  ⟨h.law.on hg, h.acts.on hg, h.lA⟩

theorem Cr.Scene.apart {w x : World} {T A gC gE gI cC cE cI : Nat} {how inp : Nat → Int} {sp : Nat → Bool} {S : Cr.W} (h : Cr.Scene w x T A gC gE gI cC cE cI how inp sp S) : A ≠ T ∧ A ≠ gC ∧ A ≠ gE ∧ A ≠ gI :=
  ⟨h.acts.type_ne h.law.hold.box (by decide), h.acts.type_ne h.law.hold.lists.cells (by decide), h.acts.type_ne h.law.hold.lists.ents (by decide), h.acts.type_ne h.law.hold.lists.items (by decide)⟩

theorem Cr.Scene.over {w x x' : World} {T A gC gE gI cC cE cI jC jE jI dC dE dI : Nat} {how inp : Nat → Int} {sp : Nat → Bool} {S U : Cr.W} (h : Cr.Scene w x T A gC gE gI cC cE cI how inp sp S) (hcap : 32 ≤ dE ∧ 384 ≤ dC) (l1 : x.heap.size ≤ jC) (l2 : x.heap.size ≤ jE) (l3 : x.heap.size ≤ jI) (n1 : jC ≠ jE) (n2 : jC ≠ jI) (n3 : jE ≠ jI) (hL : Gd.Lists x' jC jE jI U.c U.E U.I) (hg : x.grownBy x' none) :
    Cr.Scene w (x'.setCells T 0 (Gd.world U.s jC jE jI dC dE dI U.g).toList) T A jC jE jI dC dE dI how inp sp U :=
  ⟨h.law.over hcap.1 l1 l2 l3 n1 n2 n3 hL hg, (h.acts.on hg).others h.apart.1.symm _ _, h.lA⟩

theorem Cr.Scene.row {w x : World} {T A gC gE gI cC cE cI : Nat} {how inp : Nat → Int} {sp : Nat → Bool} {s g c : Nat → Int} {E I : Nat → Nat → Int} (h : Cr.Scene w x T A gC gE gI cC cE cI how inp sp ⟨s, g, c, E, I⟩) (k : Nat) (r : Nat → Int) : Cr.Scene w (x.setCells gE (k * 11) (En.cells r).toList) T A gC gE gI cC cE cI how inp sp ⟨s, g, c, En.put E k r, I⟩ := by
  have hh := h.law.hold
  exact ⟨⟨⟨hh.box.others hh.bE.symm _ _, ⟨hh.lists.cells.others hh.cE.symm _ _, (hh.lists.own.store k r).lie (by omega), hh.lists.items.others hh.eI _ _⟩, hh.bC, hh.bE, hh.bI, hh.cE, hh.cI, hh.eI⟩, h.law.lT, h.law.lE, h.law.lI, h.law.cap, own_sets h.law.lE _ _ x h.law.grown⟩, h.acts.others h.apart.2.2.1.symm _ _, h.lA⟩

theorem Cr.Scene.stat {w x : World} {T A gC gE gI cC cE cI : Nat} {how inp : Nat → Int} {sp : Nat → Bool} {s g c : Nat → Int} {E I : Nat → Nat → Int} (h : Cr.Scene w x T A gC gE gI cC cE cI how inp sp ⟨s, g, c, E, I⟩) (k j : Nat) (hj : j < 11) (v : Int) : Cr.Scene w (x.setCell ⟨gE, k * 11 + j, none⟩ (.int .i64 v)) T A gC gE gI cC cE cI how inp sp ⟨s, g, c, Gd.set E k j v, I⟩ :=
  ⟨h.law.stat k j hj v, h.acts.other h.apart.2.2.1.symm _ _, h.lA⟩

theorem Cr.Scene.act {w x : World} {T A gC gE gI cC cE cI : Nat} {how inp : Nat → Int} {sp : Nat → Bool} {S : Cr.W} (h : Cr.Scene w x T A gC gE gI cC cE cI how inp sp S) (t : Nat) (u v : Int) (b : Bool) : Cr.Scene w (((x.setCell ⟨A, t * 3, none⟩ (.int .i64 u)).setCell ⟨A, t * 3 + 1, none⟩ (.int .i64 v)).setCell ⟨A, t * 3 + 2, none⟩ (.bool b)) T A gC gE gI cC cE cI (fun k => if k = t then u else how k) (fun k => if k = t then v else inp k) (fun k => if k = t then b else sp k) S := by
  obtain ⟨n0, n1, n2, n3⟩ := h.apart
  have hh := h.law.hold
  exact ⟨⟨⟨((hh.box.other n0 _ _).other n0 _ _).other n0 _ _, ⟨((hh.lists.cells.other n1 _ _).other n1 _ _).other n1 _ _, ((hh.lists.ents.other n2 _ _).other n2 _ _).other n2 _ _, ((hh.lists.items.other n3 _ _).other n3 _ _).other n3 _ _⟩, hh.bC, hh.bE, hh.bI, hh.cE, hh.cI, hh.eI⟩, h.law.lT, h.law.lE, h.law.lI, h.law.cap, grown_store (grown_store (grown_store h.law.grown ⟨A, t * 3, none⟩ h.lA _) ⟨A, t * 3 + 1, none⟩ h.lA _) ⟨A, t * 3 + 2, none⟩ h.lA _⟩, Cr.acts_put h.acts u v b, h.lA⟩

theorem Cr.Scene.twelve {w x : World} {T A gC gE gI cC cE cI : Nat} {how inp : Nat → Int} {sp : Nat → Bool} {S : Cr.W} (h : Cr.Scene w x T A gC gE gI cC cE cI how inp sp S) :
    x.cell? ⟨A, 0, none⟩ = some (.int .i64 (how 0)) ∧ x.cell? ⟨A, 1, none⟩ = some (.int .i64 (inp 0)) ∧ x.cell? ⟨A, 2, none⟩ = some (.bool (sp 0)) ∧ x.cell? ⟨A, 3, none⟩ = some (.int .i64 (how 1)) ∧ x.cell? ⟨A, 4, none⟩ = some (.int .i64 (inp 1)) ∧ x.cell? ⟨A, 5, none⟩ = some (.bool (sp 1)) ∧ x.cell? ⟨A, 6, none⟩ = some (.int .i64 (how 2)) ∧ x.cell? ⟨A, 7, none⟩ = some (.int .i64 (inp 2)) ∧ x.cell? ⟨A, 8, none⟩ = some (.bool (sp 2)) ∧ x.cell? ⟨A, 9, none⟩ = some (.int .i64 (how 3)) ∧ x.cell? ⟨A, 10, none⟩ = some (.int .i64 (inp 3)) ∧ x.cell? ⟨A, 11, none⟩ = some (.bool (sp 3)) :=
  ⟨h.acts.cell (c := 0) (by omega), h.acts.cell (c := 1) (by omega), h.acts.cell (c := 2) (by omega), h.acts.cell (c := 3) (by omega), h.acts.cell (c := 4) (by omega), h.acts.cell (c := 5) (by omega), h.acts.cell (c := 6) (by omega), h.acts.cell (c := 7) (by omega), h.acts.cell (c := 8) (by omega), h.acts.cell (c := 9) (by omega), h.acts.cell (c := 10) (by omega), h.acts.cell (c := 11) (by omega)⟩

theorem Cr.Scene.step {w x : World} {T A gC gE gI cC cE cI : Nat} {how inp : Nat → Int} {sp : Nat → Bool} {S : Cr.W} (h : Cr.Scene w x T A gC gE gI cC cE cI how inp sp S) (hG : Cr.Good S) (h1 : -9223372036854775808 ≤ S.s 1) (h2 : S.s 1 < 9223372036854775807) :
    Calls Tryz.prog 15 #[.agg #[.int .i64 (S.s 0), .int .i64 (S.s 1), .int .i64 (S.s 2), .int .i64 (S.s 3), .slice (some ⟨gC, 0, none⟩) 384 cC, .slice (some ⟨gE, 0, none⟩) 32 cE, .slice (some ⟨gI, 0, none⟩) 40 cI, .int .i64 (S.g 0), .int .i64 (S.g 1), .int .i64 (S.g 2), .int .i64 (S.g 3)], .agg #[.int .i64 (how 0), .int .i64 (inp 0), .bool (sp 0), .int .i64 (how 1), .int .i64 (inp 1), .bool (sp 1), .int .i64 (how 2), .int .i64 (inp 2), .bool (sp 2), .int .i64 (how 3), .int .i64 (inp 3), .bool (sp 3)]] x (Cr.Steps x how inp sp S) :=
  cStep_any S.s S.g S.c S.E S.I gC gE gI cC cE cI how inp sp x h.law.hold.lists hG h1 h2

end Go.Proofs.YtbanjoflgoiegaaGreat

namespace Go.Proofs.YtbanjoflgoiegaaGreat
open Go.RowKit

theorem Cr.scene_first {w x : World} {T A gC gE gI cC cE cI : Nat} {S : Cr.W} (h : Gd.Law w x T gC gE gI cC cE cI S.s S.g S.c S.E S.I) (hA : Lie x A 36 12 (Cr.actF (fun _ => 0) (fun _ => 0) (fun _ => false))) (lA : w.heap.size ≤ A) : Cr.Scene w (x.setCell ⟨A, 2, none⟩ (.bool true)) T A gC gE gI cC cE cI (fun _ => 0) (fun _ => 0) Cr.sp0 S := by
  have hh := h.hold
  have n0 := hA.type_ne hh.box (by decide)
  have n1 := hA.type_ne hh.lists.cells (by decide)
  have n2 := hA.type_ne hh.lists.ents (by decide)
  have n3 := hA.type_ne hh.lists.items (by decide)
  refine ⟨⟨⟨hh.box.other n0 _ _, ⟨hh.lists.cells.other n1 _ _, hh.lists.ents.other n2 _ _, hh.lists.items.other n3 _ _⟩, hh.bC, hh.bE, hh.bI, hh.cE, hh.cI, hh.eI⟩, h.lT, h.lE, h.lI, h.cap, grown_store h.grown ⟨A, 2, none⟩ lA _⟩, (hA.store 2 (.bool true)).congr fun j hj => ?_, lA⟩
  rcases (show j = 0 ∨ j = 1 ∨ j = 2 ∨ j = 3 ∨ j = 4 ∨ j = 5 ∨ j = 6 ∨ j = 7 ∨ j = 8 ∨ j = 9 ∨ j = 10 ∨ j = 11 by omega) with rfl | rfl | rfl | rfl | rfl | rfl | rfl | rfl | rfl | rfl | rfl | rfl <;> rfl

theorem Cr.came {seed : Int} {S T : Cr.W} (h : T.c = S.c ∧ T.s 0 = seed ∧ T.s 1 = 1 ∧ T.s 2 = 1 ∧ T.s 3 = 0 ∧ ∃ (f u : Nat) (γ : Int), f < 32 ∧ u < 384 ∧ Gr.find 384 S.c 3 = (u : Int) ∧ T.E f = En.gen (Cr.one 1 0 u) γ) (hG : Cr.Good T) :
    ∃ f : Nat, f < 32 ∧ Gd.hero T.E 0 = (f : Int) ∧ T.E f 0 = 1 ∧ T.E f 2 = 0 ∧ T.E f 9 = 0 ∧ T.s 1 = 1 ∧ T.s 3 = 0 ∧ Gr.at 384 T.c (T.E f 3) (T.E f 4) ≠ 4 := by
  obtain ⟨hc, _, h1, _, h3, f, u, γ, hf, hu, hfu, hE⟩ := h
  have o := Cr.one_at 1 0 u
  have g : ∀ j, j ≠ 1 → En.gen (Cr.one 1 0 u) γ j = Cr.one 1 0 u j := fun j hj => if_neg hj
  have e0 : T.E f 0 = 1 := by rw [hE, g 0 (by omega)]; exact o.1 (by omega) (by omega)
  have e2 : T.E f 2 = 0 := by rw [hE, g 2 (by omega)]; exact o.2.1
  have e3 : T.E f 3 = (u : Int) % 24 := by rw [hE, g 3 (by omega)]; exact o.2.2.1
  have e4 : T.E f 4 = (u : Int) / 24 := by rw [hE, g 4 (by omega)]; exact o.2.2.2.1
  have e9 : T.E f 9 = 0 := by rw [hE, g 9 (by omega)]; rfl
  have hh : 0 ≤ Gd.hero T.E 0 := by
    obtain ⟨t, ht, h0⟩ : ∃ t : Nat, t < 1 ∧ 0 ≤ Gd.hero T.E (t : Int) := ⟨0, by omega, by
      unfold Gd.hero
      rcases En.first_cases (En.heroQ T.E ((0 : Nat) : Int)) 32 with ⟨_, hno⟩ | ⟨j, _, hj, _⟩
      · have := hno f hf
        simp [En.heroQ, e0, e2] at this
      · omega⟩
    obtain rfl : t = 0 := by omega
    exact h0
  obtain ⟨k, hk, he, k2, k1⟩ := Gd.hero_pos hh
  obtain rfl : k = f := hG.sane.seats.one k f hk hf k1 e0 (by omega)
  refine ⟨k, hf, he, e0, e2, e9, h1, h3, ?_⟩
  rw [e3, e4, hc, Gr.at_in (k := u) ((Gr.inB_iff _ _).2 (by omega)) (by omega)]
  have hFl := hG.floor
  rw [hc] at hFl
  obtain ⟨u', hu', hfu', hcu, _⟩ := Cr.up_stair hFl
  obtain rfl : u = u' := by omega
  rw [hcu]
  omega

def Cr.soleTo (E : Nat → Nat → Int) (f n : Nat) : Nat → Nat → Int := fun k => if k < n ∧ k ≠ f then En.hole (E k 1) else E k

theorem Cr.sole_zero (E : Nat → Nat → Int) (f : Nat) : Cr.soleTo E f 0 = E := by
  funext k
  unfold Cr.soleTo
  rw [if_neg (by omega)]

theorem Cr.sole_yes (E : Nat → Nat → Int) {f n : Nat} (h : n ≠ f) : En.put (Cr.soleTo E f n) n (En.hole (Cr.soleTo E f n n 1)) = Cr.soleTo E f (n + 1) := by
  have e0 : Cr.soleTo E f n n = E n := if_neg (by omega)
  funext k
  by_cases e : k = n
  · subst e
    rw [En.put_same, e0]
    unfold Cr.soleTo
    rw [if_pos ⟨by omega, h⟩]
  · rw [En.put_other e]
    unfold Cr.soleTo
    by_cases hk : k < n ∧ k ≠ f
    · rw [if_pos hk, if_pos (by omega)]
    · rw [if_neg hk, if_neg (by omega)]

theorem Cr.sole_no (E : Nat → Nat → Int) (f : Nat) : Cr.soleTo E f f = Cr.soleTo E f (f + 1) := by
  funext k
  unfold Cr.soleTo
  by_cases hk : k < f ∧ k ≠ f
  · rw [if_pos hk, if_pos (by omega)]
  · rw [if_neg hk, if_neg (by omega)]

theorem Cr.sole_sane {c : Nat → Int} {E I : Nat → Nat → Int} (h : Cr.Sane c E I) {f : Nat} (hf : f < 32) (f1 : E f 0 = 1) {st : Int} (s0 : 0 ≤ st) (s9 : st ≤ 9) :
    Cr.Sane c (Gd.set (Cr.soleTo E f 32) f 10 st) I ∧ Cr.Sole (Gd.set (Cr.soleTo E f 32) f 10 st) f (E f 2) ∧ (∀ j, j ≠ 10 → Gd.set (Cr.soleTo E f 32) f 10 st f j = E f j) ∧ Gd.set (Cr.soleTo E f 32) f 10 st f 10 = st := by
  obtain ⟨G, hG⟩ : ∃ G, G = Gd.set (Cr.soleTo E f 32) f 10 st := ⟨_, rfl⟩
  rw [← hG]
  have hff : Cr.soleTo E f 32 f = E f := if_neg (by omega)
  have gf : ∀ j, j ≠ 10 → G f j = E f j := fun j hj => by
    rw [hG]
    unfold Gd.set
    rw [if_neg (by omega), hff]
  have g10 : G f 10 = st := by
    rw [hG]
    unfold Gd.set
    rw [if_pos ⟨rfl, rfl⟩]
  have go : ∀ k, k < 32 → k ≠ f → G k = En.hole (E k 1) := fun k hk hkf => by
    rw [hG, Ft.set_row _ _ _ _ _ hkf]
    unfold Cr.soleTo
    rw [if_pos ⟨hk, hkf⟩]
  have gz : ∀ k, k < 32 → k ≠ f → G k 0 = 0 := fun k hk hkf => by rw [go k hk hkf]; rfl
  have gens := h.good.gens
  have hr := h.fit.rows f hf
  have ht := hr.taken (by omega)
  refine ⟨⟨⟨h.fit.cells, h.fit.ok, fun k hk => ?_⟩, ⟨fun k hk k0 => ?_, ⟨fun k hk k0 => ?_, fun i j hi hj i0 j0 _ _ => ?_⟩⟩, ⟨fun k hk k1 => ?_, fun i j hi hj i1 j1 _ => ?_, fun k hk k0 k1 => ?_⟩⟩, ⟨hf, by rw [gf 0 (by omega)]; exact f1, gf 2 (by omega), gz⟩, gf, g10⟩
  · by_cases e : k = f
    · rw [e]
      refine ⟨by rw [gf 1 (by omega)]; exact hr.1, by rw [gf 1 (by omega)]; exact hr.2.1, .inr ?_⟩
      rw [gf 0 (by omega), gf 5 (by omega), gf 6 (by omega), gf 7 (by omega), gf 8 (by omega), gf 9 (by omega), g10]
      omega
    · rw [go k hk e]
      exact Ft.row_hole (gens k hk).1 (gens k hk).2
  · by_cases e : k = f
    · rw [e, gf 0 (by omega), gf 6 (by omega), gf 7 (by omega), gf 8 (by omega)]
      exact h.set.born f hf (by omega)
    · exact absurd (gz k hk e) k0
  · by_cases e : k = f
    · rw [e, gf 3 (by omega), gf 4 (by omega)]
      exact h.set.stands.on f hf (by omega)
    · exact absurd (gz k hk e) k0
  · by_cases e : i = f
    · by_cases e2 : j = f
      · omega
      · exact absurd (gz j hj e2) j0
    · exact absurd (gz i hi e) i0
  · by_cases e : k = f
    · rw [e, gf 2 (by omega)]
      exact h.seats.seat f hf f1
    · rw [gz k hk e] at k1; omega
  · by_cases e : i = f
    · by_cases e2 : j = f
      · omega
      · rw [gz j hj e2] at j1; omega
    · rw [gz i hi e] at i1; omega
  · by_cases e : k = f
    · rw [e, gf 0 (by omega)] at k1; omega
    · exact absurd (gz k hk e) k0

theorem Cr.seat_frame {how inp : Nat → Int} {sp : Nat → Bool} {S T : Cr.W} {f : Nat} (hT : Cr.IsStep how inp sp S T) (h0 : S.s 3 = 0) (h1 : S.s 1 = 1) (hf : Cr.Sole S.E f 0) (hsp : ∀ j, j < 4 → j ≠ 0 → sp j = false) (h9 : S.E f 9 = 0) (hs : 0 ≤ S.E f 10) (hat : Gr.at 384 S.c (S.E f 3) (S.E f 4) ≠ 4) :
    T.E f 0 = 1 ∧ T.E f 10 = max 0 (S.E f 10 - 1) ∧ ((S.E f 10 = 0 ∧ (how 0 = 2 ∨ (how 0 = 1 ∧ 1 ≤ inp 0 ∧ inp 0 ≤ 4))) ∨ (T.E f 3 = S.E f 3 ∧ T.E f 4 = S.E f 4)) := by
  obtain ⟨m, hm, sm, hE⟩ := Cr.lone_step (t := 0) hT h0 hf (by omega) hsp
  have key : m.E f 10 = S.E f 10 ∧ m.E f 9 = 0 ∧ m.left = false ∧ ((S.E f 10 = 0 ∧ (how 0 = 2 ∨ (how 0 = 1 ∧ 1 ≤ inp 0 ∧ inp 0 ≤ 4))) ∨ (m.E f 3 = S.E f 3 ∧ m.E f 4 = S.E f 4)) := by
    unfold Cr.Moved at hm
    have eh : Gd.hero S.E ((0 : Nat) : Int) = (f : Int) := hf.hero
    change (if Gd.hero S.E ((0 : Nat) : Int) < 0 ∨ 0 < S.E (Gd.hero S.E ((0 : Nat) : Int)).toNat 10 ∨ (how 0 ≠ 1 ∧ how 0 ≠ 2) then _ else _) at hm
    rw [eh, Int.toNat_natCast] at hm
    split at hm
    · rw [hm]
      exact ⟨rfl, h9, rfl, .inr ⟨rfl, rfl⟩⟩
    · rename_i hc
      obtain ⟨v, hv, rfl⟩ := hm
      have hd := hf.does (s := Cr.num S.s 1 (S.s 1 + 1)) (c := S.c) (g := S.g) (I := S.I) (left := false) v
      obtain ⟨d1, d2, d3, d4, d5⟩ := hd
      refine ⟨d2 10 (by omega) (by omega) (by omega) (by omega), d3.elim (fun e => e.trans h9) id, ?_, ?_⟩
      · cases hl : (Cr.does (Cr.num S.s 1 (S.s 1 + 1)) S.c ⟨S.g, S.E, S.I, false⟩ ((0 : Nat) : Int) f v).left
        · rfl
        · rcases d5 hl with h | h
          · cases h
          · exact absurd h hat
      · have st0 : S.E f 10 = 0 := by
          by_cases e : 0 < S.E f 10
          · exact absurd (.inr (.inl e)) hc
          · omega
        by_cases e2 : how 0 = 2
        · exact .inl ⟨st0, .inl e2⟩
        · have e1 : how 0 = 1 := by
            by_cases e1 : how 0 = 1
            · exact e1
            · exact absurd (.inr (.inr ⟨e1, e2⟩)) hc
          rw [if_neg e2] at hv
          by_cases hr : 1 ≤ v ∧ v ≤ 4
          · exact .inl ⟨st0, .inr ⟨e1, by rw [← hv]; exact hr.1, by rw [← hv]; exact hr.2⟩⟩
          · exact .inr (d4 hr)
  obtain ⟨k10, k9, kl, kp⟩ := key
  obtain ⟨a1, a2⟩ := (Cr.ail_stun (E := m.E) (I := m.I) (f := f) (by omega) (by rw [sm.one]; omega) 32).2 sm.lt
  have hrat : Cr.rats (Cr.num S.s 1 (S.s 1 + 1)) S.c (Ft.ailE m.E m.I 32).1 = (Ft.ailE m.E m.I 32).1 := by
    unfold Cr.rats
    rw [if_neg (fun h => by
      have h' := h.1
      rw [Cr.num_at, h1] at h'
      omega)]
  have hman : Cr.manned (Ft.ailE m.E m.I 32).1 = true := Cr.manned_of (t := 0) (k := f) (by omega) sm.lt (by rw [a1 0 (by omega)]; exact sm.one) (by rw [a1 2 (by omega)]; exact sm.seat)
  rw [hrat, kl] at hE
  unfold Cr.Ends at hE
  rw [if_neg (by rw [hman]; exact Bool.false_ne_true.symm), if_neg Bool.false_ne_true] at hE
  subst hE
  show (Ft.ailE m.E m.I 32).1 f 0 = 1 ∧ (Ft.ailE m.E m.I 32).1 f 10 = _ ∧ (_ ∨ ((Ft.ailE m.E m.I 32).1 f 3 = _ ∧ (Ft.ailE m.E m.I 32).1 f 4 = _))
  rw [a1 0 (by omega), a1 3 (by omega), a1 4 (by omega), a2, k10]
  refine ⟨sm.one, ?_, kp⟩
  split <;> omega

end Go.Proofs.YtbanjoflgoiegaaGreat
