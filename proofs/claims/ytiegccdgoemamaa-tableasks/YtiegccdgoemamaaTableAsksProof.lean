/-
  For any records, seats and frames the law TableAsks answers true: record by record the table is the document's, and so is what it says of any seat in any frame; no condition.
-/
import Derived.Test.YtiegccdgoemamaaRows
import Derived.WalkKit
import Derived.ProofKit
import Derived.OpenShut
import Derived.Test.YtiegccdgoemamaaTableRef
import Derived.Test.YtiegccdgoemamaaTableOk
import Derived.Test.YtiegccdgoemamaaWireArgs
import Derived.ShutString
import Derived.ChangeOld
import Derived.Below
namespace Go.Proofs.Ytiegccdgoemamaa.tableAsks
open Go.ChangeShapes Go.WideShapes Go.ChangeAt Go.RowKit
open Go.ChangeMaps (open_string shut_string)
set_option linter.unusedVariables false

theorem own : ownKnob Try.prog.godebug = none := by kernel_rfl
theorem laidOut : laidOutB Try.prog = true := by kernel_rfl

/-- WHAT THE WALK IS TOLD OF A SLICE OF INTEGERS THAT CAME IN: it is nil; or it leads to a row of 'cap' cells, the numbers 'zs' (the first 'len' are its elements, the rest its spare room), each fitting its kind. -/
def IsRow (k : IntKind) (w : World) (a : Option Addr) (len cap : Nat) (zs : List Int) : Prop :=
  (a = none ∧ len = 0 ∧ cap = 0 ∧ zs = []) ∨
  ∃ x, a = some x ∧ len ≤ cap ∧ cap ≤ maxLen ∧ zs.length = cap ∧ (∀ i, i < zs.length → w.cell? (x.add i) = some (.int k (zs.getD i 0))) ∧ ∀ n ∈ zs, (Lit.int k n).wf = true

theorem IsRow.vec {k : IntKind} {w : World} {a : Option Addr} {len cap : Nat} {zs : List Int} (h : IsRow k w a len cap zs) : Vec w.heap.size w a len (fun i => .int k (zs[i]?.getD 0)) := by
  rcases h with ⟨rfl, rfl, rfl, rfl⟩ | ⟨x, rfl, hl, hm, hz, hcell, _⟩
  · exact ⟨Nat.zero_le _, .inl rfl⟩
  · refine ⟨Nat.le_trans hl hm, ?_⟩
    by_cases h0 : len = 0
    · exact .inl h0
    · right
      obtain ⟨b, off, spot⟩ := x
      have hc0 := hcell 0 (by omega)
      have hspot : spot = none := by simpa [Addr.add] using World.cell?_spot hc0
      subst hspot
      refine ⟨b, off, rfl, ?_, fun i hi => ?_⟩
      · have h := Go.block_lt_of_cell hc0
        simpa [Addr.add] using h
      · have h := hcell i (by omega)
        by_cases hi0 : i = 0
        · subst hi0
          simpa [Addr.add] using h
        · simpa [Addr.add, hi0] using h

/-- What Add hands back: the table, or none. -/
def Tb.got (N : Nat × (Nat → Nat → Int)) (er : Int) : Nat × (Nat → Nat → Int) := if er = 0 then N else (0, Tb.zero)

theorem Tb.got_of {w w' : World} {N : Nat × (Nat → Nat → Int)} {er : Int} {e : Ending} (h : Tb.Adds w N er e w') : ∃ a c, e = .returned (.tuple #[.slice a (Tb.got N er).1 c, .int .i64 er]) ∧ Tb.Tab w' a (Tb.got N er).1 c (Tb.got N er).2 := by
  unfold Tb.got
  by_cases e0 : er = 0
  · rw [if_pos e0, e0]
    exact h.2.2 e0
  · rw [if_neg e0]
    exact ⟨none, 0, h.2.1 e0, Tb.noTab _ _⟩

theorem Tb.next_le (E : Nat → Nat → Int) (n : Nat) (k s f l : Int) : (Tb.next E n k s f l).1 ≤ n + 1 := by
  unfold Tb.next
  split
  · exact Nat.le_refl _
  · exact Nat.le_succ n

set_option maxRecDepth 8000 in
set_option maxHeartbeats 25600000 in

theorem walk (a0 : Option Addr) (len0 cap0 : Nat) (z0 : Nat → Nat → Int) (a1 : Option Addr) (len1 cap1 : Nat) (z1 : List Int) (a2 : Option Addr) (len2 cap2 : Nat) (z2 : List Int) (w : World) (w0 : Wr.Recs w a0 len0 z0) (w1 : IsRow .i64 w a1 len1 cap1 z1) (w2 : IsRow .i64 w a2 len2 cap2 z2) :
    Calls Try.prog 8 #[.slice a0 len0 cap0, .slice a1 len1 cap1, .slice a2 len2 cap2] w fun e w' => e = .returned (.bool true) ∧ Below w.heap.size w w' := by
  have hv1 := hide w1.vec
  have hv2 := hide w2.vec
  have hm1 : len1 ≤ 9223372036854775807 := w1.vec.1
  have hm2 : len2 ≤ 9223372036854775807 := w2.vec.1
  have hm0 : len0 ≤ 9223372036854775807 := w0.1
  have H0 := hide w0
  clear w0 w1 w2
  go_enter Try.func8, Try.ntmps8
  go_wp2_with fail
  refine (known16_any _).mono ?_
  rintro e wk ⟨rfl, hgk⟩
  have HK := hide hgk
  clear hgk
  go_wp2_with fail
  go_loopw [7, 8, 9] (fun v7 v8 v9 wr => ∃ (i n c d : Nat) (a b : Option Addr) (E : Nat → Nat → Int), i ≤ len0 ∧ i ≤ 30 ∧ v9 = .int .i64 (i : Int) ∧ v7 = .slice a n c ∧ v8 = .slice b n d ∧ Hid (n ≤ i ∧ w.grownBy wr none ∧ Tb.Tab wr a n c E ∧ Tb.Tab wr b n d E ∧ Tb.Ok E n)) (fun _ _ v9 _ => 40 - (intOf v9).toNat)
  case atStart => exact ⟨0, 0, 0, 0, none, none, Tb.zero, by omega, by omega, rfl, rfl, rfl, Nat.le_refl _, unhide HK, Tb.noTab _ _, Tb.noTab _ _, Tb.Ok.none _⟩
  case round =>
    clear HK
    obtain ⟨i, n, c, d, a, b, E, hi0, hi30, rfl, rfl, rfl, hrel⟩ := hrel
    by_cases hlt : i < len0 ∧ i < 30
    · obtain ⟨hl1, hl2⟩ := hlt
      obtain ⟨p0, o0, rfl, hp0, hc0⟩ := (unhide H0).2 i hl1
      have HREC := hide (show ∀ y, w.grownBy y none → y.cell? ⟨p0, o0 + i * 5, none⟩ = some (.int .i64 (z0 i 0)) ∧ y.cell? ⟨p0, o0 + i * 5 + 1, none⟩ = some (.int .i64 (z0 i 1)) ∧ y.cell? ⟨p0, o0 + i * 5 + 2, none⟩ = some (.int .i64 (z0 i 2)) ∧ y.cell? ⟨p0, o0 + i * 5 + 3, none⟩ = some (.int .i64 (z0 i 3)) ∧ y.cell? ⟨p0, o0 + i * 5 + 4, none⟩ = some (.int .i64 (z0 i 4)) from fun y hg =>
        ⟨(grown_cell hg p0 _ hp0 (by simp)).trans (hc0 0 (by omega)).1, (grown_cell hg p0 _ hp0 (by simp)).trans (hc0 1 (by omega)).1, (grown_cell hg p0 _ hp0 (by simp)).trans (hc0 2 (by omega)).1, (grown_cell hg p0 _ hp0 (by simp)).trans (hc0 3 (by omega)).1, (grown_cell hg p0 _ hp0 (by simp)).trans (hc0 4 (by omega)).1⟩)
      have hfb := hide (hc0 3 (by omega)).2.2
      have hl1' : (i : Int) < (len0 : Int) := by omega
      have hl2' : (i : Int) < 30 := by omega
      have HI := hide (And.intro hl1 hl2)
      have HN1 := hide (show n ≤ 1000 by have := (unhide hrel).1; omega)
      obtain ⟨kk, hkk⟩ : ∃ kk, z0 i 0 = kk := ⟨_, rfl⟩
      obtain ⟨ii, hii⟩ : ∃ ii, z0 i 1 = ii := ⟨_, rfl⟩
      obtain ⟨ss, hss⟩ : ∃ ss, z0 i 2 = ss := ⟨_, rfl⟩
      obtain ⟨ff, hff⟩ : ∃ ff, z0 i 3 = ff := ⟨_, rfl⟩
      obtain ⟨ll, hll⟩ : ∃ ll, z0 i 4 = ll := ⟨_, rfl⟩
      rw [hkk, hii, hss, hff, hll] at HREC
      rw [hff] at hfb
      clear hc0 hp0 hkk hii hss hff hll hi0 hi30 hl1 hl2
      have HTA := hide ((unhide hrel).2.2.1.on (World.grownBy_alloc wr (.cells #[] 101) none))
      have hn1 : n ≤ 1000 := unhide HN1
      go_wp2_with (at_builtin; refine wpList_append_tab rfl _ _ rfl wr.heap.size rfl (Tb.own_new wr) _ n c E rfl (unhide HTA) hn1 (by simp) ?_)
      intro v y hown hv hy
      have HY := hide (grown_own (World.grownBy_alloc wr (.cells #[] 101) none) hy (by intro m hm; cases hm; exact Nat.le_refl _))
      obtain ⟨g, cap, rfl, hlo, hnc, hcm, hO⟩ := Tb.Own.of_owns hown hv
      have HWAS := hide hO.rows
      have HYW := hide (grown_trans (unhide hrel).2.1 (unhide HY))
      clear hown hv hy hlo hnc hcm hO HTA hn1
      obtain ⟨r0, r1, r2, r3, r4⟩ := unhide HREC y (unhide HYW)
      go_wp2_with fail
      refine (tbAdd_any a n c E kk ii ss ff ll y ((unhide hrel).2.2.1.on (unhide HY)) (unhide HN1) (unhide hfb)).mono ?_
      rintro e x hadd
      obtain ⟨ax, cx, rfl, htx⟩ := Tb.got_of hadd
      have HX := hide (grown_trans (unhide HY) hadd.1)
      have HXW := hide (grown_trans (unhide HYW) hadd.1)
      have HWAS2 := hide ((unhide HWAS).on hadd.1)
      have HTX := hide htx
      clear hadd htx r0 r1 r2 r3 r4 HWAS
      obtain ⟨r0, r1, r2, r3, r4⟩ := unhide HREC x (unhide HXW)
      obtain ⟨er, her⟩ : ∃ er, Tb.err E n kk ss ff ll = er := ⟨_, rfl⟩
      have HOK := hide (show er = 0 → Tb.Ok (Tb.next E n kk ss ff ll).2 (Tb.next E n kk ss ff ll).1 ∧ (Tb.next E n kk ss ff ll).1 ≤ n + 1 from fun h => ⟨(unhide hrel).2.2.2.2.next (unhide hfb) (her.trans h), Tb.next_le _ _ _ _ _ _⟩)
      have cref := hide (refAdd16_any b n d E kk ii ss ff ll x ((unhide hrel).2.2.2.1.on (unhide HX)) (unhide HN1))
      rw [her] at HTX cref ⊢
      obtain ⟨N, hN⟩ : ∃ N, Tb.next E n kk ss ff ll = N := ⟨_, rfl⟩
      rw [hN] at HTX cref HOK ⊢
      have HG0 := hide (show er = 0 → Tb.got N er = N from fun h => if_pos h)
      have HGL := hide (show (Tb.got N er).1 ≤ maxLen from Nat.le_trans (unhide HTX).1 (unhide HTX).2.1)
      clear her hN
      go_wp2_with fail
      refine (unhide cref).mono ?_
      rintro e x2 hadd
      obtain ⟨bx, dx, rfl, hty⟩ := Tb.got_of hadd
      have HX2 := hide (grown_trans (unhide HX) hadd.1)
      have HTX2 := hide ((unhide HTX).on hadd.1)
      have HWAS3 := hide ((unhide HWAS2).on hadd.1)
      have HTY := hide hty
      have HX2W := hide (grown_trans (unhide HXW) hadd.1)
      clear hadd hty r0 r1 r2 r3 r4 HWAS2 HTX cref
      obtain ⟨nx, E3, hnx⟩ : ∃ nx E3, Tb.got N er = (nx, E3) := ⟨_, _, rfl⟩
      rw [hnx] at HTX2 HTY HG0 HGL ⊢
      clear hnx
      have nerr : (er != er) = false := by simp
      go_wp2_with fail
      refine (same16_any _ _ _ _ _ E3 _ (unhide HTX2).2.2.1 (unhide HTY).2.2.1 (unhide HGL)).mono ?_
      rintro e x3 ⟨rfl, h3⟩
      have HX3 := hide (grown_trans (unhide HX2) h3)
      have HTX3 := hide ((unhide HTX2).on h3)
      have HTY3 := hide ((unhide HTY).on h3)
      have HX3W := hide (grown_trans (unhide HX2W) h3)
      have HWAS4 := hide ((unhide HWAS3).on h3)
      clear h3 HTX2 HTY HWAS3
      go_wp2_with fail
      refine (same16_any _ _ _ _ _ E _ ((unhide hrel).2.2.1.on (unhide HX3)).2.2.1 (unhide HWAS4) (Nat.le_trans (unhide hrel).2.2.1.1 (unhide hrel).2.2.1.2.1)).mono ?_
      rintro e wb ⟨rfl, h4⟩
      have HX4 := hide (grown_trans (unhide HX3) h4)
      have HWB := hide (grown_trans (unhide HX3W) h4)
      have HTX4 := hide ((unhide HTX3).on h4)
      have HTY4 := hide ((unhide HTY3).on h4)
      clear h4 HTX3 HTY3 HWAS4 HX3 HX3W nerr
      by_cases e0 : er = 0
      · subst e0
        obtain rfl : N = (nx, E3) := (unhide HG0 rfl).symm
        have HB := hide (show nx ≤ i + 1 ∧ Tb.Tab wb ax nx cx E3 ∧ Tb.Tab wb bx nx dx E3 ∧ Tb.Ok E3 nx from ⟨Nat.le_trans (unhide HOK rfl).2 (by have := (unhide hrel).1; omega), unhide HTX4, unhide HTY4, (unhide HOK rfl).1⟩)
        clear HOK HG0 HTX4 HTY4 hrel
        have hn3 := (unhide HB).1
        have ch := hide fun (s f : Int) x (hg : wb.grownBy x none) => tbHow_any ax nx cx E3 s f x ((unhide HB).2.1.on hg).2.2.1 (unhide HB).2.1.1 (unhide HB).2.1.2.1
        have cn := hide fun (s f : Int) x (hg : wb.grownBy x none) => tbCounts_any ax nx cx E3 s f x ((unhide HB).2.1.on hg).2.2.1 (unhide HB).2.1.1 (unhide HB).2.1.2.1
        have co := hide fun (f : Int) x (hg : wb.grownBy x none) => tbOpens_any ax nx cx E3 f x ((unhide HB).2.1.on hg).2.2.1 (Nat.le_trans (unhide HB).2.1.1 (unhide HB).2.1.2.1)
        have rh := hide (show ∀ (s f : Int) x, wb.grownBy x none → Calls Try.prog 25 #[.slice bx nx dx, .int .i64 s, .int .i64 f] x (Says x (.tuple #[.int .i64 (Tb.how (Tb.stand E3 nx s f)).1, .bool (Tb.how (Tb.stand E3 nx s f)).2])) from fun s f x hg => by
          have h := refHow16_any bx nx dx E3 s f x ((unhide HB).2.2.1.on hg).2.2.1 (unhide HB).2.2.1.1 (unhide HB).2.2.1.2.1
          rwa [(unhide HB).2.2.2.how s f] at h)
        have rn := hide (show ∀ (s f : Int) x, wb.grownBy x none → Calls Try.prog 27 #[.slice bx nx dx, .int .i64 s, .int .i64 f] x (Says x (.bool (Tb.stand E3 nx s f == 3))) from fun s f x hg => by
          have h := refCounts16_any bx nx dx E3 s f x ((unhide HB).2.2.1.on hg).2.2.1 (Nat.le_trans (unhide HB).2.2.1.1 (unhide HB).2.2.1.2.1)
          rwa [(unhide HB).2.2.2.counts s f] at h)
        have ro := hide fun (f : Int) x (hg : wb.grownBy x none) => refOpens16_any bx nx dx E3 f x ((unhide HB).2.2.1.on hg).2.2.1 (Nat.le_trans (unhide HB).2.2.1.1 (unhide HB).2.2.1.2.1)
        clear hn3
        go_wp2_with fail
        go_loopw [15] (fun v15 wq => ∃ k : Nat, k ≤ len1 ∧ k ≤ len2 ∧ k ≤ 10 ∧ v15 = .int .i64 (k : Int) ∧ Hid (wb.grownBy wq none)) (fun v15 _ => 11 - (intOf v15).toNat)
        case atStart => exact ⟨0, by omega, by omega, by omega, rfl, World.grownBy.refl _ _⟩
        case round =>
          obtain ⟨k, hk1, hk2, hk3, rfl, HQwq⟩ := hrel
          by_cases hlt : k < len1 ∧ k < len2 ∧ k < 10
          · obtain ⟨hl1, hl2, hl3⟩ := hlt
            obtain ⟨p1, o1, rfl, hp1, hc1⟩ := (unhide hv1).at hl1
            obtain ⟨p2, o2, rfl, hp2, hc2⟩ := (unhide hv2).at hl2
            have HS1 := hide fun y (hg : w.grownBy y none) => (grown_cell hg p1 (o1 + k) hp1 (by simp)).trans hc1
            have HS2 := hide fun y (hg : w.grownBy y none) => (grown_cell hg p2 (o2 + k) hp2 (by simp)).trans hc2
            obtain ⟨s, hs⟩ : ∃ s, z1[k]?.getD 0 = s := ⟨_, rfl⟩
            obtain ⟨f, hf⟩ : ∃ f, z2[k]?.getD 0 = f := ⟨_, rfl⟩
            rw [hs] at HS1
            rw [hf] at HS2
            have hl1' : (k : Int) < (len1 : Int) := by omega
            have hl2' : (k : Int) < (len2 : Int) := by omega
            have hl3' : (k : Int) < 10 := by omega
            have HKK := hide (And.intro hl1 (And.intro hl2 hl3))
            have HWwq := hide (grown_trans (unhide HWB) (unhide HQwq))
            clear hs hf hc1 hc2 hp1 hp2 hl1 hl2 hl3 hk1 hk2 hk3
            have eh := hide fun x hg => unhide ch s f x hg
            have en := hide fun x hg => unhide cn s f x hg
            have eo := hide fun x hg => unhide co f x hg
            have qh := hide fun x hg => unhide rh s f x hg
            have qn := hide fun x hg => unhide rn s f x hg
            have qo := hide fun x hg => unhide ro f x hg
            clear ch cn co rh rn ro
            obtain ⟨V, hV⟩ : ∃ V, Tb.how (Tb.stand E3 nx s f) = V := ⟨_, rfl⟩
            obtain ⟨T, hT⟩ : ∃ T, (Tb.stand E3 nx s f == 3) = T := ⟨_, rfl⟩
            obtain ⟨O, hO⟩ : ∃ O, Tb.opens E3 nx f = O := ⟨_, rfl⟩
            rw [hV] at eh qh
            rw [hT] at en qn
            rw [hO] at eo qo
            obtain ⟨V1, V2⟩ := V
            clear hV hT hO
            have n1 : (V1 != V1) = false := by simp
            have n2 : (V2 != V2) = false := by simp
            have n3 : (T != T) = false := by simp
            have n4 : (O != O) = false := by simp
            go_wp2_with fail
            refine wp_region_grown (by kernel_rfl) (by kernel_rfl) ?_
            intro St hN W hI hx
            have s1 := fun σ => unhide HS1 (W σ) (grown_trans (unhide HWwq) (hI σ))
            have s2 := fun σ => unhide HS2 (W σ) (grown_trans (unhide HWwq) (hI σ))
            have deh := fun σ => calls_class hI hx (unhide eh (W σ) (grown_trans (unhide HQwq) (hI σ)))
            have hI' := hide hI
            clear hI hx
            repeat (go_big_quiet_step ((first | (go_at_call 24; exact deh _))))
            refine wpQuiet_nil ?_
            rintro _ ⟨σ, rfl⟩
            obtain ⟨x1, hwq⟩ : ∃ wq, W σ = wq := ⟨_, rfl⟩
            have hgq := unhide hI' σ
            rw [hwq] at hgq ⊢
            have HWx1 := hide (grown_trans (unhide HWwq) hgq)
            have HQx1 := hide (grown_trans (unhide HQwq) hgq)
            clear s1 s2 deh hI' hwq hgq
            clear σ W hN St
            clear eh
            go_wp2_with fail
            refine wp_region_grown (by kernel_rfl) (by kernel_rfl) ?_
            intro St hN W hI hx
            have s1 := fun σ => unhide HS1 (W σ) (grown_trans (unhide HWx1) (hI σ))
            have s2 := fun σ => unhide HS2 (W σ) (grown_trans (unhide HWx1) (hI σ))
            have dqh := fun σ => calls_class hI hx (unhide qh (W σ) (grown_trans (unhide HQx1) (hI σ)))
            have hI' := hide hI
            clear hI hx
            repeat (go_big_quiet_step ((first | (go_at_call 25; exact dqh _))))
            refine wpQuiet_nil ?_
            rintro _ ⟨σ, rfl⟩
            obtain ⟨x2, hwq⟩ : ∃ wq, W σ = wq := ⟨_, rfl⟩
            have hgq := unhide hI' σ
            rw [hwq] at hgq ⊢
            have HWx2 := hide (grown_trans (unhide HWx1) hgq)
            have HQx2 := hide (grown_trans (unhide HQx1) hgq)
            clear s1 s2 dqh hI' hwq hgq
            clear σ W hN St
            clear qh
            go_wp2_with fail
            refine wp_region_grown (by kernel_rfl) (by kernel_rfl) ?_
            intro St hN W hI hx
            have s1 := fun σ => unhide HS1 (W σ) (grown_trans (unhide HWx2) (hI σ))
            have s2 := fun σ => unhide HS2 (W σ) (grown_trans (unhide HWx2) (hI σ))
            have den := fun σ => calls_class hI hx (unhide en (W σ) (grown_trans (unhide HQx2) (hI σ)))
            have dqn := fun σ => calls_class hI hx (unhide qn (W σ) (grown_trans (unhide HQx2) (hI σ)))
            have deo := fun σ => calls_class hI hx (unhide eo (W σ) (grown_trans (unhide HQx2) (hI σ)))
            have dqo := fun σ => calls_class hI hx (unhide qo (W σ) (grown_trans (unhide HQx2) (hI σ)))
            have hI' := hide hI
            clear hI hx
            repeat (go_big_quiet_step ((first | (go_at_call 26; exact den _) | (go_at_call 27; exact dqn _) | (go_at_call 28; exact deo _) | (go_at_call 29; exact dqo _))))
            refine wpQuiet_nil ?_
            rintro _ ⟨σ, rfl⟩
            obtain ⟨x3, hwq⟩ : ∃ wq, W σ = wq := ⟨_, rfl⟩
            have hgq := unhide hI' σ
            rw [hwq] at hgq ⊢
            have HWx3 := hide (grown_trans (unhide HWx2) hgq)
            have HQx3 := hide (grown_trans (unhide HQx2) hgq)
            clear s1 s2 den dqn deo dqo hI' hwq hgq
            clear σ W hN St
            go_wp2
            go_roundw
            case rel => exact ⟨k + 1, by have := unhide HKK; omega, by have := unhide HKK; omega, by have := unhide HKK; omega, by go_num, unhide HQx3⟩
            case measure => simp [intOf]; have := unhide HKK; omega
          · have HWw := hide (grown_trans (unhide HWB) (unhide HQwq))
            have HR := hide (show nx ≤ i + 1 ∧ w.grownBy wr none ∧ Tb.Tab wr ax nx cx E3 ∧ Tb.Tab wr bx nx dx E3 ∧ Tb.Ok E3 nx from ⟨(unhide HB).1, unhide HWw, (unhide HB).2.1.on (unhide HQwq), (unhide HB).2.2.1.on (unhide HQwq), (unhide HB).2.2.2⟩)
            clear ch cn co rh rn ro
            by_cases g1 : k < len1
            · have g1' : (k : Int) < (len1 : Int) := by omega
              by_cases g2 : k < len2
              · have g2' : (k : Int) < (len2 : Int) := by omega
                have g3' : ¬ (k : Int) < 10 := by omega
                clear hlt g1 g2 hk1 hk2 hk3
                go_wp2
                go_roundw
                case rel =>
                  obtain ⟨q1, q2, q3, q4, q5⟩ := unhide HR
                  exact ⟨i + 1, nx, cx, dx, ax, bx, E3, by have := unhide HI; omega, by have := unhide HI; omega, by go_num, rfl, rfl, q1, q2, q3, q4, q5⟩
                case measure => simp [intOf]; have := unhide HI; omega
              · have g2' : ¬ (k : Int) < (len2 : Int) := by omega
                clear hlt g1 g2 hk1 hk2 hk3
                go_wp2
                go_roundw
                case rel =>
                  obtain ⟨q1, q2, q3, q4, q5⟩ := unhide HR
                  exact ⟨i + 1, nx, cx, dx, ax, bx, E3, by have := unhide HI; omega, by have := unhide HI; omega, by go_num, rfl, rfl, q1, q2, q3, q4, q5⟩
                case measure => simp [intOf]; have := unhide HI; omega
            · have g1' : ¬ (k : Int) < (len1 : Int) := by omega
              clear hlt g1 hk1 hk2 hk3
              go_wp2
              go_roundw
              case rel =>
                obtain ⟨q1, q2, q3, q4, q5⟩ := unhide HR
                exact ⟨i + 1, nx, cx, dx, ax, bx, E3, by have := unhide HI; omega, by have := unhide HI; omega, by go_num, rfl, rfl, q1, q2, q3, q4, q5⟩
              case measure => simp [intOf]; have := unhide HI; omega
      · have e1 : (er == 0) = false := by simp [e0]
        have HB0 := hide (show n ≤ i + 1 ∧ Tb.Tab wb a n c E ∧ Tb.Tab wb b n d E ∧ Tb.Ok E n from ⟨by have := (unhide hrel).1; omega, (unhide hrel).2.2.1.on (unhide HX4), (unhide hrel).2.2.2.1.on (unhide HX4), (unhide hrel).2.2.2.2⟩)
        clear HOK HG0 HTX4 HTY4 hrel HGL e0
        have HB := HB0
        clear HB0
        have hn3 := (unhide HB).1
        have ch := hide fun (s f : Int) x (hg : wb.grownBy x none) => tbHow_any a n c E s f x ((unhide HB).2.1.on hg).2.2.1 (unhide HB).2.1.1 (unhide HB).2.1.2.1
        have cn := hide fun (s f : Int) x (hg : wb.grownBy x none) => tbCounts_any a n c E s f x ((unhide HB).2.1.on hg).2.2.1 (unhide HB).2.1.1 (unhide HB).2.1.2.1
        have co := hide fun (f : Int) x (hg : wb.grownBy x none) => tbOpens_any a n c E f x ((unhide HB).2.1.on hg).2.2.1 (Nat.le_trans (unhide HB).2.1.1 (unhide HB).2.1.2.1)
        have rh := hide (show ∀ (s f : Int) x, wb.grownBy x none → Calls Try.prog 25 #[.slice b n d, .int .i64 s, .int .i64 f] x (Says x (.tuple #[.int .i64 (Tb.how (Tb.stand E n s f)).1, .bool (Tb.how (Tb.stand E n s f)).2])) from fun s f x hg => by
          have h := refHow16_any b n d E s f x ((unhide HB).2.2.1.on hg).2.2.1 (unhide HB).2.2.1.1 (unhide HB).2.2.1.2.1
          rwa [(unhide HB).2.2.2.how s f] at h)
        have rn := hide (show ∀ (s f : Int) x, wb.grownBy x none → Calls Try.prog 27 #[.slice b n d, .int .i64 s, .int .i64 f] x (Says x (.bool (Tb.stand E n s f == 3))) from fun s f x hg => by
          have h := refCounts16_any b n d E s f x ((unhide HB).2.2.1.on hg).2.2.1 (Nat.le_trans (unhide HB).2.2.1.1 (unhide HB).2.2.1.2.1)
          rwa [(unhide HB).2.2.2.counts s f] at h)
        have ro := hide fun (f : Int) x (hg : wb.grownBy x none) => refOpens16_any b n d E f x ((unhide HB).2.2.1.on hg).2.2.1 (Nat.le_trans (unhide HB).2.2.1.1 (unhide HB).2.2.1.2.1)
        clear hn3
        go_wp2_with fail
        go_loopw [15] (fun v15 wq => ∃ k : Nat, k ≤ len1 ∧ k ≤ len2 ∧ k ≤ 10 ∧ v15 = .int .i64 (k : Int) ∧ Hid (wb.grownBy wq none)) (fun v15 _ => 11 - (intOf v15).toNat)
        case atStart => exact ⟨0, by omega, by omega, by omega, rfl, World.grownBy.refl _ _⟩
        case round =>
          obtain ⟨k, hk1, hk2, hk3, rfl, HQwq⟩ := hrel
          by_cases hlt : k < len1 ∧ k < len2 ∧ k < 10
          · obtain ⟨hl1, hl2, hl3⟩ := hlt
            obtain ⟨p1, o1, rfl, hp1, hc1⟩ := (unhide hv1).at hl1
            obtain ⟨p2, o2, rfl, hp2, hc2⟩ := (unhide hv2).at hl2
            have HS1 := hide fun y (hg : w.grownBy y none) => (grown_cell hg p1 (o1 + k) hp1 (by simp)).trans hc1
            have HS2 := hide fun y (hg : w.grownBy y none) => (grown_cell hg p2 (o2 + k) hp2 (by simp)).trans hc2
            obtain ⟨s, hs⟩ : ∃ s, z1[k]?.getD 0 = s := ⟨_, rfl⟩
            obtain ⟨f, hf⟩ : ∃ f, z2[k]?.getD 0 = f := ⟨_, rfl⟩
            rw [hs] at HS1
            rw [hf] at HS2
            have hl1' : (k : Int) < (len1 : Int) := by omega
            have hl2' : (k : Int) < (len2 : Int) := by omega
            have hl3' : (k : Int) < 10 := by omega
            have HKK := hide (And.intro hl1 (And.intro hl2 hl3))
            have HWwq := hide (grown_trans (unhide HWB) (unhide HQwq))
            clear hs hf hc1 hc2 hp1 hp2 hl1 hl2 hl3 hk1 hk2 hk3
            have eh := hide fun x hg => unhide ch s f x hg
            have en := hide fun x hg => unhide cn s f x hg
            have eo := hide fun x hg => unhide co f x hg
            have qh := hide fun x hg => unhide rh s f x hg
            have qn := hide fun x hg => unhide rn s f x hg
            have qo := hide fun x hg => unhide ro f x hg
            clear ch cn co rh rn ro
            obtain ⟨V, hV⟩ : ∃ V, Tb.how (Tb.stand E n s f) = V := ⟨_, rfl⟩
            obtain ⟨T, hT⟩ : ∃ T, (Tb.stand E n s f == 3) = T := ⟨_, rfl⟩
            obtain ⟨O, hO⟩ : ∃ O, Tb.opens E n f = O := ⟨_, rfl⟩
            rw [hV] at eh qh
            rw [hT] at en qn
            rw [hO] at eo qo
            obtain ⟨V1, V2⟩ := V
            clear hV hT hO
            have n1 : (V1 != V1) = false := by simp
            have n2 : (V2 != V2) = false := by simp
            have n3 : (T != T) = false := by simp
            have n4 : (O != O) = false := by simp
            go_wp2_with fail
            refine wp_region_grown (by kernel_rfl) (by kernel_rfl) ?_
            intro St hN W hI hx
            have s1 := fun σ => unhide HS1 (W σ) (grown_trans (unhide HWwq) (hI σ))
            have s2 := fun σ => unhide HS2 (W σ) (grown_trans (unhide HWwq) (hI σ))
            have deh := fun σ => calls_class hI hx (unhide eh (W σ) (grown_trans (unhide HQwq) (hI σ)))
            have hI' := hide hI
            clear hI hx
            repeat (go_big_quiet_step ((first | (go_at_call 24; exact deh _))))
            refine wpQuiet_nil ?_
            rintro _ ⟨σ, rfl⟩
            obtain ⟨x1, hwq⟩ : ∃ wq, W σ = wq := ⟨_, rfl⟩
            have hgq := unhide hI' σ
            rw [hwq] at hgq ⊢
            have HWx1 := hide (grown_trans (unhide HWwq) hgq)
            have HQx1 := hide (grown_trans (unhide HQwq) hgq)
            clear s1 s2 deh hI' hwq hgq
            clear σ W hN St
            clear eh
            go_wp2_with fail
            refine wp_region_grown (by kernel_rfl) (by kernel_rfl) ?_
            intro St hN W hI hx
            have s1 := fun σ => unhide HS1 (W σ) (grown_trans (unhide HWx1) (hI σ))
            have s2 := fun σ => unhide HS2 (W σ) (grown_trans (unhide HWx1) (hI σ))
            have dqh := fun σ => calls_class hI hx (unhide qh (W σ) (grown_trans (unhide HQx1) (hI σ)))
            have hI' := hide hI
            clear hI hx
            repeat (go_big_quiet_step ((first | (go_at_call 25; exact dqh _))))
            refine wpQuiet_nil ?_
            rintro _ ⟨σ, rfl⟩
            obtain ⟨x2, hwq⟩ : ∃ wq, W σ = wq := ⟨_, rfl⟩
            have hgq := unhide hI' σ
            rw [hwq] at hgq ⊢
            have HWx2 := hide (grown_trans (unhide HWx1) hgq)
            have HQx2 := hide (grown_trans (unhide HQx1) hgq)
            clear s1 s2 dqh hI' hwq hgq
            clear σ W hN St
            clear qh
            go_wp2_with fail
            refine wp_region_grown (by kernel_rfl) (by kernel_rfl) ?_
            intro St hN W hI hx
            have s1 := fun σ => unhide HS1 (W σ) (grown_trans (unhide HWx2) (hI σ))
            have s2 := fun σ => unhide HS2 (W σ) (grown_trans (unhide HWx2) (hI σ))
            have den := fun σ => calls_class hI hx (unhide en (W σ) (grown_trans (unhide HQx2) (hI σ)))
            have dqn := fun σ => calls_class hI hx (unhide qn (W σ) (grown_trans (unhide HQx2) (hI σ)))
            have deo := fun σ => calls_class hI hx (unhide eo (W σ) (grown_trans (unhide HQx2) (hI σ)))
            have dqo := fun σ => calls_class hI hx (unhide qo (W σ) (grown_trans (unhide HQx2) (hI σ)))
            have hI' := hide hI
            clear hI hx
            repeat (go_big_quiet_step ((first | (go_at_call 26; exact den _) | (go_at_call 27; exact dqn _) | (go_at_call 28; exact deo _) | (go_at_call 29; exact dqo _))))
            refine wpQuiet_nil ?_
            rintro _ ⟨σ, rfl⟩
            obtain ⟨x3, hwq⟩ : ∃ wq, W σ = wq := ⟨_, rfl⟩
            have hgq := unhide hI' σ
            rw [hwq] at hgq ⊢
            have HWx3 := hide (grown_trans (unhide HWx2) hgq)
            have HQx3 := hide (grown_trans (unhide HQx2) hgq)
            clear s1 s2 den dqn deo dqo hI' hwq hgq
            clear σ W hN St
            go_wp2
            go_roundw
            case rel => exact ⟨k + 1, by have := unhide HKK; omega, by have := unhide HKK; omega, by have := unhide HKK; omega, by go_num, unhide HQx3⟩
            case measure => simp [intOf]; have := unhide HKK; omega
          · have HWw := hide (grown_trans (unhide HWB) (unhide HQwq))
            have HR := hide (show n ≤ i + 1 ∧ w.grownBy wr none ∧ Tb.Tab wr a n c E ∧ Tb.Tab wr b n d E ∧ Tb.Ok E n from ⟨(unhide HB).1, unhide HWw, (unhide HB).2.1.on (unhide HQwq), (unhide HB).2.2.1.on (unhide HQwq), (unhide HB).2.2.2⟩)
            clear ch cn co rh rn ro
            by_cases g1 : k < len1
            · have g1' : (k : Int) < (len1 : Int) := by omega
              by_cases g2 : k < len2
              · have g2' : (k : Int) < (len2 : Int) := by omega
                have g3' : ¬ (k : Int) < 10 := by omega
                clear hlt g1 g2 hk1 hk2 hk3
                go_wp2
                go_roundw
                case rel =>
                  obtain ⟨q1, q2, q3, q4, q5⟩ := unhide HR
                  exact ⟨i + 1, n, c, d, a, b, E, by have := unhide HI; omega, by have := unhide HI; omega, by go_num, rfl, rfl, q1, q2, q3, q4, q5⟩
                case measure => simp [intOf]; have := unhide HI; omega
              · have g2' : ¬ (k : Int) < (len2 : Int) := by omega
                clear hlt g1 g2 hk1 hk2 hk3
                go_wp2
                go_roundw
                case rel =>
                  obtain ⟨q1, q2, q3, q4, q5⟩ := unhide HR
                  exact ⟨i + 1, n, c, d, a, b, E, by have := unhide HI; omega, by have := unhide HI; omega, by go_num, rfl, rfl, q1, q2, q3, q4, q5⟩
                case measure => simp [intOf]; have := unhide HI; omega
            · have g1' : ¬ (k : Int) < (len1 : Int) := by omega
              clear hlt g1 hk1 hk2 hk3
              go_wp2
              go_roundw
              case rel =>
                obtain ⟨q1, q2, q3, q4, q5⟩ := unhide HR
                exact ⟨i + 1, n, c, d, a, b, E, by have := unhide HI; omega, by have := unhide HI; omega, by go_num, rfl, rfl, q1, q2, q3, q4, q5⟩
              case measure => simp [intOf]; have := unhide HI; omega
    · by_cases hl : i < len0
      · have hl' : (i : Int) < (len0 : Int) := by omega
        have h30 : ¬ (i : Int) < 30 := by omega
        clear hlt hl hi0 hi30
        go_wp2
        go_ret
        exact ⟨rfl, none_below (unhide hrel).2.1⟩
      · have hl' : ¬ (i : Int) < (len0 : Int) := by omega
        clear hlt hl hi0 hi30
        go_wp2
        go_ret
        exact ⟨rfl, none_below (unhide hrel).2.1⟩

set_option maxRecDepth 100000 in
theorem lifted (os : Os) (started : os.Started) (H : Type) (enc : TypeId × Value → H) :
    ReturnsInHanded {} Try.checked os 8 .any (Rows.tableAsksSpec.pre6 enc Try.prog Try.f8 Rows.tableAsksRow.domain false) (Rows.tableAsksSpec.post enc Try.prog Try.f8 false true false false) := by
  refine returnsInHanded_of_change (C := Try.checked) own started (by kernel_rfl) Try.func8
    (ChangeSpec.witness6 (enc := enc) (C := Try.checked) false ⟨#[], #[.slice none 0 0, .slice none 0 0, .slice none 0 0], []⟩ 8 (by kernel_rfl) (by kernel_rfl) (by kernel_rfl) (by kernel_rfl)) ?_
  intro W base args ds gs before hval0 hW hcnd _
  have hval : ∀ (j : Nat) t v, Try.f8.params[j]? = some t → args[j]? = some v → Value.okWide Try.prog W .any base t v := hval0
  have hW' := hW
  obtain ⟨p, q, hA0, hV, rfl, hfz, hnd⟩ := hW
  have hA : DataW.TrodAll enc Try.prog W 0 (fun _ => true) true Try.f8.params.toList args.toList ds p := hA0
  rw [Try.params8] at hA hval
  obtain ⟨v0, vs0, d0, ds0, p0, q0, hargs, rfl, rfl, h0, r0⟩ := trodAll_cons hA
  obtain ⟨v1, vs1, d1, ds1, p1, q1, rfl, rfl, rfl, h1, r1⟩ := trodAll_cons r0
  obtain ⟨v2, vs2, d2, ds2, p2, q2, rfl, rfl, rfl, h2, r2⟩ := trodAll_cons r1
  obtain ⟨rfl, rfl, rfl⟩ := trodAll_nil r2
  obtain rfl : args = #[v0, v1, v2] := by cases args; simp_all
  obtain ⟨rfl, rfl⟩ := trodVars_none hV
  obtain ⟨a0, len0, cap0, rfl⟩ := okWide_slice Try.underlying25 (hval 0 25 v0 rfl rfl)
  have k0 := h0
  have lt0 : ∀ x ∈ p0, x.block < W.heap.size := by obtain ⟨m, hm⟩ := k0; exact DataW.trod_lt m _ _ _ hm
  obtain ⟨z0, w0⟩ : ∃ z, Wr.Recs W a0 len0 z := by
    obtain ⟨fuel, hf⟩ := h0
    exact Wr.open_recs (by simpa [Value.cells] using hf)
  obtain ⟨a1, len1, cap1, rfl⟩ := okWide_slice Try.underlying24 (hval 1 24 v1 rfl rfl)
  have k1 := h1
  have lt1 : ∀ x ∈ p1, x.block < W.heap.size := by obtain ⟨m, hm⟩ := k1; exact DataW.trod_lt m _ _ _ hm
  obtain ⟨z1, w1⟩ : ∃ zs, IsRow .i64 W a1 len1 cap1 zs := by
    obtain ⟨fuel, hf⟩ := h1
    rcases open_ints Try.underlying24 Try.underlying3 (by kernel_rfl) hf with ⟨hcs, _⟩ | ⟨x, l, c, zs, hcs, _, hl, hm, hz, _, hcell, hwz⟩
    · simp [Value.cells] at hcs
      obtain ⟨rfl, rfl, rfl⟩ := hcs
      exact ⟨[], .inl ⟨rfl, rfl, rfl, rfl⟩⟩
    · simp [Value.cells] at hcs
      obtain ⟨rfl, rfl, rfl⟩ := hcs
      exact ⟨zs, .inr ⟨_, rfl, hl, hm, by simpa using hz, hcell, hwz⟩⟩
  obtain ⟨a2, len2, cap2, rfl⟩ := okWide_slice Try.underlying24 (hval 2 24 v2 rfl rfl)
  have k2 := h2
  have lt2 : ∀ x ∈ p2, x.block < W.heap.size := by obtain ⟨m, hm⟩ := k2; exact DataW.trod_lt m _ _ _ hm
  obtain ⟨z2, w2⟩ : ∃ zs, IsRow .i64 W a2 len2 cap2 zs := by
    obtain ⟨fuel, hf⟩ := h2
    rcases open_ints Try.underlying24 Try.underlying3 (by kernel_rfl) hf with ⟨hcs, _⟩ | ⟨x, l, c, zs, hcs, _, hl, hm, hz, _, hcell, hwz⟩
    · simp [Value.cells] at hcs
      obtain ⟨rfl, rfl, rfl⟩ := hcs
      exact ⟨[], .inl ⟨rfl, rfl, rfl, rfl⟩⟩
    · simp [Value.cells] at hcs
      obtain ⟨rfl, rfl, rfl⟩ := hcs
      exact ⟨zs, .inr ⟨_, rfl, hl, hm, by simpa using hz, hcell, hwz⟩⟩
  clear hA0 hval0
  refine (walk a0 len0 cap0 z0 a1 len1 cap1 z1 a2 len2 cap2 z2 W w0 w1 w2).mono fun e W' ⟨he, bel⟩ => ?_
  subst he
  exact ⟨_, rfl, _, _, _, [], _, [], hW', trodAll_mk1 (shut_bool Try.underlying4 _), (trodAll_cons_mk (Below.trod laidOut (by kernel_rfl) (of_decide_eq_true (by kernel_rfl)) k0 bel lt0) (trodAll_cons_mk (Below.trod laidOut (by kernel_rfl) (of_decide_eq_true (by kernel_rfl)) k1 bel lt1) (trodAll_cons_mk (Below.trod laidOut (by kernel_rfl) (of_decide_eq_true (by kernel_rfl)) k2 bel lt2) trodAll_mk0))), rfl, bel.frame _, fun h => by cases h⟩

theorem over : Rows.tableAsksRow.holds Try.pinned (OpenSpec.ofChange Rows.tableAsksSpec) :=
  OpenClaim.holds_of_wide 8 Try.f8 rfl rfl rfl rfl rfl rfl rfl ⟨rfl, rfl, rfl, rfl, rfl⟩ rfl rfl rfl rfl rfl (by kernel_rfl) Try.func8 (by kernel_rfl)
    (of_decide_eq_true (by kernel_rfl)) (by unfold Func.isWrapper; first | (rw [if_pos (by decide +kernel)]; kernel_rfl) | (rw [if_neg (by decide +kernel)]; exact ⟨rfl, rfl⟩))
    (fun os started H enc _ => lifted os started H enc)

theorem proved : Rows.TableAsksSaid := over
#print axioms proved
end Go.Proofs.Ytiegccdgoemamaa.tableAsks
