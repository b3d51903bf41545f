/-
  For any cells, blocks and targets the law GridSteps answers true: beside each cell that is reached, but for the targets, one is one step nearer; cells side by side differ by one at most; no condition.
-/
import Derived.Test.YtfmiaenpmbbknaaRows
import Derived.WalkKit
import Derived.ProofKit
import Derived.OpenShut
import Derived.Test.YtfmiaenpmbbknaaGridField
import Derived.Deep.LoopGhost
import Derived.Deep.DeepCutAuto
import Derived.Deep.Grids
import Derived.ShutString
import Derived.ChangeOld
import Derived.Below
namespace Go.Proofs.Ytfmiaenpmbbknaa.gridSteps
open Go.ChangeShapes Go.WideShapes Go.ChangeAt Go.RowKit
open Go.ChangeMaps (open_string shut_string)
set_option linter.unusedVariables false

theorem own : ownKnob Try.prog.godebug = none := by kernel_rfl
theorem laidOut : laidOutB Try.prog = true := by kernel_rfl

/-- WHAT THE WALK IS TOLD OF A SLICE OF INTEGERS THAT CAME IN: it is nil; or it leads to a row of 'cap' cells, the numbers 'zs' (the first 'len' are its elements, the rest its spare room), each fitting its kind. -/
def IsRow (k : IntKind) (w : World) (a : Option Addr) (len cap : Nat) (zs : List Int) : Prop :=
  (a = none ∧ len = 0 ∧ cap = 0 ∧ zs = []) ∨
  ∃ x, a = some x ∧ len ≤ cap ∧ cap ≤ maxLen ∧ zs.length = cap ∧ (∀ i, i < zs.length → w.cell? (x.add i) = some (.int k (zs.getD i 0))) ∧ ∀ n ∈ zs, (Lit.int k n).wf = true

/-- A slice of bools that came in: nil; or a row of 'cap' cells. -/
def IsBols (w : World) (a : Option Addr) (len cap : Nat) (f : Nat → Bool) : Prop :=
  (a = none ∧ len = 0 ∧ cap = 0) ∨ ∃ x, a = some x ∧ len ≤ cap ∧ cap ≤ maxLen ∧ ∀ i, i < cap → w.cell? (x.add i) = some (.bool (f i))

theorem IsRow.vec {k : IntKind} {w : World} {a : Option Addr} {len cap : Nat} {zs : List Int} (h : IsRow k w a len cap zs) : Vec w.heap.size w a len (fun i => .int k (zs[i]?.getD 0)) := by
  rcases h with ⟨rfl, rfl, rfl, rfl⟩ | ⟨x, rfl, hl, hm, hz, hcell, _⟩
  · exact ⟨Nat.zero_le _, .inl rfl⟩
  · refine ⟨Nat.le_trans hl hm, ?_⟩
    by_cases h0 : len = 0
    · exact .inl h0
    · right
      obtain ⟨b, off, spot⟩ := x
      have hc0 := hcell 0 (by omega)
      have hspot : spot = none := by simpa [Addr.add] using World.cell?_spot hc0
      subst hspot
      refine ⟨b, off, rfl, ?_, fun i hi => ?_⟩
      · have h := Go.block_lt_of_cell hc0
        simpa [Addr.add] using h
      · have h := hcell i (by omega)
        by_cases hi0 : i = 0
        · subst hi0
          simpa [Addr.add] using h
        · simpa [Addr.add, hi0] using h

theorem IsRow.le {k : IntKind} {w : World} {a : Option Addr} {len cap : Nat} {zs : List Int} (h : IsRow k w a len cap zs) : len ≤ cap := by
  rcases h with ⟨_, rfl, rfl, _⟩ | ⟨_, _, h, _⟩
  · exact Nat.le_refl _
  · exact h

theorem IsRow.byte {w : World} {a : Option Addr} {len cap : Nat} {zs : List Int} (h : IsRow .u8 w a len cap zs) (i : Nat) : 0 ≤ zs[i]?.getD 0 ∧ zs[i]?.getD 0 ≤ 255 := by
  rcases h with ⟨_, _, _, rfl⟩ | ⟨_, _, _, _, _, _, hw⟩
  · simp
  · by_cases hi : i < zs.length
    · have h := hw zs[i] (List.getElem_mem hi)
      simp only [Lit.wf, Bool.and_eq_true, decide_eq_true_eq, show IntKind.u8.min = 0 from by decide, show IntKind.u8.max = 255 from by decide] at h
      rw [List.getElem?_eq_getElem hi]
      exact h
    · rw [List.getElem?_eq_none (by omega)]
      simp

theorem IsRow.long {w : World} {a : Option Addr} {len cap : Nat} {zs : List Int} (h : IsRow .i64 w a len cap zs) (i : Nat) : -9223372036854775808 ≤ zs[i]?.getD 0 ∧ zs[i]?.getD 0 ≤ 9223372036854775807 := by
  rcases h with ⟨_, _, _, rfl⟩ | ⟨_, _, _, _, _, _, hw⟩
  · simp
  · by_cases hi : i < zs.length
    · have h := hw zs[i] (List.getElem_mem hi)
      simp only [Lit.wf, Bool.and_eq_true, decide_eq_true_eq, show IntKind.i64.min = -9223372036854775808 from by decide, show IntKind.i64.max = 9223372036854775807 from by decide] at h
      rw [List.getElem?_eq_getElem hi]
      exact h
    · rw [List.getElem?_eq_none (by omega)]
      simp

theorem IsBols.vec {w : World} {a : Option Addr} {len cap : Nat} {g : Nat → Bool} (h : IsBols w a len cap g) : Vec w.heap.size w a len (Bols g) := by
  rcases h with ⟨rfl, rfl, rfl⟩ | ⟨x, rfl, hl, hm, hcell⟩
  · exact ⟨Nat.zero_le _, .inl rfl⟩
  · refine ⟨Nat.le_trans hl hm, ?_⟩
    by_cases h0 : len = 0
    · exact .inl h0
    · right
      obtain ⟨b, off, spot⟩ := x
      have hc0 := hcell 0 (by omega)
      have hspot : spot = none := by simpa [Addr.add] using World.cell?_spot hc0
      subst hspot
      refine ⟨b, off, rfl, ?_, fun i hi => ?_⟩
      · have h := Go.block_lt_of_cell hc0
        simpa [Addr.add] using h
      · have h := hcell i (by omega)
        by_cases hi0 : i = 0
        · subst hi0
          simpa [Addr.add, Bols] using h
        · simpa [Addr.add, hi0, Bols] using h

theorem field_high {op tg : Nat → Prop} {F : Nat → Int} (h : Gr.IsField op tg F) : ∀ (n : Nat) i, i < 384 → F i = n → n ≤ 400 := by
  intro n i hi hn
  have key : ∀ m : Nat, m ≤ n → ∃ j, j < 384 ∧ F j = m := by
    intro m hm
    induction hnm : n - m generalizing m with
    | zero => exact ⟨i, hi, by omega⟩
    | succ q ih =>
      obtain ⟨j, hj, he⟩ := ih (m + 1) (by omega) (by omega)
      obtain ⟨_, j', _, hj', _, _, _, he'⟩ := h.back j hj (by omega)
      exact ⟨j', hj', by omega⟩
  by_cases hc : n ≤ 400
  · exact hc
  · exfalso
    have inj : ∀ m : Nat, m ≤ n + 1 → m ≤ (List.range 384).countP (fun i => decide (0 ≤ F i ∧ F i < m)) := by
      intro m
      induction m with
      | zero => intro _; exact Nat.zero_le _
      | succ m ih =>
        intro hm
        have h1 := ih (by omega)
        obtain ⟨j, hj, he⟩ := key m (by omega)
        have h2 : (List.range 384).countP (fun i => decide (0 ≤ F i ∧ F i < m)) < (List.range 384).countP (fun i => decide (0 ≤ F i ∧ F i < ((m + 1 : Nat) : Int))) := by
          have hs : ∀ (l : List Nat), j ∈ l → l.countP (fun i => decide (0 ≤ F i ∧ F i < m)) < l.countP (fun i => decide (0 ≤ F i ∧ F i < ((m + 1 : Nat) : Int))) := by
            intro l
            induction l with
            | nil => intro hm; cases hm
            | cons x l ih =>
              intro hm
              have hle : l.countP (fun i => decide (0 ≤ F i ∧ F i < m)) ≤ l.countP (fun i => decide (0 ≤ F i ∧ F i < ((m + 1 : Nat) : Int))) :=
                List.countP_mono_left fun y _ hy => by simp only [decide_eq_true_eq] at *; omega
              rw [List.countP_cons, List.countP_cons]
              rcases List.mem_cons.1 hm with rfl | hm
              · rw [if_neg (by simp; omega), if_pos (by simp; omega)]
                omega
              · have := ih hm
                by_cases hx : 0 ≤ F x ∧ F x < m
                · rw [if_pos (by simpa using hx), if_pos (by simp; omega)]
                  omega
                · rw [if_neg (by simpa using hx)]
                  omega
          exact hs _ (List.mem_range.2 hj)
        omega
    have := inj 401 (by omega)
    have hle : (List.range 384).countP (fun i => decide (0 ≤ F i ∧ F i < ((401 : Nat) : Int))) ≤ (List.range 384).length := List.countP_le_length
    rw [List.length_range] at hle
    omega

/-- Among the first d sides of cell k one is a step nearer. -/
def Nr (F : Nat → Int) (k d : Nat) : Prop := ∃ e, e < d ∧ Gr.nbIn k e ∧ 0 ≤ F (Gr.nbOf k e) ∧ F (Gr.nbOf k e) = F k - 1

theorem nr_none (F : Nat → Int) (k : Nat) : ¬ Nr F k 0 := by
  rintro ⟨e, he, _⟩; omega

theorem nr_out {F : Nat → Int} {k d : Nat} (h : ¬ Gr.nbIn k d) : Nr F k (d + 1) ↔ Nr F k d := by
  constructor
  · rintro ⟨e, he, hn, h1, h2⟩
    by_cases hed : e = d
    · subst hed; exact absurd hn h
    · exact ⟨e, by omega, hn, h1, h2⟩
  · rintro ⟨e, he, hn, h1, h2⟩
    exact ⟨e, by omega, hn, h1, h2⟩

theorem nr_in {F : Nat → Int} {k d b : Nat} (hn : Gr.nbIn k d) (hb : b = Gr.nbOf k d) : Nr F k (d + 1) ↔ Nr F k d ∨ (0 ≤ F b ∧ F b = F k - 1) := by
  constructor
  · rintro ⟨e, he, hn', h1, h2⟩
    by_cases hed : e = d
    · subst hed; rw [hb]; exact .inr ⟨h1, h2⟩
    · exact .inl ⟨e, by omega, hn', h1, h2⟩
  · rintro (⟨e, he, hn', h1, h2⟩ | ⟨h1, h2⟩)
    · exact ⟨e, by omega, hn', h1, h2⟩
    · exact ⟨d, by omega, hn, by rw [← hb]; exact h1, by rw [← hb]; exact h2⟩

theorem nr_all {op tg : Nat → Prop} {F : Nat → Int} (h : Gr.IsField op tg F) {k : Nat} (hk : k < 384) (hp : 0 < F k) : op k ∧ Nr F k 4 := by
  obtain ⟨ho, j, d, hj, hd, hn, hjk, he⟩ := h.back k hk hp
  obtain ⟨h1, h2⟩ := Gr.nb_back hj hd hn
  rw [hjk] at h1 h2
  exact ⟨ho, Gr.opp d, Gr.opp_lt hd, h1, by rw [h2]; omega, by rw [h2]; exact he⟩

theorem near_ok {op tg : Nat → Prop} {F : Nat → Int} (h : Gr.IsField op tg F) {k d b : Nat} (hk : k < 384) (hd : d < 4) (hn : Gr.nbIn k d) (hb : b = Gr.nbOf k d) (ho : op k) (h0 : 0 ≤ F b) : 0 ≤ F k ∧ F k ≤ F b + 1 := by
  obtain ⟨h1, h2⟩ := Gr.nb_back hk hd hn
  rw [← hb] at h1 h2
  have := h.fwd b (by rw [hb]; exact Gr.nb_lt hn) h0 (Gr.opp d) (Gr.opp_lt hd) h1 (by rw [h2]; exact ho)
  rwa [h2] at this

set_option maxRecDepth 8000 in
set_option maxHeartbeats 4000000 in

theorem walk (a0 : Option Addr) (len0 cap0 : Nat) (z0 : List Int) (a1 : Option Addr) (len1 cap1 : Nat) (z1 : Nat → Bool) (a2 : Option Addr) (len2 cap2 : Nat) (z2 : List Int) (w : World) (w0 : IsRow .u8 w a0 len0 cap0 z0) (w1 : IsBols w a1 len1 cap1 z1) (w2 : IsRow .i64 w a2 len2 cap2 z2) :
    Calls Try.prog 7 #[.slice a0 len0 cap0, .slice a1 len1 cap1, .slice a2 len2 cap2] w fun e w' => e = .returned (.bool true) ∧ Below w.heap.size w w' := by
  have hv := w0.vec
  have hb := w0.byte
  have hbv := w1.vec
  have htv := w2.vec
  have htb := w2.long
  obtain ⟨f, hf⟩ : ∃ f : Nat → Int, f = fun i => z0[i]?.getD 0 := ⟨_, rfl⟩
  obtain ⟨t, ht⟩ : ∃ t : Nat → Int, t = fun i => z2[i]?.getD 0 := ⟨_, rfl⟩
  have hb' := hide (show ∀ i, 0 ≤ f i ∧ f i ≤ 255 by intro i; rw [hf]; exact hb i)
  have htb' := hide (show ∀ i, -9223372036854775808 ≤ t i ∧ t i ≤ 9223372036854775807 by intro i; rw [ht]; exact htb i)
  have hv2 : Hid (Vec w.heap.size w a0 len0 (Byts f)) := by rw [hf]; exact hv
  have ht2 : Hid (Vec w.heap.size w a2 len2 (Ints t)) := by rw [ht]; exact htv
  have hm : len0 ≤ 9223372036854775807 := hv.1
  have hm1 : len1 ≤ 9223372036854775807 := hbv.1
  have hm2 : len2 ≤ 9223372036854775807 := htv.1
  have hbv2 := hide hbv
  clear hb hf hv ht htb htv hbv w0 w1 w2
  go_enter Try.func7, Try.ntmps7
  go_wp2_with fail
  refine (known_any _).mono ?_
  rintro e wk ⟨rfl, bel⟩
  by_cases h1 : (1000 : Int) < (len0 : Int)
  · go_wp2
    go_ret
    exact ⟨rfl, bel⟩
  by_cases h2 : (1000 : Int) < (len1 : Int)
  · have h1' : decide ((1000 : Int) < (len0 : Int)) = false := by simpa using h1
    go_wp2
    go_ret
    exact ⟨rfl, bel⟩
  by_cases h3 : (50 : Int) < (len2 : Int)
  · go_wp2
    go_ret
    exact ⟨rfl, bel⟩
  have vK := hide ((unhide hv2).kept bel)
  have bK := hide ((unhide hbv2).kept bel)
  have tK := hide ((unhide ht2).kept bel)
  clear hv2 hbv2 ht2
  go_wp2_with fail
  refine (full_any _ _ _ _ f _ (unhide vK) (unhide hb') bel.size).mono ?_
  rintro e wa ⟨gA, rfl, hgA, hA, bela⟩
  have b1 := bel.trans (bela.mono bel.size)
  obtain ⟨q, hq⟩ : ∃ q : Nat → Int, q = Gr.full len0 f := ⟨_, rfl⟩
  rw [← hq] at hA
  have hF : Hid (∀ i, 0 ≤ q i ∧ q i ≤ 255) := by rw [hq]; exact fun i => ⟨(Gr.full_bd len0 f i).1, by have := (Gr.full_bd len0 f i).2; omega⟩
  have cA := hide (hA.vec wa.heap.size hA.lt (by unfold maxLen; omega))
  have bA := hide (((unhide bK).kept (bela.mono bel.size)).mono b1.size)
  have tA := hide (((unhide tK).kept (bela.mono bel.size)).mono b1.size)
  clear hA hq vK bK tK bela hb'
  go_wp2_with fail
  refine (field_any _ _ _ _ _ _ _ _ q t z1 _ (unhide cA) (unhide hF) (unhide bA) (unhide tA) (unhide htb')).mono ?_
  rintro e wF ⟨F, ⟨gF, rfl, hgF, hAF, belF⟩, hf⟩
  have b2 := b1.trans (belF.mono b1.size)
  have vC := hide (((unhide cA).kept belF).mono belF.size)
  have vB := hide (((unhide bA).kept belF).mono belF.size)
  have aF := hide hAF
  have hf' := hide hf
  have hhigh := hide (fun n i hi h => field_high hf n i hi h)
  clear cA bA tA hAF hf belF htb' h1 h2 h3 hgF
  go_wp2_with fail
  go_loopg [9] 384 (fun gk i wr => ∃ k : Nat, k ≤ 384 ∧ gk = 384 - k ∧ i = .int .i64 k ∧ Below wF.heap.size wF wr)
  case atStart => exact ⟨0, Nat.zero_le _, rfl, rfl, Below.refl _ _⟩
  case round =>
    obtain ⟨k, hk, hgk, rfl, hB⟩ := hrel
    by_cases hlt : k < 384
    · obtain ⟨opn, hopn⟩ : ∃ o, o = Gr.openB q len1 z1 k := ⟨_, rfl⟩
      obtain ⟨bc, oc, ec, _, hcc⟩ := ((unhide vC).kept hB).at hlt
      cases ec
      have hcc' : wr.cell? ⟨gA, k, none⟩ = some (.int .u8 (q k)) := by rw [Nat.zero_add] at hcc; exact hcc
      obtain ⟨q1, q2⟩ := (unhide hF) k
      have hlt' : (k : Int) < 384 := by omega
      have hgk' := hide hgk
      have hopn' := hide hopn
      clear hcc hgk hopn
      go_upto_region 13 with fail
      go_cut [12] (fun s wx => s = .bool opn ∧ wr = wx)
      case first =>
        by_cases hwk : Gr.walkB (q k) = true
        · by_cases hl : k < len1
          · have hd := hide (Gr.open_in (g := z1) hwk hl)
            obtain ⟨bb, ob, rfl, _, hcb⟩ := ((unhide vB).kept hB).at hl
            have hcb' : wr.cell? ⟨bb, ob + k, none⟩ = some (.bool (z1 k)) := hcb
            have hl' : (k : Int) < (len1 : Int) := by omega
            clear hcb
            go_wp2_with (go_at_call 13; refine (refWalk_any _ _).mono ?_; rintro e w' ⟨rfl, hw⟩; subst w')
            go_meet
            exact ⟨by rw [unhide hopn', unhide hd, decide_eq_false (show ¬ len1 ≤ k by omega)]; rfl, rfl⟩
          · have hd := hide (Gr.open_past (g := z1) hwk hl)
            have hl' : (len1 : Int) ≤ (k : Int) := by omega
            go_wp2_with (go_at_call 13; refine (refWalk_any _ _).mono ?_; rintro e w' ⟨rfl, hw⟩; subst w')
            go_meet
            exact ⟨by rw [unhide hopn', unhide hd], rfl⟩
        · have hwk' : Gr.walkB (q k) = false := by simpa using hwk
          have hd := hide (Gr.open_no (blen := len1) (g := z1) hwk')
          clear hwk
          go_wp2_with (go_at_call 13; refine (refWalk_any _ _).mono ?_; rintro e w' ⟨rfl, hw⟩; subst w')
          go_meet
          exact ⟨by rw [unhide hopn', unhide hd], rfl⟩
      case rest =>
        obtain ⟨rfl, rfl⟩ := hcut
        clear hcc' q1 q2
        go_wp2_with fail
        go_loopg [13, 14] 4 (fun gd nv i ws => ∃ (d : Nat) (nr : Bool), d ≤ 4 ∧ gd = 4 - d ∧ i = .int .i64 d ∧ nv = .bool nr ∧ (nr = true ↔ Nr F k d) ∧ Below wF.heap.size wF ws)
        case atStart => exact ⟨0, false, by omega, rfl, rfl, rfl, ⟨fun h => (by cases h), fun h => absurd h (nr_none F k)⟩, hB⟩
        case round =>
          clear hB
          obtain ⟨d, nr, hd4, hgd, rfl, rfl, hnr, hB⟩ := hrel
          have hgd' := hide hgd
          have hnr' := hide hnr
          clear hgd hnr
          by_cases hd : d < 4
          · have hd' : (d : Int) < 4 := by omega
            go_upto_region 18 with fail
            go_cut [15, 16] (fun sx sy wx => sx = .int .i64 ((k : Int) % 24 + Gr.dxOf d) ∧ sy = .int .i64 ((k : Int) / 24 + Gr.dyOf d) ∧ Below wF.heap.size wF wx)
            case first =>
              rcases (show d = 0 ∨ d = 1 ∨ d = 2 ∨ d = 3 by omega) with rfl | rfl | rfl | rfl
              all_goals
                go_region
                all_goals
                  go_wp2_with fail
                  go_meet
                  exact ⟨by simp [Gr.dxOf], by simp [Gr.dyOf], ((hB.alloc hB.size _).alloc (by have := hB.size; simp; omega) _).drew⟩
            case rest =>
              obtain ⟨rfl, rfl, hB2⟩ := hcut
              obtain ⟨e1, e2, e3, e4⟩ := Gr.d_bd d
              have hiff := Gr.inB_nb k d (Gr.dxOf d) (Gr.dyOf d) rfl rfl
              have hout : ¬ Gr.nbIn k d → (nr = true ↔ Nr F k (d + 1)) := fun h => (unhide hnr').trans (nr_out h).symm
              have hout' := hide hout
              have hnbe := hide (fun (h : Gr.nbIn k d) => Gr.nb_eq h)
              obtain ⟨dx, hdx⟩ : ∃ dx, dx = Gr.dxOf d := ⟨_, rfl⟩
              obtain ⟨dy, hdy⟩ : ∃ dy, dy = Gr.dyOf d := ⟨_, rfl⟩
              have hbe0 : Gr.nbIn k d → ((k : Int) / 24 + dy) * 24 + ((k : Int) % 24 + dx) = ((Gr.nbOf k d : Nat) : Int) := fun h => by
                have := (unhide hnbe) h
                rw [hdx, hdy]
                omega
              rw [← hdx, ← hdy] at hiff
              rw [← hdx] at e1 e2
              rw [← hdy] at e3 e4
              rw [← hdx, ← hdy]
              clear hout hB hdx hdy hnbe
              by_cases hin : Gr.nbIn k d
              · have hinB := hiff.2 hin
                obtain ⟨b, hbb⟩ : ∃ b, b = Gr.nbOf k d := ⟨_, rfl⟩
                have hb384 : b < 384 := by rw [hbb]; exact Gr.nb_lt hin
                have hbe := hbe0 hin
                rw [← hbb] at hbe
                have cb : wc.cell? ⟨gF, b, none⟩ = some (.int .i64 (F b)) := ((unhide aF).kept hB2 (unhide aF).lt).cell hb384
                have ck : wc.cell? ⟨gF, k, none⟩ = some (.int .i64 (F k)) := ((unhide aF).kept hB2 (unhide aF).lt).cell hlt
                have l1 := (unhide hf').lo b hb384
                have l2 := (unhide hf').lo k hlt
                have u1 : F b ≤ 400 := by
                  by_cases h : 0 ≤ F b
                  · have := (unhide hhigh) (F b).toNat b hb384 (by omega); omega
                  · omega
                have u2 : F k ≤ 400 := by
                  by_cases h : 0 ≤ F k
                  · have := (unhide hhigh) (F k).toNat k hlt (by omega); omega
                  · omega
                have hb2 : (b : Int) < 384 := by omega
                obtain ⟨nr2, hn2⟩ : ∃ n : Bool, n = (nr || (decide (0 ≤ F b) && (F b == F k - 1))) := ⟨_, rfl⟩
                have hnr2 : Hid (nr2 = true ↔ Nr F k (d + 1)) := by
                  show nr2 = true ↔ Nr F k (d + 1)
                  rw [nr_in hin hbb, hn2, ← unhide hnr']
                  simp
                have hok := hide (fun (ho : opn = true) (h0 : 0 ≤ F b) => near_ok (unhide hf') hlt hd hin hbb (by rw [← unhide hopn']; exact ho) h0)
                have hn2' := hide hn2
                clear hn2 hbb hin hiff hbe0
                go_upto_region 21 with (go_at_call 27; refine (refIn_any _ _ _).mono ?_; rintro e w' ⟨rfl, hw⟩; subst w')
                go_cut [13] (fun s wx => s = .bool nr2 ∧ wc = wx)
                case first =>
                  cases nr with
                  | true =>
                    obtain rfl : nr2 = true := by rw [unhide hn2']; rfl
                    go_wp2_with fail
                    go_meet
                    exact ⟨rfl, rfl⟩
                  | false =>
                    by_cases h0 : 0 ≤ F b
                    · by_cases he : F b = F k - 1
                      · have he' : (F b == F k - 1) = true := by simpa using he
                        obtain rfl : nr2 = true := by rw [unhide hn2', he', decide_eq_true h0]; rfl
                        clear he
                        go_wp2_with fail
                        go_meet
                        exact ⟨rfl, rfl⟩
                      · have he' : (F b == F k - 1) = false := by simpa using he
                        obtain rfl : nr2 = false := by rw [unhide hn2', he', decide_eq_true h0]; rfl
                        clear he
                        go_wp2_with fail
                        go_meet
                        exact ⟨rfl, rfl⟩
                    · have h0' : decide (0 ≤ F b) = false := by simpa using h0
                      obtain rfl : nr2 = false := by rw [unhide hn2', h0']; rfl
                      go_wp2_with fail
                      go_meet
                      exact ⟨rfl, rfl⟩
                case rest =>
                  obtain ⟨rfl, rfl⟩ := hcut
                  by_cases ho : opn = true
                  · by_cases h0 : 0 ≤ F b
                    · obtain ⟨k1, k2⟩ := (unhide hok) ho h0
                      have hd1 : decide (F k < 0) = false := by simp only [decide_eq_false_iff_not]; omega
                      have hd2 : decide (F b + 1 < F k) = false := by simp only [decide_eq_false_iff_not]; omega
                      subst ho
                      go_wp2
                      go_roundg (4 - (d + 1))
                      case measure => have := unhide hgd'; omega
                      case rel => exact ⟨d + 1, nr2, by omega, rfl, by go_num, rfl, unhide hnr2, hB2⟩
                    · have h0' : decide (0 ≤ F b) = false := by simpa using h0
                      subst ho
                      go_wp2
                      go_roundg (4 - (d + 1))
                      case measure => have := unhide hgd'; omega
                      case rel => exact ⟨d + 1, nr2, by omega, rfl, by go_num, rfl, unhide hnr2, hB2⟩
                  · have ho' : opn = false := by simpa using ho
                    subst ho'
                    go_wp2
                    go_roundg (4 - (d + 1))
                    case measure => have := unhide hgd'; omega
                    case rel => exact ⟨d + 1, nr2, by omega, rfl, by go_num, rfl, unhide hnr2, hB2⟩
              · have hinB : Gr.inB ((k : Int) % 24 + dx) ((k : Int) / 24 + dy) = false := by
                  cases hh : Gr.inB ((k : Int) % 24 + dx) ((k : Int) / 24 + dy) with
                  | false => rfl
                  | true => exact absurd (hiff.1 hh) hin
                have hno := hide ((unhide hout') hin)
                clear hin hiff hbe0
                go_wp2_with (go_at_call 27; refine (refIn_any _ _ _).mono ?_; rintro e w' ⟨rfl, hw⟩; subst w')
                go_roundg (4 - (d + 1))
                case measure => have := unhide hgd'; omega
                case rel => exact ⟨d + 1, nr, by omega, rfl, by go_num, rfl, unhide hno, hB2⟩
          · have hd' : ¬ (d : Int) < 4 := by omega
            obtain rfl : d = 4 := by omega
            have ck : wr.cell? ⟨gF, k, none⟩ = some (.int .i64 (F k)) := ((unhide aF).kept hB (unhide aF).lt).cell hlt
            by_cases hp : 0 < F k
            · obtain ⟨ho, hn⟩ := nr_all (unhide hf') hlt hp
              obtain rfl : nr = true := (unhide hnr').2 hn
              obtain rfl : opn = true := by rw [unhide hopn']; exact ho
              clear ho hn
              go_wp2
              go_roundg (384 - (k + 1))
              case measure => have := unhide hgk'; omega
              case rel => exact ⟨k + 1, by omega, rfl, by go_num, hB⟩
            · have hp' : decide (0 < F k) = false := by simpa using hp
              go_wp2
              go_roundg (384 - (k + 1))
              case measure => have := unhide hgk'; omega
              case rel => exact ⟨k + 1, by omega, rfl, by go_num, hB⟩
    · have hge : ¬ (k : Int) < 384 := by omega
      clear hlt hk hgk
      go_wp2
      go_ret
      exact ⟨rfl, b2.trans (hB.mono b2.size)⟩

set_option maxRecDepth 100000 in
theorem lifted (os : Os) (started : os.Started) (H : Type) (enc : TypeId × Value → H) :
    ReturnsInHanded {} Try.checked os 7 .any (Rows.gridStepsSpec.pre6 enc Try.prog Try.f7 Rows.gridStepsRow.domain false) (Rows.gridStepsSpec.post enc Try.prog Try.f7 false true false false) := by
  refine returnsInHanded_of_change (C := Try.checked) own started (by kernel_rfl) Try.func7
    (ChangeSpec.witness6 (enc := enc) (C := Try.checked) false ⟨#[], #[.slice none 0 0, .slice none 0 0, .slice none 0 0], []⟩ 8 (by kernel_rfl) (by kernel_rfl) (by kernel_rfl) (by kernel_rfl)) ?_
  intro W base args ds gs before hval0 hW hcnd _
  have hval : ∀ (j : Nat) t v, Try.f7.params[j]? = some t → args[j]? = some v → Value.okWide Try.prog W .any base t v := hval0
  have hW' := hW
  obtain ⟨p, q, hA0, hV, rfl, hfz, hnd⟩ := hW
  have hA : DataW.TrodAll enc Try.prog W 0 (fun _ => true) true Try.f7.params.toList args.toList ds p := hA0
  rw [Try.params7] at hA hval
  obtain ⟨v0, vs0, d0, ds0, p0, q0, hargs, rfl, rfl, h0, r0⟩ := trodAll_cons hA
  obtain ⟨v1, vs1, d1, ds1, p1, q1, rfl, rfl, rfl, h1, r1⟩ := trodAll_cons r0
  obtain ⟨v2, vs2, d2, ds2, p2, q2, rfl, rfl, rfl, h2, r2⟩ := trodAll_cons r1
  obtain ⟨rfl, rfl, rfl⟩ := trodAll_nil r2
  obtain rfl : args = #[v0, v1, v2] := by cases args; simp_all
  obtain ⟨rfl, rfl⟩ := trodVars_none hV
  obtain ⟨a0, len0, cap0, rfl⟩ := okWide_slice Try.underlying22 (hval 0 22 v0 rfl rfl)
  have k0 := h0
  have lt0 : ∀ x ∈ p0, x.block < W.heap.size := by obtain ⟨m, hm⟩ := k0; exact DataW.trod_lt m _ _ _ hm
  obtain ⟨z0, w0⟩ : ∃ zs, IsRow .u8 W a0 len0 cap0 zs := by
    obtain ⟨fuel, hf⟩ := h0
    rcases open_ints Try.underlying22 Try.underlying5 (by kernel_rfl) hf with ⟨hcs, _⟩ | ⟨x, l, c, zs, hcs, _, hl, hm, hz, _, hcell, hwz⟩
    · simp [Value.cells] at hcs
      obtain ⟨rfl, rfl, rfl⟩ := hcs
      exact ⟨[], .inl ⟨rfl, rfl, rfl, rfl⟩⟩
    · simp [Value.cells] at hcs
      obtain ⟨rfl, rfl, rfl⟩ := hcs
      exact ⟨zs, .inr ⟨_, rfl, hl, hm, by simpa using hz, hcell, hwz⟩⟩
  obtain ⟨a1, len1, cap1, rfl⟩ := okWide_slice Try.underlying35 (hval 1 35 v1 rfl rfl)
  have k1 := h1
  have lt1 : ∀ x ∈ p1, x.block < W.heap.size := by obtain ⟨m, hm⟩ := k1; exact DataW.trod_lt m _ _ _ hm
  obtain ⟨z1, w1⟩ : ∃ f, IsBols W a1 len1 cap1 f := by
    obtain ⟨fuel, hf⟩ := h1
    rcases Go.Deep.open_bools Try.underlying35 Try.underlying4 (by kernel_rfl) hf with ⟨hcs, _⟩ | ⟨x, l, c, f, hcs, _, hl, hm, _, hcell⟩
    · simp [Value.cells] at hcs
      obtain ⟨rfl, rfl, rfl⟩ := hcs
      exact ⟨fun _ => false, .inl ⟨rfl, rfl, rfl⟩⟩
    · simp [Value.cells] at hcs
      obtain ⟨rfl, rfl, rfl⟩ := hcs
      exact ⟨f, .inr ⟨_, rfl, hl, hm, hcell⟩⟩
  obtain ⟨a2, len2, cap2, rfl⟩ := okWide_slice Try.underlying29 (hval 2 29 v2 rfl rfl)
  have k2 := h2
  have lt2 : ∀ x ∈ p2, x.block < W.heap.size := by obtain ⟨m, hm⟩ := k2; exact DataW.trod_lt m _ _ _ hm
  obtain ⟨z2, w2⟩ : ∃ zs, IsRow .i64 W a2 len2 cap2 zs := by
    obtain ⟨fuel, hf⟩ := h2
    rcases open_ints Try.underlying29 Try.underlying3 (by kernel_rfl) hf with ⟨hcs, _⟩ | ⟨x, l, c, zs, hcs, _, hl, hm, hz, _, hcell, hwz⟩
    · simp [Value.cells] at hcs
      obtain ⟨rfl, rfl, rfl⟩ := hcs
      exact ⟨[], .inl ⟨rfl, rfl, rfl, rfl⟩⟩
    · simp [Value.cells] at hcs
      obtain ⟨rfl, rfl, rfl⟩ := hcs
      exact ⟨zs, .inr ⟨_, rfl, hl, hm, by simpa using hz, hcell, hwz⟩⟩
  clear hA0 hval0
  refine (walk a0 len0 cap0 z0 a1 len1 cap1 z1 a2 len2 cap2 z2 W w0 w1 w2).mono fun e W' ⟨he, bel⟩ => ?_
  subst he
  exact ⟨_, rfl, _, _, _, [], _, [], hW', trodAll_mk1 (shut_bool Try.underlying4 _), (trodAll_cons_mk (Below.trod laidOut (by kernel_rfl) (of_decide_eq_true (by kernel_rfl)) k0 bel lt0) (trodAll_cons_mk (Below.trod laidOut (by kernel_rfl) (of_decide_eq_true (by kernel_rfl)) k1 bel lt1) (trodAll_cons_mk (Below.trod laidOut (by kernel_rfl) (of_decide_eq_true (by kernel_rfl)) k2 bel lt2) trodAll_mk0))), rfl, bel.frame _, fun h => by cases h⟩

theorem over : Rows.gridStepsRow.holds Try.pinned (OpenSpec.ofChange Rows.gridStepsSpec) :=
  OpenClaim.holds_of_wide 7 Try.f7 rfl rfl rfl rfl rfl rfl rfl ⟨rfl, rfl, rfl, rfl, rfl⟩ rfl rfl rfl rfl rfl (by kernel_rfl) Try.func7 (by kernel_rfl)
    (of_decide_eq_true (by kernel_rfl)) (by unfold Func.isWrapper; first | (rw [if_pos (by decide +kernel)]; kernel_rfl) | (rw [if_neg (by decide +kernel)]; exact ⟨rfl, rfl⟩))
    (fun os started H enc _ => lifted os started H enc)

theorem proved : Rows.GridStepsSaid := over
#print axioms proved
end Go.Proofs.Ytfmiaenpmbbknaa.gridSteps
