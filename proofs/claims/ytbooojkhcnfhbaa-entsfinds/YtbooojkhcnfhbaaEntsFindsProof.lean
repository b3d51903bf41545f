/-
  For any entities and any number the law EntsFinds answers true: the row that is told by a place, a seat, an id is the lowest that it may be; no condition.
-/
import Derived.Test.YtbooojkhcnfhbaaRows
import Derived.WalkKit
import Derived.ProofKit
import Derived.OpenShut
import Derived.Test.YtbooojkhcnfhbaaEntArgs
import Derived.Test.YtbooojkhcnfhbaaEntSame
import Derived.ShutString
import Derived.ChangeOld
import Derived.Below
namespace Go.Proofs.Ytbooojkhcnfhbaa.entsFinds
open Go.ChangeShapes Go.WideShapes Go.ChangeAt Go.RowKit
open Go.ChangeMaps (open_string shut_string)
set_option linter.unusedVariables false

theorem own : ownKnob Try.prog.godebug = none := by kernel_rfl
theorem laidOut : laidOutB Try.prog = true := by kernel_rfl

/-- WHAT THE WALK IS TOLD OF A SLICE OF INTEGERS THAT CAME IN: it is nil; or it leads to a row of 'cap' cells, the numbers 'zs' (the first 'len' are its elements, the rest its spare room), each fitting its kind. -/
def IsRow (k : IntKind) (w : World) (a : Option Addr) (len cap : Nat) (zs : List Int) : Prop :=
  (a = none ∧ len = 0 ∧ cap = 0 ∧ zs = []) ∨
  ∃ x, a = some x ∧ len ≤ cap ∧ cap ≤ maxLen ∧ zs.length = cap ∧ (∀ i, i < zs.length → w.cell? (x.add i) = some (.int k (zs.getD i 0))) ∧ ∀ n ∈ zs, (Lit.int k n).wf = true

theorem tamed_gens (k : Nat) (E : Nat → Nat → Int) : En.Gens 32 (En.tamed k E) := fun i _ => by
  unfold En.tamed
  by_cases h : i < k
  · rw [if_pos h]
    unfold En.tame
    split
    · show 0 ≤ E i 1 % 256 ∧ E i 1 % 256 ≤ 255
      omega
    · show 0 ≤ E i 1 % 256 ∧ E i 1 % 256 ≤ 255
      omega
  · rw [if_neg h]
    exact ⟨Int.le_refl _, by show (0:Int) ≤ 255; omega⟩

theorem first_to {q : Nat → Bool} {n k : Nat} (hk : k < n) (h : q k = true) : ∃ m : Nat, En.first q n = (m : Int) ∧ m ≤ k ∧ q m = true := by
  rcases En.first_cases q n with ⟨_, hno⟩ | ⟨m, hm, he, hq, hno⟩
  · rw [hno k hk] at h; cases h
  · refine ⟨m, he, ?_, hq⟩
    by_cases e : k < m
    · rw [hno k e] at h; cases h
    · omega

set_option maxRecDepth 8000 in
set_option maxHeartbeats 8000000 in

theorem walk (a0 : Option Addr) (len0 cap0 : Nat) (z0 : Nat → Nat → Int) (a1 : Int) (w : World) (w0 : Arg w a0 len0 cap0 z0) (w1 : (Lit.int .i64 a1).wf = true) :
    Calls Try.prog 5 #[.slice a0 len0 cap0, .int .i64 a1] w fun e w' => e = .returned (.bool true) ∧ Below w.heap.size w w' := by
  have hA := hide w0.1
  clear w0 w1
  go_enter Try.func5, Try.ntmps5
  go_wp2_with fail
  refine (known_any _).mono ?_
  rintro e wk ⟨rfl, hgk⟩
  have hcame : Hid (Came wk a0 len0 z0) := ⟨(unhide hA).1, by
    rcases (unhide hA).2 with h0 | ⟨b, off, ha, hb, hc⟩
    · exact .inl h0
    · exact .inr ⟨b, off, ha, Nat.lt_of_lt_of_le hb hgk.size, fun i j hi hj => (grown_cell hgk b _ hb (by simp)).trans (hc i j hi hj)⟩⟩
  have hgk' := hide hgk
  clear hgk hA
  go_wp2_with fail
  refine (lawRows_any a0 len0 cap0 z0 wk (unhide hcame)).mono ?_
  rintro e w2 ⟨g, rfl, hown, hg2⟩
  obtain ⟨R, hR⟩ : ∃ R, R = En.tamed (min len0 32) z0 := ⟨_, rfl⟩
  have hG : Hid (En.Gens 32 R) := by rw [hR]; exact tamed_gens _ _
  rw [← hR] at hown
  have hE2 := hide hown.ents
  have hgr2 := hide (grown_trans (unhide hgk') hg2)
  clear hown hg2 hR hgk' hcame
  go_wp2_with fail
  refine (within_any _ _ _ (by omega) (by omega)).mono ?_
  rintro e w' ⟨rfl, hw⟩
  subst w'
  obtain ⟨k, hk, hk32⟩ : ∃ k : Nat, a1 % 32 = (k : Int) ∧ k < 32 := ⟨(a1 % 32).toNat, by omega, by omega⟩
  rw [hk]
  have hk' : (k : Int) < 32 := by omega
  obtain ⟨u0, u1, u2, u3, u4, u5, u6, u7, u8, u9, u10⟩ := (unhide hE2).row hk32
  have hbox := hide (Arr.lit (heap_alloc_new w2 (.cells (En.cells (R k)) 24)))
  have hg3 := hide (World.grownBy_alloc w2 (.cells (En.cells (R k)) 24) none)
  have HK := hide hk32
  clear hk hk32
  go_upto_region 6 with fail
  obtain ⟨w3, hw3⟩ : ∃ w3, w3 = w2.alloc (.cells (En.cells (R k)) 24) := ⟨_, rfl⟩
  refine at_world (p := Code.wp Try.prog _ _ _) (w0 := w2.alloc (.cells (En.cells (R k)) 24)) rfl ?_
  rw [← hw3] at hbox hg3 ⊢
  have hBl : Hid (w2.heap.size < w3.heap.size) := by rw [hw3]; simp [Hid]
  have hE3 := hide ((unhide hE2).on (unhide hg3))
  have hgr3 := hide (grown_trans (unhide hgr2) (unhide hg3))
  obtain ⟨B, hB⟩ : ∃ B, B = w2.heap.size := ⟨_, rfl⟩
  rw [← hB] at hbox hBl ⊢
  clear u0 u1 u2 u3 u4 u5 u6 u7 u8 u9 u10 hw3 hB hE2 hgr2 hg3
  obtain ⟨AT, hAT⟩ : ∃ x, x = En.first (En.atQ R (R k 3) (R k 4)) 32 := ⟨_, rfl⟩
  obtain ⟨HE, hHE⟩ : ∃ x, x = En.first (En.heroQ R (R k 2)) 32 := ⟨_, rfl⟩
  obtain ⟨ID, hID⟩ : ∃ x, x = En.id 32 R (k : Int) := ⟨_, rfl⟩
  obtain ⟨OF, hOF⟩ : ∃ x, x = En.first (En.ofQ R ID) 32 := ⟨_, rfl⟩
  have hAT' := hide hAT
  have hHE' := hide hHE
  have hID' := hide hID
  have hOF' := hide hOF
  clear hAT hHE hID hOF
  refine wp_region_grown (by kernel_rfl) (by kernel_rfl) ?_
  intro St hN W hI hx
  have q : ∀ σ j, j < 11 → (W σ).cell? ⟨B, j, none⟩ = some ((En.cells (R k))[j]?.getD undef) := fun σ j hj => ((unhide hbox).grown (hI σ) (by simp)).cell hj
  have q2 : ∀ σ, (W σ).cell? ⟨B, 2, none⟩ = some (.int .i64 (R k 2)) := fun σ => q σ 2 (by omega)
  have q3 : ∀ σ, (W σ).cell? ⟨B, 3, none⟩ = some (.int .i64 (R k 3)) := fun σ => q σ 3 (by omega)
  have q4 : ∀ σ, (W σ).cell? ⟨B, 4, none⟩ = some (.int .i64 (R k 4)) := fun σ => q σ 4 (by omega)
  have c1 : ∀ σ, Calls Try.prog 16 #[.slice (some ⟨g, 0, none⟩) 32 32, .int .i64 (R k 3), .int .i64 (R k 4)] (W σ) fun e w'' => e = .returned (.int .i64 AT) ∧ ∃ σ', w'' = W σ' := fun σ => by
    rw [unhide hAT']
    exact calls_class hI hx (at_any g 32 32 R _ _ (W σ) ((unhide hE3).on (hI σ)) (by omega))
  have c2 : ∀ σ, Calls Try.prog 18 #[.slice (some ⟨g, 0, none⟩) 32 32, .int .i64 (R k 2)] (W σ) fun e w'' => e = .returned (.int .i64 HE) ∧ ∃ σ', w'' = W σ' := fun σ => by
    rw [unhide hHE']
    exact calls_class hI hx (hero_any g 32 32 R _ (W σ) ((unhide hE3).on (hI σ)) (by omega))
  have c3 : ∀ σ, Calls Try.prog 20 #[.slice (some ⟨g, 0, none⟩) 32 32, .int .i64 (k : Int)] (W σ) fun e w'' => e = .returned (.int .i64 ID) ∧ ∃ σ', w'' = W σ' := fun σ => by
    rw [unhide hID']
    exact calls_class hI hx (id_any g 32 32 R _ (W σ) ((unhide hE3).on (hI σ)) (by omega) (unhide hG))
  have c4 : ∀ σ, Calls Try.prog 22 #[.slice (some ⟨g, 0, none⟩) 32 32, .int .i64 ID] (W σ) fun e w'' => e = .returned (.int .i64 OF) ∧ ∃ σ', w'' = W σ' := fun σ => by
    rw [unhide hOF']
    exact calls_class hI hx (of_any g 32 32 R _ (W σ) ((unhide hE3).on (hI σ)) (by omega) (unhide hG))
  have hI' := hide hI
  clear hI hx q
  repeat (go_big_quiet_step ((first | (go_at_call 16; exact c1 _) | (go_at_call 18; exact c2 _) | (go_at_call 20; exact c3 _) | (go_at_call 22; exact c4 _))))
  refine wpQuiet_nil ?_
  rintro _ ⟨σ, rfl⟩
  obtain ⟨wq, hwq⟩ : ∃ wq, W σ = wq := ⟨_, rfl⟩
  have hgw := hide (unhide hI' σ)
  rw [hwq] at hgw ⊢
  have hboxq := hide ((unhide hbox).grown (unhide hgw) (by simp))
  have hEq := hide ((unhide hE3).on (unhide hgw))
  have hgrq := hide (grown_trans (unhide hgr3) (unhide hgw))
  clear c1 c2 c3 c4 q2 q3 q4 hI' hwq hbox hE3 hgr3 hgw hBl
  clear σ W hN St
  have q0 : wq.cell? ⟨B, 0, none⟩ = some (.int .i64 (R k 0)) := (unhide hboxq).cell (i := 0) (by show 0 < 11; omega)
  have q2 : wq.cell? ⟨B, 2, none⟩ = some (.int .i64 (R k 2)) := (unhide hboxq).cell (i := 2) (by show 2 < 11; omega)
  have q3 : wq.cell? ⟨B, 3, none⟩ = some (.int .i64 (R k 3)) := (unhide hboxq).cell (i := 3) (by show 3 < 11; omega)
  have q4 : wq.cell? ⟨B, 4, none⟩ = some (.int .i64 (R k 4)) := (unhide hboxq).cell (i := 4) (by show 4 < 11; omega)
  by_cases hf : R k 0 = 0
  · have hOFe : Hid (OF = En.first (En.ofQ R (-1)) 32) := by show OF = _; rw [unhide hOF', unhide hID', En.id_free hf]
    have cr := hide (refOf_any g 32 32 R (-1) wq (unhide hEq) (unhide hG))
    rw [← unhide hOFe] at cr
    rw [hf] at q0
    clear hf
    go_wp2_with fail
    refine (unhide cr).mono ?_
    rintro e w5 ⟨rfl, hg5⟩
    have hfin := hide (grown_trans (unhide hgrq) hg5)
    clear hg5 q0 q2 q3 q4
    go_wp2
    go_ret
    exact ⟨rfl, grown_below (unhide hfin)⟩
  · obtain ⟨m, hm, hmk, hmq⟩ := first_to (q := En.atQ R (R k 3) (R k 4)) (unhide HK) (by rw [En.atQ_some hf]; simp)
    have hm0 : ¬ R m 0 = 0 := fun e => by rw [En.atQ_free e] at hmq; cases hmq
    rw [En.atQ_some hm0] at hmq
    have hm3 : R m 3 = R k 3 := by simp at hmq; exact hmq.1
    have hm4 : R m 4 = R k 4 := by simp at hmq; exact hmq.2
    have hm32 : m < 32 := by have := unhide HK; omega
    obtain ⟨_, _, _, v3, v4, _⟩ := (unhide hEq).row hm32
    rw [hm3] at v3
    rw [hm4] at v4
    have hATm : AT = (m : Int) := (unhide hAT').trans hm
    have hOFk : OF = (k : Int) := by rw [unhide hOF', unhide hID', En.id_at (unhide HK) hf]; exact En.of_id (unhide HK) hf
    have hmk' : (m : Int) ≤ (k : Int) := by omega
    have hm0' : (m : Int) < 32 := by omega
    have hf' : (R k 0 == 0) = false := by simp [hf]
    subst hATm
    subst hOFk
    have hdr : Hid (∀ x, w.grownBy (wq.drewN x) none) := fun x => grown_drew (unhide hgrq) x
    by_cases h1 : R k 0 = 1
    · obtain ⟨m2, hm2, hmk2, hmq2⟩ := first_to (q := En.heroQ R (R k 2)) (unhide HK) (by simp [En.heroQ, h1])
      have hs2 : R m2 2 = R k 2 := by simp [En.heroQ] at hmq2; exact hmq2.2
      have hm232 : m2 < 32 := by have := unhide HK; omega
      obtain ⟨_, _, v2, _⟩ := (unhide hEq).row hm232
      rw [hs2] at v2
      have hHEm : HE = (m2 : Int) := (unhide hHE').trans hm2
      have hmk2' : (m2 : Int) ≤ (k : Int) := by omega
      have hm20 : (m2 : Int) < 32 := by omega
      subst hHEm
      rw [h1] at q0
      clear hf hf' h1 hm hm0 hmq hm3 hm4 hmq2 hs2 hm2 hAT' hHE' hOF' hID'
      go_wp2_with fail
      go_quiet (fail)
      go_wp2
      go_ret
      exact ⟨rfl, grown_below (unhide hdr _)⟩
    · have h1' : (R k 0 == 1) = false := by simp [h1]
      have h1n : (R k 0 != 1) = true := by simp [h1]
      have h1d : decide (R k 0 = 1) = false := by simp [h1]
      clear hf hm hm0 hmq hm3 hm4 hAT' hHE' hOF' hID'
      go_wp2_with fail
      go_quiet (fail)
      go_wp2
      go_ret
      exact ⟨rfl, grown_below (unhide hdr _)⟩

set_option maxRecDepth 100000 in
theorem lifted (os : Os) (started : os.Started) (H : Type) (enc : TypeId × Value → H) :
    ReturnsInHanded {} Try.checked os 5 .any (Rows.entsFindsSpec.pre6 enc Try.prog Try.f5 Rows.entsFindsRow.domain false) (Rows.entsFindsSpec.post enc Try.prog Try.f5 false true false false) := by
  refine returnsInHanded_of_change (C := Try.checked) own started (by kernel_rfl) Try.func5
    (ChangeSpec.witness6 (enc := enc) (C := Try.checked) false ⟨#[], #[.slice none 0 0, .int .i64 0], []⟩ 8 (by kernel_rfl) (by kernel_rfl) (by kernel_rfl) (by kernel_rfl)) ?_
  intro W base args ds gs before hval0 hW hcnd _
  have hval : ∀ (j : Nat) t v, Try.f5.params[j]? = some t → args[j]? = some v → Value.okWide Try.prog W .any base t v := hval0
  have hW' := hW
  obtain ⟨p, q, hA0, hV, rfl, hfz, hnd⟩ := hW
  have hA : DataW.TrodAll enc Try.prog W 0 (fun _ => true) true Try.f5.params.toList args.toList ds p := hA0
  rw [Try.params5] at hA hval
  obtain ⟨v0, vs0, d0, ds0, p0, q0, hargs, rfl, rfl, h0, r0⟩ := trodAll_cons hA
  obtain ⟨v1, vs1, d1, ds1, p1, q1, rfl, rfl, rfl, h1, r1⟩ := trodAll_cons r0
  obtain ⟨rfl, rfl, rfl⟩ := trodAll_nil r1
  obtain rfl : args = #[v0, v1] := by cases args; simp_all
  obtain ⟨rfl, rfl⟩ := trodVars_none hV
  obtain ⟨a0, len0, cap0, rfl⟩ := okWide_slice Try.underlying22 (hval 0 22 v0 rfl rfl)
  have k0 := h0
  have lt0 : ∀ x ∈ p0, x.block < W.heap.size := by obtain ⟨m, hm⟩ := k0; exact DataW.trod_lt m _ _ _ hm
  obtain ⟨z0, w0⟩ : ∃ E, Arg W a0 len0 cap0 E := by
    obtain ⟨fuel, hf⟩ := h0
    exact open_ents (by simpa [Value.cells] using hf)
  obtain ⟨a1, rfl, rfl, rfl, w1⟩ := open_int Try.underlying3 (hval 1 3 v1 rfl rfl) h1
  clear hA0 hval0
  refine (walk a0 len0 cap0 z0 a1 W w0 w1).mono fun e W' ⟨he, bel⟩ => ?_
  subst he
  exact ⟨_, rfl, _, _, _, [], _, [], hW', trodAll_mk1 (shut_bool Try.underlying4 _), (trodAll_cons_mk (Below.trod laidOut (by kernel_rfl) (of_decide_eq_true (by kernel_rfl)) k0 bel lt0) (trodAll_cons_mk (shut_int Try.underlying3 w1) trodAll_mk0)), rfl, bel.frame _, fun h => by cases h⟩

theorem over : Rows.entsFindsRow.holds Try.pinned (OpenSpec.ofChange Rows.entsFindsSpec) :=
  OpenClaim.holds_of_wide 5 Try.f5 rfl rfl rfl rfl rfl rfl rfl ⟨rfl, rfl, rfl, rfl, rfl⟩ rfl rfl rfl rfl rfl (by kernel_rfl) Try.func5 (by kernel_rfl)
    (of_decide_eq_true (by kernel_rfl)) (by unfold Func.isWrapper; first | (rw [if_pos (by decide +kernel)]; kernel_rfl) | (rw [if_neg (by decide +kernel)]; exact ⟨rfl, rfl⟩))
    (fun os started H enc _ => lifted os started H enc)

theorem proved : Rows.EntsFindsSaid := over
#print axioms proved
end Go.Proofs.Ytbooojkhcnfhbaa.entsFinds
