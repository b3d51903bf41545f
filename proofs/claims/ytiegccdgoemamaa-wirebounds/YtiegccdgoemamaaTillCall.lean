/-
  In a region that draws its order: a call that leaves the world as it is may be taken first.
-/
import Derived.Test.YtiegccdgoemamaaTill
namespace Go.Proofs.Ytiegccdgoemamaa

/-- In every world that meets S, operation o calls, and the callee answers v and leaves that world as it is. -/
def YieldsCall (P : Program) (ops : Array Oper) (S : World → Prop) (o : Oper) (v : Value) (a : Act) : Prop :=
  Region.wanted o (yielded ops a.tmps) = true ∧ ∀ w, S w → ∃ f args, (execOp a.eval o).run P w = .ok (.enter f args) w ∧ Calls P f args w fun e w' => e = .returned v ∧ w' = w

theorem YieldsCall.of_same {P : Program} {ops : Array Oper} {S : World → Prop} {o : Oper} {v : Value} {a a' : Act} (hy : YieldsCall P ops S o v a) (he : execOp a'.eval o = execOp a.eval o)
    (hw : Region.wanted o (yielded ops a'.tmps) = Region.wanted o (yielded ops a.tmps)) : YieldsCall P ops S o v a' := by
  unfold YieldsCall at *
  rw [he, hw]
  exact hy

theorem YieldsCall.wpOp {P : Program} {ops : Array Oper} {Q : Exit → Act → World → Prop} {S : World → Prop} {i : Nat} {o : Oper} {v : Value} {a : Act} (hi : ops[i]? = some o) (hy : YieldsCall P ops S o v a)
    {K : Act → World → Prop} {w : World} (hS : S w) (h : K (a.put o.dst v) w) : wpOp P ops Q i K a w := by
  obtain ⟨hw, hv⟩ := hy
  obtain ⟨f, args, hr, hc⟩ := hv w hS
  unfold Go.wpOp
  simp only [hi, hw, if_true]
  refine .inl ?_
  unfold Oper.wp
  rw [hr]
  refine Calls.mono hc fun e w' he => ?_
  obtain ⟨rfl, rfl⟩ := he
  exact h

/-- An operation writes its own slot alone (and may lay a deferred call by). -/
theorem wpOp_frame {P : Program} {ops : Array Oper} {Q : Exit → Act → World → Prop} {j : Nat} {oj : Oper} (hj : ops[j]? = some oj) {K : Act → World → Prop} {a : Act} {w : World} (h : wpOp P ops Q j K a w) :
    wpOp P ops Q j (fun b x => (∃ ds u, b = ({ a with defers := ds } : Act).put oj.dst u) ∧ K b x) a w := by
  have one : ∀ u, ∃ ds u', a.put oj.dst u = ({ a with defers := ds } : Act).put oj.dst u' := fun u => ⟨a.defers, u, rfl⟩
  unfold wpOp at h ⊢
  simp only [hj] at h ⊢
  by_cases hw : Region.wanted oj (yielded ops a.tmps) = true
  · rw [if_pos hw] at h ⊢
    refine h.imp (fun h => ?_) id
    unfold Oper.wp at h ⊢
    cases hr : (execOp a.eval oj).run P w with
    | halt x y =>
      rw [hr] at h
      cases x <;> exact h
    | ok n y =>
      rw [hr] at h
      cases n with
      | value u => exact ⟨one u, h⟩
      | skip => exact ⟨one _, h⟩
      | defer d => exact ⟨⟨d :: a.defers, undef, rfl⟩, h⟩
      | enter f args => exact Calls.mono h fun e z he => by cases e <;> first | exact ⟨one _, he⟩ | exact he
      | row r args => exact Rows.mono h fun u z he => ⟨one u, he⟩
      | _ => exact h
  · rw [if_neg hw] at h ⊢
    exact ⟨one _, h⟩

theorem wpOp_putCall {P : Program} {ops : Array Oper} {Q : Exit → Act → World → Prop} {S : World → Prop} {j : Nat} {oi oj : Oper} {v : Value} (hj : ops[j]? = some oj) (hap : oi.apart ops oj = true)
    (hsi : ∀ cs b, oi.op ≠ .select cs b) (hsj : ∀ cs b, oj.op ≠ .select cs b)
    (hQ : ∀ c a w, Q (.panic c) (a.put oi.dst v) w → Q (.panic c) a w) {K : Act → World → Prop} {a : Act} {w : World}
    (hy : YieldsCall P ops S oi v a) (h : wpOp P ops Q j K (a.put oi.dst v) w) :
    wpOp P ops Q j (fun b x => YieldsCall P ops S oi v b ∧ K (b.put oi.dst v) x) a w := by
  have h0 : YieldsIf P ops (fun _ => False) oi v a := .inl ⟨hy.1, fun _ q => q.elim⟩
  refine wpOp_mono (fun b x q => ?_) (wpOp_frame hj (wpOp_putIf hj hap hsi hsj hQ h0 h))
  obtain ⟨⟨ds, u, rfl⟩, _, hK⟩ := q
  have h3 := (Oper.apart_spec hap).2.2
  have hd : YieldsCall P ops S oi v { a with defers := ds } := hy.of_same rfl rfl
  exact ⟨hd.of_same (execOp_put oi hsi _ oj.dst u h3) (wanted_put oi _ oj.dst u h3), hK⟩

theorem wpTill_firstCall {P : Program} {ops : Array Oper} {Q : Exit → Act → World → Prop} {md : Region.Mode} {S : World → Prop} {i h : Nat} {oi : Oper} {v : Value} {ch : List Nat} (hi : ops[i]? = some oi) (hsel : ∀ (j : Nat) (o : Oper) cs b, ops[j]? = some o → o.op ≠ .select cs b)
    (hQ : ∀ c a w, Q (.panic c) (a.put oi.dst v) w → Q (.panic c) a w) (hh : h ∈ ch)
    (hch : ∀ c ∈ ch, ∀ o, ops[c]? = some o → ∃ e ∈ o.after, Region.binds md e = true ∧ (e.on = i ∨ e.on ∈ ch)) :
    ∀ (n : Nat) (up : Array Bool) (a : Act) (w : World),
      (∀ j oj, ops[j]? = some oj → j ≠ i → up.getD j true = false → (∀ e ∈ oj.after, Region.binds md e = true → e.on ≠ i) → oi.apart ops oj = true) →
      i ∈ Region.ready md ops up → (∀ c ∈ ch, up.getD c true = false) → YieldsCall P ops S oi v a → S w →
      wpTill P md ops Q S h n (up.setIfInBounds i true) (a.put oi.dst v) w → wpTill P md ops Q S h (n + 1) up a w := by
  have key : ∀ (up : Array Bool) (j : Nat), i ∈ Region.ready md ops up → (∀ c ∈ ch, up.getD c true = false) → j ∈ Region.ready md ops up → j ∉ ch := by
    intro up j hr hc hj hm
    obtain ⟨_, oj, hoj, hall⟩ := mem_ready.1 hj
    obtain ⟨e, he, hb, hon⟩ := hch j hm oj hoj
    have h1 := hall e he hb
    have h0 : up.getD e.on true = false := by
      rcases hon with hon | hon
      · rw [hon]; exact (mem_ready.1 hr).1
      · exact hc _ hon
    rcases Nat.lt_or_ge e.on up.size with h' | h'
    · simp [h'] at h0 h1; rw [h0] at h1; cases h1
    · simp [Array.getElem?_eq_none h'] at h1
  intro n
  induction n with
  | zero =>
    intro up a w _ hr hc hy hS H
    refine ⟨fun g => (by rw [g] at hr; cases hr), fun j hj => ?_⟩
    by_cases hji : j = i
    · subst hji; exact hy.wpOp hi hS ⟨fun _ => hS, H⟩
    · have := ready_mono hj hji
      rw [H.1] at this
      cases this
  | succ n ih =>
    intro up a w hfree hr hc hy hS H
    refine ⟨fun g => (by rw [g] at hr; cases hr), fun j hj => ?_⟩
    by_cases hji : j = i
    · subst hji; exact hy.wpOp hi hS ⟨fun _ => hS, H⟩
    · have h1 := H.2 j (ready_mono hj hji)
      have hjc := key up j hr hc hj
      have hic := key up i hr hc hr
      obtain ⟨hjun, oj, hoj, hall⟩ := mem_ready.1 hj
      have hnot : ∀ e ∈ oj.after, Region.binds md e = true → e.on ≠ i := fun e he hb heq => by
        have h1 := hall e he hb
        have h0 := (mem_ready.1 hr).1
        rw [heq] at h1
        rcases Nat.lt_or_ge i up.size with h' | h'
        · simp [h'] at h0 h1; rw [h0] at h1; cases h1
        · simp [Array.getElem?_eq_none h'] at h1
      have h2 := wpOp_putCall hoj (hfree j oj hoj hji hjun hnot) (fun cs b => hsel i oi cs b hi) (fun cs b => hsel j oj cs b hoj) hQ hy h1
      have hc' : ∀ c ∈ ch, (up.setIfInBounds j true).getD c true = false := fun c hm => by
        rw [getD_set_ne true (show j ≠ c from fun e => hjc (e ▸ hm))]
        exact hc c hm
      have hfree' : ∀ k ok, ops[k]? = some ok → k ≠ i → (up.setIfInBounds j true).getD k true = false →
          (∀ e ∈ ok.after, Region.binds md e = true → e.on ≠ i) → oi.apart ops ok = true := fun k ok hk hki hun hno => by
        refine hfree k ok hk hki ?_ hno
        by_cases hjk : j = k
        · subst hjk; exact hjun
        · rw [getD_set_ne true hjk] at hun; exact hun
      refine wpOp_mono (fun b x h3 => ?_) h2
      have hS' : S x := h3.2.1 (by
        rw [getD_set_ne true (show j ≠ h from fun e => hjc (e ▸ hh)), getD_set_ne true (show i ≠ h from fun e => hic (e ▸ hh))]
        exact hc h hh)
      refine ⟨fun _ => hS', ih (up.setIfInBounds j true) b x hfree' (ready_mono hr (Ne.symm hji)) hc' h3.1 hS' ?_⟩
      rw [Array.setIfInBounds_comm _ _ hji]
      exact h3.2.2

/-- Number i, a call that h waits for, is taken first. -/
theorem wpTill_call {P : Program} {ops : Array Oper} {Q : Exit → Act → World → Prop} {md : Region.Mode} {S : World → Prop} {i h : Nat} {oi : Oper} {v : Value} {n : Nat} {up : Array Bool} {a : Act} {w : World} (ch : List Nat) (hi : ops[i]? = some oi)
    (hs : Region.noSelect ops = true) (hf : Region.free md ops up i = true) (hr : (Region.ready md ops up).contains i = true) (hw : Region.waits md ops up i h ch = true)
    (hQ : ∀ c a w, Q (.panic c) (a.put oi.dst v) w → Q (.panic c) a w) (hS : S w) (hy : YieldsCall P ops S oi v a)
    (H : wpTill P md ops Q S h n (up.setIfInBounds i true) (a.put oi.dst v) w) : wpTill P md ops Q S h (n + 1) up a w := by
  obtain ⟨hh, hc, hch⟩ := Region.waits_spec hw
  exact wpTill_firstCall hi (Region.noSelect_spec hs) hQ hh hch n up a w (Region.free_spec hi hf) (by simpa using hr) hc hy hS H

/-- Two operations alone may come up. -/
theorem wpTill_pair {P : Program} {ops : Array Oper} {Q : Exit → Act → World → Prop} {md : Region.Mode} {S : World → Prop} {i j h : Nat} {oi oj : Oper} {n : Nat} {up : Array Bool} {a : Act} {w : World} (hr : Region.ready md ops up = [i, j]) (hoi : ops[i]? = some oi) (hoj : ops[j]? = some oj)
    (H1 : ∀ K : Act → World → Prop, Shut (∀ b x, ((up.setIfInBounds i true).getD h true = false → S x) → wpTill P md ops Q S h n (up.setIfInBounds i true) b x → K b x) → if Region.wanted oi (yielded ops a.tmps) = true then Oper.wp P oi a w K Q else K (a.put oi.dst undef) w)
    (H2 : ∀ K : Act → World → Prop, Shut (∀ b x, ((up.setIfInBounds j true).getD h true = false → S x) → wpTill P md ops Q S h n (up.setIfInBounds j true) b x → K b x) → if Region.wanted oj (yielded ops a.tmps) = true then Oper.wp P oj a w K Q else K (a.put oj.dst undef) w) :
    wpTill P md ops Q S h (n + 1) up a w := by
  refine ⟨fun g => (by rw [hr] at g; cases g), fun k hk => ?_⟩
  rw [hr] at hk
  rcases (show k = i ∨ k = j by simpa using hk) with rfl | rfl
  · exact wpOp_step hoi (fun K hK => H1 K (fun b x h1 h2 => hK b x ⟨h1, h2⟩))
  · exact wpOp_step hoj (fun K hK => H2 K (fun b x h1 h2 => hK b x ⟨h1, h2⟩))

end Go.Proofs.Ytiegccdgoemamaa
