/-
  A region that draws its order and lays over at its end what it has read ahead: what the world meets till a certain operation has come up.
-/
import Derived.Test.YtiegccdgoemamaaProg
import Derived.Deep.RegionHeld3
namespace Go.Proofs.Ytiegccdgoemamaa

/-- Whatever order is picked, and the world meets S behind each operation, till number h has come up. -/
def wpTill (P : Program) (md : Region.Mode) (ops : Array Oper) (Q : Exit → Act → World → Prop) (S : World → Prop) (h : Nat) : Nat → Array Bool → Act → World → Prop
  | 0, up, a, w => Region.ready md ops up = [] ∧ Q .normal a w
  | n + 1, up, a, w => (Region.ready md ops up = [] → Q .normal a w) ∧ ∀ i ∈ Region.ready md ops up, wpOp P ops Q i (fun b x => ((up.setIfInBounds i true).getD h true = false → S x) ∧ wpTill P md ops Q S h n (up.setIfInBounds i true) b x) a w

theorem wpAny_of_till {P : Program} {ops : Array Oper} {Q : Exit → Act → World → Prop} {md : Region.Mode} {S : World → Prop} {h : Nat} : ∀ (n : Nat) (up : Array Bool) (a : Act) (w : World), wpTill P md ops Q S h n up a w → wpAny P md ops Q n up a w
  | 0, _, _, _, g => g
  | n + 1, _, _, _, g => ⟨g.1, fun i hi => wpOp_mono (fun b x k => wpAny_of_till n _ b x k.2) (g.2 i hi)⟩

/-- Number h waits for number i, by the operations 'ch', none of which has come up. -/
def Region.waits (md : Region.Mode) (ops : Array Oper) (up : Array Bool) (i h : Nat) (ch : List Nat) : Bool :=
  ch.contains h && ch.all fun c => !(up.getD c true) && match ops[c]? with
    | some o => o.after.any fun e => Region.binds md e && (e.on == i || ch.contains e.on)
    | none => false

theorem Region.waits_spec {ops : Array Oper} {md : Region.Mode} {up : Array Bool} {i h : Nat} {ch : List Nat} (hw : Region.waits md ops up i h ch = true) :
    h ∈ ch ∧ (∀ c ∈ ch, up.getD c true = false) ∧ ∀ c ∈ ch, ∀ o, ops[c]? = some o → ∃ e ∈ o.after, Region.binds md e = true ∧ (e.on = i ∨ e.on ∈ ch) := by
  unfold Region.waits at hw
  simp only [Bool.and_eq_true, List.contains_iff_mem, List.all_eq_true, Bool.not_eq_true'] at hw
  refine ⟨hw.1, fun c hc => (hw.2 c hc).1, fun c hc o ho => ?_⟩
  have h2 := (hw.2 c hc).2
  rw [ho] at h2
  obtain ⟨e, he, hb⟩ := Array.any_eq_true'.1 h2
  simp only [Bool.and_eq_true, Bool.or_eq_true, beq_iff_eq, List.contains_iff_mem] at hb
  exact ⟨e, he, hb.1, hb.2⟩

theorem wpTill_first {P : Program} {ops : Array Oper} {Q : Exit → Act → World → Prop} {md : Region.Mode} {S : World → Prop} {i h : Nat} {oi : Oper} {v : Value} {ch : List Nat} (hi : ops[i]? = some oi) (hsel : ∀ (j : Nat) (o : Oper) cs b, ops[j]? = some o → o.op ≠ .select cs b)
    (hQ : ∀ c a w, Q (.panic c) (a.put oi.dst v) w → Q (.panic c) a w) (hh : h ∈ ch)
    (hch : ∀ c ∈ ch, ∀ o, ops[c]? = some o → ∃ e ∈ o.after, Region.binds md e = true ∧ (e.on = i ∨ e.on ∈ ch)) :
    ∀ (n : Nat) (up : Array Bool) (a : Act) (w : World),
      (∀ j oj, ops[j]? = some oj → j ≠ i → up.getD j true = false → (∀ e ∈ oj.after, Region.binds md e = true → e.on ≠ i) → oi.apart ops oj = true) →
      i ∈ Region.ready md ops up → (∀ c ∈ ch, up.getD c true = false) → YieldsIf P ops S oi v a → S w →
      wpTill P md ops Q S h n (up.setIfInBounds i true) (a.put oi.dst v) w → wpTill P md ops Q S h (n + 1) up a w := by
  have key : ∀ (up : Array Bool) (j : Nat), i ∈ Region.ready md ops up → (∀ c ∈ ch, up.getD c true = false) → j ∈ Region.ready md ops up → j ∉ ch := by
    intro up j hr hc hj hm
    obtain ⟨_, oj, hoj, hall⟩ := mem_ready.1 hj
    obtain ⟨e, he, hb, hon⟩ := hch j hm oj hoj
    have h1 := hall e he hb
    have h0 : up.getD e.on true = false := by
      rcases hon with hon | hon
      · rw [hon]; exact (mem_ready.1 hr).1
      · exact hc _ hon
    rcases Nat.lt_or_ge e.on up.size with h' | h'
    · simp [h'] at h0 h1; rw [h0] at h1; cases h1
    · simp [Array.getElem?_eq_none h'] at h1
  intro n
  induction n with
  | zero =>
    intro up a w _ hr hc hy hS H
    refine ⟨fun g => (by rw [g] at hr; cases hr), fun j hj => ?_⟩
    by_cases hji : j = i
    · subst hji; exact hy.wpOp hi hS ⟨fun _ => hS, H⟩
    · have := ready_mono hj hji
      rw [H.1] at this
      cases this
  | succ n ih =>
    intro up a w hfree hr hc hy hS H
    refine ⟨fun g => (by rw [g] at hr; cases hr), fun j hj => ?_⟩
    by_cases hji : j = i
    · subst hji; exact hy.wpOp hi hS ⟨fun _ => hS, H⟩
    · have h1 := H.2 j (ready_mono hj hji)
      have hjc := key up j hr hc hj
      have hic := key up i hr hc hr
      obtain ⟨hjun, oj, hoj, hall⟩ := mem_ready.1 hj
      have hnot : ∀ e ∈ oj.after, Region.binds md e = true → e.on ≠ i := fun e he hb heq => by
        have h1 := hall e he hb
        have h0 := (mem_ready.1 hr).1
        rw [heq] at h1
        rcases Nat.lt_or_ge i up.size with h' | h'
        · simp [h'] at h0 h1; rw [h0] at h1; cases h1
        · simp [Array.getElem?_eq_none h'] at h1
      have h2 := wpOp_putIf hoj (hfree j oj hoj hji hjun hnot) (fun cs b => hsel i oi cs b hi) (fun cs b => hsel j oj cs b hoj) hQ hy h1
      have hc' : ∀ c ∈ ch, (up.setIfInBounds j true).getD c true = false := fun c hm => by
        rw [getD_set_ne true (show j ≠ c from fun e => hjc (e ▸ hm))]
        exact hc c hm
      have hfree' : ∀ k ok, ops[k]? = some ok → k ≠ i → (up.setIfInBounds j true).getD k true = false →
          (∀ e ∈ ok.after, Region.binds md e = true → e.on ≠ i) → oi.apart ops ok = true := fun k ok hk hki hun hno => by
        refine hfree k ok hk hki ?_ hno
        by_cases hjk : j = k
        · subst hjk; exact hjun
        · rw [getD_set_ne true hjk] at hun; exact hun
      refine wpOp_mono (fun b x h3 => ?_) h2
      have hS' : S x := h3.2.1 (by
        rw [getD_set_ne true (show j ≠ h from fun e => hjc (e ▸ hh)), getD_set_ne true (show i ≠ h from fun e => hic (e ▸ hh))]
        exact hc h hh)
      refine ⟨fun _ => hS', ih (up.setIfInBounds j true) b x hfree' (ready_mono hr (Ne.symm hji)) hc' h3.1 hS' ?_⟩
      rw [Array.setIfInBounds_comm _ _ hji]
      exact h3.2.2

/-- Number i, which h waits for, is taken first: it yields v in every world that meets S. -/
theorem wpTill_take {P : Program} {ops : Array Oper} {Q : Exit → Act → World → Prop} {md : Region.Mode} {S : World → Prop} {i h : Nat} {oi : Oper} {v : Value} {n : Nat} {up : Array Bool} {a : Act} {w : World} (ch : List Nat) (hi : ops[i]? = some oi)
    (hs : Region.noSelect ops = true) (hf : Region.free md ops up i = true) (hr : (Region.ready md ops up).contains i = true) (hw : Region.waits md ops up i h ch = true)
    (hQ : ∀ c a w, Q (.panic c) (a.put oi.dst v) w → Q (.panic c) a w) (hS : S w) (hy : YieldsIf P ops S oi v a)
    (H : wpTill P md ops Q S h n (up.setIfInBounds i true) (a.put oi.dst v) w) : wpTill P md ops Q S h (n + 1) up a w := by
  obtain ⟨hh, hc, hch⟩ := Region.waits_spec hw
  exact wpTill_first hi (Region.noSelect_spec hs) hQ hh hch n up a w (Region.free_spec hi hf) (by simpa using hr) hc hy hS H

/-- The same, its facts told as one. -/
theorem wtj {P : Program} {ops : Array Oper} {Q : Exit → Act → World → Prop} {md : Region.Mode} {S : World → Prop} {h : Nat} {oi : Oper} {v : Value} {n : Nat} {up : Array Bool} {a : Act} {w : World} (i : Nat) (ch : List Nat) (hi : ops[i]? = some oi)
    (hk : (Region.noSelect ops && (Region.free md ops up i && ((Region.ready md ops up).contains i && Region.waits md ops up i h ch))) = true)
    (hQ : ∀ c a w, Q (.panic c) (a.put oi.dst v) w → Q (.panic c) a w) (hS : S w) (hy : Region.wanted oi (yielded ops a.tmps) = true ∧ ∀ w, S w → (execOp a.eval oi).run P w = .ok (.value v) w)
    (H : wpTill P md ops Q S h n (up.setIfInBounds i true) (a.put oi.dst v) w) : wpTill P md ops Q S h (n + 1) up a w := by
  simp only [Bool.and_eq_true] at hk
  exact wpTill_take ch hi hk.1 hk.2.1 hk.2.2.1 hk.2.2.2 hQ hS (Or.inl hy) H

theorem pa {α : Type} {l : List α} {i : Nat} (h : i < l.toArray.size) : l.toArray[i] = l[i]'(by simpa using h) := List.getElem_toArray h

theorem pb {α : Type} {a : α} {l : List α} (h : 0 < (a :: l).length) : (a :: l)[0] = a := rfl

theorem pc {α : Type} {a : α} {l : List α} {i : Nat} (h : i + 1 < (a :: l).length) : (a :: l)[i + 1] = l[i]'(Nat.lt_of_succ_lt_succ h) := rfl

theorem pd {α : Type} {l : List α} {i : Nat} {v : α} : l.toArray.setIfInBounds i v = (l.set i v).toArray := List.setIfInBounds_toArray l i v

theorem pe {α : Type} {a : α} {l : List α} {i : Nat} {v : α} : (a :: l).set (i + 1) v = a :: l.set i v := rfl

theorem pf {α : Type} {a : α} {l : List α} {v : α} : (a :: l).set 0 v = v :: l := rfl

/-- One operation alone may come up. -/
theorem wpTill_only {P : Program} {ops : Array Oper} {Q : Exit → Act → World → Prop} {md : Region.Mode} {S : World → Prop} {j h : Nat} {o : Oper} {n : Nat} {up : Array Bool} {a : Act} {w : World} (hr : Region.ready md ops up = [j]) (ho : ops[j]? = some o)
    (H : ∀ K : Act → World → Prop, Shut (∀ b x, ((up.setIfInBounds j true).getD h true = false → S x) → wpTill P md ops Q S h n (up.setIfInBounds j true) b x → K b x) → if Region.wanted o (yielded ops a.tmps) = true then Oper.wp P o a w K Q else K (a.put o.dst undef) w) :
    wpTill P md ops Q S h (n + 1) up a w := by
  refine ⟨fun g => (by rw [hr] at g; cases g), fun i hi => ?_⟩
  rw [hr] at hi
  obtain rfl : i = j := by simpa using hi
  exact wpOp_step ho (fun K hK => H K (fun b x h1 h2 => hK b x ⟨h1, h2⟩))

theorem wpTill_done {P : Program} {ops : Array Oper} {Q : Exit → Act → World → Prop} {md : Region.Mode} {S : World → Prop} {h : Nat} {up : Array Bool} {a : Act} {w : World} (hr : Region.ready md ops up = []) (H : Q .normal a w) : ∀ n, wpTill P md ops Q S h n up a w
  | 0 => ⟨hr, H⟩
  | _ + 1 => ⟨fun _ => H, by rw [hr]; simp⟩

theorem wp_region_till {P : Program} {ops : Array Oper} {Q : Exit → Act → World → Prop} {S : World → Prop} {h id : Nat} {a : Act} {w : World} (hm : P.follows .mixedOrders = true)
    (H : wpTill P .any ops Q S h ops.size (Array.replicate ops.size false) a w.drew) : (Code.region id ops true).wp P Q a w :=
  wp_region_any hm (wpAny_of_till _ _ _ _ H)

end Go.Proofs.Ytiegccdgoemamaa
