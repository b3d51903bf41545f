/-
  Spawn and Free: that ents and the document's chapter, said again, answer the same of the same list.
-/
import Derived.Test.YtbooojkhcnfhbaaEntSame
import Derived.Test.YtbooojkhcnfhbaaEntArgs
namespace Go.Proofs.Ytbooojkhcnfhbaa
open Go.RowKit

/-- A list (or none), a row and an error; nothing that was there has turned. -/
def Answers (w : World) (N : Nat) (r f : Int) (F : Nat → Nat → Int) (e : Ending) (w' : World) : Prop :=
  ∃ a c, e = .returned (.tuple #[.slice a N c, .int .i64 r, .int .i64 f]) ∧ (N = 0 ∨ ∃ g, a = some ⟨g, 0, none⟩ ∧ Ents w' g N F) ∧ w.grownBy w' none

theorem Says.answers {w w' : World} {r f : Int} {F : Nat → Nat → Int} {e : Ending} (h : Says w (.tuple #[.slice none 0 0, .int .i64 r, .int .i64 f]) e w') : Answers w 0 r f F e w' := ⟨none, 0, h.1, .inl rfl, h.2⟩

theorem Spawns.answers {w w' : World} {n k : Nat} {F : Nat → Nat → Int} {e : Ending} (h : Spawns w n F k e w') : Answers w n (k : Int) 0 F e w' := by
  obtain ⟨g, cap, he, _, _, _, hown, hg⟩ := h
  exact ⟨_, _, he, .inr ⟨g, rfl, hown.ents⟩, hg⟩

theorem spawn_both (n : Nat) (E : Nat → Nat → Int) (e : Nat → Int) (hn : n ≤ 32) (hG : En.Gens n E) : ∃ (N : Nat) (r f : Int) (F : Nat → Nat → Int), N ≤ 32 ∧ 0 ≤ f ∧ f ≤ 5 ∧
    (∀ (x : World) (b c : Nat), Ents x b n E → n ≤ c → Calls Try.prog 9 #[.slice (some ⟨b, 0, none⟩) n c, .agg (En.cells e)] x (Answers x N r f F)) ∧
    (∀ (x : World) (b c : Nat), Ents x b n E → Calls Try.prog 10 #[.slice (some ⟨b, 0, none⟩) n c, .agg (En.cells e)] x (Answers x N r f F)) := by
  by_cases hk : 1 ≤ e 0 ∧ e 0 ≤ 4
  · rcases En.first_cases (En.freeQ E) n with ⟨hf, hno⟩ | ⟨k, hkn, hf, hq, hno⟩
    · exact ⟨0, 0, 5, fun _ _ => 0, by omega, by omega, by omega, fun x b c hE hc => (spawn_full b n c E e x hE hc hk hf).mono fun _ _ h => h.answers, fun x b c hE => (refSpawn_full b n c E e x hE hk hno).mono fun _ _ h => h.answers⟩
    · exact ⟨n, (k : Int), 0, _, hn, by omega, by omega, fun x b c hE hc => (spawn_some b n c k E e x hE hc hk hf hkn hG).mono fun _ _ h => h.answers, fun x b c hE => (refSpawn_some b n c k E e x hE hk hkn (of_decide_eq_true hq) hno hG).mono fun _ _ h => h.answers⟩
  · exact ⟨0, 0, 3, fun _ _ => 0, by omega, by omega, by omega, fun x b c _ _ => (spawn_bad b n c e x hk).mono fun _ _ h => h.answers, fun x b c _ => (refSpawn_bad b n c e x hk).mono fun _ _ h => h.answers⟩

theorem free_both (n : Nat) (E : Nat → Nat → Int) (row : Int) : ∃ F : Nat → Nat → Int,
    (∀ (x : World) (b c : Nat), Ents x b n E → n ≤ c → Calls Try.prog 12 #[.slice (some ⟨b, 0, none⟩) n c, .int .i64 row] x (Lists x n F)) ∧
    (∀ (x : World) (b c : Nat), Ents x b n E → Calls Try.prog 13 #[.slice (some ⟨b, 0, none⟩) n c, .int .i64 row] x (Lists x n F)) := by
  by_cases h : 0 ≤ row ∧ row < (n : Int)
  · obtain ⟨k, rfl⟩ : ∃ k : Nat, row = (k : Int) := ⟨row.toNat, by omega⟩
    exact ⟨_, fun x b c hE hc => free_in b n c k E x hE hc (by omega), fun x b c hE => refFree_in b n c k E x hE (by omega)⟩
  · exact ⟨E, fun x b c hE hc => free_out b n c E row x hE hc h, fun x b c hE => refFree_out b n c E row x hE h⟩

/-- 'append([]Ent{}, l...)', l whatever list of at most 32 rows. -/
theorem wpList_append_list {w : World} {ops : Array Oper} {rest : List Oper} {o : Oper} {a : Act} {Q : Exit → Act → World → Prop} (hgd : o.guard = none) (s x : Operand)
    (ho : o.op = .call { callee := .builtin .append, args := #[s, x], argTypes := #[22, 22] }) (B : Nat) (hs : a.eval s = .slice (some ⟨B, 0, none⟩) 0 0) (hown : w.ownsRow B 24 11 (.slice (some ⟨B, 0, none⟩) 0 0) 0 [])
    (ad : Option Addr) (n c : Nat) (E : Nat → Nat → Int) (hx : a.eval x = .slice ad n c) (hnone : ad = none → n = 0 ∧ c = 0) (hsrc : ∀ p, ad = some p → ∀ j v, (En.list n E)[j]? = some v → w.cell? (p.add j) = some v) (hn : n ≤ 32) (hbase : B ≤ w.heap.size)
    (h : ∀ g cap w', Own w' g n E → B ≤ g → n ≤ cap → w.grownBy w' (some B) → wpList Try.prog ops Q rest (a.put o.dst (.slice (some ⟨g, 0, none⟩) n cap)) w') : wpList Try.prog ops Q (o :: rest) a w := by
  obtain ⟨i0, hi, hz0, hz1, hz2⟩ := info_parts info_ent
  cases ad with
  | none =>
    obtain ⟨rfl, rfl⟩ := hnone rfl
    exact wpList_append_own_none hgd s x 22 ho B 24 i0 11 Try.underlying22 hi _ 0 [] hs hown hx (h B 0 w (Own.of_owns hown (by omega) (fun c hc => by omega)) (Nat.le_refl _) (Nat.le_refl _) (World.grownBy.refl _ _))
  | some p =>
    refine wpList_append_own _ hgd s x 22 ho B 24 i0 _ 11 88 Try.underlying22 hi hz0 hz1 hz2 rfl (by decide) _ 0 [] hs hown p n c (En.list n E) hx (En.list_len n E) (hsrc p rfl) En.list_one (by unfold maxLen; omega) (by omega) hbase ?_
    intro v' w' ho' hg hnil
    rw [Nat.zero_add, List.nil_append] at ho'
    obtain ⟨g, cap, rfl, hlo, hnc, _, hown'⟩ := Own.of_append ho' (fun e => by have := (hnil.1 e).1; simp at this) hn
    exact h g cap w' hown' hlo hnc hg

theorem Came.src {w w' : World} {a : Option Addr} {len : Nat} {E : Nat → Nat → Int} (h : Came w a len E) (hg : w.grownBy w' none) : ∀ p, a = some p → ∀ j v, (En.list len E)[j]? = some v → w'.cell? (p.add j) = some v := by
  intro p hp j v hj
  have hlt : j < len * 11 := by
    have := (List.getElem?_eq_some_iff.1 hj).1
    rwa [En.list_len] at this
  rcases h.2 with h0 | ⟨b, off, ha, hb, hc⟩
  · omega
  · rw [ha] at hp
    cases hp
    rw [Go.WideShapes.add_plain, grown_cell hg b _ hb (by simp)]
    have h1 := hc (j / 11) (j % 11) (by omega) (by omega)
    rw [show off + j / 11 * 11 + j % 11 = off + j by omega] at h1
    rw [h1, ← hj, En.list_at hlt]
    rfl

/-- The first k rows with a Gen from 0 to 255. -/
def En.gens (k : Nat) (E : Nat → Nat → Int) : Nat → Nat → Int := fun i j => if i < k ∧ j = 1 then E i 1 % 256 else E i j

theorem En.gens_gens (n : Nat) (E : Nat → Nat → Int) : En.Gens n (En.gens n E) := fun i hi => by
  unfold En.gens
  rw [if_pos ⟨hi, rfl⟩]
  omega

theorem En.gens_more {k : Nat} {E : Nat → Nat → Int} (i j : Nat) : En.put (En.gens k E) k (fun i' => if i' = 1 then E k 1 % 256 else En.gens k E k i') i j = En.gens (k + 1) E i j := by
  unfold En.gens
  by_cases e : i = k
  · subst e
    rw [En.put_same]
    by_cases ej : j = 1
    · rw [if_pos ej, if_pos ⟨by omega, ej⟩]
    · rw [if_neg ej, if_neg (by omega), if_neg (by omega)]
  · rw [En.put_other e]
    by_cases h : i < k ∧ j = 1
    · rw [if_pos h, if_pos ⟨by omega, h.2⟩]
    · rw [if_neg h, if_neg (by omega)]

theorem own_new (w : World) : (w.alloc (.cells #[] 24)).ownsRow w.heap.size 24 11 (.slice (some ⟨w.heap.size, 0, none⟩) 0 0) 0 [] :=
  World.ownsRow_made _ _ _ (Nat.le_refl _) (by decide) (by simp)

end Go.Proofs.Ytbooojkhcnfhbaa
