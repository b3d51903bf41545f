/-
  CrawlQuiet Till CrawlActs
-/
import Derived.Test.YtbanjoflgoiegaaGreatPart31
import Derived.Test.YtbanjoflgoiegaaGreatProg
import Derived.Deep.RegionHeld3
import Derived.Test.YtbanjoflgoiegaaGreatPart28
import Derived.BigQuiet
import Derived.Deep.Cut
import Derived.Deep.CutRange
import Derived.Deep.CutBlock
namespace Go.Proofs.YtbanjoflgoiegaaGreat
open Go.RowKit

theorem Cr.best_min {F : Nat → Int} {st : Nat → Bool} : ∀ n, (∀ q, q < n → 0 ≤ F q → st q = false → 0 ≤ Nv.best F st n ∧ F (Nv.best F st n).toNat ≤ F q) ∧ (∀ p : Nat, Nv.best F st n = (p : Int) → p < n ∧ 0 ≤ F p ∧ st p = false)
  | 0 => ⟨fun q hq => by omega, fun p hp => by unfold Nv.best at hp; omega⟩
  | n + 1 => by
    obtain ⟨h1, h2⟩ := Cr.best_min (F := F) (st := st) n
    unfold Nv.best
    split
    · rename_i hc
      refine ⟨fun q hq q0 qs => ⟨by omega, ?_⟩, fun p hp => ?_⟩
      · rw [Int.toNat_natCast]
        by_cases e : q = n
        · rw [e]; exact Int.le_refl _
        · obtain ⟨b0, b1⟩ := h1 q (by omega) q0 qs
          rcases hc.2.2 with h | h
          · omega
          · omega
      · obtain rfl : p = n := by omega
        exact ⟨by omega, hc.1, hc.2.1⟩
    · rename_i hc
      refine ⟨fun q hq q0 qs => ?_, fun p hp => ?_⟩
      · by_cases e : q = n
        · subst e
          rcases Nv.best_cases F st q with hb | ⟨p, hp, hb⟩
          · exact absurd ⟨q0, qs, .inl (by omega)⟩ hc
          · refine ⟨by omega, ?_⟩
            by_cases hl : F q < F (Nv.best F st q).toNat
            · exact absurd ⟨q0, qs, .inr hl⟩ hc
            · omega
        · exact h1 q (by omega) q0 qs
      · obtain ⟨a, b⟩ := h2 p hp
        exact ⟨by omega, b⟩

theorem Cr.spot_up {c : Nat → Int} {E : Nat → Nat → Int} {v : Int} {u : Nat} (hu : u < 384) (hst : Nv.st E 32 u = false) (h : Nv.IsSpot c E 32 ((u : Int) % 24) ((u : Int) / 24) v) (hc : c u ≠ 0) (hF : Nv.Floor c) : v = (u : Int) := by
  obtain ⟨F, hfld, rfl⟩ := h
  rw [Md.num_cell hu] at hfld
  have h0 : F u = 0 := (hfld.zero u hu).2 ⟨(Gn.walk_nz (hF.five u)).2 hc, 0, by omega, rfl⟩
  obtain ⟨h1, h2⟩ := Cr.best_min (F := F) (st := Nv.st E 32) 384
  obtain ⟨b0, b1⟩ := h1 u hu (by omega) hst
  obtain ⟨p, hp⟩ : ∃ p : Nat, Nv.best F (Nv.st E 32) 384 = (p : Int) := ⟨_, (Int.toNat_of_nonneg b0).symm⟩
  obtain ⟨p1, p2, _⟩ := h2 p hp
  rw [hp, Int.toNat_natCast] at b1
  obtain ⟨_, j, hj, he⟩ := (hfld.zero p p1).1 (by omega)
  rw [hp]
  exact he.symm

theorem Cr.prowl_quiet {s c : Nat → Int} {E I : Nat → Nat → Int} {f : Nat} (hf1 : E f 0 = 1) (hone : ∀ k, k < 32 → k ≠ f → E k 0 ≠ 1) (hfar : ∀ k, k < 32 → E k 0 ≠ 0 → k ≠ f → ∀ v, 1 ≤ v → v ≤ 4 → ¬ (E k 3 + (Fx.way v).1 = E f 3 ∧ E k 4 + (Fx.way v).2 = E f 4)) :
    ∀ {i : Nat} {F J : Nat → Nat → Int}, i ≤ 32 → Cr.ProwlTo s c i E I F J → J = I ∧ F f = E f ∧ (∀ k, F k 0 = E k 0) ∧ ∀ k, i ≤ k → F k = E k
  | 0, _, _, _, h => by rw [h.1, h.2]; exact ⟨rfl, rfl, fun _ => rfl, fun _ _ => rfl⟩
  | i + 1, F, J, hi, h => by
    obtain ⟨G, K, hG, hP⟩ := h
    obtain ⟨rfl, gf, gk, gi⟩ := Cr.prowl_quiet hf1 hone hfar (by omega) hG
    unfold Cr.Prowls at hP
    split at hP
    · rw [hP.1, hP.2]
      exact ⟨rfl, gf, gk, fun k hk => gi k (by omega)⟩
    · rename_i hc
      obtain ⟨v, _, rfl, rfl⟩ := hP
      have hif : i ≠ f := fun e => hc (.inr (.inl (by rw [gk, e]; exact hf1)))
      have key : (Cr.act s c G K i v true = (G, K)) ∨ ∃ x y, Cr.act s c G K i v true = (Cr.go G i x y, K) := by
        unfold Cr.act
        split
        · exact .inl rfl
        · rename_i hv
          split
          · rename_i hw
            rw [if_neg]
            · exact .inl rfl
            · intro hd
              have hd' := of_decide_eq_true hd
              unfold Cr.who at hd' hw
              rcases En.first_cases (En.atQ G (G i 3 + (Fx.way v).1) (G i 4 + (Fx.way v).2)) 32 with ⟨he, _⟩ | ⟨j, hj, he, hq, _⟩
              · omega
              · rw [he, Int.toNat_natCast, gk] at hd'
                have hjf : j = f := by
                  by_cases e : j = f
                  · exact e
                  · exact absurd hd' (hone j hj e)
                have hq' : G j 0 ≠ 0 ∧ G j 3 = G i 3 + (Fx.way v).1 ∧ G j 4 = G i 4 + (Fx.way v).2 := by simpa [En.atQ] using hq
                rw [hjf, gf, gi i (Nat.le_refl _)] at hq'
                have h0 : E i 0 ≠ 0 := fun e => hc (.inl (by rw [gk]; exact e))
                exact hfar i (by omega) h0 hif v (by omega) (by omega) ⟨hq'.2.1.symm, hq'.2.2.symm⟩
          · split
            · exact .inr ⟨_, _, rfl⟩
            · exact .inl rfl
      rcases key with e | ⟨x, y, e⟩
      · rw [e]
        exact ⟨rfl, gf, gk, fun k hk => gi k (by omega)⟩
      · rw [e]
        refine ⟨rfl, by show Cr.go G i x y f = _; rw [Cr.go_row G x y hif.symm]; exact gf, fun k => ?_, fun k hk => by show Cr.go G i x y k = _; rw [Cr.go_row G x y (by omega)]; exact gi k (by omega)⟩
        by_cases e2 : k = i
        · rw [e2]
          show Cr.go G i x y i 0 = _
          rw [Cr.go_at, if_neg (by omega), if_neg (by omega)]
          exact gk i
        · show Cr.go G i x y k 0 = _
          rw [Cr.go_row G x y e2]
          exact gk k

theorem Cr.one_else {E : Nat → Nat → Int} {k f : Nat} (h : f ≠ k) : Ft.oneE E k f = E f := by
  have hs : Ft.stunE E k f = E f := by
    unfold Ft.stunE
    split
    · exact Ft.set_row _ _ _ _ _ h
    · rfl
  unfold Ft.oneE
  split
  · have hp : Ft.poisE (Ft.stunE E k) k f = E f := by
      unfold Ft.poisE
      rw [Ft.set_row _ _ _ _ _ h]
      exact hs
    unfold Ft.hurtE
    split
    · rw [Ft.set_row _ _ _ _ _ h]; exact hp
    · rw [En.put_other h]; exact hp
  · exact hs

theorem Cr.ail_row {E I : Nat → Nat → Int} {f : Nat} (h9 : ¬ 0 < E f 9) (h10 : ¬ 0 < E f 10) : ∀ n, (Ft.ailE E I n).1 f = E f
  | 0 => rfl
  | n + 1 => by
    have ih := Cr.ail_row (I := I) h9 h10 n
    unfold Ft.ailE
    split
    · show Ft.oneE (Ft.ailE E I n).1 n f = E f
      by_cases e : f = n
      · subst e
        unfold Ft.oneE
        rw [if_neg (by rw [ih]; exact h9)]
        unfold Ft.stunE
        rw [if_neg (by rw [ih]; exact h10)]
        exact ih
      · rw [Cr.one_else e]
        exact ih
    · exact ih

theorem Cr.stock_rows : ∀ (es : List (Int × Nat)) {E : Nat → Nat → Int} {n : Nat}, (∀ k, k < 32 → E k 0 ≠ 0 → k < n) → n + es.length ≤ 32 → (∀ k, k < 32 → Cr.stockE E es k 0 ≠ 0 → k < n + es.length) ∧ ∀ k, k < 32 → Cr.stockE E es k = E k ∨ ∃ p γ, p ∈ es ∧ Cr.stockE E es k = En.gen (Cr.one p.1 0 p.2) γ
  | [], _, n, h, _ => ⟨fun k hk k0 => by have := h k hk k0; simpa using this, fun k _ => .inl rfl⟩
  | p :: es, E, n, h, hn => by
    have hn' : n + 1 + es.length ≤ 32 := by simp at hn; omega
    obtain ⟨E', hE'⟩ : ∃ E', E' = if En.first (En.atQ E ((p.2 : Int) % 24) ((p.2 : Int) / 24)) 32 < 0 then Cr.join E (Cr.one p.1 0 p.2) else E := ⟨_, rfl⟩
    have hst : Cr.stockE E (p :: es) = Cr.stockE E' es := by rw [hE']; rfl
    have hj : ∀ k, k < 32 → E' k = E k ∨ (k ≤ n ∧ ∃ γ, E' k = En.gen (Cr.one p.1 0 p.2) γ) := fun k hk => by
      rw [hE']
      split
      · rcases Cr.join_cases E (Cr.one p.1 0 p.2) with he | ⟨f, hf, f0, hno, he⟩
        · rw [he]; exact .inl rfl
        · rw [he]
          by_cases e : k = f
          · rw [e, En.put_same]
            refine .inr ⟨?_, _, rfl⟩
            by_cases hfn : f ≤ n
            · exact hfn
            · have := h n (by omega) (hno n (by omega))
              omega
          · rw [En.put_other e]; exact .inl rfl
      · exact .inl rfl
    obtain ⟨h1, h2⟩ := Cr.stock_rows es (E := E') (n := n + 1) (fun k hk k0 => by
      rcases hj k hk with e | ⟨hkn, _⟩
      · rw [e] at k0
        have := h k hk k0
        omega
      · omega) hn'
    rw [hst]
    refine ⟨fun k hk k0 => by have := h1 k hk k0; simp; omega, fun k hk => ?_⟩
    rcases h2 k hk with e | ⟨q, γ, hq, e⟩
    · rcases hj k hk with e2 | ⟨_, γ, e2⟩
      · exact .inl (e.trans e2)
      · exact .inr ⟨p, γ, List.mem_cons_self .., e.trans e2⟩
    · exact .inr ⟨q, γ, List.mem_cons_of_mem _ hq, e⟩

theorem Cr.afar {d : Gn.Dice} {c F : Nat → Int} {far p : Nat} (hf : Gn.Facts d c F far) (hp : p < 384) (hc : c p ≠ 0) (h4 : 4 ≤ F p) {v : Int} (v1 : 1 ≤ v) (v4 : v ≤ 4) : ¬ ((p : Int) % 24 + (Fx.way v).1 = ((Gn.up d : Nat) : Int) % 24 ∧ (p : Int) / 24 + (Fx.way v).2 = ((Gn.up d : Nat) : Int) / 24) := by
  intro h
  have hu := hf.upl
  have h0 : F (Gn.up d) = 0 := (hf.fld.zero _ hu).2 rfl
  have hw := (Gn.walk_nz (hf.five p)).2 hc
  have key : ∃ e, e < 4 ∧ Gr.nbIn (Gn.up d) e ∧ Gr.nbOf (Gn.up d) e = p := by
    have fin : ∀ e, e < 4 → ((Gn.up d % 24 : Nat) : Int) + Gr.dxOf e = (p : Int) % 24 → ((Gn.up d / 24 : Nat) : Int) + Gr.dyOf e = (p : Int) / 24 → ∃ e, e < 4 ∧ Gr.nbIn (Gn.up d) e ∧ Gr.nbOf (Gn.up d) e = p := fun e he hx hy => by
      have hin : Gr.nbIn (Gn.up d) e := by
        unfold Gr.nbIn
        rw [hx, hy]
        omega
      refine ⟨e, he, hin, ?_⟩
      have := Gr.nb_eq hin
      rw [hx, hy] at this
      omega
    rcases (show v = 1 ∨ v = 2 ∨ v = 3 ∨ v = 4 by omega) with rfl | rfl | rfl | rfl
    · have e1 : Fx.way 1 = (0, -1) := rfl
      rw [e1] at h
      exact fin 2 (by omega) (by show _ + (0 : Int) = _; omega) (by show _ + (1 : Int) = _; omega)
    · have e1 : Fx.way 2 = (1, 0) := rfl
      rw [e1] at h
      exact fin 3 (by omega) (by show _ + (-1 : Int) = _; omega) (by show _ + (0 : Int) = _; omega)
    · have e1 : Fx.way 3 = (0, 1) := rfl
      rw [e1] at h
      exact fin 0 (by omega) (by show _ + (0 : Int) = _; omega) (by show _ + (-1 : Int) = _; omega)
    · have e1 : Fx.way 4 = (-1, 0) := rfl
      rw [e1] at h
      exact fin 1 (by omega) (by show _ + (1 : Int) = _; omega) (by show _ + (0 : Int) = _; omega)
  obtain ⟨e, he, hin, hnb⟩ := key
  have := (hf.fld.fwd (Gn.up d) hu (by omega) e he hin (by rw [hnb]; exact hw)).2
  rw [hnb] at this
  omega

theorem Cr.moved_none {s c how inp : Nat → Int} : ∀ {t : Nat} {m n : Cr.M}, (∀ j, j < t → how j ≠ 1 ∧ how j ≠ 2) → Cr.MovedTo s c how inp t m n → n = m
  | 0, _, _, _, h => h
  | t + 1, m, n, hh, h => by
    obtain ⟨o, ho, hn⟩ := h
    have e := Cr.moved_none (fun j hj => hh j (by omega)) ho
    unfold Cr.Moved at hn
    rw [if_pos (.inr (.inr (hh t (by omega))))] at hn
    rw [hn, e]

theorem Cr.first_frame {seed : Int} {how inp : Nat → Int} {sp : Nat → Bool} {S T : Cr.W} (hN : Cr.IsNew seed S) (hT : Cr.IsStep how inp sp S T) (hh : ∀ j, j < 4 → how j ≠ 1 ∧ how j ≠ 2) (h0 : sp 0 = true) (h1 : sp 1 = false) (h2 : sp 2 = false) (h3 : sp 3 = false) :
    T.c = S.c ∧ T.s 0 = seed ∧ T.s 1 = 1 ∧ T.s 2 = 1 ∧ T.s 3 = 0 ∧ ∃ (f u : Nat) (γ : Int), f < 32 ∧ u < 384 ∧ Gr.find 384 S.c 3 = (u : Int) ∧ T.E f = En.gen (Cr.one 1 0 u) γ := by
  have hG := hN.good
  obtain ⟨c, es, is, hl, rfl⟩ := hN
  obtain ⟨u, hu, hfu, hcu, hu1⟩ := Cr.up_stair hl.floor
  have hlev := hl
  obtain ⟨d, F0, _, hFair, hL, hes, _⟩ := hlev
  obtain ⟨far, hfa⟩ := hL.facts hFair
  have hud : Gn.up d = u := hu1 _ ((hfa.is3 _).2 rfl)
  have hlen : es.length ≤ 3 := by
    rw [hes]
    exact Gn.mons_len d 1 ((1 : Int) + 2).toNat 0 _
  obtain ⟨hrow, hwho⟩ := Cr.stock_rows es (E := fun _ _ => 0) (n := 0) (fun k _ k0 => absurd rfl k0) (by omega)
  obtain ⟨E, hE⟩ : ∃ E, Cr.stockE (fun _ _ => 0) es = E := ⟨_, rfl⟩
  rw [hE] at hG hT hrow hwho
  obtain ⟨I, hI⟩ : ∃ I, Cr.stockI (fun _ _ => 0) is = I := ⟨_, rfl⟩
  rw [hI] at hG hT
  have hmon : ∀ k, k < 32 → E k 0 ≠ 0 → E k 0 ≠ 1 ∧ ∃ p : Nat, p < 384 ∧ c p ≠ 0 ∧ 4 ≤ F0 p ∧ E k 3 = (p : Int) % 24 ∧ E k 4 = (p : Int) / 24 := fun k hk k0 => by
    rcases hwho k hk with e | ⟨p, γ, hp, e⟩
    · rw [e] at k0; exact absurd rfl k0
    · obtain ⟨i, hi⟩ := List.mem_iff_getElem?.1 hp
      rw [hes] at hi
      obtain ⟨k2, k4, hq, hc1, hF4⟩ := Gn.ents_at hFair (by omega) hi
      obtain ⟨o0, _, o3, o4, _⟩ := Cr.one_at p.1 0 p.2
      have g : ∀ j, j ≠ 1 → En.gen (Cr.one p.1 0 p.2) γ j = Cr.one p.1 0 p.2 j := fun j hj => if_neg hj
      rw [e, g 0 (by omega), g 3 (by omega), g 4 (by omega), o0 (by omega) (by omega), o3, o4]
      exact ⟨by omega, p.2, hq, by omega, hF4, rfl, rfl⟩
  have hnoh : ∀ t : Int, Gd.hero E t < 0 := fun t => by
    unfold Gd.hero
    rw [En.first_none (fun k hk => ?_)]
    · omega
    · unfold En.heroQ
      by_cases k0 : E k 0 = 0
      · simp [k0]
      · simp [(hmon k hk k0).1]
  have hst : Nv.st E 32 u = false := by
    unfold Nv.st
    refine decide_eq_false ?_
    rw [En.first_none (fun k hk => ?_)]
    · omega
    · by_cases k0 : E k 0 = 0
      · simp [En.atQ, k0]
      · obtain ⟨_, p, hp, _, h4, h3, h4'⟩ := hmon k hk k0
        have hz : F0 u = 0 := by rw [← hud]; exact (hfa.fld.zero _ hfa.upl).2 rfl
        have hne : p ≠ u := fun e => by rw [e] at h4; omega
        unfold En.atQ
        rw [h3, h4']
        by_cases e1 : (p : Int) % 24 = ((u % 24 : Nat) : Int)
        · by_cases e2 : (p : Int) / 24 = ((u / 24 : Nat) : Int)
          · exact absurd (by omega) hne
          · rw [decide_eq_false e2, Bool.and_false, Bool.and_false]
        · rw [decide_eq_false e1, Bool.false_and, Bool.and_false]
  unfold Cr.IsStep at hT
  have hs0 : ¬ (Cr.first seed 3 ≠ 0) := fun h => h rfl
  rw [if_neg hs0] at hT
  obtain ⟨A, m, F, J, hA, hm, hF, hEn⟩ := hT
  obtain ⟨f, hf, f0, -, -⟩ : ∃ f, f < 32 ∧ E f 0 = 0 ∧ True ∧ True := ⟨31, by omega, by
    by_cases k0 : E 31 0 = 0
    · exact k0
    · have := hrow 31 (by omega) k0
      omega, trivial, trivial⟩
  -- who comes
  have hAe : A = Cr.join E (Cr.one 1 0 u) := by
    obtain ⟨A3, ⟨A2, ⟨A1, ⟨A0, hA0, c0⟩, c1⟩, c2⟩, c3⟩ := hA
    have e0 : A0 = E := hA0
    rw [e0] at c0
    unfold Cr.Comes at c0 c1 c2 c3
    rw [if_pos ⟨h0, hnoh _⟩] at c0
    rw [if_neg (by rw [h1]; simp)] at c1
    rw [if_neg (by rw [h2]; simp)] at c2
    rw [if_neg (by rw [h3]; simp)] at c3
    obtain ⟨v, hv, hc0⟩ := c0
    have hv' : Nv.IsSpot c E 32 (Gr.find 384 c 3 % 24) (Gr.find 384 c 3 / 24) v := hv
    rw [hfu] at hv'
    have hvu := Cr.spot_up hu hst hv' (by rw [hcu]; omega) hl.floor
    rcases hc0 with ⟨hneg, _⟩ | ⟨q, hq, hA1⟩
    · omega
    · obtain rfl : q = u := by omega
      rw [c3, c2, c1, hA1]
      rfl
  obtain ⟨r, hr, r0, -, hj⟩ : ∃ r, r < 32 ∧ E r 0 = 0 ∧ True ∧ Cr.join E (Cr.one 1 0 u) = En.put E r (En.gen (Cr.one 1 0 u) ((E r 1 + 1) % 256)) := by
    rcases Cr.join_cases E (Cr.one 1 0 u) with he | ⟨r, hr, r0, _, he⟩
    · exfalso
      unfold Cr.join at he
      rcases En.first_cases (En.freeQ E) 32 with ⟨_, hno⟩ | ⟨k, hk, hke, hq, _⟩
      · have := hno f hf
        simp [En.freeQ, f0] at this
      · rw [hke, if_pos (by omega), Int.toNat_natCast] at he
        have h2 := congrFun (congrFun he k) 0
        rw [En.put_same] at h2
        have h3 : En.gen (Cr.one 1 0 u) ((E k 1 + 1) % 256) 0 = 1 := rfl
        have h4 : E k 0 = 0 := by simpa [En.freeQ] using hq
        omega
    · exact ⟨r, hr, r0, trivial, he⟩
  rw [hj] at hAe
  have hme := Cr.moved_none (fun j hj => hh j hj) hm
  have o := Cr.one_at 1 0 u
  have gen : ∀ γ j, j ≠ 1 → En.gen (Cr.one 1 0 u) γ j = Cr.one 1 0 u j := fun γ j hj => if_neg hj
  have hAr : A r = En.gen (Cr.one 1 0 u) ((E r 1 + 1) % 256) := by rw [hAe, En.put_same]
  have hAo : ∀ k, k ≠ r → A k = E k := fun k hk => by rw [hAe, En.put_other hk]
  rw [hme] at hF hEn
  have hq := Cr.prowl_quiet (s := Cr.num (Cr.first seed) 1 (Cr.first seed 1 + 1)) (c := c) (E := A) (I := I) (f := r) (by rw [hAr, gen _ 0 (by omega)]; exact o.1 (by omega) (by omega))
    (fun k hk hkr => by rw [hAo k hkr]; by_cases k0 : E k 0 = 0; omega; exact (hmon k hk k0).1)
    (fun k hk k0 hkr v v1 v4 => by
      rw [hAo k hkr] at k0 ⊢
      obtain ⟨_, p, hp, hcp, h4, e3, e4⟩ := hmon k hk k0
      rw [e3, e4, hAr, gen _ 3 (by omega), gen _ 4 (by omega), o.2.2.1, o.2.2.2.1, ← hud]
      exact Cr.afar hfa hp hcp h4 v1 v4) (i := 32) (Nat.le_refl _) hF
  obtain ⟨_, hFr, _, _⟩ := hq
  have hr9 : F r 9 = 0 ∧ F r 10 = 0 := by
    rw [hFr, hAr, gen _ 9 (by omega), gen _ 10 (by omega)]
    exact ⟨rfl, rfl⟩
  have hail := Cr.ail_row (E := F) (I := J) (f := r) (by omega) (by omega) 32
  have hrat : Cr.rats (Cr.num (Cr.first seed) 1 (Cr.first seed 1 + 1)) c (Ft.ailE F J 32).1 = (Ft.ailE F J 32).1 := by
    unfold Cr.rats
    rw [if_neg (fun h => by have : (0 : Int) + 1 = 1 := rfl; exact absurd h.1 (by show ¬ ((0 : Int) + 1) % 16 = 0; decide))]
  have hEr : (Ft.ailE F J 32).1 r = En.gen (Cr.one 1 0 u) ((E r 1 + 1) % 256) := by rw [hail, hFr, hAr]
  have hman : Cr.manned (Ft.ailE F J 32).1 = true := Cr.manned_of (t := 0) (k := r) (by omega) hr (by rw [hEr, gen _ 0 (by omega)]; exact o.1 (by omega) (by omega)) (by rw [hEr, gen _ 2 (by omega)]; exact o.2.1)
  change Cr.Ends _ _ c (Cr.rats _ c (Ft.ailE F J 32).1) _ _ false T at hEn
  rw [hrat] at hEn
  unfold Cr.Ends at hEn
  rw [if_neg (by rw [hman]; exact Bool.false_ne_true.symm), if_neg Bool.false_ne_true] at hEn
  subst hEn
  exact ⟨rfl, rfl, rfl, rfl, rfl, r, u, _, hr, hu, hfu, hEr⟩

end Go.Proofs.YtbanjoflgoiegaaGreat

namespace Go.Proofs.YtbanjoflgoiegaaGreat

def wpTill (P : Program) (md : Region.Mode) (ops : Array Oper) (Q : Exit → Act → World → Prop) (S : World → Prop) (h : Nat) : Nat → Array Bool → Act → World → Prop
  | 0, up, a, w => Region.ready md ops up = [] ∧ Q .normal a w
  | n + 1, up, a, w => (Region.ready md ops up = [] → Q .normal a w) ∧ ∀ i ∈ Region.ready md ops up, wpOp P ops Q i (fun b x => ((up.setIfInBounds i true).getD h true = false → S x) ∧ wpTill P md ops Q S h n (up.setIfInBounds i true) b x) a w

theorem wpAny_of_till {P : Program} {ops : Array Oper} {Q : Exit → Act → World → Prop} {md : Region.Mode} {S : World → Prop} {h : Nat} : ∀ (n : Nat) (up : Array Bool) (a : Act) (w : World), wpTill P md ops Q S h n up a w → wpAny P md ops Q n up a w
  | 0, _, _, _, g => g
  | n + 1, _, _, _, g => ⟨g.1, fun i hi => wpOp_mono (fun b x k => wpAny_of_till n _ b x k.2) (g.2 i hi)⟩

def Region.waits (md : Region.Mode) (ops : Array Oper) (up : Array Bool) (i h : Nat) (ch : List Nat) : Bool :=
  ch.contains h && ch.all fun c => !(up.getD c true) && match ops[c]? with
    | some o => o.after.any fun e => Region.binds md e && (e.on == i || ch.contains e.on)
    | none => false

theorem Region.waits_spec {ops : Array Oper} {md : Region.Mode} {up : Array Bool} {i h : Nat} {ch : List Nat} (hw : Region.waits md ops up i h ch = true) :
    h ∈ ch ∧ (∀ c ∈ ch, up.getD c true = false) ∧ ∀ c ∈ ch, ∀ o, ops[c]? = some o → ∃ e ∈ o.after, Region.binds md e = true ∧ (e.on = i ∨ e.on ∈ ch) := by
  unfold Region.waits at hw
  simp only [Bool.and_eq_true, List.contains_iff_mem, List.all_eq_true, Bool.not_eq_true'] at hw
  refine ⟨hw.1, fun c hc => (hw.2 c hc).1, fun c hc o ho => ?_⟩
  have h2 := (hw.2 c hc).2
  rw [ho] at h2
  obtain ⟨e, he, hb⟩ := Array.any_eq_true'.1 h2
  simp only [Bool.and_eq_true, Bool.or_eq_true, beq_iff_eq, List.contains_iff_mem] at hb
  exact ⟨e, he, hb.1, hb.2⟩

theorem wpTill_first {P : Program} {ops : Array Oper} {Q : Exit → Act → World → Prop} {md : Region.Mode} {S : World → Prop} {i h : Nat} {oi : Oper} {v : Value} {ch : List Nat} (hi : ops[i]? = some oi) (hsel : ∀ (j : Nat) (o : Oper) cs b, ops[j]? = some o → o.op ≠ .select cs b)
    (hQ : ∀ c a w, Q (.panic c) (a.put oi.dst v) w → Q (.panic c) a w) (hh : h ∈ ch)
    (hch : ∀ c ∈ ch, ∀ o, ops[c]? = some o → ∃ e ∈ o.after, Region.binds md e = true ∧ (e.on = i ∨ e.on ∈ ch)) :
    ∀ (n : Nat) (up : Array Bool) (a : Act) (w : World),
      (∀ j oj, ops[j]? = some oj → j ≠ i → up.getD j true = false → (∀ e ∈ oj.after, Region.binds md e = true → e.on ≠ i) → oi.apart ops oj = true) →
      i ∈ Region.ready md ops up → (∀ c ∈ ch, up.getD c true = false) → YieldsIf P ops S oi v a → S w →
      wpTill P md ops Q S h n (up.setIfInBounds i true) (a.put oi.dst v) w → wpTill P md ops Q S h (n + 1) up a w := by
  have key : ∀ (up : Array Bool) (j : Nat), i ∈ Region.ready md ops up → (∀ c ∈ ch, up.getD c true = false) → j ∈ Region.ready md ops up → j ∉ ch := by
    intro up j hr hc hj hm
    obtain ⟨_, oj, hoj, hall⟩ := mem_ready.1 hj
    obtain ⟨e, he, hb, hon⟩ := hch j hm oj hoj
    have h1 := hall e he hb
    have h0 : up.getD e.on true = false := by
      rcases hon with hon | hon
      · rw [hon]; exact (mem_ready.1 hr).1
      · exact hc _ hon
    rcases Nat.lt_or_ge e.on up.size with h' | h'
    · simp [h'] at h0 h1; rw [h0] at h1; cases h1
    · simp [Array.getElem?_eq_none h'] at h1
  intro n
  induction n with
  | zero =>
    intro up a w _ hr hc hy hS H
    refine ⟨fun g => (by rw [g] at hr; cases hr), fun j hj => ?_⟩
    by_cases hji : j = i
    · subst hji; exact hy.wpOp hi hS ⟨fun _ => hS, H⟩
    · have := ready_mono hj hji
      rw [H.1] at this
      cases this
  | succ n ih =>
    intro up a w hfree hr hc hy hS H
    refine ⟨fun g => (by rw [g] at hr; cases hr), fun j hj => ?_⟩
    by_cases hji : j = i
    · subst hji; exact hy.wpOp hi hS ⟨fun _ => hS, H⟩
    · have h1 := H.2 j (ready_mono hj hji)
      have hjc := key up j hr hc hj
      have hic := key up i hr hc hr
      obtain ⟨hjun, oj, hoj, hall⟩ := mem_ready.1 hj
      have hnot : ∀ e ∈ oj.after, Region.binds md e = true → e.on ≠ i := fun e he hb heq => by
        have h1 := hall e he hb
        have h0 := (mem_ready.1 hr).1
        rw [heq] at h1
        rcases Nat.lt_or_ge i up.size with h' | h'
        · simp [h'] at h0 h1; rw [h0] at h1; cases h1
        · simp [Array.getElem?_eq_none h'] at h1
      have h2 := wpOp_putIf hoj (hfree j oj hoj hji hjun hnot) (fun cs b => hsel i oi cs b hi) (fun cs b => hsel j oj cs b hoj) hQ hy h1
      have hc' : ∀ c ∈ ch, (up.setIfInBounds j true).getD c true = false := fun c hm => by
        rw [getD_set_ne true (show j ≠ c from fun e => hjc (e ▸ hm))]
        exact hc c hm
      have hfree' : ∀ k ok, ops[k]? = some ok → k ≠ i → (up.setIfInBounds j true).getD k true = false →
          (∀ e ∈ ok.after, Region.binds md e = true → e.on ≠ i) → oi.apart ops ok = true := fun k ok hk hki hun hno => by
        refine hfree k ok hk hki ?_ hno
        by_cases hjk : j = k
        · subst hjk; exact hjun
        · rw [getD_set_ne true hjk] at hun; exact hun
      refine wpOp_mono (fun b x h3 => ?_) h2
      have hS' : S x := h3.2.1 (by
        rw [getD_set_ne true (show j ≠ h from fun e => hjc (e ▸ hh)), getD_set_ne true (show i ≠ h from fun e => hic (e ▸ hh))]
        exact hc h hh)
      refine ⟨fun _ => hS', ih (up.setIfInBounds j true) b x hfree' (ready_mono hr (Ne.symm hji)) hc' h3.1 hS' ?_⟩
      rw [Array.setIfInBounds_comm _ _ hji]
      exact h3.2.2

theorem wpTill_take {P : Program} {ops : Array Oper} {Q : Exit → Act → World → Prop} {md : Region.Mode} {S : World → Prop} {i h : Nat} {oi : Oper} {v : Value} {n : Nat} {up : Array Bool} {a : Act} {w : World} (ch : List Nat) (hi : ops[i]? = some oi)
    (hs : Region.noSelect ops = true) (hf : Region.free md ops up i = true) (hr : (Region.ready md ops up).contains i = true) (hw : Region.waits md ops up i h ch = true)
    (hQ : ∀ c a w, Q (.panic c) (a.put oi.dst v) w → Q (.panic c) a w) (hS : S w) (hy : YieldsIf P ops S oi v a)
    (H : wpTill P md ops Q S h n (up.setIfInBounds i true) (a.put oi.dst v) w) : wpTill P md ops Q S h (n + 1) up a w := by
  obtain ⟨hh, hc, hch⟩ := Region.waits_spec hw
  exact wpTill_first hi (Region.noSelect_spec hs) hQ hh hch n up a w (Region.free_spec hi hf) (by simpa using hr) hc hy hS H

theorem wpTill_only {P : Program} {ops : Array Oper} {Q : Exit → Act → World → Prop} {md : Region.Mode} {S : World → Prop} {j h : Nat} {o : Oper} {n : Nat} {up : Array Bool} {a : Act} {w : World} (hr : Region.ready md ops up = [j]) (ho : ops[j]? = some o)
    (H : ∀ K : Act → World → Prop, Shut (∀ b x, ((up.setIfInBounds j true).getD h true = false → S x) → wpTill P md ops Q S h n (up.setIfInBounds j true) b x → K b x) → if Region.wanted o (yielded ops a.tmps) = true then Oper.wp P o a w K Q else K (a.put o.dst undef) w) :
    wpTill P md ops Q S h (n + 1) up a w := by
  refine ⟨fun g => (by rw [hr] at g; cases g), fun i hi => ?_⟩
  rw [hr] at hi
  obtain rfl : i = j := by simpa using hi
  exact wpOp_step ho (fun K hK => H K (fun b x h1 h2 => hK b x ⟨h1, h2⟩))

theorem wpTill_done {P : Program} {ops : Array Oper} {Q : Exit → Act → World → Prop} {md : Region.Mode} {S : World → Prop} {h : Nat} {up : Array Bool} {a : Act} {w : World} (hr : Region.ready md ops up = []) (H : Q .normal a w) : ∀ n, wpTill P md ops Q S h n up a w
  | 0 => ⟨hr, H⟩
  | _ + 1 => ⟨fun _ => H, by rw [hr]; simp⟩

theorem wp_region_till {P : Program} {ops : Array Oper} {Q : Exit → Act → World → Prop} {S : World → Prop} {h id : Nat} {a : Act} {w : World} (hm : P.follows .mixedOrders = true)
    (H : wpTill P .any ops Q S h ops.size (Array.replicate ops.size false) a w.drew) : (Code.region id ops true).wp P Q a w :=
  wp_region_any hm (wpAny_of_till _ _ _ _ H)

end Go.Proofs.YtbanjoflgoiegaaGreat

namespace Go.Proofs.YtbanjoflgoiegaaGreat
open Go.RowKit

theorem within10_any (a n : Int) (w : World) (hn : 0 < n) (hn2 : n ≤ 4611686018427387904) :
    Calls Tryz.prog 14 #[.int .i64 a, .int .i64 n] w fun e w' => e = .returned (.int .i64 (a % n)) ∧ w' = w := by
  have t1 := Int.tmod_lt_of_pos a (b := n) hn
  have t2 := Int.lt_tmod_of_pos a (b := n) hn
  have hn0 : (n == 0) = false := by simp; omega
  by_cases h : a.tmod n < 0
  · have ha : ¬ 0 ≤ a := by
      intro h0
      have := Int.tmod_nonneg n h0
      omega
    have hd := hide (Gr.within_neg a n hn h)
    go_enter Tryz.func14, Tryz.ntmps14
    go_wp2
    go_ret
    exact ⟨ret_int (unhide hd), rfl⟩
  · have hd := hide (Gr.within_pos a n hn h)
    by_cases ha : 0 ≤ a
    · have e : a.tmod n = a % n := Int.tmod_eq_emod_of_nonneg ha
      have h' : ¬ a % n < 0 := by rw [← e]; exact h
      clear h t1 t2 e
      go_enter Tryz.func14, Tryz.ntmps14
      go_wp2
      go_ret
      exact ⟨rfl, rfl⟩
    · go_enter Tryz.func14, Tryz.ntmps14
      go_wp2
      go_ret
      exact ⟨ret_int (unhide hd), rfl⟩

def Cr.acts (h i : Nat → Int) (b : Nat → Bool) : Array Value := #[.int .i64 (h 0), .int .i64 (i 0), .bool (b 0), .int .i64 (h 1), .int .i64 (i 1), .bool (b 1), .int .i64 (h 2), .int .i64 (i 2), .bool (b 2), .int .i64 (h 3), .int .i64 (i 3), .bool (b 3)]

def Cr.actF (h i : Nat → Int) (b : Nat → Bool) (j : Nat) : Value := if j % 3 = 0 then .int .i64 (h (j / 3)) else if j % 3 = 1 then .int .i64 (i (j / 3)) else .bool (b (j / 3))

theorem Cr.acts_lie {x : World} {A : Nat} {T : TypeId} {h i : Nat → Int} {b : Nat → Bool} (hA : x.heap[A]? = some (.cells (Cr.acts h i b) T (0, 0))) : Lie x A T 12 (Cr.actF h i b) :=
  Lie.congr (m := 12) (Arr.lit hA).lie fun j hj => by
    rcases (show j = 0 ∨ j = 1 ∨ j = 2 ∨ j = 3 ∨ j = 4 ∨ j = 5 ∨ j = 6 ∨ j = 7 ∨ j = 8 ∨ j = 9 ∨ j = 10 ∨ j = 11 by omega) with rfl | rfl | rfl | rfl | rfl | rfl | rfl | rfl | rfl | rfl | rfl | rfl <;> rfl

theorem Cr.acts_put {x : World} {A t : Nat} {T : TypeId} {h i : Nat → Int} {b : Nat → Bool} (hA : Lie x A T 12 (Cr.actF h i b)) (u v : Int) (c : Bool) :
    Lie (((x.setCell ⟨A, t * 3, none⟩ (.int .i64 u)).setCell ⟨A, t * 3 + 1, none⟩ (.int .i64 v)).setCell ⟨A, t * 3 + 2, none⟩ (.bool c)) A T 12 (Cr.actF (fun k => if k = t then u else h k) (fun k => if k = t then v else i k) (fun k => if k = t then c else b k)) := by
  refine (((hA.store _ _).store _ _).store _ _).congr fun j _ => ?_
  unfold Cr.actF
  by_cases e : j / 3 = t
  · rcases (show j = t * 3 ∨ j = t * 3 + 1 ∨ j = t * 3 + 2 by omega) with hj | hj | hj
    · have h0 : j % 3 = 0 := by omega
      rw [if_neg (by omega), if_neg (by omega), if_pos hj, if_pos h0]
      simp only [e, if_true]
    · have h0 : j % 3 = 1 := by omega
      rw [if_neg (by omega), if_pos hj, if_neg (by omega), if_pos h0]
      simp only [e, if_true]
    · have h0 : j % 3 = 2 := by omega
      rw [if_pos hj, if_neg (by omega), if_neg (by omega)]
      simp only [e, if_true]
  · rw [if_neg (by omega), if_neg (by omega), if_neg (by omega)]
    simp only [e, if_false]

def Cr.Nums (w : World) (a : Option Addr) (n : Nat) (z : Nat → Int) : Prop := ∀ i, i < n → ∃ b o, a = some ⟨b, o, none⟩ ∧ b < w.heap.size ∧ w.cell? ⟨b, o + i, none⟩ = some (.int .i64 (z i)) ∧ -9223372036854775808 ≤ z i ∧ z i ≤ 9223372036854775807

theorem Cr.Nums.on {w w' : World} {a : Option Addr} {n : Nat} {z : Nat → Int} (h : Cr.Nums w a n z) (hg : w.grownBy w' none) : Cr.Nums w' a n z := fun i hi => by
  obtain ⟨b, o, ha, hb, hc, h1, h2⟩ := h i hi
  exact ⟨b, o, ha, Nat.lt_of_lt_of_le hb hg.size, (grown_cell hg b _ hb (by simp)).trans hc, h1, h2⟩

end Go.Proofs.YtbanjoflgoiegaaGreat
