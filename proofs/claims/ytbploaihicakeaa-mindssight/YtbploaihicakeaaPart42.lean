/-
  A hero alone on a floor, and how fields and steps go about those who stand in the way.
-/
import Derived.Test.YtbploaihicakeaaPart41
import Derived.Test.YtbploaihicakeaaPart34
import Derived.Test.YtbploaihicakeaaPart06
namespace Go.Proofs.Ytbploaihicakeaa
open Go.RowKit

/-- A field stays where nothing but targets is blocked. -/
theorem Md.field_less {op op' tg : Nat → Prop} {F : Nat → Int} (h : Gr.IsField op tg F) (h1 : ∀ i, op' i → op i) (h2 : ∀ i, i < 384 → op i → ¬ op' i → tg i) : Gr.IsField op' tg F :=
  ⟨h.lo, h.zero, fun i hi hp => by
    obtain ⟨ho, hb⟩ := h.back i hi hp
    refine ⟨Classical.byContradiction fun hn => ?_, hb⟩
    have := (h.zero i hi).2 (h2 i hi ho hn)
    omega, fun j hj h0 d hd hn ho => h.fwd j hj h0 d hd hn (h1 _ ho)⟩

/-- The step of Toward where nobody stands but the one who goes, and whoever is a target. -/
theorem Md.toward_step {c t F : Nat → Int} {tlen : Nat} {E : Nat → Nat → Int} {x y v : Int} {m : Nat} (h : Nv.IsToward c t tlen E 32 x y v) (hm : Nv.num x y = (m : Int)) (hF : Gr.IsField (fun i => Gr.openB c 0 (fun _ => false) i = true) (Gr.tgt c t tlen) F) (hst : ∀ i, i < 384 → i ≠ m → Nv.st E 32 i = true → Gr.tgt c t tlen i) : v = Nv.step F (Nv.st E 32) m := by
  obtain ⟨_, _, hm4⟩ := Nv.num_at hm
  obtain ⟨F', hF', rfl⟩ := h.at hm
  have hF2 : Gr.IsField (fun i => Gr.openB c 384 (Nv.blk E 32 m) i = true) (Gr.tgt c t tlen) F := by
    refine Md.field_less hF (fun i hi => ?_) (fun i hi ho hn => ?_)
    · show Gr.openB c 0 (fun _ => false) i = true
      have hw : Gr.walkB (c i) = true := by
        by_cases e : Gr.walkB (c i) = true
        · exact e
        · rw [Bool.not_eq_true] at e
          have hi' : Gr.openB c 384 (Nv.blk E 32 m) i = true := hi
          rw [Gr.open_no e] at hi'
          cases hi'
      exact Gr.open_past hw (by omega)
    · have ho' : Gr.openB c 0 (fun _ => false) i = true := ho
      have hw : Gr.walkB (c i) = true := by
        by_cases e : Gr.walkB (c i) = true
        · exact e
        · rw [Bool.not_eq_true] at e
          rw [Gr.open_no e] at ho'
          cases ho'
      have hn' : ¬ Gr.openB c 384 (Nv.blk E 32 m) i = true := hn
      rw [Gr.open_in hw hi] at hn'
      unfold Nv.blk at hn'
      by_cases e : i = m
      · rw [if_pos e] at hn'; exact absurd rfl hn'
      · rw [if_neg e] at hn'
        exact hst i hi e (by simpa using hn')
  exact Nv.step_congr hm4 fun i hi => hF'.one hF2 i hi

/-- Where nobody stands on the cells between there is a step to each cell but the target that is reached. -/
theorem Md.step_on {op tg : Nat → Prop} {H : Nat → Int} (h : Gr.IsField op tg H) {st : Nat → Bool} {m : Nat} (hm : m < 384) (h1 : 1 ≤ H m) (hst : ∀ i, i < 384 → i ≠ m → H i = H m - 1 → st i = false) : ∃ k p : Nat, 1 ≤ k ∧ k ≤ 4 ∧ Nv.step H st m = (k : Int) ∧ Nv.next m k = (p : Int) ∧ p < 384 ∧ H p = H m - 1 := by
  rcases Nv.step_pos H st m with hz | ⟨k, p, k1, k4, hk, _, hn, hp, hF, _⟩
  · exfalso
    unfold Nv.step at hz
    rw [if_neg (by omega)] at hz
    obtain ⟨_, j, d, hj, hd, hn, rfl, he⟩ := h.back m hm (by omega)
    obtain ⟨b1, b2⟩ := Gr.nb_back hj hd hn
    have hq := Nv.way_zero 4 1 (by omega) hz (Gr.opp d + 1) (by omega) (by have := Gr.opp_lt hd; omega)
    have hx := Nv.next_dir (Gr.opp_lt hd) b1
    rw [b2] at hx
    have hne := Nv.next_ne (by omega) (by have := Gr.opp_lt hd; omega) hx
    rw [Nv.may_in hx, hst j hj hne he, he, decide_eq_true rfl] at hq
    cases hq
  · exact ⟨k, p, k1, k4, hk, hn, hp, hF⟩

/-- The law package's within. -/
theorem within9_any (a n : Int) (w : World) (hn : 0 < n) (hn2 : n ≤ 4611686018427387904) :
    Calls Try.prog 24 #[.int .i64 a, .int .i64 n] w fun e w' => e = .returned (.int .i64 (a % n)) ∧ w' = w := by
  have t1 := Int.tmod_lt_of_pos a (b := n) hn
  have t2 := Int.lt_tmod_of_pos a (b := n) hn
  have hn0 : (n == 0) = false := by simp; omega
  by_cases h : a.tmod n < 0
  · have ha : ¬ 0 ≤ a := by
      intro h0
      have := Int.tmod_nonneg n h0
      omega
    have hd := hide (Gr.within_neg a n hn h)
    go_enter Try.func24, Try.ntmps24
    go_wp2
    go_ret
    exact ⟨ret_int (unhide hd), rfl⟩
  · have hd := hide (Gr.within_pos a n hn h)
    by_cases ha : 0 ≤ a
    · have e : a.tmod n = a % n := Int.tmod_eq_emod_of_nonneg ha
      have h' : ¬ a % n < 0 := by rw [← e]; exact h
      clear h t1 t2 e
      go_enter Try.func24, Try.ntmps24
      go_wp2
      go_ret
      exact ⟨rfl, rfl⟩
    · go_enter Try.func24, Try.ntmps24
      go_wp2
      go_ret
      exact ⟨ret_int (unhide hd), rfl⟩

/-- Nobody is there but one hero, at cell m. -/
structure Md.Lone (E : Nat → Nat → Int) (r : Nat) (seat : Int) (m : Nat) : Prop where
  r32 : r < 32
  rest : ∀ k j, k ≠ r → E k j = 0
  kind : E r 0 = 1
  gen : E r 1 = 0
  seat : E r 2 = seat
  x : E r 3 = (m : Int) % 24
  y : E r 4 = (m : Int) / 24
  most : E r 6 = 20
  m4 : m < 384

theorem Md.Lone.hero {E : Nat → Nat → Int} {r m : Nat} {seat : Int} (h : Md.Lone E r seat m) : Gd.hero E seat = (r : Int) := by
  unfold Gd.hero
  refine En.first_hit (fun j hj => ?_) ?_ h.r32
  · unfold En.heroQ
    rw [h.rest j 0 (by omega)]
    rfl
  · unfold En.heroQ
    rw [h.kind, h.seat]
    simp

theorem Md.Lone.fine {E : Nat → Nat → Int} {r m : Nat} {seat : Int} (h : Md.Lone E r seat m) : Md.Fine E := fun k _ k0 => by
  by_cases e : k = r
  · rw [e, h.x, h.y, h.most]
    have := h.m4
    omega
  · exact absurd (h.rest k 0 e) k0

theorem Md.Lone.good {E I : Nat → Nat → Int} {c : Nat → Int} {r m : Nat} {seat : Int} (h : Md.Lone E r seat m) (hok : Gd.Ok c 40 I) : Md.Good c E I :=
  Md.good_of h.fine (fun k _ => by
    by_cases e : k = r
    · rw [e, h.gen, h.kind]
      exact ⟨by omega, fun h0 => by omega⟩
    · rw [h.rest k 1 e, h.rest k 3 e, h.rest k 4 e]
      exact ⟨by omega, fun _ => ⟨rfl, rfl⟩⟩) hok

theorem Md.ok_none (c : Nat → Int) : Gd.Ok c 40 (fun _ _ => 0) := ⟨fun _ _ => .inl ⟨rfl, rfl, rfl, rfl⟩, fun _ _ _ _ _ h => absurd rfl h⟩

/-- Where nobody stands. -/
theorem Md.Lone.none {E : Nat → Nat → Int} {r m : Nat} {seat x y : Int} (h : Md.Lone E r seat m) (hne : ¬ (x = (m : Int) % 24 ∧ y = (m : Int) / 24)) : En.first (En.atQ E x y) 32 = -1 := by
  refine En.first_none fun j _ => ?_
  unfold En.atQ
  by_cases e : j = r
  · rw [e, h.x, h.y]
    by_cases h1 : (m : Int) % 24 = x
    · have h2 : ¬ (m : Int) / 24 = y := fun h2 => hne ⟨h1.symm, h2.symm⟩
      simp [h2]
    · simp [h1]
  · rw [h.rest j 0 e]
    simp

theorem Md.Lone.st {E : Nat → Nat → Int} {r m : Nat} {seat : Int} (h : Md.Lone E r seat m) {i : Nat} (hi : i ≠ m) : Nv.st E 32 i = false := by
  unfold Nv.st
  rw [h.none (by omega)]
  rfl

theorem Md.find_none (w x y : Int) (hw : w ≠ 0) : Gd.find (fun _ _ => 0) 40 w x y = -1 := by
  rcases Gd.find_cases (fun _ _ => 0) 40 w x y with ⟨h, _⟩ | ⟨k, _, _, h1, _⟩
  · exact h
  · exact absurd h1.symm hw

theorem Md.way_some {d : Nat} (h1 : 1 ≤ d) (h4 : d ≤ 4) (x y : Int) : ¬ (x + (Fx.way (d : Int)).1 = x ∧ y + (Fx.way (d : Int)).2 = y) := by
  rcases (show d = 1 ∨ d = 2 ∨ d = 3 ∨ d = 4 by omega) with rfl | rfl | rfl | rfl
  · show ¬ (x + 0 = x ∧ y + (-1) = y); omega
  · show ¬ (x + 1 = x ∧ y + 0 = y); omega
  · show ¬ (x + 0 = x ∧ y + 1 = y); omega
  · show ¬ (x + (-1) = x ∧ y + 0 = y); omega

theorem Md.Lone.foe {E : Nat → Nat → Int} {r m : Nat} {seat : Int} (h : Md.Lone E r seat m) : Nv.wayFrom (Md.foe E (E r 3) (E r 4)) 4 1 = 0 := by
  refine Nv.way_none 4 1 fun j h1 h2 => ?_
  unfold Md.foe Md.who
  rw [h.x, h.y, h.none (Md.way_some h1 (by omega) _ _)]
  rfl

/-- A robot alone that is well and has nothing goes, or descends. -/
theorem Md.Lone.robot {c : Nat → Int} {E : Nat → Nat → Int} {r m : Nat} {seat v : Int} (h : Md.Lone E r seat m) (hp : 6 < E r 5) (hr : Md.IsRobot c E (fun _ _ => 0) seat v) : if c m = 4 then v = 9 else Nv.IsToward c (fun _ => Gr.find 384 c 4) 1 E 32 ((m : Int) % 24) ((m : Int) / 24) v := by
  unfold Md.IsRobot at hr
  rw [h.hero, if_neg (by omega), Int.toNat_natCast] at hr
  unfold Md.robotAt at hr
  have hat : Gr.at 384 c ((m : Int) % 24) ((m : Int) / 24) = c m := by
    have := h.m4
    exact Gr.at_in ((Gr.inB_iff _ _).2 (by omega)) (by omega)
  rw [if_neg (by rw [h.most]; omega), if_neg (by rw [h.foe]; simp), h.x, h.y, if_neg (by rw [Md.find_none 1 _ _ (by omega)]; omega), hat] at hr
  exact hr

theorem Md.num_cell {m : Nat} (h : m < 384) : Nv.num ((m : Int) % 24) ((m : Int) / 24) = (m : Int) := by
  unfold Nv.num
  rw [if_pos ((Gr.inB_iff _ _).2 (by omega))]
  omega

/-- A robot alone goes one step nearer to the stair. -/
theorem Md.Lone.goes {c F : Nat → Int} {E : Nat → Nat → Int} {r m d : Nat} {seat v : Int} (h : Md.Lone E r seat m) (hp : 6 < E r 5) (hr : Md.IsRobot c E (fun _ _ => 0) seat v) (hd : d < 384) (hfd : Gr.find 384 c 4 = (d : Int)) (hcd : c d = 4) (hone : ∀ i, c i = 4 → i = d) (hF : Gr.IsField (fun i => Gr.openB c 0 (fun _ => false) i = true) (Gr.tgt c (fun _ => (d : Int)) 1) F) (h1 : 1 ≤ F m) :
    ∃ k p : Nat, 1 ≤ k ∧ k ≤ 4 ∧ v = (k : Int) ∧ p < 384 ∧ (m : Int) % 24 + (Fx.way (k : Int)).1 = (p : Int) % 24 ∧ (m : Int) / 24 + (Fx.way (k : Int)).2 = (p : Int) / 24 ∧ F p = F m - 1 := by
  have hw4 : Gr.walkB (c d) = true := by rw [hcd]; rfl
  have hF0 : F d = 0 := (hF.zero d hd).2 ⟨hw4, 0, by omega, rfl⟩
  have hr2 := h.robot hp hr
  rw [if_neg (fun h4 => by have := hone m h4; subst this; omega), hfd] at hr2
  have hv := Md.toward_step hr2 (Md.num_cell h.m4) hF (fun i _ hi hs => by rw [h.st hi] at hs; cases hs)
  obtain ⟨k, p, k1, k4, hk, hn, hp', hFp⟩ := Md.step_on (st := Nv.st E 32) hF h.m4 h1 (fun i _ hi _ => h.st hi)
  unfold Nv.next at hn
  obtain ⟨e1, e2, _⟩ := Nv.num_at hn
  exact ⟨k, p, k1, k4, hv.trans hk, hp', by omega, by omega, hFp⟩

/-- A robot alone on the stair descends. -/
theorem Md.Lone.ends {c F : Nat → Int} {E : Nat → Nat → Int} {r m d : Nat} {seat v : Int} (h : Md.Lone E r seat m) (hp : 6 < E r 5) (hr : Md.IsRobot c E (fun _ _ => 0) seat v) (hcd : c d = 4) (hF : Gr.IsField (fun i => Gr.openB c 0 (fun _ => false) i = true) (Gr.tgt c (fun _ => (d : Int)) 1) F) (h0 : F m = 0) : v = 9 := by
  obtain ⟨_, j, _, hj⟩ := (hF.zero m h.m4).1 h0
  have hj' : (d : Int) = (m : Int) := hj
  obtain rfl : d = m := by omega
  have hr2 := h.robot hp hr
  rwa [if_pos hcd] at hr2

theorem Md.lone_folk {r kc : Nat} {seat hp : Int} (hr : r < 32) (hk : kc < 384) : Md.Lone (En.put (fun _ _ => 0) r (Gd.folk seat kc hp)) r seat kc :=
  ⟨hr, fun k j h => by rw [En.put_other h], by rw [En.put_same]; rfl, by rw [En.put_same]; rfl, by rw [En.put_same]; rfl, by rw [En.put_same]; rfl, by rw [En.put_same]; rfl, by rw [En.put_same]; rfl, hk⟩

theorem Md.set_at (E : Nat → Nat → Int) (k j : Nat) (v : Int) : Gd.set E k j v k j = v := if_pos ⟨rfl, rfl⟩

theorem Md.set_else (E : Nat → Nat → Int) (k j : Nat) (v : Int) {i l : Nat} (h : ¬ (i = k ∧ l = j)) : Gd.set E k j v i l = E i l := if_neg h

theorem Md.Lone.heal {E : Nat → Nat → Int} {r m : Nat} {seat : Int} (h : Md.Lone E r seat m) (v : Int) : Md.Lone (Gd.set E r 5 v) r seat m :=
  ⟨h.r32, fun k j hk => by rw [Md.set_else _ _ _ _ (by omega)]; exact h.rest k j hk, by rw [Md.set_else _ _ _ _ (by omega)]; exact h.kind, by rw [Md.set_else _ _ _ _ (by omega)]; exact h.gen, by rw [Md.set_else _ _ _ _ (by omega)]; exact h.seat, by rw [Md.set_else _ _ _ _ (by omega)]; exact h.x, by rw [Md.set_else _ _ _ _ (by omega)]; exact h.y, by rw [Md.set_else _ _ _ _ (by omega)]; exact h.most, h.m4⟩

theorem Md.Lone.move {E : Nat → Nat → Int} {r m p : Nat} {seat X Y : Int} (h : Md.Lone E r seat m) (hp : p < 384) (hX : X = (p : Int) % 24) (hY : Y = (p : Int) / 24) : Md.Lone (Gd.set (Gd.set E r 3 X) r 4 Y) r seat p ∧ Gd.set (Gd.set E r 3 X) r 4 Y r 5 = E r 5 := by
  have e : ∀ k j, ¬ (k = r ∧ (j = 3 ∨ j = 4)) → Gd.set (Gd.set E r 3 X) r 4 Y k j = E k j := fun k j hn => by rw [Md.set_else _ _ _ _ (by omega), Md.set_else _ _ _ _ (by omega)]
  exact ⟨⟨h.r32, fun k j hk => by rw [e k j (by omega)]; exact h.rest k j hk, by rw [e _ _ (by omega)]; exact h.kind, by rw [e _ _ (by omega)]; exact h.gen, by rw [e _ _ (by omega)]; exact h.seat, by rw [Md.set_else _ _ _ _ (by omega), Md.set_at]; exact hX, by rw [Md.set_at]; exact hY, by rw [e _ _ (by omega)]; exact h.most, hp⟩, by rw [e _ _ (by omega)]⟩

theorem Md.stair {c : Nat → Int} (hF : Nv.Floor c) : ∃ d : Nat, d < 384 ∧ Gr.find 384 c 4 = (d : Int) ∧ c d = 4 ∧ ∀ i, c i = 4 → i = d := by
  obtain ⟨u, v, _, hv, _, h4⟩ := hF.stairs
  refine ⟨v, hv, ?_, (h4 v).2 rfl, fun i hi => (h4 i).1 hi⟩
  have key : ∀ n k : Nat, k ≤ v → v < k + n → Gr.findFrom c 4 n k = (v : Int) := by
    intro n
    induction n with
    | zero => intro k h1 h2; omega
    | succ n ih =>
      intro k h1 h2
      unfold Gr.findFrom
      by_cases e : c k = 4
      · rw [if_pos e, (h4 k).1 e]
      · rw [if_neg e]
        refine ih (k + 1) ?_ (by omega)
        by_cases ek : k = v
        · exact absurd ((h4 k).2 ek) e
        · omega
  exact key 384 0 (by omega) (by omega)

theorem Md.field_high {op tg : Nat → Prop} {F : Nat → Int} (h : Gr.IsField op tg F) {i : Nat} (hi : i < 384) : F i ≤ 400 := by
  by_cases h0 : 0 ≤ F i
  · have := fieldHigh h (F i).toNat i hi (by omega)
    omega
  · omega

end Go.Proofs.Ytbploaihicakeaa
