/-
  MindsLone CrawlParts GenStr GenNear GenFld
-/
import Derived.Test.YtbanjoflgoiegaaGreatPart28
import Derived.Test.YtbanjoflgoiegaaGreatPart09
import Derived.Test.YtbanjoflgoiegaaGreatPart25
import Derived.Laws.BytesArg
import Derived.Test.YtbanjoflgoiegaaGreatPart16
namespace Go.Proofs.YtbanjoflgoiegaaGreat
open Go.RowKit

structure Md.Lone (E : Nat → Nat → Int) (r : Nat) (seat : Int) (m : Nat) : Prop where
  r32 : r < 32
  rest : ∀ k j, k ≠ r → E k j = 0
  kind : E r 0 = 1
  gen : E r 1 = 0
  seat : E r 2 = seat
  x : E r 3 = (m : Int) % 24
  y : E r 4 = (m : Int) / 24
  most : E r 6 = 20
  m4 : m < 384

theorem Md.Lone.hero {E : Nat → Nat → Int} {r m : Nat} {seat : Int} (h : Md.Lone E r seat m) : Gd.hero E seat = (r : Int) := by
  unfold Gd.hero
  refine En.first_hit (fun j hj => ?_) ?_ h.r32
  · unfold En.heroQ
    rw [h.rest j 0 (by omega)]
    rfl
  · unfold En.heroQ
    rw [h.kind, h.seat]
    simp

theorem Md.Lone.fine {E : Nat → Nat → Int} {r m : Nat} {seat : Int} (h : Md.Lone E r seat m) : Md.Fine E := fun k _ k0 => by
  by_cases e : k = r
  · rw [e, h.x, h.y, h.most]
    have := h.m4
    omega
  · exact absurd (h.rest k 0 e) k0

theorem Md.Lone.good {E I : Nat → Nat → Int} {c : Nat → Int} {r m : Nat} {seat : Int} (h : Md.Lone E r seat m) (hok : Gd.Ok c 40 I) : Md.Good c E I :=
  Md.good_of h.fine (fun k _ => by
    by_cases e : k = r
    · rw [e, h.gen, h.kind]
      exact ⟨by omega, fun h0 => by omega⟩
    · rw [h.rest k 1 e, h.rest k 3 e, h.rest k 4 e]
      exact ⟨by omega, fun _ => ⟨rfl, rfl⟩⟩) hok

theorem Md.ok_none (c : Nat → Int) : Gd.Ok c 40 (fun _ _ => 0) := ⟨fun _ _ => .inl ⟨rfl, rfl, rfl, rfl⟩, fun _ _ _ _ _ h => absurd rfl h⟩

theorem Md.Lone.none {E : Nat → Nat → Int} {r m : Nat} {seat x y : Int} (h : Md.Lone E r seat m) (hne : ¬ (x = (m : Int) % 24 ∧ y = (m : Int) / 24)) : En.first (En.atQ E x y) 32 = -1 := by
  refine En.first_none fun j _ => ?_
  unfold En.atQ
  by_cases e : j = r
  · rw [e, h.x, h.y]
    by_cases h1 : (m : Int) % 24 = x
    · have h2 : ¬ (m : Int) / 24 = y := fun h2 => hne ⟨h1.symm, h2.symm⟩
      simp [h2]
    · simp [h1]
  · rw [h.rest j 0 e]
    simp

theorem Md.Lone.st {E : Nat → Nat → Int} {r m : Nat} {seat : Int} (h : Md.Lone E r seat m) {i : Nat} (hi : i ≠ m) : Nv.st E 32 i = false := by
  unfold Nv.st
  rw [h.none (by omega)]
  rfl

theorem Md.find_none (w x y : Int) (hw : w ≠ 0) : Gd.find (fun _ _ => 0) 40 w x y = -1 := by
  rcases Gd.find_cases (fun _ _ => 0) 40 w x y with ⟨h, _⟩ | ⟨k, _, _, h1, _⟩
  · exact h
  · exact absurd h1.symm hw

theorem Md.way_some {d : Nat} (h1 : 1 ≤ d) (h4 : d ≤ 4) (x y : Int) : ¬ (x + (Fx.way (d : Int)).1 = x ∧ y + (Fx.way (d : Int)).2 = y) := by
  rcases (show d = 1 ∨ d = 2 ∨ d = 3 ∨ d = 4 by omega) with rfl | rfl | rfl | rfl
  · show ¬ (x + 0 = x ∧ y + (-1) = y); omega
  · show ¬ (x + 1 = x ∧ y + 0 = y); omega
  · show ¬ (x + 0 = x ∧ y + 1 = y); omega
  · show ¬ (x + (-1) = x ∧ y + 0 = y); omega

theorem Md.Lone.foe {E : Nat → Nat → Int} {r m : Nat} {seat : Int} (h : Md.Lone E r seat m) : Nv.wayFrom (Md.foe E (E r 3) (E r 4)) 4 1 = 0 := by
  refine Nv.way_none 4 1 fun j h1 h2 => ?_
  unfold Md.foe Md.who
  rw [h.x, h.y, h.none (Md.way_some h1 (by omega) _ _)]
  rfl

theorem Md.Lone.robot {c : Nat → Int} {E : Nat → Nat → Int} {r m : Nat} {seat v : Int} (h : Md.Lone E r seat m) (hp : 6 < E r 5) (hr : Md.IsRobot c E (fun _ _ => 0) seat v) : if c m = 4 then v = 9 else Nv.IsToward c (fun _ => Gr.find 384 c 4) 1 E 32 ((m : Int) % 24) ((m : Int) / 24) v := by
  unfold Md.IsRobot at hr
  rw [h.hero, if_neg (by omega), Int.toNat_natCast] at hr
  unfold Md.robotAt at hr
  have hat : Gr.at 384 c ((m : Int) % 24) ((m : Int) / 24) = c m := by
    have := h.m4
    exact Gr.at_in ((Gr.inB_iff _ _).2 (by omega)) (by omega)
  rw [if_neg (by rw [h.most]; omega), if_neg (by rw [h.foe]; simp), h.x, h.y, if_neg (by rw [Md.find_none 1 _ _ (by omega)]; omega), hat] at hr
  exact hr

theorem Md.num_cell {m : Nat} (h : m < 384) : Nv.num ((m : Int) % 24) ((m : Int) / 24) = (m : Int) := by
  unfold Nv.num
  rw [if_pos ((Gr.inB_iff _ _).2 (by omega))]
  omega

theorem Md.Lone.ends {c F : Nat → Int} {E : Nat → Nat → Int} {r m d : Nat} {seat v : Int} (h : Md.Lone E r seat m) (hp : 6 < E r 5) (hr : Md.IsRobot c E (fun _ _ => 0) seat v) (hcd : c d = 4) (hF : Gr.IsField (fun i => Gr.openB c 0 (fun _ => false) i = true) (Gr.tgt c (fun _ => (d : Int)) 1) F) (h0 : F m = 0) : v = 9 := by
  obtain ⟨_, j, _, hj⟩ := (hF.zero m h.m4).1 h0
  have hj' : (d : Int) = (m : Int) := hj
  obtain rfl : d = m := by omega
  have hr2 := h.robot hp hr
  rwa [if_pos hcd] at hr2

theorem Md.set_at (E : Nat → Nat → Int) (k j : Nat) (v : Int) : Gd.set E k j v k j = v := if_pos ⟨rfl, rfl⟩

theorem Md.set_else (E : Nat → Nat → Int) (k j : Nat) (v : Int) {i l : Nat} (h : ¬ (i = k ∧ l = j)) : Gd.set E k j v i l = E i l := if_neg h

theorem Md.Lone.heal {E : Nat → Nat → Int} {r m : Nat} {seat : Int} (h : Md.Lone E r seat m) (v : Int) : Md.Lone (Gd.set E r 5 v) r seat m :=
  ⟨h.r32, fun k j hk => by rw [Md.set_else _ _ _ _ (by omega)]; exact h.rest k j hk, by rw [Md.set_else _ _ _ _ (by omega)]; exact h.kind, by rw [Md.set_else _ _ _ _ (by omega)]; exact h.gen, by rw [Md.set_else _ _ _ _ (by omega)]; exact h.seat, by rw [Md.set_else _ _ _ _ (by omega)]; exact h.x, by rw [Md.set_else _ _ _ _ (by omega)]; exact h.y, by rw [Md.set_else _ _ _ _ (by omega)]; exact h.most, h.m4⟩

end Go.Proofs.YtbanjoflgoiegaaGreat

namespace Go.Proofs.YtbanjoflgoiegaaGreat
open Go.RowKit

theorem Cr.one_row {kd st : Int} {q : Nat} {gn : Int} (h1 : 1 ≤ kd) (h4 : kd ≤ 4) (g0 : 0 ≤ gn) (g9 : gn ≤ 255) : Ft.Row (En.gen (Cr.one kd st q) gn) := by
  have e : ∀ j, j ≠ 1 → j ≠ 2 → j ≠ 3 → j ≠ 4 → En.gen (Cr.one kd st q) gn j = En.stats kd j := fun j j1 j2 j3 j4 => by
    show (if j = 1 then gn else Cr.one kd st q j) = _
    rw [if_neg j1]
    unfold Cr.one
    rw [En.upd_other j4, En.upd_other j3, En.upd_other j2]
  refine ⟨g0, g9, .inr ?_⟩
  rw [e 0 (by omega) (by omega) (by omega) (by omega), e 5 (by omega) (by omega) (by omega) (by omega), e 6 (by omega) (by omega) (by omega) (by omega), e 7 (by omega) (by omega) (by omega) (by omega), e 8 (by omega) (by omega) (by omega) (by omega), e 9 (by omega) (by omega) (by omega) (by omega), e 10 (by omega) (by omega) (by omega) (by omega)]
  rcases (show kd = 1 ∨ kd = 2 ∨ kd = 3 ∨ kd = 4 by omega) with rfl | rfl | rfl | rfl <;> decide

theorem Cr.one_at (kd st : Int) (q : Nat) : (1 ≤ kd → kd ≤ 4 → Cr.one kd st q 0 = kd) ∧ Cr.one kd st q 2 = st ∧ Cr.one kd st q 3 = (q : Int) % 24 ∧ Cr.one kd st q 4 = (q : Int) / 24 ∧ Cr.one kd st q 6 = En.stats kd 6 ∧ Cr.one kd st q 7 = En.stats kd 7 ∧ Cr.one kd st q 8 = En.stats kd 8 := by
  unfold Cr.one
  refine ⟨fun h1 h4 => ?_, ?_, ?_, ?_, ?_, ?_, ?_⟩
  · rw [En.upd_other (by omega), En.upd_other (by omega), En.upd_other (by omega)]
    rcases (show kd = 1 ∨ kd = 2 ∨ kd = 3 ∨ kd = 4 by omega) with rfl | rfl | rfl | rfl <;> decide
  · rw [En.upd_other (by omega), En.upd_other (by omega), En.upd_same]
  · rw [En.upd_other (by omega), En.upd_same]
  · rw [En.upd_same]
  · rw [En.upd_other (by omega), En.upd_other (by omega), En.upd_other (by omega)]
  · rw [En.upd_other (by omega), En.upd_other (by omega), En.upd_other (by omega)]
  · rw [En.upd_other (by omega), En.upd_other (by omega), En.upd_other (by omega)]

theorem Cr.Sane.join {c : Nat → Int} {E I : Nat → Nat → Int} (h : Cr.Sane c E I) {kd st : Int} {q : Nat} (h1 : 1 ≤ kd) (h4 : kd ≤ 4) (hq : q < 384) (hr : Ft.Room c E q) (hs : (kd = 1 ∧ 0 ≤ st ∧ st < 4 ∧ Gd.hero E st < 0) ∨ (kd ≠ 1 ∧ st = 0)) : Cr.Sane c (Cr.join E (Cr.one kd st q)) I := by
  obtain ⟨o0, o2, o3, o4, o6, o7, o8⟩ := Cr.one_at kd st q
  rcases Cr.join_cases E (Cr.one kd st q) with he | ⟨f, hf, hf0, _, he⟩
  · rw [he]; exact h
  rw [he]
  have hg : 0 ≤ (E f 1 + 1) % 256 ∧ (E f 1 + 1) % 256 ≤ 255 := by omega
  generalize (E f 1 + 1) % 256 = gn at hg
  have k0 : En.gen (Cr.one kd st q) gn 0 = kd := o0 h1 h4
  have k2 : En.gen (Cr.one kd st q) gn 2 = st := o2
  have hset := h.set.put (e := Cr.one kd st q) (gn := gn) hf0 hq hr o3 o4 (by rw [o0 h1 h4]; exact ⟨o6, o7, o8⟩)
  have nohero : ∀ j, j < 32 → E j 0 = 1 → kd = 1 → E j 2 ≠ st := fun j hj j1 hk e => by
    rcases hs with ⟨_, _, _, hno⟩ | ⟨hn, _⟩
    · unfold Gd.hero at hno
      rcases En.first_cases (En.heroQ E st) 32 with ⟨_, hn⟩ | ⟨i, _, hi, _⟩
      · have := hn j hj
        simp [En.heroQ, j1, e] at this
      · omega
    · exact hn hk
  refine ⟨h.fit.put (Cr.one_row h1 h4 hg.1 hg.2), hset, ⟨fun j hj j1 => ?_, fun i j hi hj i1 j1 hij => ?_, fun j hj j0 j1 => ?_⟩⟩
  · by_cases x : j = f
    · rw [x, En.put_same, k0] at j1
      rw [x, En.put_same, k2]
      rcases hs with ⟨_, a, b, _⟩ | ⟨hn, _⟩
      · exact ⟨a, b⟩
      · exact absurd j1 hn
    · rw [En.put_other x] at j1 ⊢; exact h.seats.seat j hj j1
  · by_cases xi : i = f
    · by_cases xj : j = f
      · omega
      · rw [xi, En.put_same, k0] at i1
        rw [xi, En.put_same, k2, En.put_other xj] at hij
        rw [En.put_other xj] at j1
        exact absurd hij.symm (nohero j hj j1 i1)
    · by_cases xj : j = f
      · rw [xj, En.put_same, k0] at j1
        rw [xj, En.put_same, k2, En.put_other xi] at hij
        rw [En.put_other xi] at i1
        exact absurd hij (nohero i hi i1 j1)
      · rw [En.put_other xi] at i1 hij
        rw [En.put_other xj] at j1 hij
        exact h.seats.one i j hi hj i1 j1 hij
  · by_cases x : j = f
    · rw [x, En.put_same, k0] at j1
      rw [x, En.put_same, k2]
      rcases hs with ⟨hk, _⟩ | ⟨_, hst⟩
      · exact absurd hk j1
      · exact hst
    · rw [En.put_other x] at j0 j1 ⊢; exact h.seats.none j hj j0 j1

theorem Cr.spot_room {c : Nat → Int} {E : Nat → Nat → Int} {x y : Int} {q : Nat} (h : Nv.IsSpot c E 32 x y (q : Int)) : q < 384 ∧ Ft.Room c E q := by
  obtain ⟨F, hF, hq⟩ := h
  have key : ∀ n, Nv.best F (Nv.st E 32) n = -1 ∨ ∃ p : Nat, p < n ∧ Nv.best F (Nv.st E 32) n = (p : Int) ∧ 0 ≤ F p ∧ Nv.st E 32 p = false := by
    intro n
    induction n with
    | zero => exact .inl rfl
    | succ n ih =>
      unfold Nv.best
      split
      · rename_i hc
        exact .inr ⟨n, by omega, rfl, hc.1, hc.2.1⟩
      · rcases ih with h0 | ⟨p, hp, he, h1, h2⟩
        · exact .inl h0
        · exact .inr ⟨p, by omega, he, h1, h2⟩
  rcases key 384 with h0 | ⟨p, hp, he, h1, h2⟩
  · omega
  · obtain rfl : q = p := by omega
    refine ⟨hp, Nv.reach_walk hF hp h1, ?_⟩
    unfold Nv.st at h2
    simp only [decide_eq_false_iff_not] at h2
    have e1 : ((q % 24 : Nat) : Int) = (q : Int) % 24 := by omega
    have e2 : ((q / 24 : Nat) : Int) = (q : Int) / 24 := by omega
    rw [e1, e2] at h2
    omega

def Cr.Comes (c : Nat → Int) (t : Int) (sp : Bool) (E F : Nat → Nat → Int) : Prop :=
  if sp = true ∧ Gd.hero E t < 0 then ∃ v, Nv.IsSpot c E 32 (Gr.find 384 c 3 % 24) (Gr.find 384 c 3 / 24) v ∧ ((v < 0 ∧ F = E) ∨ ∃ q : Nat, v = (q : Int) ∧ F = Cr.join E (Cr.one 1 t q)) else F = E

theorem Cr.Comes.one {c : Nat → Int} {t : Int} {sp : Bool} {E F G : Nat → Nat → Int} (h : Cr.Comes c t sp E F) (h' : Cr.Comes c t sp E G) : G = F := by
  unfold Cr.Comes at h h'
  split at h
  · rename_i hc
    rw [if_pos hc] at h'
    obtain ⟨v, hv, hF⟩ := h
    obtain ⟨v', hv', hG⟩ := h'
    obtain rfl := hv.one hv'
    rcases hF with ⟨h0, rfl⟩ | ⟨q, hq, rfl⟩
    · rcases hG with ⟨_, hG⟩ | ⟨q', hq', _⟩
      · exact hG
      · omega
    · rcases hG with ⟨h0, _⟩ | ⟨q', hq', hG⟩
      · omega
      · obtain rfl : q' = q := by omega
        exact hG
  · rename_i hc
    rw [if_neg hc] at h'
    rw [h, h']

theorem Cr.Sane.comes {c : Nat → Int} {t : Int} {sp : Bool} {E F I : Nat → Nat → Int} (h : Cr.Sane c E I) (t0 : 0 ≤ t) (t4 : t < 4) (hc : Cr.Comes c t sp E F) : Cr.Sane c F I := by
  unfold Cr.Comes at hc
  split at hc
  · rename_i hcond
    obtain ⟨v, hv, ⟨_, rfl⟩ | ⟨q, rfl, rfl⟩⟩ := hc
    · exact h
    · obtain ⟨hq, hr⟩ := Cr.spot_room hv
      exact h.join (by omega) (by omega) hq hr (.inl ⟨rfl, t0, t4, hcond.2⟩)
  · rw [hc]; exact h

def Cr.ComesTo (c : Nat → Int) (sp : Nat → Bool) : Nat → (Nat → Nat → Int) → (Nat → Nat → Int) → Prop
  | 0, E, F => F = E
  | t + 1, E, F => ∃ G, Cr.ComesTo c sp t E G ∧ Cr.Comes c (t : Int) (sp t) G F

theorem Cr.ComesTo.one {c : Nat → Int} {sp : Nat → Bool} : ∀ {t : Nat} {E F G : Nat → Nat → Int}, Cr.ComesTo c sp t E F → Cr.ComesTo c sp t E G → G = F
  | 0, _, _, _, h, h' => by rw [h, h']
  | t + 1, _, _, _, h, h' => by
    obtain ⟨A, hA, hF⟩ := h
    obtain ⟨B, hB, hG⟩ := h'
    obtain rfl := Cr.ComesTo.one hA hB
    exact hF.one hG

theorem Cr.Sane.comesTo {c : Nat → Int} {sp : Nat → Bool} {I : Nat → Nat → Int} : ∀ {t : Nat} {E F : Nat → Nat → Int}, Cr.Sane c E I → t ≤ 4 → Cr.ComesTo c sp t E F → Cr.Sane c F I
  | 0, _, _, h, _, hc => by rw [hc]; exact h
  | t + 1, _, _, h, ht, hc => by
    obtain ⟨G, hG, hF⟩ := hc
    exact (Cr.Sane.comesTo h (by omega) hG).comes (by omega) (by omega) hF

structure Cr.M where
  g : Nat → Int
  E : Nat → Nat → Int
  I : Nat → Nat → Int
  left : Bool

def Cr.does (s c : Nat → Int) (m : Cr.M) (t : Int) (k : Nat) (v : Int) : Cr.M :=
  if 1 ≤ v ∧ v ≤ 4 then ⟨m.g, (Cr.act s c m.E m.I k v false).1, (Cr.act s c m.E m.I k v false).2, m.left⟩
  else if v = 9 then ⟨m.g, m.E, m.I, m.left || decide (Gr.at 384 c (m.E k 3) (m.E k 4) = 4)⟩
  else ⟨Gd.nextG c m.g m.E m.I t v, Gd.nextE m.E m.I t v, Gd.nextI c m.g m.E m.I t v, m.left⟩

def Cr.Moved (s c : Nat → Int) (t how input : Int) (m n : Cr.M) : Prop :=
  if Gd.hero m.E t < 0 ∨ 0 < m.E (Gd.hero m.E t).toNat 10 ∨ (how ≠ 1 ∧ how ≠ 2) then n = m
  else ∃ v, (if how = 2 then Md.IsRobot c m.E m.I t v else v = input) ∧ n = Cr.does s c m t (Gd.hero m.E t).toNat v

theorem Cr.Moved.one {s c : Nat → Int} {t how input : Int} {m n o : Cr.M} (h : Cr.Moved s c t how input m n) (h' : Cr.Moved s c t how input m o) : o = n := by
  unfold Cr.Moved at h h'
  split at h
  · rename_i hc
    rw [if_pos hc] at h'
    rw [h, h']
  · rename_i hc
    rw [if_neg hc] at h'
    obtain ⟨v, hv, rfl⟩ := h
    obtain ⟨v', hv', rfl⟩ := h'
    by_cases h2 : how = 2
    · rw [if_pos h2] at hv hv'
      rw [hv.one hv']
    · rw [if_neg h2] at hv hv'
      rw [hv, hv']

def Cr.MFit (c : Nat → Int) (m : Cr.M) : Prop := Cr.Sane c m.E m.I ∧ Cr.Gold m.g

theorem Cr.goldOf_bd {I : Nat → Nat → Int} {t X Y G v : Int} {shop : Bool} (h0 : 0 ≤ G) (h9 : G ≤ 999) : 0 ≤ Gd.goldOf I t X Y shop G v ∧ Gd.goldOf I t X Y shop G v ≤ 999 := by
  unfold Gd.goldOf
  split
  · split <;> omega
  · split
    · split
      · rename_i hb
        unfold Gd.buys at hb
        simp only [Bool.and_eq_true, decide_eq_true_eq] at hb
        omega
      · omega
    · omega

theorem Cr.MFit.next {c : Nat → Int} {m : Cr.M} (h : Cr.MFit c m) (t v : Int) : Cr.Sane c (Gd.nextE m.E m.I t v) (Gd.nextI c m.g m.E m.I t v) ∧ Cr.Gold (Gd.nextG c m.g m.E m.I t v) := by
  obtain ⟨hs, hg⟩ := h
  by_cases hc : 0 ≤ t ∧ t < 4 ∧ 0 ≤ Gd.hero m.E t
  · obtain ⟨k, hk, he, hk2, hk1⟩ := Gd.hero_pos hc.2.2
    obtain ⟨a1, a2, a3, a4, a5⟩ := hs.set.stands.on k hk (by omega)
    have hin : Gr.inB (m.E k 3) (m.E k 4) = true := (Gr.inB_iff _ _).2 ⟨a1, a2, a3, a4⟩
    have hw := Md.at_stand hs.set.stands hk (by omega)
    have hI : Gd.nextI c m.g m.E m.I t v = Gd.act m.I 40 t (m.E k 3) (m.E k 4) (decide (Gr.at 384 c (m.E k 3) (m.E k 4) = 5)) (m.g t.toNat) v := by
      unfold Gd.nextI
      rw [if_pos hc, he, Int.toNat_natCast]
    have hok : Gd.Ok c 40 (Gd.nextI c m.g m.E m.I t v) := by
      rw [hI]
      exact hs.fit.ok.act hc.1 hc.2.1 hin hw _ _ _
    have hfit : Ft.Fit c (Gd.nextE m.E m.I t v) (Gd.nextI c m.g m.E m.I t v) := by
      refine ⟨hs.fit.cells, hok, fun i hi => ?_⟩
      unfold Gd.nextE
      rw [if_pos hc, he, Int.toNat_natCast]
      unfold Gd.entsOf
      split
      · have ht := (hs.fit.rows k hk).taken (by omega)
        by_cases x : i = k
        · rw [x]
          have e : ∀ j, j ≠ 5 → j ≠ 9 → Gd.heal m.E k k j = m.E k j := fun j h5 h9 => by
            unfold Gd.heal
            rw [Md.set_else _ _ _ _ (by omega), Md.set_else _ _ _ _ (by omega)]
          have e5 : Gd.heal m.E k k 5 = min (m.E k 5 + 6) (m.E k 6) := by
            unfold Gd.heal
            rw [Md.set_else _ _ _ _ (by omega), Md.set_at]
          have e9 : Gd.heal m.E k k 9 = 0 := by
            unfold Gd.heal
            rw [Md.set_at]
          refine ⟨by rw [e 1 (by omega) (by omega)]; exact (hs.fit.rows k hk).1, by rw [e 1 (by omega) (by omega)]; exact (hs.fit.rows k hk).2.1, .inr ?_⟩
          rw [e 0 (by omega) (by omega), e5, e 6 (by omega) (by omega), e 7 (by omega) (by omega), e 8 (by omega) (by omega), e9, e 10 (by omega) (by omega)]
          omega
        · have : Gd.heal m.E k i = m.E i := by
            unfold Gd.heal
            rw [Ft.set_row _ _ _ _ _ x, Ft.set_row _ _ _ _ _ x]
          rw [this]
          exact hs.fit.rows i hi
      · exact hs.fit.rows i hi
    refine ⟨hs.less (Cr.Less.next _ _ _ _) hfit, fun i hi => ?_⟩
    unfold Gd.nextG
    rw [if_pos hc]
    unfold Gd.give
    split
    · exact Cr.goldOf_bd (hg _ (by omega)).1 (hg _ (by omega)).2
    · exact hg i hi
  · unfold Gd.nextE Gd.nextI Gd.nextG
    rw [if_neg hc, if_neg hc, if_neg hc]
    exact ⟨hs, hg⟩

theorem Cr.MFit.does {s c : Nat → Int} {m : Cr.M} (h : Cr.MFit c m) (t : Int) {k : Nat} (hk : k < 32) (k0 : m.E k 0 ≠ 0) (v : Int) : Cr.MFit c (Cr.does s c m t k v) := by
  unfold Cr.does
  split
  · exact ⟨h.1.act hk k0 v false, h.2⟩
  · split
    · exact ⟨h.1, h.2⟩
    · exact h.next t v

theorem Cr.MFit.moved {s c : Nat → Int} {t how input : Int} {m n : Cr.M} (h : Cr.MFit c m) (hm : Cr.Moved s c t how input m n) : Cr.MFit c n := by
  unfold Cr.Moved at hm
  split at hm
  · rw [hm]; exact h
  · rename_i hc
    obtain ⟨v, _, rfl⟩ := hm
    obtain ⟨k, hk, he, k1, _⟩ := Md.hero_row (E := m.E) (seat := t) (by omega)
    rw [he, Int.toNat_natCast]
    exact h.does t hk (by omega) v

def Cr.MovedTo (s c how input : Nat → Int) : Nat → Cr.M → Cr.M → Prop
  | 0, m, n => n = m
  | t + 1, m, n => ∃ o, Cr.MovedTo s c how input t m o ∧ Cr.Moved s c (t : Int) (how t) (input t) o n

theorem Cr.MovedTo.one {s c how input : Nat → Int} : ∀ {t : Nat} {m n o : Cr.M}, Cr.MovedTo s c how input t m n → Cr.MovedTo s c how input t m o → o = n
  | 0, _, _, _, h, h' => by rw [h, h']
  | t + 1, _, _, _, h, h' => by
    obtain ⟨A, hA, hF⟩ := h
    obtain ⟨B, hB, hG⟩ := h'
    obtain rfl := Cr.MovedTo.one hA hB
    exact hF.one hG

theorem Cr.MFit.movedTo {s c how input : Nat → Int} : ∀ {t : Nat} {m n : Cr.M}, Cr.MFit c m → Cr.MovedTo s c how input t m n → Cr.MFit c n
  | 0, _, _, h, hm => by rw [hm]; exact h
  | t + 1, _, _, h, hm => by
    obtain ⟨o, ho, hn⟩ := hm
    exact (Cr.MFit.movedTo h ho).moved hn

def Cr.Prowls (s c : Nat → Int) (i : Nat) (E I F J : Nat → Nat → Int) : Prop :=
  if E i 0 = 0 ∨ E i 0 = 1 ∨ 0 < E i 10 then F = E ∧ J = I
  else ∃ v, Md.IsMonster s c E (i : Int) v ∧ F = (Cr.act s c E I i v true).1 ∧ J = (Cr.act s c E I i v true).2

theorem Cr.Prowls.one {s c : Nat → Int} {i : Nat} {E I F J G K : Nat → Nat → Int} (h : Cr.Prowls s c i E I F J) (h' : Cr.Prowls s c i E I G K) : G = F ∧ K = J := by
  unfold Cr.Prowls at h h'
  split at h
  · rename_i hc
    rw [if_pos hc] at h'
    rw [h.1, h.2, h'.1, h'.2]
    exact ⟨rfl, rfl⟩
  · rename_i hc
    rw [if_neg hc] at h'
    obtain ⟨v, hv, rfl, rfl⟩ := h
    obtain ⟨v', hv', rfl, rfl⟩ := h'
    rw [hv.one hv']
    exact ⟨rfl, rfl⟩

theorem Cr.Sane.prowls {s c : Nat → Int} {i : Nat} {E I F J : Nat → Nat → Int} (h : Cr.Sane c E I) (hi : i < 32) (hp : Cr.Prowls s c i E I F J) : Cr.Sane c F J := by
  unfold Cr.Prowls at hp
  split at hp
  · rw [hp.1, hp.2]; exact h
  · rename_i hc
    obtain ⟨v, _, rfl, rfl⟩ := hp
    exact h.act hi (by omega) v true

def Cr.ProwlTo (s c : Nat → Int) : Nat → (Nat → Nat → Int) → (Nat → Nat → Int) → (Nat → Nat → Int) → (Nat → Nat → Int) → Prop
  | 0, E, I, F, J => F = E ∧ J = I
  | i + 1, E, I, F, J => ∃ G K, Cr.ProwlTo s c i E I G K ∧ Cr.Prowls s c i G K F J

theorem Cr.ProwlTo.one {s c : Nat → Int} : ∀ {i : Nat} {E I F J G K : Nat → Nat → Int}, Cr.ProwlTo s c i E I F J → Cr.ProwlTo s c i E I G K → G = F ∧ K = J
  | 0, _, _, _, _, _, _, h, h' => by rw [h.1, h.2, h'.1, h'.2]; exact ⟨rfl, rfl⟩
  | i + 1, _, _, _, _, _, _, h, h' => by
    obtain ⟨A, B, hA, hF⟩ := h
    obtain ⟨C, D, hC, hG⟩ := h'
    obtain ⟨rfl, rfl⟩ := Cr.ProwlTo.one hA hC
    exact hF.one hG

theorem Cr.Sane.prowlTo {s c : Nat → Int} : ∀ {i : Nat} {E I F J : Nat → Nat → Int}, Cr.Sane c E I → i ≤ 32 → Cr.ProwlTo s c i E I F J → Cr.Sane c F J
  | 0, _, _, _, _, h, _, hp => by rw [hp.1, hp.2]; exact h
  | i + 1, _, _, _, _, h, hi, hp => by
    obtain ⟨G, K, hG, hF⟩ := hp
    exact (Cr.Sane.prowlTo h (by omega) hG).prowls (by omega) hF

def Cr.manned (E : Nat → Nat → Int) : Bool := decide (∃ t : Nat, t < 4 ∧ 0 ≤ Gd.hero E (t : Int))

def Cr.rats (s c : Nat → Int) (E : Nat → Nat → Int) : Nat → Nat → Int :=
  if s 1 % 16 = 0 ∧ En.first (En.atQ E (Gr.find 384 c 3 % 24) (Gr.find 384 c 3 / 24)) 32 < 0 then Cr.join E (Cr.one 2 0 (Gr.find 384 c 3).toNat) else E

theorem Cr.up_stair {c : Nat → Int} (hF : Nv.Floor c) : ∃ u : Nat, u < 384 ∧ Gr.find 384 c 3 = (u : Int) ∧ c u = 3 ∧ ∀ i, c i = 3 → i = u := by
  obtain ⟨u, v, hu, _, h3, _⟩ := hF.stairs
  refine ⟨u, hu, ?_, (h3 u).2 rfl, fun i hi => (h3 i).1 hi⟩
  have key : ∀ n k : Nat, k ≤ u → u < k + n → Gr.findFrom c 3 n k = (u : Int) := by
    intro n
    induction n with
    | zero => intro k h1 h2; omega
    | succ n ih =>
      intro k h1 h2
      unfold Gr.findFrom
      by_cases e : c k = 3
      · rw [if_pos e, (h3 k).1 e]
      · rw [if_neg e]
        refine ih (k + 1) ?_ (by omega)
        by_cases ek : k = u
        · exact absurd ((h3 k).2 ek) e
        · omega
  exact key 384 0 (by omega) (by omega)

theorem Cr.Sane.rats {s c : Nat → Int} {E I : Nat → Nat → Int} (h : Cr.Sane c E I) (hF : Nv.Floor c) : Cr.Sane c (Cr.rats s c E) I := by
  unfold Cr.rats
  split
  · rename_i hc
    obtain ⟨u, hu, hfu, hcu, _⟩ := Cr.up_stair hF
    rw [hfu] at hc
    rw [hfu, Int.toNat_natCast]
    exact h.join (by omega) (by omega) hu ⟨by rw [hcu]; rfl, hc.2⟩ (.inr ⟨by omega, rfl⟩)
  · exact h

theorem Cr.Sane.ail {c : Nat → Int} {E I : Nat → Nat → Int} (h : Cr.Sane c E I) : Cr.Sane c (Ft.ailE E I 32).1 (Ft.ailE E I 32).2 :=
  h.less (Cr.Less.ail E I 32) (h.fit.ail 32 (by omega))

end Go.Proofs.YtbanjoflgoiegaaGreat

namespace Go.Proofs.YtbanjoflgoiegaaGreat
open Go.RowKit

theorem Arr.three {w : World} {g : Nat} {T : TypeId} {F : Nat → Value} (h : Arr w g T 3 F) : w.cell? ⟨g, 0, none⟩ = some (F 0) ∧ w.cell? ⟨g, 1, none⟩ = some (F 1) ∧ w.cell? ⟨g, 2, none⟩ = some (F 2) := ⟨h.cell (by omega), h.cell (by omega), h.cell (by omega)⟩

end Go.Proofs.YtbanjoflgoiegaaGreat

namespace Go.Proofs.YtbanjoflgoiegaaGreat
open Go.RowKit

namespace Gn

def nzs (c : Nat → Int) : Nat → Nat
  | 0 => 0
  | n + 1 => nzs c n + if c n = 0 then 0 else 1

theorem nzs_mono (c : Nat → Int) {m n : Nat} (h : m ≤ n) : nzs c m ≤ nzs c n := by
  induction n with
  | zero => obtain rfl : m = 0 := by omega
            exact Nat.le_refl _
  | succ n ih =>
    by_cases e : m = n + 1
    · rw [e]; exact Nat.le_refl _
    · have := ih (by omega)
      rw [nzs]
      omega

theorem nzs_three (c : Nat → Int) (a : Nat) (h0 : c a ≠ 0) (h1 : c (a + 1) ≠ 0) (h2 : c (a + 2) ≠ 0) : nzs c (a + 3) = nzs c a + 3 := by
  rw [show a + 3 = a + 2 + 1 by omega, nzs, show a + 2 = a + 1 + 1 by omega, nzs, nzs, if_neg h0, if_neg h1, if_neg h2]

theorem Facts.six {d : Dice} (hd : Fair d) {c F : Nat → Int} {far : Nat} (h : Facts d c F far) : 6 ≤ nzs c 384 := by
  have hb := room_bd hd 0
  obtain ⟨a, ha⟩ : ∃ a : Nat, ry d 0 * 24 + rx d 0 = (a : Int) := ⟨(ry d 0 * 24 + rx d 0).toNat, by omega⟩
  have hin : ∀ x y : Int, 0 ≤ x → x < 3 → 0 ≤ y → y < 2 → c ((ry d 0 + y) * 24 + (rx d 0 + x)).toNat ≠ 0 := by
    intro x y h1 h2 h3 h4
    exact (h.nz _).2 ((dug_nz d 5 _).2 (.inl ⟨0, by omega, inRoom_at hd (by omega) (by omega) (by omega) (by omega)⟩))
  have e : ∀ x y : Int, ∀ n : Nat, (a : Int) + y * 24 + x = (n : Int) → ((ry d 0 + y) * 24 + (rx d 0 + x)).toNat = n := by
    intro x y n hn
    omega
  have h00 := hin 0 0 (by omega) (by omega) (by omega) (by omega)
  have h10 := hin 1 0 (by omega) (by omega) (by omega) (by omega)
  have h20 := hin 2 0 (by omega) (by omega) (by omega) (by omega)
  have h01 := hin 0 1 (by omega) (by omega) (by omega) (by omega)
  have h11 := hin 1 1 (by omega) (by omega) (by omega) (by omega)
  have h21 := hin 2 1 (by omega) (by omega) (by omega) (by omega)
  rw [e 0 0 a (by omega)] at h00
  rw [e 1 0 (a + 1) (by omega)] at h10
  rw [e 2 0 (a + 2) (by omega)] at h20
  rw [e 0 1 (a + 24) (by omega)] at h01
  rw [e 1 1 (a + 24 + 1) (by omega)] at h11
  rw [e 2 1 (a + 24 + 2) (by omega)] at h21
  have n1 := nzs_three c a h00 h10 h20
  have n2 := nzs_three c (a + 24) h01 h11 h21
  have m1 := nzs_mono c (show a + 3 ≤ a + 24 by omega)
  have m2 := nzs_mono c (show a + 24 + 3 ≤ 384 by omega)
  omega

def off : Nat → Int | 0 => -24 | 1 => 1 | 2 => 24 | _ => -1

theorem off_nb {i e n : Nat} (he : e < 4) (h : Gr.nbIn i e) (hn : Gr.nbOf i e = n) : (i : Int) + off e = (n : Int) := by
  have := Gr.nb_eq h
  rw [hn] at this
  match e, he with
  | 0, _ => simp only [off, Gr.dxOf, Gr.dyOf] at *; omega
  | 1, _ => simp only [off, Gr.dxOf, Gr.dyOf] at *; omega
  | 2, _ => simp only [off, Gr.dxOf, Gr.dyOf] at *; omega
  | 3, _ => simp only [off, Gr.dxOf, Gr.dyOf] at *; omega

theorem Facts.beside {d : Dice} (hd : Fair d) {c F : Nat → Int} {far : Nat} (h : Facts d c F far) (i : Nat) (hi : i < 384) (hc : c i ≠ 0) : ∃ e n : Nat, e < 4 ∧ (i : Int) + off e = (n : Int) ∧ c n ≠ 0 := by
  have h0 := (h.reach hd i hi).2 hc
  by_cases hz : F i = 0
  · have hu := (h.fld.zero i hi).1 hz
    obtain ⟨b1, _, b3, _⟩ := beside_up hd
    refine ⟨3, up d - 1, by omega, ?_, (h.nz _).2 b1⟩
    rw [hu]
    simp only [off]
    omega
  · obtain ⟨_, j, e, hj, he, hin, hnb, hv⟩ := h.fld.back i hi (by omega)
    obtain ⟨k1, k2⟩ := Gr.nb_back hj he hin
    rw [hnb] at k1 k2
    exact ⟨Gr.opp e, j, Gr.opp_lt he, off_nb (Gr.opp_lt he) k1 k2, (h.reach hd j hj).1 (by omega)⟩

end Gn

structure LevHold (w : World) (B G nE nI cE cI : Nat) (aE aI : Option Addr) (c : Nat → Int) (wr : World) : Prop where
  box : Arr wr B 80 3 (fun j => #[Value.slice (some ⟨G, 0, none⟩) 384 384, .slice aE nE cE, .slice aI nI cI][j]?.getD undef)
  cells : Arr wr G 5 384 (Byts c)
  grown : w.grownBy wr none

theorem LevHold.on {w : World} {B G nE nI cE cI : Nat} {aE aI : Option Addr} {c : Nat → Int} {wr wx : World} (h : LevHold w B G nE nI cE cI aE aI c wr) (hg : wr.grownBy wx none) : LevHold w B G nE nI cE cI aE aI c wx :=
  ⟨h.box.grown hg (by simp), h.cells.grown hg (by simp), grown_none h.grown hg⟩

theorem LevHold.c0 {w : World} {B G nE nI cE cI : Nat} {aE aI : Option Addr} {c : Nat → Int} {wr : World} (h : LevHold w B G nE nI cE cI aE aI c wr) : wr.cell? ⟨B, 0, none⟩ = some (.slice (some ⟨G, 0, none⟩) 384 384) := h.box.cell (by omega)
theorem LevHold.c1 {w : World} {B G nE nI cE cI : Nat} {aE aI : Option Addr} {c : Nat → Int} {wr : World} (h : LevHold w B G nE nI cE cI aE aI c wr) : wr.cell? ⟨B, 1, none⟩ = some (.slice aE nE cE) := h.box.cell (by omega)
theorem LevHold.c2 {w : World} {B G nE nI cE cI : Nat} {aE aI : Option Addr} {c : Nat → Int} {wr : World} (h : LevHold w B G nE nI cE cI aE aI c wr) : wr.cell? ⟨B, 2, none⟩ = some (.slice aI nI cI) := h.box.cell (by omega)

end Go.Proofs.YtbanjoflgoiegaaGreat

namespace Go.Proofs.YtbanjoflgoiegaaGreat
open Go.RowKit

end Go.Proofs.YtbanjoflgoiegaaGreat
