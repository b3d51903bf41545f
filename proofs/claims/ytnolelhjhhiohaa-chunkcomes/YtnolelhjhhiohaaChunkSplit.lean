/-
  The document's Split.
-/
import Derived.Test.YtnolelhjhhiohaaChunkPut
import Derived.Test.YtnolelhjhhiohaaChunkRef
namespace Go.Proofs.Ytnolelhjhhiohaa
open Go.RowKit

/-- Piece j of bytes, and the first k pieces. -/
def Ck.pc (l : List Int) (j : Nat) : List Int := (l.drop (64 * j)).take 64
def Ck.pcs (l : List Int) (k : Nat) : List (List Int) := (List.range k).map (Ck.pc l)

theorem Ck.pcs_more (l : List Int) (k : Nat) : Ck.pcs l (k + 1) = Ck.pcs l k ++ [Ck.pc l k] := by
  unfold Ck.pcs
  rw [List.range_succ, List.map_append]
  rfl

theorem Ck.pcs_len (l : List Int) (k : Nat) : (Ck.pcs l k).length = k := by
  unfold Ck.pcs
  simp

theorem Ck.pc_len (l : List Int) (k : Nat) : (Ck.pc l k).length = min 64 (l.length - 64 * k) := by
  unfold Ck.pc
  rw [List.length_take, List.length_drop]

/-- Pieces as they lie: rows of bytes, each in a block of its own. -/
structure Ck.Lies (x : World) (base : Nat) (v : Value) (Vs : List Value) (ps : List (List Int)) : Prop where
  own : x.ownsRow base 22 1 v ps.length Vs
  each : ∀ (k : Nat) (u : Value) (l : List Int), Vs[k]? = some u → ps[k]? = some l → x.ownsRow base 5 1 u l.length (Ck.bys l) ∧ u ≠ .slice none 0 0

theorem Ck.apart {x : World} {base base' : Nat} {T U : TypeId} {z z' : Nat} {v u : Value} {n m : Nat} {xs ys : List Value} (h : x.ownsRow base T z v n xs) (k : x.ownsRow base' U z' u m ys) (hT : T ≠ U) : ∀ b, v.ownBlock = some b → u.ownBlock ≠ some b := by
  intro b e1 e2
  rcases h.2 with ⟨rfl, _⟩ | ⟨g, cap, cur, rfl, _, hc, _⟩
  · cases e1
  · rcases k.2 with ⟨rfl, _⟩ | ⟨g', cap', cur', rfl, _, hc', _⟩
    · cases e2
    · simp [Value.ownBlock] at e1 e2
      subst e1
      subst e2
      rw [hc] at hc'
      simp only [Option.some.injEq, Obj.cells.injEq] at hc'
      exact hT hc'.2.1

/-- Other blocks may turn. -/
theorem Ck.Lies.turn {B : Nat → Prop} {x y : World} {base : Nat} {v : Value} {Vs : List Value} {ps : List (List Int)} (H : Ck.Lies x base v Vs ps) (ht : Turn B x y) (hB : ∀ k, base ≤ k → ¬ B k) : Ck.Lies y base v Vs ps :=
  ⟨owns_turned H.own ht (fun k e => hB k (H.own.lt k e).1), fun k u l h1 h2 => ⟨owns_turned (H.each k u l h1 h2).1 ht (fun j e => hB j ((H.each k u l h1 h2).1.lt j e).1), (H.each k u l h1 h2).2⟩⟩

theorem Ck.Lies.on {x y : World} {base : Nat} {v : Value} {Vs : List Value} {ps : List (List Int)} (H : Ck.Lies x base v Vs ps) (hg : x.grownBy y none) : Ck.Lies y base v Vs ps :=
  H.turn (B := fun _ => False) (Turn.new hg) (fun _ _ q => q)

/-- One more piece: u was made (y), laid into a row of one (z0), and appended (z). -/
theorem Ck.Lies.more {x y z0 z : World} {base : Nat} {v v' u : Value} {Vs : List Value} {ps : List (List Int)} {l : List Int} (H : Ck.Lies x base v Vs ps) (hxy : x.grownBy y none) (hu : y.ownsRow base 5 1 u l.length (Ck.bys l)) (hn : u ≠ .slice none 0 0) (hyz : y.grownBy z0 none) (hown : z.ownsRow base 22 1 v' (ps.length + 1) (Vs ++ [u])) (hg : z0.grownBy z v.ownBlock) (hl : Vs.length = ps.length) : Ck.Lies z base v' (Vs ++ [u]) (ps ++ [l]) := by
  have hz0 := H.on (grown_trans hxy hyz)
  have hu0 : z0.ownsRow base 5 1 u l.length (Ck.bys l) := owns_turned (B := fun _ => False) hu (Turn.new hyz) (fun _ _ q => q)
  have tz : Turn (fun k => v.ownBlock = some k) z0 z := Turn.grown hg (fun k e => e)
  refine ⟨by rw [List.length_append]; exact hown, fun k w m h1 h2 => ?_⟩
  by_cases hk : k < Vs.length
  · rw [List.getElem?_append_left hk] at h1
    rw [List.getElem?_append_left (by omega)] at h2
    obtain ⟨p1, p2⟩ := hz0.each k w m h1 h2
    exact ⟨owns_turned p1 tz (fun j e q => Ck.apart hz0.own p1 (by decide) j q e), p2⟩
  · rw [List.getElem?_append_right (by omega)] at h1
    rw [List.getElem?_append_right (by omega)] at h2
    have hk0 : k - Vs.length = 0 := by
      have := (List.getElem?_eq_some_iff.1 h1).1
      simp at this
      omega
    rw [hk0] at h1
    rw [show k - ps.length = 0 by omega] at h2
    simp at h1 h2
    subst h1
    subst h2
    exact ⟨owns_turned hu0 tz (fun j e q => Ck.apart hz0.own hu0 (by decide) j q e), hn⟩

theorem refSplit_many (a : Option Addr) (n cap : Nat) (w : World) (h : 1024 < n) :
    Calls Try.prog 11 #[.slice a n cap] w fun e w' => e = .returned (.tuple #[.slice none 0 0, .int .i64 4]) ∧ w' = w := by
  have h' : (1024 : Int) < (n : Int) := by omega
  go_enter Try.func11, Try.ntmps11
  go_wp2
  go_ret2
  exact ⟨rfl, rfl⟩

/-- What Split answers: k pieces. -/
def Ck.Splits (w : World) (ps : List (List Int)) (e : Ending) (w' : World) : Prop :=
  ∃ v Vs, e = .returned (.tuple #[v, .int .i64 0]) ∧ Vs.length = ps.length ∧ Ck.Lies w' w.heap.size v Vs ps ∧ w.grownBy w' none

theorem refSplit_none (a : Option Addr) (cap : Nat) (w : World) :
    Calls Try.prog 11 #[.slice a 0 cap] w (Ck.Splits w [[]]) := by
  go_enter Try.func11, Try.ntmps11
  go_wp2
  go_ret2
  have g1 : w.grownBy (w.alloc (.cells #[] 5)) none := World.grownBy_alloc _ _ _
  have g2 : (w.alloc (.cells #[] 5)).grownBy ((w.alloc (.cells #[] 5)).alloc (.cells #[.slice (some ⟨w.heap.size, 0, none⟩) 0 0] 22)) none := World.grownBy_alloc _ _ _
  have o1 := World.ownsRow_lit (base := w.heap.size) (e := 5) (size := 1) w #[] 0 (Nat.le_refl _) (by unfold maxLen; omega) rfl
  have o2 := World.ownsRow_lit (base := w.heap.size) (e := 22) (size := 1) (w.alloc (.cells #[] 5)) #[.slice (some ⟨w.heap.size, 0, none⟩) 0 0] 1 (by simp) (by unfold maxLen; omega) rfl
  rw [show (w.alloc (.cells #[] 5)).heap.size = w.heap.size + 1 by simp] at o2
  refine ⟨_, [.slice (some ⟨w.heap.size, 0, none⟩) 0 0], rfl, rfl, ⟨o2, fun k u l h1 h2 => ?_⟩, grown_trans g1 g2⟩
  have hk : k = 0 := by
    have := (List.getElem?_eq_some_iff.1 h1).1
    simp at this
    exact this
  subst hk
  simp at h1 h2
  subst h1
  subst h2
  exact ⟨owns_turned (B := fun _ => False) o1 (Turn.new g2) (fun _ _ q => q), by simp⟩

theorem info_bys : (Try.prog.info? 22).map (fun i => (i.zero, i.size, i.bytes)) = some (some (.slice none 0 0), 1, 24) := by kernel_rfl

/-- Split on its way: k pieces. -/
structure Ck.Sp (w x : World) (l : List Int) (v : Value) (k : Nat) : Prop where
  lies : ∃ Vs, Vs.length = (Ck.pcs l k).length ∧ Ck.Lies x w.heap.size v Vs (Ck.pcs l k)
  bel : w.grownBy x none

set_option maxRecDepth 4000 in
set_option maxHeartbeats 3200000 in
theorem refSplit_some (b off n cap : Nat) (l : List Int) (w : World) (hn : l.length = n) (h1 : 1 ≤ n) (h2 : n ≤ 1024) (hc : n ≤ cap) (hcm : cap ≤ maxLen) (hcel : ∀ j, j < n → w.cell? ⟨b, off + j, none⟩ = some (.int .u8 (l.getD j 0))) :
    Calls Try.prog 11 #[.slice (some ⟨b, off, none⟩) n cap] w (Ck.Splits w (Ck.pcs l ((n + 63) / 64))) := by
  have hb : b < w.heap.size := Go.block_lt_of_cell (hcel 0 (by omega))
  have hcA : Hid (∀ x, w.grownBy x none → ∀ at_ m, at_ + m ≤ n → 0 < m → ∀ j u, (Ck.bys ((l.drop at_).take m))[j]? = some u → x.cell? ((⟨b, off + at_, none⟩ : Addr).add j) = some u) := fun x hx at_ m hm hm0 j u hj => by
    have hjm : j < m := by
      have h := (List.getElem?_eq_some_iff.1 hj).1
      unfold Ck.bys at h
      rw [List.length_map, List.length_take] at h
      omega
    have e : u = .int .u8 (l.getD (at_ + j) 0) := by
      unfold Ck.bys at hj
      rw [List.getElem?_map, List.getElem?_take, if_pos hjm, List.getElem?_drop, List.getElem?_eq_getElem (by omega)] at hj
      simp at hj
      rw [← hj, List.getD, List.getElem?_eq_getElem (by omega)]
      rfl
    rw [e, Go.WideShapes.add_plain, Nat.add_assoc]
    exact (grown_cell hx b _ hb (by simp)).trans (hcel (at_ + j) (by omega))
  have g1 : (1 : Int) ≤ (n : Int) := by omega
  have g2 : (n : Int) ≤ 1024 := by omega
  have g3 : (n : Int) ≤ (cap : Int) := by omega
  have g0 : ¬ (1024 : Int) < (n : Int) := by omega
  have gz : ((n : Int) == 0) = false := by simp; omega
  unfold maxLen at hcm
  have HN := hide (And.intro hn (And.intro h1 h2))
  have H0 : Hid (Ck.Sp w w l (.slice none 0 0) 0) := ⟨⟨[], rfl, World.ownsRow_nil _ _ _ _, fun k u m h => by simp at h⟩, World.grownBy.refl _ _⟩
  obtain ⟨i0, hi, hz0, hz1, hz2⟩ := info_parts info_by
  obtain ⟨i1, ki, kz0, kz1, kz2⟩ := info_parts info_bys
  have hpost : Hid (∀ v x k, Ck.Sp w x l v k → k = (n + 63) / 64 → Ck.Splits w (Ck.pcs l ((n + 63) / 64)) (.returned (.tuple #[v, .int .i64 0])) x) := fun v x k hx e => by
    obtain ⟨⟨Vs, q1, q2⟩, q3⟩ := hx
    subst e
    exact ⟨v, Vs, rfl, q1, q2, q3⟩
  obtain ⟨D, hD⟩ : ∃ D, Ck.Splits w (Ck.pcs l ((n + 63) / 64)) = D := ⟨_, rfl⟩
  rw [hD] at hpost ⊢
  clear hD hcel hb hn h1 h2 hc
  go_enter Try.func11, Try.ntmps11
  go_wp2_with fail
  go_loopw [4, 5] (fun v4 v5 wr => ∃ k : Nat, k ≤ (n + 63) / 64 ∧ v5 = .int .i64 ((64 * k : Nat) : Int) ∧ Hid (Ck.Sp w wr l v4 k)) (fun _ v5 _ => 2000 - (intOf v5).toNat)
  case atStart => exact ⟨0, Nat.zero_le _, rfl, H0⟩
  case round =>
    clear H0 gz g0
    obtain ⟨k, hk, rfl, hX⟩ := hrel
    obtain ⟨t, ht⟩ : ∃ t, 64 * k = t := ⟨_, rfl⟩
    rw [ht]
    have Ht := hide ht
    have HK := hide hk
    by_cases hlt : t < n
    · have hlt' : (t : Int) < (n : Int) := by omega
      clear hk ht
      have g5 : (0 : Int) ≤ (t : Int) := by omega
      have hoz : Hid ((wr.alloc (.cells #[] 5)).ownsRow w.heap.size 5 1 (.slice (some ⟨wr.heap.size, 0, none⟩) 0 0) 0 []) := World.ownsRow_lit (base := w.heap.size) (e := 5) (size := 1) wr #[] 0 (unhide hX).bel.size (by unfold maxLen; omega) rfl
      have hone : Hid (∀ u ∈ Ck.bys (Ck.pc l k), u.oneCell' = true) := fun u hu => by
        obtain ⟨q, -, rfl⟩ := List.mem_map.1 hu
        rfl
      by_cases hA : (t : Int) + 64 ≤ (n : Int)
      · obtain ⟨e, hte⟩ : ∃ e : Nat, (t : Int) + 64 = (e : Int) := ⟨t + 64, by omega⟩
        have HE : Hid (t + 64 = e ∧ e ≤ n) := (show t + 64 = e ∧ e ≤ n by omega)
        have hA2 : ¬ (n : Int) < (e : Int) := by omega
        have g6 : (e : Int) ≤ (cap : Int) := by omega
        have g7 : (t : Int) ≤ (e : Int) := by omega
        have hlen2 : Hid ((Ck.bys (Ck.pc l k)).length = (e - t) * 1) := by
          show (Ck.bys (Ck.pc l k)).length = (e - t) * 1
          unfold Ck.bys
          rw [List.length_map, Ck.pc_len, (unhide HN).1]
          have := unhide Ht
          omega
        have hpl : Hid ((Ck.pc l k).length = e - t) := by
          show (Ck.pc l k).length = e - t
          rw [Ck.pc_len, (unhide HN).1]
          have := unhide Ht
          omega
        have hnews : Hid (∀ j u, (Ck.bys (Ck.pc l k))[j]? = some u → (wr.alloc (.cells #[] 5)).cell? ((⟨b, off + t, none⟩ : Addr).add j) = some u) := fun j u hj => by
          refine unhide hcA _ (grown_alloc (unhide hX).bel _) t (e - t) (by omega) (by omega) j u ?_
          unfold Ck.pc at hj
          rw [unhide Ht] at hj
          have e : (l.drop t).take 64 = (l.drop t).take (e - t) := List.take_eq_take_iff.2 (by have hl := (unhide HN).1; rw [List.length_drop]; omega)
          rw [← e]
          exact hj
        go_wp2_with (at_builtin; refine wpList_append_own _ rfl _ _ 22 rfl w.heap.size 5 i0 (.int .u8 0) 1 1 Try.underlying22 hi hz0 hz1 hz2 rfl (by decide) _ 0 [] rfl (unhide hoz) ⟨b, off + t, none⟩ (e - t) _ (Ck.bys (Ck.pc l k)) rfl (unhide hlen2) (unhide hnews) (unhide hone) ?_ ?_ ?_ ?_)
        · unfold maxLen; omega
        · omega
        · have := (unhide hX).bel.size; first | omega | (simp; omega)
        intro v6 w6 hown hgrow hnil
        try rw [Nat.zero_add] at hown
        try rw [List.nil_append] at hown
        rw [← unhide hpl] at hown
        have hvn : v6 ≠ .slice none 0 0 := hnil
        have hg6 : wr.grownBy w6 none := grown_own (World.grownBy_alloc wr _ none) hgrow (fun q e => by cases e; exact Nat.le_refl _)
        obtain ⟨g6, c6, rfl⟩ : ∃ g c, v6 = .slice (some ⟨g, 0, none⟩) (Ck.pc l k).length c := by
          rcases hown.2 with ⟨q, _⟩ | ⟨g, c, cur, q, _⟩
          · exact absurd q hvn
          · exact ⟨g, c, q⟩
        obtain ⟨⟨Vs, hV1, hV2⟩, hV3⟩ := unhide hX
        have hown4 := hide ((hV2.on hg6).own)
        have hfin := hide (fun z v' (h1 : z.ownsRow w.heap.size 22 1 v' ((Ck.pcs l k).length + 1) (Vs ++ [.slice (some ⟨g6, 0, none⟩) (Ck.pc l k).length c6])) (h2 : (w6.alloc (.cells #[.slice (some ⟨g6, 0, none⟩) (Ck.pc l k).length c6] 22)).grownBy z u4.ownBlock) => (show Ck.Sp w z l v' (k + 1) from ⟨⟨Vs ++ [.slice (some ⟨g6, 0, none⟩) (Ck.pc l k).length c6], by rw [Ck.pcs_more, List.length_append, List.length_append, hV1]; rfl, by rw [Ck.pcs_more]; exact hV2.more hg6 hown hvn (World.grownBy_alloc _ _ _) h1 h2 hV1⟩, grown_own (grown_trans hV3 (grown_trans hg6 (World.grownBy_alloc _ _ _))) h2 (fun q e => (hV2.own.lt q e).1)⟩))
        have hsz6 : Hid (w.heap.size ≤ w6.heap.size) := Nat.le_trans hV3.size hg6.size
        have hll : Hid ((Ck.pcs l k).length ≤ 16) := by
          show (Ck.pcs l k).length ≤ 16
          rw [Ck.pcs_len]
          have := unhide Ht
          omega
        obtain ⟨nn, hnn⟩ : ∃ nn, (Ck.pcs l k).length = nn := ⟨_, rfl⟩
        obtain ⟨np, hnp⟩ : ∃ np, (Ck.pc l k).length = np := ⟨_, rfl⟩
        rw [hnn] at hown4 hfin hll
        rw [hnp] at hfin ⊢
        clear hnn hnp hown hvn hnil hgrow hg6 hV1 hV2 hV3 hlen2 hnews hpl
        go_wp2_with (at_builtin; refine wpList_append_own _ rfl _ _ 24 rfl w.heap.size 22 i1 (.slice none 0 0) 1 24 Try.underlying24 ki kz0 kz1 kz2 rfl (by decide) _ _ _ rfl ((unhide hown4).alloc _) ⟨w6.heap.size, 0, none⟩ 1 1 [.slice (some ⟨g6, 0, none⟩) np c6] rfl rfl (Ck.news w6 _ _) ?_ ?_ ?_ ?_ ?_)
        · first | rfl | (intro u hu; simp only [List.mem_cons, List.not_mem_nil, or_false] at hu; rcases hu with rfl; rfl) | simp [Value.oneCell']
        · have := unhide hll; unfold maxLen; omega
        · have := unhide hll; omega
        · have := unhide hsz6; first | omega | (simp; omega)
        intro v7 w7 hown hgrow _
        have hX7 := hide (unhide hfin w7 v7 hown hgrow)
        clear hown hgrow hfin
        go_wp2_with fail
        go_roundw
        case rel => exact ⟨k + 1, by have := unhide Ht; omega, by rw [show 64 * (k + 1) = e by have := unhide Ht; have := unhide HE; omega], hX7⟩
        case measure => simp [intOf]; omega
      · have hA2 : (n : Int) < (t : Int) + 64 := by omega
        have g6 : (t : Int) ≤ (n : Int) := by omega
        have hlen2 : Hid ((Ck.bys (Ck.pc l k)).length = (n - t) * 1) := by
          show (Ck.bys (Ck.pc l k)).length = (n - t) * 1
          unfold Ck.bys
          rw [List.length_map, Ck.pc_len, (unhide HN).1]
          have := unhide Ht
          omega
        have hpl : Hid ((Ck.pc l k).length = n - t) := by
          show (Ck.pc l k).length = n - t
          rw [Ck.pc_len, (unhide HN).1]
          have := unhide Ht
          omega
        have hnews : Hid (∀ j u, (Ck.bys (Ck.pc l k))[j]? = some u → (wr.alloc (.cells #[] 5)).cell? ((⟨b, off + t, none⟩ : Addr).add j) = some u) := fun j u hj => by
          refine unhide hcA _ (grown_alloc (unhide hX).bel _) t (n - t) (by omega) (by omega) j u ?_
          unfold Ck.pc at hj
          rw [unhide Ht] at hj
          have e : (l.drop t).take 64 = (l.drop t).take (n - t) := List.take_eq_take_iff.2 (by have hl := (unhide HN).1; rw [List.length_drop]; omega)
          rw [← e]
          exact hj
        go_wp2_with (at_builtin; refine wpList_append_own _ rfl _ _ 22 rfl w.heap.size 5 i0 (.int .u8 0) 1 1 Try.underlying22 hi hz0 hz1 hz2 rfl (by decide) _ 0 [] rfl (unhide hoz) ⟨b, off + t, none⟩ (n - t) _ (Ck.bys (Ck.pc l k)) rfl (unhide hlen2) (unhide hnews) (unhide hone) ?_ ?_ ?_ ?_)
        · unfold maxLen; omega
        · omega
        · have := (unhide hX).bel.size; first | omega | (simp; omega)
        intro v6 w6 hown hgrow hnil
        try rw [Nat.zero_add] at hown
        try rw [List.nil_append] at hown
        rw [← unhide hpl] at hown
        have hvn : v6 ≠ .slice none 0 0 := hnil
        have hg6 : wr.grownBy w6 none := grown_own (World.grownBy_alloc wr _ none) hgrow (fun q e => by cases e; exact Nat.le_refl _)
        obtain ⟨g6, c6, rfl⟩ : ∃ g c, v6 = .slice (some ⟨g, 0, none⟩) (Ck.pc l k).length c := by
          rcases hown.2 with ⟨q, _⟩ | ⟨g, c, cur, q, _⟩
          · exact absurd q hvn
          · exact ⟨g, c, q⟩
        obtain ⟨⟨Vs, hV1, hV2⟩, hV3⟩ := unhide hX
        have hown4 := hide ((hV2.on hg6).own)
        have hfin := hide (fun z v' (h1 : z.ownsRow w.heap.size 22 1 v' ((Ck.pcs l k).length + 1) (Vs ++ [.slice (some ⟨g6, 0, none⟩) (Ck.pc l k).length c6])) (h2 : (w6.alloc (.cells #[.slice (some ⟨g6, 0, none⟩) (Ck.pc l k).length c6] 22)).grownBy z u4.ownBlock) => (show Ck.Sp w z l v' (k + 1) from ⟨⟨Vs ++ [.slice (some ⟨g6, 0, none⟩) (Ck.pc l k).length c6], by rw [Ck.pcs_more, List.length_append, List.length_append, hV1]; rfl, by rw [Ck.pcs_more]; exact hV2.more hg6 hown hvn (World.grownBy_alloc _ _ _) h1 h2 hV1⟩, grown_own (grown_trans hV3 (grown_trans hg6 (World.grownBy_alloc _ _ _))) h2 (fun q e => (hV2.own.lt q e).1)⟩))
        have hsz6 : Hid (w.heap.size ≤ w6.heap.size) := Nat.le_trans hV3.size hg6.size
        have hll : Hid ((Ck.pcs l k).length ≤ 16) := by
          show (Ck.pcs l k).length ≤ 16
          rw [Ck.pcs_len]
          have := unhide Ht
          omega
        obtain ⟨nn, hnn⟩ : ∃ nn, (Ck.pcs l k).length = nn := ⟨_, rfl⟩
        obtain ⟨np, hnp⟩ : ∃ np, (Ck.pc l k).length = np := ⟨_, rfl⟩
        rw [hnn] at hown4 hfin hll
        rw [hnp] at hfin ⊢
        clear hnn hnp hown hvn hnil hgrow hg6 hV1 hV2 hV3 hlen2 hnews hpl
        go_wp2_with (at_builtin; refine wpList_append_own _ rfl _ _ 24 rfl w.heap.size 22 i1 (.slice none 0 0) 1 24 Try.underlying24 ki kz0 kz1 kz2 rfl (by decide) _ _ _ rfl ((unhide hown4).alloc _) ⟨w6.heap.size, 0, none⟩ 1 1 [.slice (some ⟨g6, 0, none⟩) np c6] rfl rfl (Ck.news w6 _ _) ?_ ?_ ?_ ?_ ?_)
        · first | rfl | (intro u hu; simp only [List.mem_cons, List.not_mem_nil, or_false] at hu; rcases hu with rfl; rfl) | simp [Value.oneCell']
        · have := unhide hll; unfold maxLen; omega
        · have := unhide hll; omega
        · have := unhide hsz6; first | omega | (simp; omega)
        intro v7 w7 hown hgrow _
        have hX7 := hide (unhide hfin w7 v7 hown hgrow)
        clear hown hgrow hfin
        go_wp2_with fail
        go_roundw
        case rel => exact ⟨k + 1, by have := unhide Ht; omega, by rw [show 64 * (k + 1) = t + 64 by have := unhide Ht; omega]; go_num, hX7⟩
        case measure => simp [intOf]; omega
    · have hge : ¬ (t : Int) < (n : Int) := by omega
      have hfin := hide (unhide hpost _ _ _ (unhide hX) (by omega))
      clear hlt hk ht
      go_wp2
      exact unhide hfin

end Go.Proofs.Ytnolelhjhhiohaa
