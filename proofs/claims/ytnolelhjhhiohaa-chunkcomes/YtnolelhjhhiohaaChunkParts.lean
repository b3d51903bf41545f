/-
  The project's Split.
-/
import Derived.Test.YtnolelhjhhiohaaChunkSmall
namespace Go.Proofs.Ytnolelhjhhiohaa
open Go.RowKit

theorem ckSplit_many (a : Option Addr) (n cap : Nat) (w : World) (h : 1024 < n) :
    Calls Try.prog 10 #[.slice a n cap] w fun e w' => e = .returned (.tuple #[.slice none 0 0, .int .i64 4]) ∧ w' = w := by
  have h' : (1024 : Int) < (n : Int) := by omega
  go_enter Try.func10, Try.ntmps10
  go_wp2
  go_ret2
  exact ⟨rfl, rfl⟩

/-- One more piece is made of bytes that lie there, and laid behind the others. -/
theorem Ck.Sp.more {w x y z0 z : World} {l pl : List Int} {v v' u : Value} {Vs : List Value} {ps : List (List Int)} (H : Ck.Lies x w.heap.size v Vs ps) (hl : Vs.length = ps.length) (hb : w.grownBy x none) (hxy : x.grownBy y none) (hu : y.ownsRow x.heap.size 5 1 u pl.length (Ck.bys pl)) (hn : u ≠ .slice none 0 0) (hyz : y.grownBy z0 none) (hown : z.ownsRow w.heap.size 22 1 v' (ps.length + 1) (Vs ++ [u])) (hg : z0.grownBy z v.ownBlock) (hpl : l = pl) :
    (∃ Vs', Vs'.length = (ps ++ [l]).length ∧ Ck.Lies z w.heap.size v' Vs' (ps ++ [l])) ∧ w.grownBy z none := by
  subst hpl
  have hu2 : y.ownsRow w.heap.size 5 1 u l.length (Ck.bys l) := by
    obtain ⟨h1, h2⟩ := hu
    refine ⟨h1, ?_⟩
    rcases h2 with h2 | ⟨g, cap, cur, rfl, hg, hc⟩
    · exact .inl h2
    · exact .inr ⟨g, cap, cur, rfl, Nat.le_trans hb.size hg, hc⟩
  refine ⟨⟨Vs ++ [u], by rw [List.length_append, List.length_append, hl]; rfl, H.more hxy hu2 hn hyz hown hg hl⟩, ?_⟩
  exact grown_own (grown_trans hb (grown_trans hxy hyz)) hg (fun i e => (H.own.lt i e).1)

set_option maxRecDepth 4000 in
set_option maxHeartbeats 3200000 in
/-- The last piece: what is left. -/
theorem ckSplit_some (b off n cap : Nat) (l : List Int) (w : World) (hn : l.length = n) (h1 : 1 ≤ n) (h2 : n ≤ 1024) (hc : n ≤ cap) (hcm : cap ≤ maxLen) (hcel : ∀ j, j < n → w.cell? ⟨b, off + j, none⟩ = some (.int .u8 (l.getD j 0))) :
    Calls Try.prog 10 #[.slice (some ⟨b, off, none⟩) n cap] w (Ck.Splits w (Ck.pcs l ((n + 63) / 64))) := by
  have hb : b < w.heap.size := Go.block_lt_of_cell (hcel 0 (by omega))
  have hsrc : Hid (∀ x, w.grownBy x none → ∀ at_ m c, at_ + m ≤ n → ∀ pl, pl = (l.drop at_).take m → Ck.Src x (.slice (some ⟨b, off + at_, none⟩) m c) pl) := fun x hx at_ m c hm pl hpl => by
    subst hpl
    have hlen : ((l.drop at_).take m).length = m := by rw [List.length_take, List.length_drop]; omega
    refine .inr ⟨⟨b, off + at_, none⟩, c, by rw [hlen], fun j u hj => ?_⟩
    have hjm : j < m := by
      have h := (List.getElem?_eq_some_iff.1 hj).1
      unfold Ck.bys at h
      rw [List.length_map, hlen] at h
      exact h
    have e : u = .int .u8 (l.getD (at_ + j) 0) := by
      unfold Ck.bys at hj
      rw [List.getElem?_map, List.getElem?_take, if_pos hjm, List.getElem?_drop, List.getElem?_eq_getElem (by omega)] at hj
      simp at hj
      rw [← hj, List.getD, List.getElem?_eq_getElem (by omega)]
      rfl
    rw [e, Go.WideShapes.add_plain, Nat.add_assoc]
    exact (grown_cell hx b _ hb (by simp)).trans (hcel (at_ + j) (by omega))
  have g0 : ¬ (1024 : Int) < (n : Int) := by omega
  unfold maxLen at hcm
  have HN := hide (And.intro hn (And.intro h1 (And.intro h2 (And.intro hc hcm))))
  have H0 : Hid (∃ Vs, Vs.length = (Ck.pcs l 0).length ∧ Ck.Lies w w.heap.size (.slice none 0 0) Vs (Ck.pcs l 0)) := ⟨[], rfl, World.ownsRow_nil _ _ _ _, fun k u m h => by simp at h⟩
  obtain ⟨i1, ki, kz0, kz1, kz2⟩ := info_parts info_bys
  have hpost : Hid (∀ v x, ((∃ Vs, Vs.length = (Ck.pcs l ((n + 63) / 64)).length ∧ Ck.Lies x w.heap.size v Vs (Ck.pcs l ((n + 63) / 64))) ∧ w.grownBy x none) → Ck.Splits w (Ck.pcs l ((n + 63) / 64)) (.returned (.tuple #[v, .int .i64 0])) x) := fun v x ⟨⟨Vs, q1, q2⟩, q3⟩ => ⟨v, Vs, rfl, q1, q2, q3⟩
  obtain ⟨D, hD⟩ : ∃ D, Ck.Splits w (Ck.pcs l ((n + 63) / 64)) = D := ⟨_, rfl⟩
  rw [hD] at hpost ⊢
  have hst : Hid (∃ m o c : Nat, Value.slice (some ⟨b, off, none⟩) n cap = .slice (some ⟨b, o, none⟩) m c ∧ o = off + 64 * 0 ∧ m + 64 * 0 = n ∧ 1 ≤ m ∧ c + 64 * 0 = cap) := ⟨n, off, cap, rfl, by omega, by omega, h1, by omega⟩
  clear hD hcel hb hn h1 h2 hc hcm
  go_enter Try.func10, Try.ntmps10
  go_wp2_with fail
  go_loopw [0, 4] (fun v0 v4 wr => ∃ k m o c : Nat, v0 = .slice (some ⟨b, o, none⟩) m c ∧ Hid (o = off + 64 * k ∧ m + 64 * k = n ∧ 1 ≤ m ∧ c + 64 * k = cap) ∧ Hid ((∃ Vs, Vs.length = (Ck.pcs l k).length ∧ Ck.Lies wr w.heap.size v4 Vs (Ck.pcs l k)) ∧ w.grownBy wr none)) (fun v0 _ _ => match v0 with | .slice _ m _ => m | _ => 0)
  case atStart =>
    obtain ⟨m, o, c, e, q⟩ := unhide hst
    exact ⟨0, m, o, c, e, q, unhide H0, World.grownBy.refl _ _⟩
  case round =>
    clear H0 hst g0
    obtain ⟨k, m, o, c, rfl, hq, hX⟩ := hrel
    obtain ⟨⟨Vs, hV1, hV2⟩, hV3⟩ := unhide hX
    obtain ⟨a4, c4, hu4⟩ : ∃ a c, u4 = .slice a (Ck.pcs l k).length c := by
      rcases hV2.own.2 with ⟨e1, e2⟩ | ⟨g, c, cur, e, _⟩
      · exact ⟨none, 0, by rw [e1, e2]⟩
      · exact ⟨_, c, e⟩
    have hkl : Hid ((Ck.pcs l k).length ≤ 16) := by
      show (Ck.pcs l k).length ≤ 16
      rw [Ck.pcs_len]
      have := unhide hq
      have := unhide HN
      omega
    have hm1 : (m : Int) ≤ 1024 := by have := unhide hq; have := unhide HN; omega
    have hmc : (m : Int) ≤ (c : Int) := by have := unhide hq; have := unhide HN; omega
    have hcx : (c : Int) ≤ 9223372036854775807 := by have := unhide hq; have := unhide HN; omega
    by_cases hlt : 64 < m
    · have hlt' : (64 : Int) < (m : Int) := by omega
      have HM := hide hlt
      have hpl : (Ck.pc l k).length = 64 := by
        rw [Ck.pc_len, (unhide HN).1]
        have := unhide hq
        omega
      have cT := hide (ckTwin_any (.slice (some ⟨b, o, none⟩) 64 c) (Ck.pc l k) wr (by
        rw [(unhide hq).1]
        exact unhide hsrc wr hV3 (64 * k) 64 c (by have := unhide hq; omega) _ rfl) (by omega))
      rw [hpl] at cT
      have hmo := hide (fun (y z0 z : World) (v' u : Value) h3 h4 h5 h6 h7 h8 => Ck.Sp.more (y := y) (z0 := z0) (z := z) (l := Ck.pc l k) (pl := Ck.pc l k) (v' := v') (u := u) hV2 hV1 hV3 h3 h4 h5 h6 h7 h8 rfl)
      rw [← Ck.pcs_more, hpl] at hmo
      have hown0 := hide hV2.own
      have hsz := hide hV3.size
      obtain ⟨nn, hnn⟩ : ∃ nn, (Ck.pcs l k).length = nn := ⟨_, rfl⟩
      rw [hnn] at hmo hown0 hkl hu4
      subst hu4
      clear hlt hX hV1 hV2 hV3 hpl hnn
      go_wp2_with fail
      refine (unhide cT).mono ?_
      rintro e w6 ⟨g6, c6, rfl, hown, hg6⟩
      have hown4 := hide ((unhide hown0).kept hg6 (by cases (Value.slice a4 nn c4).ownBlock <;> simp))
      have hsz6 : Hid (w.heap.size ≤ w6.heap.size) := Nat.le_trans (unhide hsz) hg6.size
      have hfin := hide (fun z v' h7 h8 => unhide hmo w6 (w6.alloc (.cells #[.slice (some ⟨g6, 0, none⟩) 64 c6] 22)) z v' (.slice (some ⟨g6, 0, none⟩) 64 c6) hg6 hown (by simp) (World.grownBy_alloc _ _ _) h7 h8)
      clear hown hg6 hmo hown0 cT
      go_wp2_with (at_builtin; refine wpList_append_own _ rfl _ _ 24 rfl w.heap.size 22 i1 (.slice none 0 0) 1 24 Try.underlying24 ki kz0 kz1 kz2 rfl (by decide) _ _ _ rfl ((unhide hown4).alloc _) ⟨w6.heap.size, 0, none⟩ 1 1 [.slice (some ⟨g6, 0, none⟩) 64 c6] rfl rfl (Ck.news w6 _ _) ?_ ?_ ?_ ?_ ?_)
      · first | rfl | (intro u hu; simp only [List.mem_cons, List.not_mem_nil, or_false] at hu; rcases hu with rfl; rfl) | simp [Value.oneCell']
      · have := unhide hkl; unfold maxLen; omega
      · have := unhide hkl; omega
      · have := unhide hsz6; first | omega | (simp; omega)
      intro v7 w7 hown hgrow _
      have hX7 := hide (unhide hfin w7 v7 hown hgrow)
      clear hown hgrow hfin
      go_wp2_with fail
      go_roundw
      case rel => exact ⟨k + 1, m - 64, o + 64, c - 64, by first | rfl | (simp; omega), by have := unhide hq; have := unhide HM; have := unhide HN; exact ⟨by omega, by omega, by omega, by omega⟩, hX7⟩
      case measure => have := unhide HM; simp; omega
    · have hge : ¬ (64 : Int) < (m : Int) := by omega
      have hkk : (n + 63) / 64 = k + 1 := by have := unhide hq; omega
      have hpe : Ck.pc l k = (l.drop (64 * k)).take m := by
        unfold Ck.pc
        refine List.take_eq_take_iff.2 ?_
        rw [List.length_drop, (unhide HN).1]
        have := unhide hq
        omega
      have hpl : (Ck.pc l k).length = m := by
        rw [Ck.pc_len, (unhide HN).1]
        have := unhide hq
        omega
      have cT := hide (ckTwin_any (.slice (some ⟨b, o, none⟩) m c) (Ck.pc l k) wr (by
        rw [(unhide hq).1]
        exact unhide hsrc wr hV3 (64 * k) m c (by have := unhide hq; omega) _ hpe) (by omega))
      rw [hpl] at cT
      have hmo := hide (fun (y z0 z : World) (v' u : Value) h3 h4 h5 h6 h7 h8 => Ck.Sp.more (y := y) (z0 := z0) (z := z) (l := Ck.pc l k) (pl := Ck.pc l k) (v' := v') (u := u) hV2 hV1 hV3 h3 h4 h5 h6 h7 h8 rfl)
      rw [← Ck.pcs_more, hpl] at hmo
      have hown0 := hide hV2.own
      have hsz := hide hV3.size
      obtain ⟨nn, hnn⟩ : ∃ nn, (Ck.pcs l k).length = nn := ⟨_, rfl⟩
      rw [hnn] at hmo hown0 hkl hu4
      rw [hkk] at hpost
      subst hu4
      clear hlt hX hV1 hV2 hV3 hpl hnn hkk hpe
      go_wp2_with fail
      refine (unhide cT).mono ?_
      rintro e w6 ⟨g6, c6, rfl, hown, hg6⟩
      have hown4 := hide ((unhide hown0).kept hg6 (by cases (Value.slice a4 nn c4).ownBlock <;> simp))
      have hsz6 : Hid (w.heap.size ≤ w6.heap.size) := Nat.le_trans (unhide hsz) hg6.size
      have hfin := hide (fun z v' h7 h8 => unhide hmo w6 (w6.alloc (.cells #[.slice (some ⟨g6, 0, none⟩) m c6] 22)) z v' (.slice (some ⟨g6, 0, none⟩) m c6) hg6 hown (by simp) (World.grownBy_alloc _ _ _) h7 h8)
      clear hown hg6 hmo hown0 cT
      go_wp2_with (at_builtin; refine wpList_append_own _ rfl _ _ 24 rfl w.heap.size 22 i1 (.slice none 0 0) 1 24 Try.underlying24 ki kz0 kz1 kz2 rfl (by decide) _ _ _ rfl ((unhide hown4).alloc _) ⟨w6.heap.size, 0, none⟩ 1 1 [.slice (some ⟨g6, 0, none⟩) m c6] rfl rfl (Ck.news w6 _ _) ?_ ?_ ?_ ?_ ?_)
      · first | rfl | (intro u hu; simp only [List.mem_cons, List.not_mem_nil, or_false] at hu; rcases hu with rfl; rfl) | simp [Value.oneCell']
      · have := unhide hkl; unfold maxLen; omega
      · have := unhide hkl; omega
      · have := unhide hsz6; first | omega | (simp; omega)
      intro v7 w7 hown hgrow _
      have hX7 := hide (unhide hfin w7 v7 hown hgrow)
      clear hown hgrow hfin
      have hd := hide (unhide hpost v7 w7 (unhide hX7))
      obtain ⟨a7, m7, c7, rfl⟩ : ∃ a m c, v7 = .slice a m c := by
        obtain ⟨⟨Vs', _, hL⟩, _⟩ := unhide hX7
        rcases hL.own.2 with ⟨e1, e2⟩ | ⟨g, c, cur, e, _⟩
        · exact ⟨none, 0, 0, e1⟩
        · exact ⟨_, _, c, e⟩
      clear hX7
      go_wp2
      exact unhide hd

/-- Of no bytes one piece of none. -/
theorem ckSplit_none (a : Option Addr) (cap : Nat) (w : World) (hs : Ck.Src w (.slice a 0 cap) []) :
    Calls Try.prog 10 #[.slice a 0 cap] w (Ck.Splits w [[]]) := by
  obtain ⟨i1, ki, kz0, kz1, kz2⟩ := info_parts info_bys
  have cT := hide (ckTwin_any (.slice a 0 cap) [] w hs (by simp))
  have H0 : Ck.Lies w w.heap.size (.slice none 0 0) [] [] := ⟨World.ownsRow_nil _ _ _ _, fun k u m h => by simp at h⟩
  have hmo := hide (fun (y z0 z : World) (v' u : Value) h3 h4 h5 h6 h7 h8 => Ck.Sp.more (y := y) (z0 := z0) (z := z) (l := []) (pl := []) (v' := v') (u := u) H0 rfl (World.grownBy.refl w none) h3 h4 h5 h6 h7 h8 rfl)
  have hown0 := hide H0.own
  have hpost : Hid (∀ v x, ((∃ Vs, Vs.length = ([] ++ [[]] : List (List Int)).length ∧ Ck.Lies x w.heap.size v Vs ([] ++ [[]])) ∧ w.grownBy x none) → Ck.Splits w [[]] (.returned (.tuple #[v, .int .i64 0])) x) := fun v x ⟨⟨Vs, q1, q2⟩, q3⟩ => ⟨v, Vs, rfl, q1, q2, q3⟩
  obtain ⟨D, hD⟩ : ∃ D, Ck.Splits w [[]] = D := ⟨_, rfl⟩
  rw [hD] at hpost ⊢
  clear hD hs H0
  go_enter Try.func10, Try.ntmps10
  go_wp2_with fail
  go_loopw [0, 4] (fun v0 v4 wr => v0 = .slice a 0 cap ∧ v4 = .slice none 0 0 ∧ wr = w) (fun _ _ _ => 0)
  case atStart => exact ⟨rfl, rfl, rfl⟩
  case round =>
    obtain ⟨rfl, rfl, rfl⟩ := hrel
    go_wp2_with fail
    refine (unhide cT).mono ?_
    rintro e w6 ⟨g6, c6, rfl, hown, hg6⟩
    have hown4 := hide ((unhide hown0).kept hg6 (by simp [Value.ownBlock]))
    have hsz6 : Hid (wr.heap.size ≤ w6.heap.size) := hg6.size
    have hfin := hide (fun z v' h7 h8 => unhide hmo w6 (w6.alloc (.cells #[.slice (some ⟨g6, 0, none⟩) 0 c6] 22)) z v' (.slice (some ⟨g6, 0, none⟩) 0 c6) hg6 hown (by simp) (World.grownBy_alloc _ _ _) h7 h8)
    clear hown hg6 hmo hown0 cT
    go_wp2_with (at_builtin; refine wpList_append_own _ rfl _ _ 24 rfl wr.heap.size 22 i1 (.slice none 0 0) 1 24 Try.underlying24 ki kz0 kz1 kz2 rfl (by decide) _ _ _ rfl ((unhide hown4).alloc _) ⟨w6.heap.size, 0, none⟩ 1 1 [.slice (some ⟨g6, 0, none⟩) 0 c6] rfl rfl (Ck.news w6 _ _) ?_ ?_ ?_ ?_ ?_)
    · first | rfl | (intro u hu; simp only [List.mem_cons, List.not_mem_nil, or_false] at hu; rcases hu with rfl; rfl) | simp [Value.oneCell']
    · unfold maxLen; simp
    · simp
    · have := unhide hsz6; first | omega | (simp; omega)
    intro v7 w7 hown hgrow _
    have hX7 := hide (unhide hfin w7 v7 hown hgrow)
    clear hown hgrow hfin
    have hd := hide (unhide hpost v7 w7 (unhide hX7))
    obtain ⟨a7, m7, c7, rfl⟩ : ∃ a m c, v7 = .slice a m c := by
      obtain ⟨⟨Vs', _, hL⟩, _⟩ := unhide hX7
      rcases hL.own.2 with ⟨e1, e2⟩ | ⟨g, c, cur, e, _⟩
      · exact ⟨none, 0, 0, e1⟩
      · exact ⟨_, _, c, e⟩
    clear hX7
    go_wp2
    exact unhide hd

end Go.Proofs.Ytnolelhjhhiohaa
