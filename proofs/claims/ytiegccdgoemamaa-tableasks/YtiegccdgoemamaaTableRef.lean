/-
  The document's Add, Same.
-/
import Derived.Test.YtiegccdgoemamaaTableKnown
namespace Go.Proofs.Ytiegccdgoemamaa
open Go.RowKit Go.WideShapes

set_option maxRecDepth 8000 in
set_option maxHeartbeats 25600000 in
theorem refAdd16_any (a : Option Addr) (n c : Nat) (E : Nat → Nat → Int) (k i s f l : Int) (w : World) (h : Tb.Tab w a n c E) (hn : n ≤ 1000) :
    Calls Try.prog 22 #[.slice a n c, .agg #[.int .i64 k, .int .i64 i, .int .i64 s, .int .i64 f, .int .i64 l]] w (Tb.Adds w (Tb.next E n k s f l) (Tb.err E n k s f l)) := by
  obtain ⟨W1, R, hW1, hR, hg1, hlt1, hB⟩ := Tb.boxedR w k i s f l
  have ct := hide fun x (hg : w.grownBy x none) => refLast16_any a n c E s 9223372036854775807 x (h.2.2.1.on hg) (by unfold maxLen; omega)
  have HB := hide hB
  have HG := hide hg1
  have HLT := hide hlt1
  have HA1 := hide (World.grownBy_alloc W1 (.cells #[] 101) none)
  have HTA := hide (h.on (grown_trans hg1 (unhide HA1)))
  have HROW := hide fun (q : Nat) (hq : q < n) => h.2.2.1.row hq
  have HROWS := hide h.2.2.1
  obtain ⟨b0, b1, b2, b3, b4⟩ := hB W1 (World.grownBy.refl _ _)
  obtain ⟨er, her⟩ : ∃ er, Tb.err E n k s f l = er := ⟨_, rfl⟩
  obtain ⟨N, hN⟩ : ∃ N, Tb.next E n k s f l = N := ⟨_, rfl⟩
  have HE := hide her
  have HN := hide hN
  rw [her]
  rw [hN]
  clear h her hN hB hg1 hlt1
  unfold Tb.err at HE
  unfold Tb.next at HN
  have hnn : (n : Int) ≤ 1000 := by omega
  by_cases hk : k = 2 ∨ k = 3
  · rw [if_neg (fun h => h hk)] at HE
    by_cases hs : s < 0 ∨ 4 ≤ s
    · rw [if_pos hs] at HE
      obtain rfl := unhide HE
      clear HE ct HROW HROWS
      by_cases hs0 : s < 0
      · rcases hk with rfl | rfl
        all_goals
          clear hs
          go_enter Try.func22, Try.ntmps22
          go_upto_region 1 with fail
          rw [← hW1, ← hR]
          clear hW1 hR
          go_wp2
          go_ret2
          exact ⟨unhide HG, fun _ => rfl, fun h => absurd h (by decide)⟩
      · have hs4 : 3 < s := by omega
        rcases hk with rfl | rfl
        all_goals
          clear hs
          go_enter Try.func22, Try.ntmps22
          go_upto_region 1 with fail
          rw [← hW1, ← hR]
          clear hW1 hR
          go_wp2
          go_ret2
          exact ⟨unhide HG, fun _ => rfl, fun h => absurd h (by decide)⟩
    · rw [if_neg hs] at HE
      have hs0 : ¬ s < 0 := fun h => hs (.inl h)
      have hs4 : ¬ 3 < s := fun h => hs (.inr (by omega))
      clear hs
      by_cases hf1 : f < 1
      · rw [if_pos hf1] at HE
        obtain rfl := unhide HE
        clear HE ct HROW HROWS
        rcases hk with rfl | rfl
        all_goals
          go_enter Try.func22, Try.ntmps22
          go_upto_region 1 with fail
          rw [← hW1, ← hR]
          clear hW1 hR
          go_wp2
          go_ret2
          exact ⟨unhide HG, fun _ => rfl, fun h => absurd h (by decide)⟩
      · rw [if_neg hf1] at HE
        have HEAT : ∀ q : Nat, q < n → ∃ b, a = some ⟨b, 0, none⟩ ∧ ∀ x, w.grownBy x Option.none → x.cell? ⟨b, q * 4, none⟩ = some (.int .i64 (E q 0)) ∧ x.cell? ⟨b, q * 4 + 1, none⟩ = some (.int .i64 (E q 1)) ∧ x.cell? ⟨b, q * 4 + 2, none⟩ = some (.int .i64 (E q 2)) ∧ x.cell? ⟨b, q * 4 + 3, none⟩ = some (.int .i64 (E q 3)) := fun q hq => by
          obtain ⟨b, hb, -⟩ := unhide HROW q hq
          refine ⟨b, hb, fun x hg => ?_⟩
          obtain ⟨b', hb', -, h⟩ := ((unhide HROWS).on hg).row hq
          rw [hb] at hb'
          cases hb'
          exact h
        have HAT := hide HEAT
        clear HEAT HROW HROWS
        rcases hk with rfl | rfl
        · rw [if_neg (by decide)] at HE
          rw [if_pos rfl] at HN
          have HN2 := hide (unhide HN)
          clear HN
          unfold Tb.free at HE
          rcases Tb.at_cases E s 9223372036854775807 n with ⟨hat, -⟩ | ⟨q, hq, hat, -, -⟩
          · rw [hat] at ct HE
            obtain rfl : (0 : Int) = er := unhide HE
            clear hat HE HAT
            go_enter Try.func22, Try.ntmps22
            go_upto_region 1 with fail
            rw [← hW1, ← hR]
            clear hW1 hR
            go_wp2_with (at_builtin; refine wpList_append_tab rfl _ _ rfl W1.heap.size rfl (Tb.own_new W1) _ n c E rfl (unhide HTA) hn (by simp) ?_)
            intro v z hown hv hz
            have hz1 := grown_own (unhide HA1) hz (by intro m hm; cases hm; exact Nat.le_refl _)
            have HZW := hide hz1
            have HZ := hide (grown_trans (unhide HG) hz1)
            have HO := hide (And.intro hown (And.intro hv (And.intro (unhide HA1).size hz1.size)))
            clear b0 b1 b2 b3 b4 hown hv hz hz1
            obtain ⟨b0, b1, b2, b3, b4⟩ := unhide HB z (unhide HZW)
            go_wp2_with fail
            refine (unhide ct z (unhide HZ)).mono ?_
            rintro e x ⟨rfl, hx⟩
            have HX := hide (grown_trans (unhide HZ) hx)
            have HXW := hide (grown_trans (unhide HZW) hx)
            have HZX := hide hx
            clear b0 b1 b2 b3 b4 hx ct
            obtain ⟨b0, b1, b2, b3, b4⟩ := unhide HB x (unhide HXW)
            go_upto_region 10 with fail
            go_quiet (fail)
            generalize hzz : World.drewN x _ = x2
            have h1 : x.grownBy x2 none := by rw [← hzz]; exact grown_drew (World.grownBy.refl _ _) _
            have HX2 := hide (grown_trans (unhide HX) h1)
            have HX2W := hide (grown_trans (unhide HXW) h1)
            have HZX2 := hide (grown_trans (unhide HZX) h1)
            clear hzz h1 b0 b1 b2 b3 b4
            obtain ⟨b0, b1, b2, b3, b4⟩ := unhide HB x2 (unhide HX2W)
            have HC := hide fun (o : Obj) => ((unhide HO).1.kept (unhide HZX2) (by
              cases hb : v.ownBlock with
              | none => exact .inl rfl
              | some b => exact .inr (by simp))).alloc o
            have hsz := hide (show ∀ o, W1.heap.size ≤ (x2.alloc o).heap.size from fun o => by have := (unhide HO).2.2.2; have := (unhide HZX2).size; simp; omega)
            have hnew := hide (show _ from fun (e0 e1 e2 e3 : Int) => Arr.lit (heap_alloc_new x2 (.cells #[.int .i64 e0, .int .i64 e1, .int .i64 e2, .int .i64 e3] 101)))
            have hlo := hide (show v.ownBlock = none ∨ ∃ b, v.ownBlock = some b ∧ w.heap.size ≤ b from by
              cases hb : v.ownBlock with
              | none => exact .inl rfl
              | some b => exact .inr ⟨b, rfl, Nat.le_trans (unhide HG).size ((unhide HO).1.lt b hb).1⟩)
            go_wp2_with (at_builtin; refine wpList_append_span rfl _ _ rfl W1.heap.size v n E rfl (unhide HC _) x2.heap.size s f rfl ⟨(unhide hnew _ _ _ _).cell (i := 0) (by simp), (unhide hnew _ _ _ _).cell (i := 1) (by simp), (unhide hnew _ _ _ _).cell (i := 2) (by simp), (unhide hnew _ _ _ _).cell (i := 3) (by simp)⟩ hn (unhide hsz _) ?_)
            intro a2 c2 xx ht hg
            have HT := hide ht
            have HXX := hide (grown_own (grown_alloc (unhide HX2) _) hg (by
              intro m hm
              rcases unhide hlo with h | ⟨b, h, hb⟩
              · rw [h] at hm; cases hm
              · rw [h] at hm; cases hm; exact hb))
            clear ht hg HC hsz hnew hlo HO
            obtain rfl := unhide HN2
            go_wp2
            go_ret2
            exact ⟨unhide HXX, fun h => absurd rfl h, fun _ => ⟨a2, c2, rfl, unhide HT⟩⟩
          · rw [hat, decide_eq_false (by omega), Bool.false_or, Int.toNat_natCast] at HE
            rw [hat] at ct
            obtain ⟨b, rfl, hh⟩ := unhide HAT q hq
            have HH := hide hh
            have hq' : (q : Int) < (n : Int) := by omega
            have hq0 : (0 : Int) ≤ (q : Int) := by omega
            have HQ := hide hq
            clear hat hh HAT hq
            cases h2 : (E q 2 == 0) with
            | true =>
              rw [h2] at HE
              obtain rfl : (16 : Int) = er := unhide HE
              clear HE
              go_enter Try.func22, Try.ntmps22
              go_upto_region 1 with fail
              rw [← hW1, ← hR]
              clear hW1 hR
              go_wp2_with (at_builtin; refine wpList_append_tab rfl _ _ rfl W1.heap.size rfl (Tb.own_new W1) _ n c E rfl (unhide HTA) hn (by simp) ?_)
              intro v z hown hv hz
              have hz1 := grown_own (unhide HA1) hz (by intro m hm; cases hm; exact Nat.le_refl _)
              have HZW := hide hz1
              have HZ := hide (grown_trans (unhide HG) hz1)
              have HO := hide (And.intro hown (And.intro hv (And.intro (unhide HA1).size hz1.size)))
              clear b0 b1 b2 b3 b4 hown hv hz hz1
              obtain ⟨b0, b1, b2, b3, b4⟩ := unhide HB z (unhide HZW)
              go_wp2_with fail
              refine (unhide ct z (unhide HZ)).mono ?_
              rintro e x ⟨rfl, hx⟩
              have HX := hide (grown_trans (unhide HZ) hx)
              have HXW := hide (grown_trans (unhide HZW) hx)
              have HZX := hide hx
              clear b0 b1 b2 b3 b4 hx ct
              obtain ⟨b0, b1, b2, b3, b4⟩ := unhide HB x (unhide HXW)
              obtain ⟨u0, u1, u2, u3⟩ := unhide HH x (unhide HX)
              go_upto_region 10 with fail
              go_quiet (fail)
              generalize hzz : World.drewN x _ = x2
              have h1 : x.grownBy x2 none := by rw [← hzz]; exact grown_drew (World.grownBy.refl _ _) _
              have HX2 := hide (grown_trans (unhide HX) h1)
              have HX2W := hide (grown_trans (unhide HXW) h1)
              have HZX2 := hide (grown_trans (unhide HZX) h1)
              clear hzz h1 b0 b1 b2 b3 b4 u0 u1 u2 u3
              obtain ⟨b0, b1, b2, b3, b4⟩ := unhide HB x2 (unhide HX2W)
              obtain ⟨u0, u1, u2, u3⟩ := unhide HH x2 (unhide HX2)
              clear HO
              go_wp2
              go_ret2
              exact ⟨unhide HX2, fun _ => rfl, fun h => absurd h (by decide)⟩
            | false =>
              rw [h2] at HE
              by_cases h3 : f ≤ E q 2
              · rw [decide_eq_false (by omega)] at HE
                obtain rfl : (16 : Int) = er := unhide HE
                clear HE
                go_enter Try.func22, Try.ntmps22
                go_upto_region 1 with fail
                rw [← hW1, ← hR]
                clear hW1 hR
                go_wp2_with (at_builtin; refine wpList_append_tab rfl _ _ rfl W1.heap.size rfl (Tb.own_new W1) _ n c E rfl (unhide HTA) hn (by simp) ?_)
                intro v z hown hv hz
                have hz1 := grown_own (unhide HA1) hz (by intro m hm; cases hm; exact Nat.le_refl _)
                have HZW := hide hz1
                have HZ := hide (grown_trans (unhide HG) hz1)
                have HO := hide (And.intro hown (And.intro hv (And.intro (unhide HA1).size hz1.size)))
                clear b0 b1 b2 b3 b4 hown hv hz hz1
                obtain ⟨b0, b1, b2, b3, b4⟩ := unhide HB z (unhide HZW)
                go_wp2_with fail
                refine (unhide ct z (unhide HZ)).mono ?_
                rintro e x ⟨rfl, hx⟩
                have HX := hide (grown_trans (unhide HZ) hx)
                have HXW := hide (grown_trans (unhide HZW) hx)
                have HZX := hide hx
                clear b0 b1 b2 b3 b4 hx ct
                obtain ⟨b0, b1, b2, b3, b4⟩ := unhide HB x (unhide HXW)
                obtain ⟨u0, u1, u2, u3⟩ := unhide HH x (unhide HX)
                go_upto_region 10 with fail
                go_quiet (fail)
                generalize hzz : World.drewN x _ = x2
                have h1 : x.grownBy x2 none := by rw [← hzz]; exact grown_drew (World.grownBy.refl _ _) _
                have HX2 := hide (grown_trans (unhide HX) h1)
                have HX2W := hide (grown_trans (unhide HXW) h1)
                have HZX2 := hide (grown_trans (unhide HZX) h1)
                clear hzz h1 b0 b1 b2 b3 b4 u0 u1 u2 u3
                obtain ⟨b0, b1, b2, b3, b4⟩ := unhide HB x2 (unhide HX2W)
                obtain ⟨u0, u1, u2, u3⟩ := unhide HH x2 (unhide HX2)
                clear HO
                go_wp2
                go_ret2
                exact ⟨unhide HX2, fun _ => rfl, fun h => absurd h (by decide)⟩
              · rw [decide_eq_true (by omega)] at HE
                obtain rfl : (0 : Int) = er := unhide HE
                clear HE
                go_enter Try.func22, Try.ntmps22
                go_upto_region 1 with fail
                rw [← hW1, ← hR]
                clear hW1 hR
                go_wp2_with (at_builtin; refine wpList_append_tab rfl _ _ rfl W1.heap.size rfl (Tb.own_new W1) _ n c E rfl (unhide HTA) hn (by simp) ?_)
                intro v z hown hv hz
                have hz1 := grown_own (unhide HA1) hz (by intro m hm; cases hm; exact Nat.le_refl _)
                have HZW := hide hz1
                have HZ := hide (grown_trans (unhide HG) hz1)
                have HO := hide (And.intro hown (And.intro hv (And.intro (unhide HA1).size hz1.size)))
                clear b0 b1 b2 b3 b4 hown hv hz hz1
                obtain ⟨b0, b1, b2, b3, b4⟩ := unhide HB z (unhide HZW)
                go_wp2_with fail
                refine (unhide ct z (unhide HZ)).mono ?_
                rintro e x ⟨rfl, hx⟩
                have HX := hide (grown_trans (unhide HZ) hx)
                have HXW := hide (grown_trans (unhide HZW) hx)
                have HZX := hide hx
                clear b0 b1 b2 b3 b4 hx ct
                obtain ⟨b0, b1, b2, b3, b4⟩ := unhide HB x (unhide HXW)
                obtain ⟨u0, u1, u2, u3⟩ := unhide HH x (unhide HX)
                go_upto_region 10 with fail
                go_quiet (fail)
                generalize hzz : World.drewN x _ = x2
                have h1 : x.grownBy x2 none := by rw [← hzz]; exact grown_drew (World.grownBy.refl _ _) _
                have HX2 := hide (grown_trans (unhide HX) h1)
                have HX2W := hide (grown_trans (unhide HXW) h1)
                have HZX2 := hide (grown_trans (unhide HZX) h1)
                clear hzz h1 b0 b1 b2 b3 b4 u0 u1 u2 u3
                obtain ⟨b0, b1, b2, b3, b4⟩ := unhide HB x2 (unhide HX2W)
                obtain ⟨u0, u1, u2, u3⟩ := unhide HH x2 (unhide HX2)
                have HC := hide fun (o : Obj) => ((unhide HO).1.kept (unhide HZX2) (by
                  cases hb : v.ownBlock with
                  | none => exact .inl rfl
                  | some b => exact .inr (by simp))).alloc o
                have hsz := hide (show ∀ o, W1.heap.size ≤ (x2.alloc o).heap.size from fun o => by have := (unhide HO).2.2.2; have := (unhide HZX2).size; simp; omega)
                have hnew := hide (show _ from fun (e0 e1 e2 e3 : Int) => Arr.lit (heap_alloc_new x2 (.cells #[.int .i64 e0, .int .i64 e1, .int .i64 e2, .int .i64 e3] 101)))
                have hlo := hide (show v.ownBlock = none ∨ ∃ b, v.ownBlock = some b ∧ w.heap.size ≤ b from by
                  cases hb : v.ownBlock with
                  | none => exact .inl rfl
                  | some b => exact .inr ⟨b, rfl, Nat.le_trans (unhide HG).size ((unhide HO).1.lt b hb).1⟩)
                go_wp2_with (at_builtin; refine wpList_append_span rfl _ _ rfl W1.heap.size v n E rfl (unhide HC _) x2.heap.size s f rfl ⟨(unhide hnew _ _ _ _).cell (i := 0) (by simp), (unhide hnew _ _ _ _).cell (i := 1) (by simp), (unhide hnew _ _ _ _).cell (i := 2) (by simp), (unhide hnew _ _ _ _).cell (i := 3) (by simp)⟩ hn (unhide hsz _) ?_)
                intro a2 c2 xx ht hg
                have HT := hide ht
                have HXX := hide (grown_own (grown_alloc (unhide HX2) _) hg (by
                  intro m hm
                  rcases unhide hlo with h | ⟨b, h, hb⟩
                  · rw [h] at hm; cases hm
                  · rw [h] at hm; cases hm; exact hb))
                clear ht hg HC hsz hnew hlo HO
                obtain rfl := unhide HN2
                go_wp2
                go_ret2
                exact ⟨unhide HXX, fun h => absurd rfl h, fun _ => ⟨a2, c2, rfl, unhide HT⟩⟩
        · rw [if_pos rfl] at HE
          rw [if_neg (by decide)] at HN
          have HN2 := hide (unhide HN)
          clear HN
          unfold Tb.retErr at HE
          rcases Tb.at_cases E s 9223372036854775807 n with ⟨hat, -⟩ | ⟨q, hq, hat, -, -⟩
          · rw [hat] at ct HE
            rw [if_pos (.inr (by omega))] at HE
            obtain rfl := unhide HE
            clear hat HE HAT
            cases e0 : (s == 0) with
            | true =>
              go_enter Try.func22, Try.ntmps22
              go_upto_region 1 with fail
              rw [← hW1, ← hR]
              clear hW1 hR
              go_wp2_with (at_builtin; refine wpList_append_tab rfl _ _ rfl W1.heap.size rfl (Tb.own_new W1) _ n c E rfl (unhide HTA) hn (by simp) ?_)
              intro v z hown hv hz
              have hz1 := grown_own (unhide HA1) hz (by intro m hm; cases hm; exact Nat.le_refl _)
              have HZW := hide hz1
              have HZ := hide (grown_trans (unhide HG) hz1)
              have HO := hide (And.intro hown (And.intro hv (And.intro (unhide HA1).size hz1.size)))
              clear b0 b1 b2 b3 b4 hown hv hz hz1
              obtain ⟨b0, b1, b2, b3, b4⟩ := unhide HB z (unhide HZW)
              go_wp2_with fail
              refine (unhide ct z (unhide HZ)).mono ?_
              rintro e x ⟨rfl, hx⟩
              have HX := hide (grown_trans (unhide HZ) hx)
              have HXW := hide (grown_trans (unhide HZW) hx)
              have HZX := hide hx
              clear b0 b1 b2 b3 b4 hx ct
              obtain ⟨b0, b1, b2, b3, b4⟩ := unhide HB x (unhide HXW)
              go_upto_region 13 with fail
              go_quiet (fail)
              generalize hzz : World.drewN x _ = x2
              have h1 : x.grownBy x2 none := by rw [← hzz]; exact grown_drew (World.grownBy.refl _ _) _
              have HX2 := hide (grown_trans (unhide HX) h1)
              have HX2W := hide (grown_trans (unhide HXW) h1)
              have HZX2 := hide (grown_trans (unhide HZX) h1)
              clear hzz h1 b0 b1 b2 b3 b4
              obtain ⟨b0, b1, b2, b3, b4⟩ := unhide HB x2 (unhide HX2W)
              clear HO
              go_wp2
              go_ret2
              exact ⟨unhide HX2, fun _ => rfl, fun h => absurd h (by decide)⟩
            | false =>
              go_enter Try.func22, Try.ntmps22
              go_upto_region 1 with fail
              rw [← hW1, ← hR]
              clear hW1 hR
              go_wp2_with (at_builtin; refine wpList_append_tab rfl _ _ rfl W1.heap.size rfl (Tb.own_new W1) _ n c E rfl (unhide HTA) hn (by simp) ?_)
              intro v z hown hv hz
              have hz1 := grown_own (unhide HA1) hz (by intro m hm; cases hm; exact Nat.le_refl _)
              have HZW := hide hz1
              have HZ := hide (grown_trans (unhide HG) hz1)
              have HO := hide (And.intro hown (And.intro hv (And.intro (unhide HA1).size hz1.size)))
              clear b0 b1 b2 b3 b4 hown hv hz hz1
              obtain ⟨b0, b1, b2, b3, b4⟩ := unhide HB z (unhide HZW)
              go_wp2_with fail
              refine (unhide ct z (unhide HZ)).mono ?_
              rintro e x ⟨rfl, hx⟩
              have HX := hide (grown_trans (unhide HZ) hx)
              have HXW := hide (grown_trans (unhide HZW) hx)
              have HZX := hide hx
              clear b0 b1 b2 b3 b4 hx ct
              obtain ⟨b0, b1, b2, b3, b4⟩ := unhide HB x (unhide HXW)
              go_upto_region 13 with fail
              go_quiet (fail)
              generalize hzz : World.drewN x _ = x2
              have h1 : x.grownBy x2 none := by rw [← hzz]; exact grown_drew (World.grownBy.refl _ _) _
              have HX2 := hide (grown_trans (unhide HX) h1)
              have HX2W := hide (grown_trans (unhide HXW) h1)
              have HZX2 := hide (grown_trans (unhide HZX) h1)
              clear hzz h1 b0 b1 b2 b3 b4
              obtain ⟨b0, b1, b2, b3, b4⟩ := unhide HB x2 (unhide HX2W)
              clear HO
              go_wp2
              go_ret2
              exact ⟨unhide HX2, fun _ => rfl, fun h => absurd h (by decide)⟩
          · rw [hat, Int.toNat_natCast] at HE HN2
            rw [hat] at ct
            obtain ⟨b, rfl, hh⟩ := unhide HAT q hq
            have HH := hide hh
            have hq' : (q : Int) < (n : Int) := by omega
            have hq0 : ¬ (q : Int) < 0 := by omega
            have hq1 : decide ((q : Int) < 0) = false := decide_eq_false hq0
            have HQ := hide hq
            clear hat hh HAT hq
            by_cases hs2 : s = 0
            · rw [if_pos (.inl hs2)] at HE
              obtain rfl := unhide HE
              have e0 : (s == 0) = true := by simp [hs2]
              clear HE hs2
              go_enter Try.func22, Try.ntmps22
              go_upto_region 1 with fail
              rw [← hW1, ← hR]
              clear hW1 hR
              go_wp2_with (at_builtin; refine wpList_append_tab rfl _ _ rfl W1.heap.size rfl (Tb.own_new W1) _ n c E rfl (unhide HTA) hn (by simp) ?_)
              intro v z hown hv hz
              have hz1 := grown_own (unhide HA1) hz (by intro m hm; cases hm; exact Nat.le_refl _)
              have HZW := hide hz1
              have HZ := hide (grown_trans (unhide HG) hz1)
              have HO := hide (And.intro hown (And.intro hv (And.intro (unhide HA1).size hz1.size)))
              clear b0 b1 b2 b3 b4 hown hv hz hz1
              obtain ⟨b0, b1, b2, b3, b4⟩ := unhide HB z (unhide HZW)
              go_wp2_with fail
              refine (unhide ct z (unhide HZ)).mono ?_
              rintro e x ⟨rfl, hx⟩
              have HX := hide (grown_trans (unhide HZ) hx)
              have HXW := hide (grown_trans (unhide HZW) hx)
              have HZX := hide hx
              clear b0 b1 b2 b3 b4 hx ct
              obtain ⟨b0, b1, b2, b3, b4⟩ := unhide HB x (unhide HXW)
              obtain ⟨u0, u1, u2, u3⟩ := unhide HH x (unhide HX)
              go_upto_region 13 with fail
              go_quiet (fail)
              generalize hzz : World.drewN x _ = x2
              have h1 : x.grownBy x2 none := by rw [← hzz]; exact grown_drew (World.grownBy.refl _ _) _
              have HX2 := hide (grown_trans (unhide HX) h1)
              have HX2W := hide (grown_trans (unhide HXW) h1)
              have HZX2 := hide (grown_trans (unhide HZX) h1)
              clear hzz h1 b0 b1 b2 b3 b4 u0 u1 u2 u3
              obtain ⟨b0, b1, b2, b3, b4⟩ := unhide HB x2 (unhide HX2W)
              obtain ⟨u0, u1, u2, u3⟩ := unhide HH x2 (unhide HX2)
              clear HO
              go_wp2
              go_ret2
              exact ⟨unhide HX2, fun _ => rfl, fun h => absurd h (by decide)⟩
            · rw [if_neg (by omega)] at HE
              have e0 : (s == 0) = false := by simp [hs2]
              clear hs2
              by_cases h2 : E q 2 = 0
              · have e2 : (E q 2 != 0) = false := by simp [h2]
                by_cases h3 : f ≤ E q 1
                · rw [if_pos (.inr h3)] at HE
                  obtain rfl := unhide HE
                  clear HE h2
                  go_enter Try.func22, Try.ntmps22
                  go_upto_region 1 with fail
                  rw [← hW1, ← hR]
                  clear hW1 hR
                  go_wp2_with (at_builtin; refine wpList_append_tab rfl _ _ rfl W1.heap.size rfl (Tb.own_new W1) _ n c E rfl (unhide HTA) hn (by simp) ?_)
                  intro v z hown hv hz
                  have hz1 := grown_own (unhide HA1) hz (by intro m hm; cases hm; exact Nat.le_refl _)
                  have HZW := hide hz1
                  have HZ := hide (grown_trans (unhide HG) hz1)
                  have HO := hide (And.intro hown (And.intro hv (And.intro (unhide HA1).size hz1.size)))
                  clear b0 b1 b2 b3 b4 hown hv hz hz1
                  obtain ⟨b0, b1, b2, b3, b4⟩ := unhide HB z (unhide HZW)
                  go_wp2_with fail
                  refine (unhide ct z (unhide HZ)).mono ?_
                  rintro e x ⟨rfl, hx⟩
                  have HX := hide (grown_trans (unhide HZ) hx)
                  have HXW := hide (grown_trans (unhide HZW) hx)
                  have HZX := hide hx
                  clear b0 b1 b2 b3 b4 hx ct
                  obtain ⟨b0, b1, b2, b3, b4⟩ := unhide HB x (unhide HXW)
                  obtain ⟨u0, u1, u2, u3⟩ := unhide HH x (unhide HX)
                  go_upto_region 13 with fail
                  go_quiet (fail)
                  generalize hzz : World.drewN x _ = x2
                  have h1 : x.grownBy x2 none := by rw [← hzz]; exact grown_drew (World.grownBy.refl _ _) _
                  have HX2 := hide (grown_trans (unhide HX) h1)
                  have HX2W := hide (grown_trans (unhide HXW) h1)
                  have HZX2 := hide (grown_trans (unhide HZX) h1)
                  clear hzz h1 b0 b1 b2 b3 b4 u0 u1 u2 u3
                  obtain ⟨b0, b1, b2, b3, b4⟩ := unhide HB x2 (unhide HX2W)
                  obtain ⟨u0, u1, u2, u3⟩ := unhide HH x2 (unhide HX2)
                  clear HO
                  go_wp2
                  go_ret2
                  exact ⟨unhide HX2, fun _ => rfl, fun h => absurd h (by decide)⟩
                · rw [if_neg (by omega)] at HE
                  clear h2
                  by_cases h4 : l < E q 1
                  · rw [if_pos (.inl h4)] at HE
                    obtain rfl := unhide HE
                    clear HE
                    go_enter Try.func22, Try.ntmps22
                    go_upto_region 1 with fail
                    rw [← hW1, ← hR]
                    clear hW1 hR
                    go_wp2_with (at_builtin; refine wpList_append_tab rfl _ _ rfl W1.heap.size rfl (Tb.own_new W1) _ n c E rfl (unhide HTA) hn (by simp) ?_)
                    intro v z hown hv hz
                    have hz1 := grown_own (unhide HA1) hz (by intro m hm; cases hm; exact Nat.le_refl _)
                    have HZW := hide hz1
                    have HZ := hide (grown_trans (unhide HG) hz1)
                    have HO := hide (And.intro hown (And.intro hv (And.intro (unhide HA1).size hz1.size)))
                    clear b0 b1 b2 b3 b4 hown hv hz hz1
                    obtain ⟨b0, b1, b2, b3, b4⟩ := unhide HB z (unhide HZW)
                    go_wp2_with fail
                    refine (unhide ct z (unhide HZ)).mono ?_
                    rintro e x ⟨rfl, hx⟩
                    have HX := hide (grown_trans (unhide HZ) hx)
                    have HXW := hide (grown_trans (unhide HZW) hx)
                    have HZX := hide hx
                    clear b0 b1 b2 b3 b4 hx ct
                    obtain ⟨b0, b1, b2, b3, b4⟩ := unhide HB x (unhide HXW)
                    obtain ⟨u0, u1, u2, u3⟩ := unhide HH x (unhide HX)
                    go_upto_region 13 with fail
                    go_quiet (fail)
                    generalize hzz : World.drewN x _ = x2
                    have h1 : x.grownBy x2 none := by rw [← hzz]; exact grown_drew (World.grownBy.refl _ _) _
                    have HX2 := hide (grown_trans (unhide HX) h1)
                    have HX2W := hide (grown_trans (unhide HXW) h1)
                    have HZX2 := hide (grown_trans (unhide HZX) h1)
                    clear hzz h1 b0 b1 b2 b3 b4 u0 u1 u2 u3
                    obtain ⟨b0, b1, b2, b3, b4⟩ := unhide HB x2 (unhide HX2W)
                    obtain ⟨u0, u1, u2, u3⟩ := unhide HH x2 (unhide HX2)
                    go_upto_region 15 with fail
                    go_quiet (fail)
                    generalize hzz : World.drewN x2 _ = x3
                    have h1 : x2.grownBy x3 none := by rw [← hzz]; exact grown_drew (World.grownBy.refl _ _) _
                    have HX3 := hide (grown_trans (unhide HX2) h1)
                    have HX3W := hide (grown_trans (unhide HX2W) h1)
                    have HZX3 := hide (grown_trans (unhide HZX2) h1)
                    clear hzz h1 b0 b1 b2 b3 b4 u0 u1 u2 u3
                    obtain ⟨b0, b1, b2, b3, b4⟩ := unhide HB x3 (unhide HX3W)
                    obtain ⟨u0, u1, u2, u3⟩ := unhide HH x3 (unhide HX3)
                    clear HO
                    go_wp2
                    go_ret2
                    exact ⟨unhide HX3, fun _ => rfl, fun h => absurd h (by decide)⟩
                  · by_cases h5 : f < l
                    · rw [if_pos (.inr h5)] at HE
                      obtain rfl := unhide HE
                      clear HE
                      go_enter Try.func22, Try.ntmps22
                      go_upto_region 1 with fail
                      rw [← hW1, ← hR]
                      clear hW1 hR
                      go_wp2_with (at_builtin; refine wpList_append_tab rfl _ _ rfl W1.heap.size rfl (Tb.own_new W1) _ n c E rfl (unhide HTA) hn (by simp) ?_)
                      intro v z hown hv hz
                      have hz1 := grown_own (unhide HA1) hz (by intro m hm; cases hm; exact Nat.le_refl _)
                      have HZW := hide hz1
                      have HZ := hide (grown_trans (unhide HG) hz1)
                      have HO := hide (And.intro hown (And.intro hv (And.intro (unhide HA1).size hz1.size)))
                      clear b0 b1 b2 b3 b4 hown hv hz hz1
                      obtain ⟨b0, b1, b2, b3, b4⟩ := unhide HB z (unhide HZW)
                      go_wp2_with fail
                      refine (unhide ct z (unhide HZ)).mono ?_
                      rintro e x ⟨rfl, hx⟩
                      have HX := hide (grown_trans (unhide HZ) hx)
                      have HXW := hide (grown_trans (unhide HZW) hx)
                      have HZX := hide hx
                      clear b0 b1 b2 b3 b4 hx ct
                      obtain ⟨b0, b1, b2, b3, b4⟩ := unhide HB x (unhide HXW)
                      obtain ⟨u0, u1, u2, u3⟩ := unhide HH x (unhide HX)
                      go_upto_region 13 with fail
                      go_quiet (fail)
                      generalize hzz : World.drewN x _ = x2
                      have h1 : x.grownBy x2 none := by rw [← hzz]; exact grown_drew (World.grownBy.refl _ _) _
                      have HX2 := hide (grown_trans (unhide HX) h1)
                      have HX2W := hide (grown_trans (unhide HXW) h1)
                      have HZX2 := hide (grown_trans (unhide HZX) h1)
                      clear hzz h1 b0 b1 b2 b3 b4 u0 u1 u2 u3
                      obtain ⟨b0, b1, b2, b3, b4⟩ := unhide HB x2 (unhide HX2W)
                      obtain ⟨u0, u1, u2, u3⟩ := unhide HH x2 (unhide HX2)
                      go_upto_region 15 with fail
                      go_quiet (fail)
                      generalize hzz : World.drewN x2 _ = x3
                      have h1 : x2.grownBy x3 none := by rw [← hzz]; exact grown_drew (World.grownBy.refl _ _) _
                      have HX3 := hide (grown_trans (unhide HX2) h1)
                      have HX3W := hide (grown_trans (unhide HX2W) h1)
                      have HZX3 := hide (grown_trans (unhide HZX2) h1)
                      clear hzz h1 b0 b1 b2 b3 b4 u0 u1 u2 u3
                      obtain ⟨b0, b1, b2, b3, b4⟩ := unhide HB x3 (unhide HX3W)
                      obtain ⟨u0, u1, u2, u3⟩ := unhide HH x3 (unhide HX3)
                      clear HO
                      go_wp2
                      go_ret2
                      exact ⟨unhide HX3, fun _ => rfl, fun h => absurd h (by decide)⟩
                    · rw [if_neg (by omega)] at HE
                      obtain rfl := unhide HE
                      clear HE
                      go_enter Try.func22, Try.ntmps22
                      go_upto_region 1 with fail
                      rw [← hW1, ← hR]
                      clear hW1 hR
                      go_wp2_with (at_builtin; refine wpList_append_tab rfl _ _ rfl W1.heap.size rfl (Tb.own_new W1) _ n c E rfl (unhide HTA) hn (by simp) ?_)
                      intro v z hown hv hz
                      have hz1 := grown_own (unhide HA1) hz (by intro m hm; cases hm; exact Nat.le_refl _)
                      have HZW := hide hz1
                      have HZ := hide (grown_trans (unhide HG) hz1)
                      have HO := hide (And.intro hown (And.intro hv (And.intro (unhide HA1).size hz1.size)))
                      clear b0 b1 b2 b3 b4 hown hv hz hz1
                      obtain ⟨b0, b1, b2, b3, b4⟩ := unhide HB z (unhide HZW)
                      go_wp2_with fail
                      refine (unhide ct z (unhide HZ)).mono ?_
                      rintro e x ⟨rfl, hx⟩
                      have HX := hide (grown_trans (unhide HZ) hx)
                      have HXW := hide (grown_trans (unhide HZW) hx)
                      have HZX := hide hx
                      clear b0 b1 b2 b3 b4 hx ct
                      obtain ⟨b0, b1, b2, b3, b4⟩ := unhide HB x (unhide HXW)
                      obtain ⟨u0, u1, u2, u3⟩ := unhide HH x (unhide HX)
                      go_upto_region 13 with fail
                      go_quiet (fail)
                      generalize hzz : World.drewN x _ = x2
                      have h1 : x.grownBy x2 none := by rw [← hzz]; exact grown_drew (World.grownBy.refl _ _) _
                      have HX2 := hide (grown_trans (unhide HX) h1)
                      have HX2W := hide (grown_trans (unhide HXW) h1)
                      have HZX2 := hide (grown_trans (unhide HZX) h1)
                      clear hzz h1 b0 b1 b2 b3 b4 u0 u1 u2 u3
                      obtain ⟨b0, b1, b2, b3, b4⟩ := unhide HB x2 (unhide HX2W)
                      obtain ⟨u0, u1, u2, u3⟩ := unhide HH x2 (unhide HX2)
                      go_upto_region 15 with fail
                      go_quiet (fail)
                      generalize hzz : World.drewN x2 _ = x3
                      have h1 : x2.grownBy x3 none := by rw [← hzz]; exact grown_drew (World.grownBy.refl _ _) _
                      have HX3 := hide (grown_trans (unhide HX2) h1)
                      have HX3W := hide (grown_trans (unhide HX2W) h1)
                      have HZX3 := hide (grown_trans (unhide HZX2) h1)
                      clear hzz h1 b0 b1 b2 b3 b4 u0 u1 u2 u3
                      obtain ⟨b0, b1, b2, b3, b4⟩ := unhide HB x3 (unhide HX3W)
                      obtain ⟨u0, u1, -, -⟩ := unhide HH x3 (unhide HX3)
                      obtain ⟨g, cap, rfl, hlo, hnc, hcm, hO⟩ := Tb.Own.of_owns (unhide HO).1 (unhide HO).2.1
                      have HGB := hide hlo
                      have HLO := hide (show w.heap.size ≤ g from Nat.le_trans (unhide HG).size hlo)
                      have HO2 := hide (hO.on (unhide HZX3))
                      have HCAP := hide (And.intro hnc hcm)
                      have hqc : (q : Int) < (n : Int) := hq'
                      clear hlo hnc hcm hO HO
                      obtain ⟨_, hb', -, -, -, u2, u3⟩ := (unhide HO2).rows.row (unhide HQ)
                      cases hb'
                      have fr := fun i => (unhide HO2).free i
                      have HF := hide (show w.grownBy ((x3.setCell ⟨g, q * 4 + 2, none⟩ (.int .i64 f)).setCell ⟨g, q * 4 + 3, none⟩ (.int .i64 l)).drew none ∧ Tb.Tab ((x3.setCell ⟨g, q * 4 + 2, none⟩ (.int .i64 f)).setCell ⟨g, q * 4 + 3, none⟩ (.int .i64 l)).drew (some ⟨g, 0, none⟩) n cap (Tb.set (Tb.set E q 2 f) q 3 l) from
                        ⟨grown_drew (grown_store (grown_store (unhide HX3) ⟨g, q * 4 + 2, none⟩ (unhide HLO) _) ⟨g, q * 4 + 3, none⟩ (unhide HLO) _) 1,
                          (unhide HCAP).1, (unhide HCAP).2, (((unhide HO2).set q 2 (by omega) f).set q 3 (by omega) l).rows.on (grown_drew (World.grownBy.refl _ _) 1), fun h => by have := unhide HQ; omega⟩)
                      obtain rfl := unhide HN2
                      have HRG := hide (show R ≠ g from by
                        have h1 := unhide HLT
                        have h2 := unhide HGB
                        omega)
                      go_upto_region 17 with fail
                      go_region_with (fail)
                      all_goals
                        go_wp2
                        go_ret2
                        exact ⟨(unhide HF).1, fun h => absurd rfl h, fun _ => ⟨_, cap, rfl, (unhide HF).2⟩⟩
              · have e2 : (E q 2 != 0) = true := by simp [h2]
                rw [if_pos (.inl h2)] at HE
                obtain rfl := unhide HE
                clear HE h2
                go_enter Try.func22, Try.ntmps22
                go_upto_region 1 with fail
                rw [← hW1, ← hR]
                clear hW1 hR
                go_wp2_with (at_builtin; refine wpList_append_tab rfl _ _ rfl W1.heap.size rfl (Tb.own_new W1) _ n c E rfl (unhide HTA) hn (by simp) ?_)
                intro v z hown hv hz
                have hz1 := grown_own (unhide HA1) hz (by intro m hm; cases hm; exact Nat.le_refl _)
                have HZW := hide hz1
                have HZ := hide (grown_trans (unhide HG) hz1)
                have HO := hide (And.intro hown (And.intro hv (And.intro (unhide HA1).size hz1.size)))
                clear b0 b1 b2 b3 b4 hown hv hz hz1
                obtain ⟨b0, b1, b2, b3, b4⟩ := unhide HB z (unhide HZW)
                go_wp2_with fail
                refine (unhide ct z (unhide HZ)).mono ?_
                rintro e x ⟨rfl, hx⟩
                have HX := hide (grown_trans (unhide HZ) hx)
                have HXW := hide (grown_trans (unhide HZW) hx)
                have HZX := hide hx
                clear b0 b1 b2 b3 b4 hx ct
                obtain ⟨b0, b1, b2, b3, b4⟩ := unhide HB x (unhide HXW)
                obtain ⟨u0, u1, u2, u3⟩ := unhide HH x (unhide HX)
                go_upto_region 13 with fail
                go_quiet (fail)
                generalize hzz : World.drewN x _ = x2
                have h1 : x.grownBy x2 none := by rw [← hzz]; exact grown_drew (World.grownBy.refl _ _) _
                have HX2 := hide (grown_trans (unhide HX) h1)
                have HX2W := hide (grown_trans (unhide HXW) h1)
                have HZX2 := hide (grown_trans (unhide HZX) h1)
                clear hzz h1 b0 b1 b2 b3 b4 u0 u1 u2 u3
                obtain ⟨b0, b1, b2, b3, b4⟩ := unhide HB x2 (unhide HX2W)
                obtain ⟨u0, u1, u2, u3⟩ := unhide HH x2 (unhide HX2)
                clear HO
                go_wp2
                go_ret2
                exact ⟨unhide HX2, fun _ => rfl, fun h => absurd h (by decide)⟩
  · rw [if_pos hk] at HE
    obtain rfl := unhide HE
    have hk2 : (k != 2) = true := by simp; omega
    have hk3 : (k != 3) = true := by simp; omega
    clear HE ct HROW HROWS hk
    go_enter Try.func22, Try.ntmps22
    go_upto_region 1 with fail
    rw [← hW1, ← hR]
    clear hW1 hR
    go_wp2
    go_ret2
    exact ⟨unhide HG, fun _ => rfl, fun h => absurd h (by decide)⟩

end Go.Proofs.Ytiegccdgoemamaa
