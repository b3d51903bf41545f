/-
  A datagram of no kind: nothing is gone past.
  Bytes read as a datagram: what Parse does of a kind that there is.
  Parse of all four kinds.
-/
import Derived.Test.YtiegccdgoemamaaWireThrough
import Derived.Deep.MidRow
import Derived.Test.YtiegccdgoemamaaTakeAll
import Derived.Test.YtiegccdgoemamaaWireEncode
import Derived.Test.YtiegccdgoemamaaWireFit
namespace Go.Proofs.Ytiegccdgoemamaa
open Go.RowKit

section
variable {T : TypeId} {v : Value} {f : FuncId} {σ : Type} {step : σ → Int → Int → Int → Int → σ × Int} {H : World → σ → (Nat → Prop) → Prop} {Lv : σ → Prop} {w x y : World} {s : σ} {B : Nat → Prop}

set_option maxRecDepth 16000 in
set_option maxHeartbeats 12800000 in
theorem wThrough_none (h : Wr.Side T v f step H Lv) (g : Wr.G) (hk0 : ¬ (1 ≤ g.n 0 ∧ g.n 0 ≤ 4)) (hs : H w s B) :
    Calls Try.prog 32 #[.agg #[.iface T v], .agg g.cells] w fun e w' => e = .returned (.agg g.cells) ∧ H w' s B ∧ Wr.K w B w' B := by
  obtain ⟨x, hx⟩ : ∃ x, x = ((w.alloc (.cells #[.iface T v] 73)).alloc (.cells g.cells 29)).alloc (.cells Wr.G.zero.cells 29) := ⟨_, rfl⟩
  have I0 : Hid (Wr.In H w x B s B T v w.heap.size (w.heap.size + 1) (w.heap.size + 1 + 1) 29 30 g.box) := by
    show Wr.In H w x B s B T v _ _ _ _ _ _
    rw [hx]
    exact Wr.In.first h hs _ _ rfl (fun i hi => Wr.G.at g i hi) rfl
  obtain ⟨N, hN⟩ : ∃ N, g.n 0 = N := ⟨_, rfl⟩
  rw [hN] at hk0
  have k1 : (N == 1) = false := by simp; omega
  have k2 : (N == 2) = false := by simp; omega
  have k3 : (N == 3) = false := by simp; omega
  have k4 : (N == 4) = false := by simp; omega
  have HN := hide hN
  obtain ⟨R, hR⟩ : ∃ R, w.heap.size = R := ⟨_, rfl⟩
  rw [hR] at I0
  have HR := hide hR
  clear hs hN hk0
  unfold Wr.G.cells at hx
  unfold Wr.G.zero at hx
  go_enter Try.func32, Try.ntmps32
  unfold Wr.G.cells
  go_upto_region 1 with fail
  rw [← hx]
  clear hx hR
  obtain ⟨M, hM⟩ : ∃ M, R + 1 = M := ⟨_, rfl⟩
  rw [hM] at I0 ⊢
  obtain ⟨Z, hZ⟩ : ∃ Z, M + 1 = Z := ⟨_, rfl⟩
  rw [hZ] at I0 ⊢
  clear hM hZ
  have c0 : x.cell? ⟨M, 0, none⟩ = some (.int .i64 N) := (((unhide I0).box.cell (i := 0) (by omega)).trans (show some (Value.int .i64 (g.n 0)) = _ by rw [unhide HN]))
  go_upto_region 17 with fail
  obtain ⟨C, hC⟩ : ∃ C, Wr.G.cells g = C := ⟨_, rfl⟩
  have hsz : C.size = 30 := by rw [← hC]; rfl
  have hrg : x.rangeAt M 0 C.toList := fun j u hj => by
    have hj30 : j < 30 := by
      have := (List.getElem?_eq_some_iff.1 hj).1
      simpa [hsz] using this
    have h1 := Wr.G.at g j hj30
    rw [hC] at h1
    rw [Array.getElem?_toList, h1] at hj
    rw [Nat.zero_add, (unhide I0).box.cell hj30]
    exact hj
  have hth : x.there Z 0 C.size := fun j hj => by
    obtain ⟨q, hq⟩ := (unhide I0).res
    rw [hsz] at hj
    rw [Nat.zero_add]
    exact ⟨by rw [hq.cell hj]; rfl, hq.free j⟩
  have hone : C.all (·.oneCell') = true := by rw [← hC]; exact Wr.G.one _
  have hi1 : (Try.prog.info? 29).map (·.size) = some C.toList.length := by
    rw [Array.length_toList, hsz]
    kernel_rfl
  have hld : (loadVar 29 ⟨Z, 0, none⟩).run Try.prog (x.setCells Z 0 C.toList) = .ok (.agg C) (x.setCells Z 0 C.toList) :=
    run_loadVar_mid (P := Try.prog) (x.setCells Z 0 C.toList) Z 0 29 C.toList _ (World.rangeAt_setCells_same x Z 0 C.toList (by rw [Array.length_toList]; exact hth)) Try.underlying29 rfl hi1
  have hi2 : (Try.prog.info? 29).map (·.size) = some C.size := by rw [hsz]; kernel_rfl
  have HC := hide hC
  have hfo := (unhide I0).fixed h C.toList
  have HFX := hide hfo
  clear hC hsz I0 hfo c0 k1 k2 k3 k4
  go_wp2_with (first | refine wpList_load_mid rfl 29 (.tmp 3) rfl M 0 rfl C.toList _ hrg Try.underlying29 rfl hi1 ?_ | refine wpList_store_mid rfl 29 (.tmp 4) (.tmp 47) rfl Z 0 C rfl rfl hth hi2 hone ?_)
  obtain ⟨W, hW⟩ : ∃ W, x.setCells Z 0 C.toList = W := ⟨_, rfl⟩
  have HW := hide hW
  rw [hW] at hld ⊢
  clear hrg hth hone hi1 hi2 hW
  go_wp2
  refine bodyPost_ret (v := .agg C) (by simp [results, Try.results32, Act.put, asAddr, hld]) rfl ?_
  have hW := unhide HW
  have hC := unhide HC
  obtain ⟨h1, h2⟩ := unhide HFX
  subst hW
  subst hC
  exact ⟨rfl, h1, h2⟩

end

end Go.Proofs.Ytiegccdgoemamaa

namespace Go.Proofs.Ytiegccdgoemamaa
open Go.RowKit

theorem wpList_store_gen {P : Program} {ops : Array Oper} {rest : List Oper} {op : Oper} {a : Act} {w : World} {Q : Exit → Act → World → Prop} (hgd : op.guard = none) (ty : TypeId) (x y : Operand) (ho : op.op = .store ty x y)
    (b o : Nat) (cells : Array Value) (hx : a.eval x = .pointer (some ⟨b, o, none⟩)) (hy : a.eval y = .agg cells)
    (ht : w.there b o cells.size) (hi : (P.info? ty).map (·.size) = some cells.size) (h1 : cells.all (·.oneCell') = true)
    (h : ∀ W, W = w.setCells b o cells.toList → wpList P ops Q rest (a.put op.dst undef) W) : wpList P ops Q (op :: rest) a w :=
  wpList_store_mid hgd ty x y ho b o cells hx hy ht hi h1 (h _ rfl)

/-- A datagram of which the kind alone is known. -/
def Wr.G.kind (k : Int) : Wr.G := ⟨fun j => if j = 0 then k else 0, false, 0, fun _ => (none, 0, 0), (none, 0, 0), (none, 0, 0)⟩

theorem Wr.G.kind_cells (k : Int) : (Wr.G.kind k).cells = #[.int .i64 k, .int .i64 0, .int .i64 0, .bool false, .int .u32 0, .int .i64 0, .int .i64 0, .int .i64 0, .int .i64 0, .int .i64 0, .int .i64 0, .int .i64 0, .slice none 0 0, .int .i64 0, .int .i64 0, .int .i64 0, .int .i64 0, .slice none 0 0, .int .i64 0, .int .i64 0, .int .i64 0, .int .i64 0, .slice none 0 0, .slice none 0 0, .slice none 0 0, .slice none 0 0, .int .i64 0, .int .i64 0, .int .i64 0, .slice none 0 0] := rfl

/-- What is gone through is read: the datagram, and the side behind it. -/
def Wr.GoesP (P G : Nat) (o : Obj) (X : World → World → Wr.G → Prop) (y : World) (B : Nat → Prop) (R : List Int × Int) (e : Ending) (y' : World) : Prop :=
  ∃ B' Gm, e = .returned (.agg (Wr.G.cells Gm)) ∧ Wr.Par P G o y' R B' ∧ Wr.K y B y' B' ∧ X y y' Gm

/-- Bytes in memory. -/
structure Wr.SrcIn (w : World) (G : Nat) (ob : Obj) (o C : Nat) (l : List Int) : Prop where
  src : w.heap[G]? = some ob
  cell : ∀ i b, l[i]? = some b → w.cell? ⟨G, o + i, none⟩ = some (.int .u8 b)
  byte : ∀ b ∈ l, 0 ≤ b ∧ b ≤ 255
  len : l.length ≤ C
  cap : C ≤ 9223372036854775807

/-- A datagram is handed back, or an error is. -/
def Wr.Parsed (w : World) (X : World → World → Wr.G → Prop) (R : List Int × Int) (e : Ending) (w' : World) : Prop :=
  Turn (fun _ => False) w w' ∧
  (if R.2 ≠ 0 then e = .returned (.tuple #[.agg Wr.G.zero.cells, .int .i64 R.2])
   else if R.1 ≠ [] then e = .returned (.tuple #[.agg Wr.G.zero.cells, .int .i64 8])
   else ∃ y y' M Gm, e = .returned (.tuple #[.agg (Wr.G.cells Gm), .int .i64 0]) ∧ w.heap.size ≤ M ∧ M < y.heap.size ∧ X y y' Gm ∧ Turn (fun b => b = M) y' w')

set_option maxRecDepth 16000 in
set_option maxHeartbeats 6400000 in
theorem wParse_any (G : Nat) (ob : Obj) (o C : Nat) (k : Int) (l : List Int) (w : World) (hs : Wr.SrcIn w G ob o C (k :: l)) (hk : 1 ≤ k ∧ k ≤ 4) (R : List Int × Int) (X : World → World → Wr.G → Prop)
    (hT : ∀ P y B, w.heap.size < P → P < y.heap.size → Turn (fun _ => False) w y → (∀ b, B b ↔ Wr.parB P G b) → Wr.Par P G ob y (l, 0) B → Calls Try.prog 32 #[.agg #[.iface 82 (.pointer (some ⟨P, 0, none⟩))], .agg (Wr.G.kind k).cells] y (Wr.GoesP P G ob X y B R)) :
    Calls Try.prog 14 #[.slice (some ⟨G, o, none⟩) (l.length + 1) C] w (Wr.Parsed w X R) := by
  have HS := hide hs
  obtain ⟨x, hx⟩ : ∃ x, x = w.alloc (.cells Wr.G.zero.cells 29) := ⟨_, rfl⟩
  have hgw : w.grownBy x none := by rw [hx]; exact World.grownBy_alloc _ _ _
  have hb : Wr.Bx x w.heap.size 29 30 Wr.G.zero.box := by rw [hx]; exact Wr.msgBox w Wr.G.zero
  obtain ⟨M, hM⟩ : ∃ M, w.heap.size = M := ⟨_, rfl⟩
  rw [hM] at hb
  have HM := hide hM
  have HB := hide hb
  have HG := hide hgw
  have HT := hide hT
  have cw := hide (fun x => wKind_any k x)
  have hd : (decide (1 ≤ k) && decide (k ≤ 4)) = true := by simp [hk.1, hk.2]
  rw [hd] at cw
  unfold Wr.G.cells Wr.G.zero at hx
  dsimp only at hx
  obtain ⟨L, hL⟩ : ∃ L, l.length + 1 = L := ⟨_, rfl⟩
  rw [hL]
  have HL := hide hL
  clear hd hk hb hT hgw hs hL
  go_enter Try.func14, Try.ntmps14
  go_upto_region 1 with fail
  rw [← hx]
  clear hx hM
  go_upto_region 2 with fail
  obtain ⟨P, hP⟩ : ∃ P, x.heap.size = P := ⟨_, rfl⟩
  obtain ⟨x1, hx1⟩ : ∃ x1, x.alloc (.cells #[.slice (some ⟨G, o, none⟩) L C, .int .i64 0] 86) = x1 := ⟨_, rfl⟩
  rw [hx1, hP]
  have h1 : x.grownBy x1 none := by rw [← hx1]; exact World.grownBy_alloc _ _ _
  have hGw : G < w.heap.size := (Array.getElem?_eq_some_iff.1 (unhide HS).src).1
  have hGx : G < x.heap.size := Nat.lt_of_lt_of_le hGw (unhide HG).size
  have g1 : w.grownBy x1 none := (unhide HG).trans h1
  have p1 : Wr.ParV P G ob x1 (k :: l) 0 := by
    refine ⟨⟨some ⟨G, o, none⟩, C, ?_, (unhide HS).len, (unhide HS).cap, fun _ => ⟨o, rfl, fun i b hi => (grown_cell g1 G (o + i) hGw (by simp)).trans ((unhide HS).cell i b hi)⟩⟩, (unhide HS).byte, (g1.block G hGw (by simp)).trans (unhide HS).src, by omega⟩
    rw [← hx1, ← hP]
    refine Arr.congr (n := 2) (Arr.lit (heap_alloc_new x _)) (fun i hi => ?_)
    rcases (show i = 0 ∨ i = 1 by omega) with rfl | rfl
    · show Value.slice (some ⟨G, o, none⟩) L C = _
      rw [← unhide HL]
      rfl
    · rfl
  have ct := hide (wTake_yes P G 1 ob (k :: l) 0 x1 p1 (by simp) (by decide) (by decide))
  unfold Wr.Took at ct
  rw [show Wr.be ((k :: l).take 1) = k by simp [Wr.be], show (k :: l).drop 1 = l from rfl] at ct
  have HB1 := hide ((unhide HB).on h1)
  have hMP : M < P := by rw [← hP]; exact (unhide HB).lt
  have HMP := hide hMP
  have HG1 := hide g1
  have HPw := hide (show P < x1.heap.size by rw [← hx1, ← hP]; simp)
  clear hx1 hP h1 p1 g1 hMP HB HG hGx
  go_wp2_with fail
  refine (unhide ct).mono ?_
  rintro e y ⟨u, rfl, hy, hv⟩
  have htY : Turn (fun b => b = P) x1 y := by rw [hy]; exact (Turn.refl _ x1).store P 0 u rfl
  have HB2 := hide ((unhide HB1).turn htY (by have := unhide HMP; omega))
  have HTY := hide htY
  have HV := hide hv
  clear hy hv htY HB1 ct
  go_wp2_with fail
  refine (unhide cw _).mono ?_
  rintro e z ⟨rfl, hz⟩
  rw [hz]
  clear hz z cw
  go_upto_region 7 with fail
  have HW1 : Hid (Turn (fun _ => False) w y) := (show Turn (fun _ => False) w y from (Turn.new (B := fun _ => False) (unhide HG1)).trans (unhide HTY) (fun i hi q => by have h1 := unhide HMP; have h2 := unhide HM; have q' : i = P := q; omega))
  have ct := hide (unhide HT P y (Wr.parB P G) (by have h1 := unhide HMP; have h2 := unhide HM; omega) (Nat.lt_of_lt_of_le (unhide HPw) (unhide HTY).size) (unhide HW1) (fun b => Iff.rfl) ⟨unhide HV, fun b => Iff.rfl⟩)
  rw [Wr.G.kind_cells] at ct
  clear HT HV
  go_wp2_with fail
  refine (unhide ct).mono ?_
  rintro e y2 ⟨B2, Gm, rfl, hp2, hk2, hX⟩
  clear ct
  obtain ⟨CG, hCG⟩ : ∃ q, Wr.G.cells Gm = q := ⟨_, rfl⟩
  rw [hCG]
  have hsz : CG.size = 30 := by rw [← hCG]; rfl
  have hone : CG.all (·.oneCell') = true := by rw [← hCG]; exact Wr.G.one _
  have hi2 : (Try.prog.info? 29).map (·.size) = some CG.size := by rw [hsz]; kernel_rfl
  have HCG := hide hCG
  have hth : (y2.alloc (.cells Wr.G.zero.cells 29)).there y2.heap.size 0 CG.size := fun j hj => by
    have q := Wr.msgBox y2 Wr.G.zero
    rw [hsz] at hj
    rw [Nat.zero_add]
    exact ⟨by rw [q.cell hj]; rfl, q.free j⟩
  clear hCG
  go_upto_region 8 with (refine wpList_store_gen rfl 29 (.tmp 7) (.tmp 33) rfl y2.heap.size 0 CG rfl rfl hth hi2 hone ?_; intro W hW; replace hW := hide hW)
  obtain ⟨Z, hZ⟩ : ∃ Z, y2.heap.size = Z := ⟨_, rfl⟩
  rw [hZ]
  have hWZ : W = (y2.alloc (.cells Wr.G.zero.cells 29)).setCells Z 0 CG.toList := by rw [← hZ]; exact unhide hW
  have t1 : Turn (fun _ => False) y2 W := by
    have q0 : Turn (fun b => b = Z) y2 W := by
      rw [hWZ]
      exact (Turn.new (B := fun b => b = Z) (World.grownBy_alloc y2 _ none)).trans (Wr.turn_cells Z CG.toList 0 _) (fun _ _ q => q)
    exact ⟨q0.os, q0.tape, q0.output, q0.size, fun i hi _ => q0.block i hi (by omega)⟩
  have hbz : Wr.Bx W Z 29 30 Gm.box := by
    rw [hWZ, ← unhide HCG, ← hZ]
    exact (Wr.msgBox y2 Wr.G.zero).over Gm
  have hbM : Wr.Bx W M 29 30 Wr.G.zero.box := ((unhide HB2).turn hk2.turn (by
    rintro (q | q)
    · have := unhide HMP; omega
    · have := unhide HM; omega)).turn t1 (fun q => q)
  have hpW := hp2.1.turn t1 (fun q => q) (fun q => q)
  have hMZ : M ≠ Z := by
    have h1 := (unhide HB2).lt
    have h2 := hk2.turn.size
    omega
  have hMy : M < y.heap.size := (unhide HB2).lt
  have TW : Turn (fun _ => False) w y2 := by
    have q : Turn (fun b => b = G) w y2 := ((unhide HW1).mono (fun _ q => q.elim)).trans hk2.turn (fun i hi q => by
      rcases q with q | q
      · have h1 := unhide HMP; have h2 := unhide HM; omega
      · exact q)
    refine ⟨q.os, q.tape, q.output, q.size, fun i hi _ => ?_⟩
    by_cases e : i = G
    · rw [e]; exact hp2.1.src.trans (unhide HS).src.symm
    · exact q.block i hi e
  have HMy := hide (And.intro (show w.heap.size ≤ M by have := unhide HM; omega) hMy)
  have HXX := hide hX
  have HT1 := hide t1
  have HTW := hide (TW.trans t1 (fun _ _ q => q))
  have HBZ := hide hbz
  have HBM := hide hbM
  have HMZ := hide hMZ
  obtain ⟨Rl, Re⟩ := R
  dsimp only at hpW
  obtain ⟨pp, pC, hbx, -⟩ := hpW.box
  have e1 : W.cell? ⟨P, 1, none⟩ = some (.int .i64 Re) := hbx.cell (i := 1) (by omega)
  have e0 : W.cell? ⟨P, 0, none⟩ = some (.slice pp Rl.length pC) := hbx.cell (i := 0) (by omega)
  have hPM : P ≠ M := by have := unhide HMP; omega
  have HPW := hide (show P < W.heap.size from hbx.lt)
  have f2 : ∀ V, V = W.setCells M 0 Wr.G.zero.cells.toList → Wr.Bx V M 29 30 Wr.G.zero.box ∧ Turn (fun b => b = M) W V := fun V hV => by
    rw [hV]
    exact ⟨hbM.over Wr.G.zero, Wr.turn_cells M _ 0 W⟩
  have F2 := hide f2
  clear f2 t1 hbz hbM hpW hMZ hMy TW hX hp2 hk2 hbx hWZ hW HW1 HTY HB2 HPw HG1 hth hone hi2 hsz hZ
  have hth : W.there M 0 Wr.G.zero.cells.size := (unhide HBM).thereG Wr.G.zero
  have hi2 : (Try.prog.info? 29).map (·.size) = some Wr.G.zero.cells.size := by kernel_rfl
  have hone : Wr.G.zero.cells.all (·.oneCell') = true := Wr.G.one _
  by_cases hRe : Re = 0
  · subst hRe
    by_cases hRl : Rl = []
    · subst hRl
      clear hth hi2 hone F2
      rw [List.length_nil] at e0
      have hrg : W.rangeAt Z 0 CG.toList := by rw [← unhide HCG]; exact (unhide HBZ).rangeG
      have hth : W.there M 0 CG.size := by rw [← unhide HCG]; exact (unhide HBM).thereG Gm
      have hone : CG.all (·.oneCell') = true := by rw [← unhide HCG]; exact Wr.G.one _
      have hi1 : (Try.prog.info? 29).map (·.size) = some CG.toList.length := by rw [← unhide HCG]; kernel_rfl
      have hi2 : (Try.prog.info? 29).map (·.size) = some CG.size := by rw [← unhide HCG]; kernel_rfl
      go_upto_region 12 with fail
      go_wp2_with (first | refine wpList_load_mid rfl 29 (.tmp 7) rfl Z 0 rfl CG.toList _ hrg Try.underlying29 rfl hi1 ?_ | (refine wpList_store_gen rfl 29 (.tmp 2) (.tmp 54) rfl M 0 CG rfl rfl hth hi2 hone ?_; intro V hV; replace hV := hide hV))
      have hbV : Wr.Bx V M 29 30 Gm.box := by
        rw [show V = _ from unhide hV, ← unhide HCG]
        exact (unhide HBM).over Gm
      have htV : Turn (fun b => b = M) W V := by
        rw [show V = _ from unhide hV]
        exact Wr.turn_cells M _ 0 W
      have hld : (loadVar 29 ⟨M, 0, none⟩).run Try.prog V = .ok (.agg CG) V :=
        run_loadVar_mid (P := Try.prog) V M 0 29 CG.toList _ (by rw [← unhide HCG]; exact hbV.rangeG) Try.underlying29 rfl hi1
      refine bodyPost_ret (v := .tuple #[.agg CG, .int .i64 0]) (by simp [results, Try.results14, asAddr, hld]) rfl ?_
      exact ⟨(unhide HTW).trans htV (fun i hi q => by have := (unhide HMy).1; omega), by rw [if_neg (by simp), if_neg (by simp)]; exact ⟨y, y2, M, Gm, by rw [unhide HCG], (unhide HMy).1, (unhide HMy).2, unhide HXX, ((unhide HT1).mono (fun _ q => q.elim)).trans htV (fun _ _ q => q)⟩⟩
    · have hgt : (Rl.length : Int) > 0 := by
        have := List.length_pos_iff.2 hRl
        omega
      have HRl := hide hRl
      clear hRl hPM
      go_upto_region 11 with fail
      go_wp2_with (refine wpList_store_gen rfl 29 (.tmp 2) (.tmp 53) rfl M 0 Wr.G.zero.cells rfl rfl hth hi2 hone ?_; intro V hV; replace hV := hide hV)
      obtain ⟨hbV, htV⟩ := unhide F2 V (unhide hV)
      have hld : (loadVar 29 ⟨M, 0, none⟩).run Try.prog V = .ok (.agg Wr.G.zero.cells) V :=
        run_loadVar_mid (P := Try.prog) V M 0 29 Wr.G.zero.cells.toList _ hbV.rangeG Try.underlying29 rfl (by kernel_rfl)
      refine bodyPost_ret (v := .tuple #[.agg Wr.G.zero.cells, .int .i64 8]) (by simp [results, Try.results14, asAddr, hld]) rfl ?_
      exact ⟨(unhide HTW).trans htV (fun i hi q => by have := (unhide HMy).1; omega), by rw [if_neg (by simp), if_pos (unhide HRl)]⟩
  · have hRb : (Re == 0) = false := by simp [hRe]
    have HRe := hide hRe
    clear hRe hth
    go_upto_region 9 with fail
    have hgd : W.grownBy W.drew none := ⟨rfl, rfl, rfl, Nat.le_refl _, fun _ _ _ => rfl⟩
    have hS0 : Hid (W.drew.cell? ⟨P, 1, none⟩ = some (.int .i64 Re)) := e1
    have BMd := (unhide HBM).on hgd
    have TD := hide ((unhide HTW).then hgd)
    have hth : W.drew.there M 0 Wr.G.zero.cells.size := BMd.thereG Wr.G.zero
    have hbV := BMd.over Wr.G.zero
    have htV := Wr.turn_cells M Wr.G.zero.cells.toList 0 W.drew
    have hS1 : Hid ((W.drew.setCells M 0 Wr.G.zero.cells.toList).cell? ⟨P, 1, none⟩ = some (.int .i64 Re)) := (htV.cell (Nat.lt_of_lt_of_le (unhide HPW) hgd.size) hPM 1).trans e1
    refine wp_region_till (h := 6) (S := fun x => Hid (x.cell? ⟨P, 1, none⟩ = some (.int .i64 Re))) (by kernel_rfl) ?_
    refine wpTill_take (i := 1) (v := ?_) [6] rfl (by kernel_rfl) (by kernel_rfl) (by kernel_rfl) (by kernel_rfl) (fun _ _ _ h => h) hS0 (Or.inl ⟨by rfl, ?_⟩) ?_
    rotate_left
    · intro x hSx
      clear hSx
      go_simp
      try with_reducible rfl
    simp only [Act.put, List.getElem_toArray, List.getElem_cons_zero, List.getElem_cons_succ, List.setIfInBounds_toArray, List.set_cons_succ, List.set_cons_zero]
    refine wpTill_take (i := 2) (v := ?_) [6] rfl (by kernel_rfl) (by kernel_rfl) (by kernel_rfl) (by kernel_rfl) (fun _ _ _ h => h) hS0 (Or.inl ⟨by rfl, ?_⟩) ?_
    rotate_left
    · intro x hSx
      clear hSx
      go_simp
      try with_reducible rfl
    simp only [Act.put, List.getElem_toArray, List.getElem_cons_zero, List.getElem_cons_succ, List.setIfInBounds_toArray, List.set_cons_succ, List.set_cons_zero]
    refine wpTill_take (i := 3) (v := ?_) [6] rfl (by kernel_rfl) (by kernel_rfl) (by kernel_rfl) (by kernel_rfl) (fun _ _ _ h => h) hS0 (Or.inl ⟨by rfl, ?_⟩) ?_
    rotate_left
    · intro x hSx
      clear hSx
      go_simp
      try with_reducible rfl
    simp only [Act.put, List.getElem_toArray, List.getElem_cons_zero, List.getElem_cons_succ, List.setIfInBounds_toArray, List.set_cons_succ, List.set_cons_zero]
    refine wpTill_take (i := 4) (v := ?_) [6] rfl (by kernel_rfl) (by kernel_rfl) (by kernel_rfl) (by kernel_rfl) (fun _ _ _ h => h) hS0 (Or.inl ⟨by rfl, ?_⟩) ?_
    rotate_left
    · intro x hSx
      have q0 := unhide hSx
      clear hSx
      go_simp
      try with_reducible rfl
    simp only [Act.put, List.getElem_toArray, List.getElem_cons_zero, List.getElem_cons_succ, List.setIfInBounds_toArray, List.set_cons_succ, List.set_cons_zero]
    refine wpTill_take (i := 0) (v := .agg Wr.G.zero.cells) [6] rfl (by kernel_rfl) (by kernel_rfl) (by kernel_rfl) (by kernel_rfl) (fun _ _ _ h => h) hS0 (Or.inl ⟨by rfl, ?_⟩) ?_
    · intro x hSx
      clear hSx
      go_simp
      rfl
    simp only [Act.put, List.getElem_toArray, List.getElem_cons_zero, List.setIfInBounds_toArray, List.set_cons_succ, List.set_cons_zero]
    refine wpTill_only (j := 5) (by kernel_rfl) rfl (fun K hK => ?_)
    refine Wr.wanted (by rfl) ?_
    refine wp_store_mid 29 (.tmp 2) (.tmp 40) rfl M 0 Wr.G.zero.cells rfl rfl hth hi2 hone ?_
    refine hK.out _ _ (fun _ => hS1) ?_
    clear hK K
    obtain ⟨V, hV⟩ : ∃ V, W.drew.setCells M 0 Wr.G.zero.cells.toList = V := ⟨_, rfl⟩
    rw [hV] at hbV htV hS1 ⊢
    have hld : (loadVar 29 ⟨M, 0, none⟩).run Try.prog V = .ok (.agg Wr.G.zero.cells) V :=
      run_loadVar_mid (P := Try.prog) V M 0 29 Wr.G.zero.cells.toList _ hbV.rangeG Try.underlying29 rfl (by kernel_rfl)
    clear hV hth hone hi2 BMd
    refine wpTill_only (j := 6) (by kernel_rfl) rfl (fun K hK => ?_)
    go_simp
    refine hK.out _ _ (fun hx => absurd (hx.symm.trans (by kernel_rfl)) Bool.false_ne_true) ?_
    clear hK K
    refine wpTill_done (by kernel_rfl) ?_ _
    go_wp2
    refine bodyPost_ret (v := .tuple #[.agg Wr.G.zero.cells, .int .i64 Re]) (by simp [results, Try.results14, asAddr, hld]) rfl ?_
    exact ⟨(unhide TD).trans htV (fun i hi q => by have := (unhide HMy).1; omega), by rw [if_pos (unhide HRe)]⟩

end Go.Proofs.Ytiegccdgoemamaa

namespace Go.Proofs.Ytiegccdgoemamaa
open Go.RowKit

theorem Wr.kind_ok {k : Int} (hk : 1 ≤ k ∧ k ≤ 4) : ∀ j, -9223372036854775808 ≤ (Wr.G.kind k).n j ∧ (Wr.G.kind k).n j ≤ 9223372036854775807 := fun j => by
  unfold Wr.G.kind
  dsimp only
  split <;> omega

/-- What is read of a datagram that joins; that goes up; of a chunk; of one that goes down. -/
def Wr.joinP (l : List Int) : (List Int × Int) × Int × Int := Wr.joinS Wr.parS (l, 0) (Wr.G.kind 1)
def Wr.headP (k : Int) (l : List Int) : (List Int × Int) × Int × Int := Wr.headS Wr.parS (l, 0) (Wr.G.kind k)
def Wr.kindP (k : Int) (l : List Int) : Wr.G := Wr.headG (Wr.G.kind k) (Wr.headP k l)
def Wr.upP (l : List Int) := Wr.upS Wr.parS (Wr.headP 2 l).1 (Wr.kindP 2 l) (fun _ => 0)
def Wr.chunkP (l : List Int) := Wr.chunkS Wr.parS (Wr.headP 4 l).1 (Wr.kindP 4 l) (fun _ => 0)
def Wr.downP (l : List Int) := Wr.downS Wr.parS (Wr.headP 3 l).1 (Wr.kindP 3 l) (fun _ _ => 0) (fun _ _ => 0)

def Wr.JoinX (l : List Int) (_y _y' : World) (Gm : Wr.G) : Prop := Gm = ((Wr.G.kind 1).num 2 (Wr.joinP l).2.1).set3 ((Wr.joinP l).2.2 == 1)

def Wr.UpX (l : List Int) (y y' : World) (Gm : Wr.G) : Prop :=
  ∃ O, Gm = ((((((Wr.kindP 2 l).set4 (Wr.upP l).2.1).num 5 (Wr.upP l).2.2.1).four 6 (Wr.upP l).2.2.2.1 4).num 10 (Wr.upP l).2.2.2.2.1).num 11 (Wr.upP l).2.2.2.2.2.1).set12 (some ⟨O, 0, none⟩, (Wr.upP l).2.2.2.2.2.2.length, (Wr.upP l).2.2.2.2.2.2.length) ∧ y.heap.size ≤ O ∧ y'.heap[O]? = some (.cells ((Wr.upP l).2.2.2.2.2.2.map (Value.int .i64)).toArray 3 (0, 0))

def Wr.ChunkX (l : List Int) (y y' : World) (Gm : Wr.G) : Prop :=
  ∃ O, Gm = ((((Wr.kindP 4 l).num 15 (Wr.chunkP l).2.1).num 27 (Wr.chunkP l).2.2.1).num 28 (Wr.chunkP l).2.2.2.1).set29 (some ⟨O, 0, none⟩, (Wr.chunkP l).2.2.2.2.length, (Wr.chunkP l).2.2.2.2.length) ∧ y.heap.size ≤ O ∧ y'.heap[O]? = some (.cells ((Wr.chunkP l).2.2.2.2.map (Value.int .u8)).toArray 5 (0, 0))

def Wr.DownX (l : List Int) (y y' : World) (Gm : Wr.G) : Prop :=
  ∃ O Os, Gm = Wr.downG (Wr.kindP 3 l) (Wr.downP l) O Os ∧ y.heap.size ≤ O ∧ Wr.Bx y' O 50 ((Wr.downP l).2.2.2.2.2.1.1 * 5) (Wr.flat (Wr.downP l).2.2.2.2.2.1.2) ∧ ∀ j, j < 4 → y.heap.size ≤ Os j ∧ y'.heap[Os j]? = some (Wr.rowObj ((Wr.downP l).2.2.2.2.2.2.1 j).2)

theorem wParse_join (G : Nat) (ob : Obj) (o C : Nat) (l : List Int) (w : World) (hs : Wr.SrcIn w G ob o C (1 :: l)) :
    Calls Try.prog 14 #[.slice (some ⟨G, o, none⟩) (l.length + 1) C] w (Wr.Parsed w (Wr.JoinX l) (Wr.joinP l).1) :=
  wParse_any G ob o C 1 l w hs (by decide) _ _ fun P y B _ _ _ _ hp => (wThrough_join (Wr.parSide P G ob) (Wr.G.kind 1) rfl (Wr.kind_ok (by decide)) hp trivial).mono (by
    rintro e y' ⟨B', h1, h2, h3⟩
    exact ⟨B', _, h1, h2, h3, rfl⟩)

theorem wParse_up (G : Nat) (ob : Obj) (o C : Nat) (l : List Int) (w : World) (hs : Wr.SrcIn w G ob o C (2 :: l)) :
    Calls Try.prog 14 #[.slice (some ⟨G, o, none⟩) (l.length + 1) C] w (Wr.Parsed w (Wr.UpX l) (Wr.upP l).1) :=
  wParse_any G ob o C 2 l w hs (by decide) _ _ fun P y B _ _ _ _ hp => (wThrough_up (Wr.parSide P G ob) (Wr.G.kind 2) (fun _ => 0) rfl (Wr.kind_ok (by decide)) (by decide) (Nat.zero_le _) (fun i hi => absurd hi (Nat.not_lt_zero i)) hp trivial).mono (by
    rintro e y' h
    obtain ⟨B', O, Gm, hG, h1, hO, -, hc, h2, h3⟩ := Wr.upsG h
    exact ⟨B', Gm, h1, h2, h3, O, hG, hO, hc⟩)

theorem wParse_chunk (G : Nat) (ob : Obj) (o C : Nat) (l : List Int) (w : World) (hs : Wr.SrcIn w G ob o C (4 :: l)) :
    Calls Try.prog 14 #[.slice (some ⟨G, o, none⟩) (l.length + 1) C] w (Wr.Parsed w (Wr.ChunkX l) (Wr.chunkP l).1) :=
  wParse_any G ob o C 4 l w hs (by decide) _ _ fun P y B _ _ _ _ hp => (wThrough_chunk (Wr.parSide P G ob) (Wr.G.kind 4) (fun _ => 0) rfl (Wr.kind_ok (by decide)) (Nat.zero_le _) (fun i hi => absurd hi (Nat.not_lt_zero i)) hp trivial).mono (by
    rintro e y' h
    obtain ⟨B', O, Gm, hG, h1, hO, -, hc, h2, h3⟩ := Wr.chunksG h
    exact ⟨B', Gm, h1, h2, h3, O, hG, hO, hc⟩)

theorem wParse_down (G : Nat) (ob : Obj) (o C : Nat) (l : List Int) (w : World) (hs : Wr.SrcIn w G ob o C (3 :: l)) :
    Calls Try.prog 14 #[.slice (some ⟨G, o, none⟩) (l.length + 1) C] w (Wr.Parsed w (Wr.DownX l) (Wr.downP l).1) :=
  wParse_any G ob o C 3 l w hs (by decide) _ _ fun P y B _ _ _ _ hp => (wThrough_down (Wr.parSide P G ob) (Wr.G.kind 3) (fun _ _ => 0) (fun _ _ => 0) rfl (Wr.kind_ok (by decide)) (Nat.zero_le _) (fun _ => rfl) (fun i hi => absurd hi (Nat.not_lt_zero i)) (fun i j hi => absurd hi (Nat.not_lt_zero i)) (fun i _ => Nat.zero_le _) (fun i _ j hj => absurd hj (Nat.not_lt_zero j)) hp trivial).mono (by
    rintro e y' h
    obtain ⟨B', O, Os, Gm, hG, h1, hO, -, hc, hs, h2, h3⟩ := Wr.downsG h
    exact ⟨B', Gm, h1, h2, h3, O, Os, hG, hO, hc, fun j hj => ⟨(hs j hj).1, (hs j hj).2.2⟩⟩)

end Go.Proofs.Ytiegccdgoemamaa
