import Derived.Test.YtkcooekhigmioaaGreatPart11
import Derived.Laws.BytesArg
import Derived.ChangeKeysEq
import Derived.Test.YtkcooekhigmioaaGreatPart10
namespace Go.Proofs.YtkcooekhigmioaaGreat
open Go.RowKit

def Gd.text (c:Nat→Int):ByteArray:=strOfNums ((List.range 384).map c)

theorem Lie.text {w:World} {G cap:Nat} {c:Nat→Int} (h:Lie w G 5 384 (Byts c)):(convert 26 9 (.slice (some ⟨G,0,none⟩) 384 cap)).run Tryz.prog w=.ok (.string (Gd.text c)) w:=by
 refine run_convert_bytes_arg w 26 5 Tryz.underlying26 Tryz.underlying5 G 0 384 cap ((List.range 384).map c) (by simp) (fun i hi=>?_) 9 Tryz.underlying9
 rw [Nat.zero_add,h.cell hi]
 show some (Value.int .u8 (c i))=_
 simp [List.getD,List.getElem?_map,List.getElem?_range hi]

theorem run_eq_gold (a b c d:Int) (w:World):(Op.equalIn 10000 29 (.agg #[.int .i64 a,.int .i64 b,.int .i64 c,.int .i64 d]) (.agg #[.int .i64 a,.int .i64 b,.int .i64 c,.int .i64 d])).run Tryz.prog w=.ok true w:=by
 obtain ⟨i0,hi,_,_,_⟩:=info_parts info_int
 have hc:Tryz.prog.cellsOf 3=1:=by kernel_rfl
 have h:=run_equalIn_array (P:=Tryz.prog) (w:=w) 9999 #[.int .i64 a,.int .i64 b,.int .i64 c,.int .i64 d] #[.int .i64 a,.int .i64 b,.int .i64 c,.int .i64 d] Tryz.underlying29 hi
 have hr:(Op.eqItems 9999 3 (Tryz.prog.cellsOf 3) #[Value.int .i64 a,.int .i64 b,.int .i64 c,.int .i64 d] #[.int .i64 a,.int .i64 b,.int .i64 c,.int .i64 d] (List.range 4)).run Tryz.prog w=.ok true w:=by
  rw [hc]
  simp [List.range,List.range.loop,Op.eqItems,go_sem]
 rw [hr] at h
 exact h

set_option maxRecDepth 8000 in
set_option maxHeartbeats 6400000 in
theorem same7_any (s g c:Nat→Int) (E I:Nat→Nat→Int) (gC gE gI cC cE cI hC hE hI dC dE dI:Nat) (w:World) (hL:Gd.Lists w gC gE gI c E I) (hL2:Gd.Lists w hC hE hI c E I) :
  Calls Tryz.prog 15 #[.agg (Gd.world s gC gE gI cC cE cI g),.agg (Gd.world s hC hE hI dC dE dI g)] w (Says w (.bool true)):=by
 obtain ⟨W,hW⟩:∃W,W=(w.alloc (.cells (Gd.world s gC gE gI cC cE cI g) 31)).alloc (.cells (Gd.world s hC hE hI dC dE dI g) 31):=⟨_,rfl⟩
 have hg:w.grownBy W none:=by rw [hW];exact gal (World.grownBy_alloc _ _ _) _
 have x1:Lie W w.heap.size 31 11 (Gd.box s gC gE gI cC cE cI g):=by
  rw [hW]
  exact ((Arr.world (heap_alloc_new w _)).alloc _).lie
 have x2:Lie W (w.heap.size+1) 31 11 (Gd.box s hC hE hI dC dE dI g):=by
  rw [hW]
  have h:=heap_alloc_new (w.alloc (.cells (Gd.world s gC gE gI cC cE cI g) 31)) (.cells (Gd.world s hC hE hI dC dE dI g) 31)
  rw [show (w.alloc (.cells (Gd.world s gC gE gI cC cE cI g) 31)).heap.size=w.heap.size+1 by simp] at h
  exact (Arr.world h).lie
 obtain ⟨B,hB⟩:∃B,w.heap.size=B:=⟨_,rfl⟩
 rw [hB] at x1 x2
 have x1':=hide x1
 have x2':=hide x2
 have hL':=hide (hL.on hg)
 have hL2':=hide (hL2.on hg)
 have hg':=hide hg
 have t1:=(uh hL').cells.text (cap:=cC)
 have t2:=(uh hL2').cells.text (cap:=dC)
 obtain ⟨T,hT⟩:∃T,T=Gd.text c:=⟨_,rfl⟩
 rw [←hT] at t1 t2
 obtain ⟨a0,a1,a2,a3,a4,a5,a6,a7,a8,a9,a10⟩:=x1.eleven
 obtain ⟨b0,b1,b2,b3,b4,b5,b6,b7,b8,b9,b10⟩:=x2.eleven
 have keep:Hid (∀x,W.grownBy x none→(x.cell? ⟨B,5,none⟩=some (.slice (some ⟨gE,0,none⟩) 32 cE)∧x.cell? ⟨B,6,none⟩=some (.slice (some ⟨gI,0,none⟩) 40 cI)∧x.cell? ⟨B+1,5,none⟩=some (.slice (some ⟨hE,0,none⟩) 32 dE)∧x.cell? ⟨B+1,6,none⟩=some (.slice (some ⟨hI,0,none⟩) 40 dI))):=fun x h =>
  ⟨((uh x1').on h).eleven.2.2.2.2.2.1,((uh x1').on h).eleven.2.2.2.2.2.2.1,((uh x2').on h).eleven.2.2.2.2.2.1,((uh x2').on h).eleven.2.2.2.2.2.2.1⟩
 have hgold:=fun wx=>run_eq_gold (g 0) (g 1) (g 2) (g 3) wx
 clear hL hL2 hg hT x1 x2
 unfold Gd.world at hW ⊢
 go_enter Tryz.func15,Tryz.ntmps15
 go_upto_region 1 with fail
 rw [←hW]
 clear hW hB
 go_wp2_with fail
 go_loopw [5] (fun vi wr=>∃k:Nat,k≤32∧vi=.int .i64 (k:Int)∧W.grownBy wr none) (fun vi _=>200 - (intOf vi).toNat)
 case atStart=>exact ⟨0,by omega,rfl,World.grownBy.refl _ _⟩
 case round =>
  clear hgold t1 t2 a0 a1 a2 a3 a4 a5 a6 a7 a8 a9 a10 b0 b1 b2 b3 b4 b5 b6 b7 b8 b9 b10
  obtain ⟨k,hk,rfl,hgr⟩:=hrel
  have hgr':=hide hgr
  obtain ⟨k1,k2,k3,k4⟩:=uh keep wr hgr
  clear hgr
  by_cases hlt:k<32
  ·have hlt':(k:Int)<32:=by omega
   obtain ⟨u0,u1,u2,u3,u4,u5,u6,u7,u8,u9,u10⟩:=((uh hL').on (uh hgr')).own.ents.row hlt
   obtain ⟨s0,s1,s2,s3,s4,s5,s6,s7,s8,s9,s10⟩:=((uh hL2').on (uh hgr')).own.ents.row hlt
   have hdr:Hid (∀m,W.grownBy (wr.drewN m) none):=fun m=>gdw (uh hgr') m
   have HL:=hide hlt
   clear hlt
   go_wp2_with fail
   go_quiet (fail)
   go_wp2
   go_roundw
   case rel=>exact ⟨k+1,by have:=uh HL;omega,by go_num,uh hdr _⟩
   case measure=>simp [intOf];omega
  ·have hge:¬(k:Int)<32:=by omega
   clear hlt
   go_wp2_with fail
   go_loopw [6] (fun vi wr=>∃k:Nat,k≤40∧vi=.int .i64 (k:Int)∧W.grownBy wr none) (fun vi _=>200 - (intOf vi).toNat)
   case atStart=>exact ⟨0,by omega,rfl,uh hgr'⟩
   case round =>
    clear k1 k2 k3 k4 hge hgr'
    obtain ⟨k,hk,rfl,hgr⟩:=hrel
    have hgr':=hide hgr
    obtain ⟨k1,k2,k3,k4⟩:=uh keep wr hgr
    clear hgr
    by_cases hlt:k<40
    ·have hlt':(k:Int)<40:=by omega
     obtain ⟨u0,u1,u2,u3⟩:=((uh hL').on (uh hgr')).its.row hlt
     obtain ⟨s0,s1,s2,s3⟩:=((uh hL2').on (uh hgr')).its.row hlt
     have hdr:Hid (∀m,W.grownBy (wr.drewN m) none):=fun m=>gdw (uh hgr') m
     have HL:=hide hlt
     clear hlt
     go_wp2_with fail
     go_quiet (fail)
     go_wp2
     go_roundw
     case rel=>exact ⟨k+1,by have:=uh HL;omega,by go_num,uh hdr _⟩
     case measure=>simp [intOf];omega
    ·have hge:¬(k:Int)<40:=by omega
     have hfin:=hide (gtr (uh hg') (uh hgr'))
     go_wp2
     go_ret
     exact ⟨rfl,uh hfin⟩


open Go.RowKit

def En.gen (e:Nat→Int) (g:Int):Nat→Int:=fun j=>if j=1 then g else e j

def Spawns (w:World) (n:Nat) (E:Nat→Nat→Int) (k:Nat) (e:Ending) (w':World):Prop :=
 ∃g cap,e=.returned (.tuple #[.slice (some ⟨g,0,none⟩) n cap,.int .i64 (k:Int),.int .i64 0])∧w.heap.size≤g∧n≤cap∧cap≤maxLen∧Own w' g n E∧w.grownBy w' none

end Go.Proofs.YtkcooekhigmioaaGreat
