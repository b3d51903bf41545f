import Derived.Laws.BytesArg
import Derived.ChangeKeysEq
import Derived.Test.YtapgkgbpekkdjaaGreatPart16
namespace Go.Proofs.YtapgkgbpekkdjaaGreat
open Go.RowKit

def Gd.text (c:Nat→Int):ByteArray:=strOfNums ((List.range 384).map c)

theorem Lie.text {w:World} {G cap:Nat} {c:Nat→Int} (h:Lie w G 5 384 (Byts c)):(convert 26 9 (.slice (some ⟨G,0,none⟩) 384 cap)).run Tryz.prog w=.ok (.string (Gd.text c)) w:=by
 refine run_convert_bytes_arg w 26 5 Tryz.underlying26 Tryz.underlying5 G 0 384 cap ((List.range 384).map c) (by simp) (fun i hi=>?_) 9 Tryz.underlying9
 rw [Nat.zero_add,h.cell hi]
 show some (Value.int .u8 (c i))=_
 simp [List.getD,List.getElem?_map,List.getElem?_range hi]

theorem run_eq_gold (a b c d:Int) (w:World):(Op.equalIn 10000 29 (.agg #[.int .i64 a,.int .i64 b,.int .i64 c,.int .i64 d]) (.agg #[.int .i64 a,.int .i64 b,.int .i64 c,.int .i64 d])).run Tryz.prog w=.ok true w:=by
 obtain ⟨i0,hi,_,_,_⟩:=info_parts info_int
 have hc:Tryz.prog.cellsOf 3=1:=by kernel_rfl
 have h:=run_equalIn_array (P:=Tryz.prog) (w:=w) 9999 #[.int .i64 a,.int .i64 b,.int .i64 c,.int .i64 d] #[.int .i64 a,.int .i64 b,.int .i64 c,.int .i64 d] Tryz.underlying29 hi
 have hr:(Op.eqItems 9999 3 (Tryz.prog.cellsOf 3) #[Value.int .i64 a,.int .i64 b,.int .i64 c,.int .i64 d] #[.int .i64 a,.int .i64 b,.int .i64 c,.int .i64 d] (List.range 4)).run Tryz.prog w=.ok true w:=by
  rw [hc]
  simp [List.range,List.range.loop,Op.eqItems,go_sem]
 rw [hr] at h
 exact h

set_option maxRecDepth 8000 in
set_option maxHeartbeats 6400000 in
theorem same7_any (s g c:Nat→Int) (E I:Nat→Nat→Int) (gC gE gI cC cE cI hC hE hI dC dE dI:Nat) (w:World) (hL:Gd.Lists w gC gE gI c E I) (hL2:Gd.Lists w hC hE hI c E I) :
  Calls Tryz.prog 16 #[.agg (Gd.world s gC gE gI cC cE cI g),.agg (Gd.world s hC hE hI dC dE dI g)] w (Says w (.bool true)):=by
 obtain ⟨W,hW⟩:∃W,W=(w.alloc (.cells (Gd.world s gC gE gI cC cE cI g) 31)).alloc (.cells (Gd.world s hC hE hI dC dE dI g) 31):=⟨_,rfl⟩
 have hg:w.grownBy W none:=by rw [hW];exact gal (World.grownBy_alloc _ _ _) _
 have x1:Lie W w.heap.size 31 11 (Gd.box s gC gE gI cC cE cI g):=by
  rw [hW]
  exact ((Arr.world (heap_alloc_new w _)).alloc _).lie
 have x2:Lie W (w.heap.size+1) 31 11 (Gd.box s hC hE hI dC dE dI g):=by
  rw [hW]
  have h:=heap_alloc_new (w.alloc (.cells (Gd.world s gC gE gI cC cE cI g) 31)) (.cells (Gd.world s hC hE hI dC dE dI g) 31)
  rw [show (w.alloc (.cells (Gd.world s gC gE gI cC cE cI g) 31)).heap.size=w.heap.size+1 by simp] at h
  exact (Arr.world h).lie
 obtain ⟨B,hB⟩:∃B,w.heap.size=B:=⟨_,rfl⟩
 rw [hB] at x1 x2
 have x1':=hide x1
 have x2':=hide x2
 have hL':=hide (hL.on hg)
 have hL2':=hide (hL2.on hg)
 have hg':=hide hg
 have t1:=(uh hL').cells.text (cap:=cC)
 have t2:=(uh hL2').cells.text (cap:=dC)
 obtain ⟨T,hT⟩:∃T,T=Gd.text c:=⟨_,rfl⟩
 rw [←hT] at t1 t2
 obtain ⟨a0,a1,a2,a3,a4,a5,a6,a7,a8,a9,a10⟩:=x1.eleven
 obtain ⟨b0,b1,b2,b3,b4,b5,b6,b7,b8,b9,b10⟩:=x2.eleven
 have keep:Hid (∀x,W.grownBy x none→(x.cell? ⟨B,5,none⟩=some (.slice (some ⟨gE,0,none⟩) 32 cE)∧x.cell? ⟨B,6,none⟩=some (.slice (some ⟨gI,0,none⟩) 40 cI)∧x.cell? ⟨B+1,5,none⟩=some (.slice (some ⟨hE,0,none⟩) 32 dE)∧x.cell? ⟨B+1,6,none⟩=some (.slice (some ⟨hI,0,none⟩) 40 dI))):=fun x h =>
  ⟨((uh x1').on h).eleven.2.2.2.2.2.1,((uh x1').on h).eleven.2.2.2.2.2.2.1,((uh x2').on h).eleven.2.2.2.2.2.1,((uh x2').on h).eleven.2.2.2.2.2.2.1⟩
 have hgold:=fun wx=>run_eq_gold (g 0) (g 1) (g 2) (g 3) wx
 clear hL hL2 hg hT x1 x2
 unfold Gd.world at hW ⊢
 go_enter Tryz.func16,Tryz.ntmps16
 go_upto_region 1 with fail
 rw [←hW]
 clear hW hB
 go_wp2_with fail
 go_loopw [5] (fun vi wr=>∃k:Nat,k≤32∧vi=.int .i64 (k:Int)∧W.grownBy wr none) (fun vi _=>200 - (intOf vi).toNat)
 case atStart=>exact ⟨0,by omega,rfl,World.grownBy.refl _ _⟩
 case round =>
  clear hgold t1 t2 a0 a1 a2 a3 a4 a5 a6 a7 a8 a9 a10 b0 b1 b2 b3 b4 b5 b6 b7 b8 b9 b10
  obtain ⟨k,hk,rfl,hgr⟩:=hrel
  have hgr':=hide hgr
  obtain ⟨k1,k2,k3,k4⟩:=uh keep wr hgr
  clear hgr
  by_cases hlt:k<32
  ·have hlt':(k:Int)<32:=by omega
   obtain ⟨u0,u1,u2,u3,u4,u5,u6,u7,u8,u9,u10⟩:=((uh hL').on (uh hgr')).own.ents.row hlt
   obtain ⟨s0,s1,s2,s3,s4,s5,s6,s7,s8,s9,s10⟩:=((uh hL2').on (uh hgr')).own.ents.row hlt
   have hdr:Hid (∀m,W.grownBy (wr.drewN m) none):=fun m=>gdw (uh hgr') m
   have HL:=hide hlt
   clear hlt
   go_wp2_with fail
   go_quiet (fail)
   go_wp2
   go_roundw
   case rel=>exact ⟨k+1,by have:=uh HL;omega,by go_num,uh hdr _⟩
   case measure=>simp [intOf];omega
  ·have hge:¬(k:Int)<32:=by omega
   clear hlt
   go_wp2_with fail
   go_loopw [6] (fun vi wr=>∃k:Nat,k≤40∧vi=.int .i64 (k:Int)∧W.grownBy wr none) (fun vi _=>200 - (intOf vi).toNat)
   case atStart=>exact ⟨0,by omega,rfl,uh hgr'⟩
   case round =>
    clear k1 k2 k3 k4 hge hgr'
    obtain ⟨k,hk,rfl,hgr⟩:=hrel
    have hgr':=hide hgr
    obtain ⟨k1,k2,k3,k4⟩:=uh keep wr hgr
    clear hgr
    by_cases hlt:k<40
    ·have hlt':(k:Int)<40:=by omega
     obtain ⟨u0,u1,u2,u3⟩:=((uh hL').on (uh hgr')).its.row hlt
     obtain ⟨s0,s1,s2,s3⟩:=((uh hL2').on (uh hgr')).its.row hlt
     have hdr:Hid (∀m,W.grownBy (wr.drewN m) none):=fun m=>gdw (uh hgr') m
     have HL:=hide hlt
     clear hlt
     go_wp2_with fail
     go_quiet (fail)
     go_wp2
     go_roundw
     case rel=>exact ⟨k+1,by have:=uh HL;omega,by go_num,uh hdr _⟩
     case measure=>simp [intOf];omega
    ·have hge:¬(k:Int)<40:=by omega
     have hfin:=hide (gtr (uh hg') (uh hgr'))
     go_wp2
     go_ret
     exact ⟨rfl,uh hfin⟩


open Go.RowKit

set_option maxRecDepth 8000 in
set_option maxHeartbeats 3200000 in
theorem refSpot_any (ca:Option Addr) (cc b n c:Nat) (f:Nat→Int) (E:Nat→Nat→Int) (x y:Int) (w:World)
  (hc:Vec w.heap.size w ca 384 (Byts f)) (hf:∀i,0≤f i∧f i≤255) (hE:Ents w b n E) :
  Calls Tryz.prog 93 #[.slice ca 384 cc,.slice (some ⟨b,0,none⟩) n c,.int .i64 x,.int .i64 y] w (Nv.SaysSpot w f E n x y):=by
 have hc':=hide hc
 have hf':=hide hf
 have hE':=hide hE
 clear hc hf hE
 by_cases hin:Gr.inB x y=true
 case neg =>
  rw [Bool.not_eq_true] at hin
  have he:=hide (Nv.spot_out (f:=f) (E:=E) (n:=n) (show Nv.num x y=-1 from if_neg (by rw [hin];simp)))
  have cI:=hide (fun wq=>refIn_any x y wq)
  rw [hin] at cI
  clear hin
  go_enter Tryz.func93,Tryz.ntmps93
  go_wp2_with fail
  refine (uh cI _).mono ?_
  rintro e w1 ⟨rfl,rfl⟩
  go_wp2
  go_ret
  exact ⟨_,uh he,rfl,World.grownBy.refl _ _⟩
 obtain ⟨b1,b2,b3,b4⟩:=(Gr.inB_iff _ _).1 hin
 obtain ⟨X,rfl⟩:∃X:Nat,x=(X:Int):=⟨x.toNat,by omega⟩
 obtain ⟨Y,rfl⟩:∃Y:Nat,y=(Y:Int):=⟨y.toNat,by omega⟩
 have hX:X<24:=by omega
 have hY:Y<16:=by omega
 have hme:Nv.num (X:Int) (Y:Int)=(Y:Int)*24+X:=by unfold Nv.num;rw [if_pos hin]
 have hs0:Hid (∀F,Gr.IsField (fun i=>Gr.openB f 0 (fun _=>false) i=true) (Gr.tgt f (fun _=>(Y:Int)*24+X) 1) F→Nv.IsSpot f E n X Y (Nv.best F (Nv.st E n) 384)):=fun F h=>⟨F,by rw [hme];exact h,rfl⟩
 have cI:=hide (fun wq=>refIn_any (X:Int) (Y:Int) wq)
 rw [hin] at cI
 clear hin b1 b2 b3 b4 hme
 go_enter Tryz.func93,Tryz.ntmps93
 go_wp2_with fail
 refine (uh cI _).mono ?_
 rintro e w1 ⟨rfl,rfl⟩
 go_wp2_with fail
 obtain ⟨w3,hw3⟩:∃w3,w3=w1.alloc (.cells #[.int .i64 ((Y:Int)*24+X)] 3):=⟨_,rfl⟩
 have hB3:Below w1.heap.size w1 w3:=by rw [hw3];exact (Below.refl _ _).alloc (Nat.le_refl _) _
 have hV:Vec w3.heap.size w3 (some ⟨w1.heap.size,0,none⟩) 1 (Ints fun _=>(Y:Int)*24+X):=by rw [hw3];exact Nv.one_row w1 _ _
 rw [←hw3]
 refine (refField_any ca none (some ⟨w1.heap.size,0,none⟩) 0 1 cc 0 1 f (fun _=>(Y:Int)*24+X) (fun _=>false) w3 (((uh hc').kept hB3).mono hB3.size) (uh hf') ⟨by unfold maxLen;omega,.inl rfl⟩ hV (fun _=>⟨by omega,by omega⟩)).mono ?_
 rintro e w4 ⟨F,⟨g2,rfl,hg2,hA4,hB4⟩,hF⟩
 have hspot:=hide (uh hs0 F hF)
 have hgw:=below_grown (hB3.trans (hB4.mono hB3.size))
 have hgw':=hide hgw
 have hEw:=hide ((uh hE').on hgw)
 have hA4':=hide hA4
 clear hA4 hB4 hV hB3 hw3 hF hs0 hg2 hgw cI hE' hc'
 go_wp2_with fail
 go_loopw [10,11] (fun s i wr=>∃k:Nat,k≤384∧s=.int .i64 (Nv.best F (Nv.st E n) k)∧i=.int .i64 (k:Int)∧w4.grownBy wr none) (fun _ i _=>384 - (intOf i).toNat)
 case atStart=>exact ⟨0,by omega,rfl,rfl,World.grownBy.refl _ _⟩
 case round =>
  obtain ⟨k,hk,rfl,rfl,hgr⟩:=hrel
  by_cases hlt:k<384
  ·have hlt':(k:Int)<384:=by omega
   have HL:=hide hlt
   have hck:wr.cell? ⟨g2,k,none⟩=some (.int .i64 (F k)):=((uh hA4').grown hgr (by simp)).cell hlt
   have cA:∀q,Calls Tryz.prog 70 #[.slice (some ⟨b,0,none⟩) n c,.int .i64 ((k % 24:Nat):Int),.int .i64 ((k / 24:Nat):Int)] (wr.drewN q) fun e w'=>e=.returned (.int .i64 (En.first (En.atQ E ((k % 24:Nat):Int) ((k / 24:Nat):Int)) n))∧w'=wr.drewN q:=fun q=>entRefAt_same b n c E _ _ _ ((uh hEw).on (gdw hgr q))
   have hgd:Hid (∀q,w4.grownBy (wr.drewN q) none):=fun q=>gdw hgr q
   have hst:Nv.st E n k=decide (0≤En.first (En.atQ E ((k % 24:Nat):Int) ((k / 24:Nat):Int)) n):=rfl
   generalize En.first (En.atQ E ((k % 24:Nat):Int) ((k / 24:Nat):Int)) n=r at cA hst
   have hcp:Hid (∀p,p<k→wr.cell? ⟨g2,p,none⟩=some (.int .i64 (F p))):=fun p hp=>((uh hA4').grown hgr (by simp)).cell (by omega)
   clear hlt hk hgr
   by_cases h1:F k<0
   ·have hb:=hide (Nv.best_skip (F:=F) (st:=Nv.st E n) (k:=k) (.inl h1))
    generalize Nv.best F (Nv.st E n) k=B at hb
    have h1':decide (F k≥0)=false:=decide_eq_false (by omega)
    clear hst
    go_wp2_with fail
    go_quiet ((go_at_call 70;exact Calls.quiet_of_same (cA _)))
    go_wp2
    go_roundw
    case rel=>exact ⟨k+1,by have:=uh HL;omega,by rw [uh hb],by go_num,uh hgd _⟩
    case measure=>have:=uh HL;simp [intOf];omega
   have h1':decide (F k≥0)=true:=decide_eq_true (by omega)
   by_cases h2:0≤r
   ·have hb:=hide (Nv.best_skip (F:=F) (st:=Nv.st E n) (k:=k) (.inr (by rw [hst];exact decide_eq_true h2)))
    generalize Nv.best F (Nv.st E n) k=B at hb
    have h2':decide (r<0)=false:=decide_eq_false (by omega)
    clear hst
    go_wp2_with fail
    go_quiet ((go_at_call 70;exact Calls.quiet_of_same (cA _)))
    go_wp2
    go_roundw
    case rel=>exact ⟨k+1,by have:=uh HL;omega,by rw [uh hb],by go_num,uh hgd _⟩
    case measure=>have:=uh HL;simp [intOf];omega
   have hsf:Nv.st E n k=false:=by rw [hst];exact decide_eq_false h2
   have h2':decide (r<0)=true:=decide_eq_true (by omega)
   rcases Nv.best_cases F (Nv.st E n) k with e | ⟨p,hp,e⟩
   ·have hb:=hide (Nv.best_first (by omega) hsf e)
    rw [e]
    clear hst hsf e
    go_wp2_with fail
    go_quiet ((go_at_call 70;exact Calls.quiet_of_same (cA _)))
    go_wp2
    go_roundw
    case rel=>exact ⟨k+1,by have:=uh HL;omega,by rw [uh hb],by go_num,uh hgd _⟩
    case measure=>have:=uh HL;simp [intOf];omega
   have hcp':=uh hcp p hp
   have hp':(p:Int)<384:=by have:=uh HL;omega
   have hp0:decide ((p:Int)<0)=false:=decide_eq_false (by omega)
   by_cases h3:F k<F p
   ·have hb:=hide (Nv.best_less (by omega) hsf e h3)
    have h3':decide (F k<F p)=true:=decide_eq_true h3
    rw [e]
    clear hst hsf e hp h3
    go_wp2_with fail
    go_quiet ((go_at_call 70;exact Calls.quiet_of_same (cA _)))
    go_wp2
    go_roundw
    case rel=>exact ⟨k+1,by have:=uh HL;omega,by rw [uh hb],by go_num,uh hgd _⟩
    case measure=>have:=uh HL;simp [intOf];omega
   ·have hb:=hide ((Nv.best_more (st:=Nv.st E n) e h3).trans e)
    have h3':decide (F k<F p)=false:=decide_eq_false h3
    rw [e]
    clear hst hsf e hp h3
    go_wp2_with fail
    go_quiet ((go_at_call 70;exact Calls.quiet_of_same (cA _)))
    go_wp2
    go_roundw
    case rel=>exact ⟨k+1,by have:=uh HL;omega,by rw [uh hb],by go_num,uh hgd _⟩
    case measure=>have:=uh HL;simp [intOf];omega
  ·have hge:¬(k:Int)<384:=by omega
   obtain rfl:k=384:=by omega
   have hgr':=hide hgr
   generalize Nv.best F (Nv.st E n) 384=r at hspot
   clear hgr
   go_wp2
   go_ret
   exact ⟨_,uh hspot,rfl,gtr (uh hgw') (uh hgr')⟩


open Go.RowKit

set_option maxHeartbeats 6400000 in
theorem refLay_any (b cp n cm:Nat) (a:Option Addr) (I M:Nat→Nat→Int) (w:World) (hL:Lie w b 74 160 (Gd.flat I)) (hM:Gd.Some w a n M) :
  Calls Tryz.prog 92 #[.slice (some ⟨b,0,none⟩) 40 cp,.slice a n cm] w (Gd.Gives40 w (Gd.lay I M n)):=by
 have hn:=hM.1
 have hL':=hide hL
 have hM':=hide hM
 obtain ⟨iI,hiI,hzI0,hzI1,hzI2⟩:=info_parts info_item
 clear hL hM
 go_enter Tryz.func92,Tryz.ntmps92
 go_wp2_with (at_builtin;refine wpList_append_own _ rfl _ _ 28 rfl w.heap.size 74 iI (.agg #[.int .i64 0,.int .i64 0,.int .i64 0,.int .i64 0]) 4 32 Tryz.underlying28 hiI hzI0 hzI1 hzI2 rfl (by decide) _ 0 [] rfl (World.ownsRow_made _ _ _ (Nat.le_refl _) (by decide) (by simp)) ⟨b,0,none⟩ 40 cp (Gd.list 160 (Gd.flat I)) rfl (Gd.list_len _ _) (Gd.list_src fun q hq=>(gce (World.grownBy_alloc _ _ none) b q (uh hL').lt (by simp)).trans ((uh hL').cell hq)) (Gd.list_one fun _=>rfl) ?c4 ?c5 ?c6 ?_)
 case c4=>unfold maxLen;omega
 case c5=>omega
 case c6=>simp
 intro v' w1 hown hgrow hnil
 obtain ⟨g,cap,rfl,hlo,hnc,hlie⟩:=Lie.of_append (n:=40) (z:=4) (F:=Gd.flat I) hown (by simpa using hnil)
 have hg1:=hide (gow (World.grownBy_alloc w _ none) hgrow (fun k e=>by cases e;exact Nat.le_refl _))
 have hl1:=hide hlie
 have hlo':=hide hlo
 clear hown hgrow hnil hlie hlo hnc hiI hzI0 hzI1 hzI2
 go_wp2_with fail
 go_loopw [6] (fun i wr=>∃m:Nat,m≤n∧i=.int .i64 (m:Int)∧Lie wr g 74 160 (Gd.flat (Gd.lay I M m))∧w.grownBy wr none) (fun i _=>200 - (intOf i).toNat)
 case atStart=>exact ⟨0,by omega,rfl,uh hl1,uh hg1⟩
 case round =>
  obtain ⟨m,hm,rfl,hJ,hgr⟩:=hrel
  have hJ':=hide hJ
  have hgr':=hide hgr
  clear hJ hgr
  by_cases hlt:m<n
  ·have hlt':(m:Int)<(n:Int):=by omega
   have HL:=hide hlt
   obtain ⟨bm,om,rfl,lbm,v0,v1,v2,v3⟩:=((uh hM').on (uh hgr')).row hlt
   have hbg:bm≠g:=by
    have h1:=uh hlo'
    obtain ⟨_,h0 | ⟨b',o',e,h3⟩⟩:=uh hM'
    ·omega
    ·simp only [Option.some.injEq,Addr.mk.injEq] at e
     have:=h3.2.1
     omega
   have hbg':=hbg.symm
   clear hlt
   go_wp2_with fail
   go_loop [7] (fun i=>∃r:Nat,r≤40∧i=.int .i64 (r:Int)∧∀j,j<r→Gd.goneQ (Gd.lay I M m) j=false) (fun i=>200 - (intOf i).toNat)
   case atStart=>exact ⟨0,by omega,rfl,fun j hj=>by omega⟩
   case round =>
    obtain ⟨r,hr,rfl,hno⟩:=hrel
    have hno':=hide hno
    clear hno
    by_cases hr40:r<40
    ·have hr':(r:Int)<40:=by omega
     have HR:=hide hr40
     obtain ⟨u0,u1,u2,u3⟩:=((uh hJ').its (n:=40) (by omega) (by omega)).row hr40
     have fI:=(uh hJ').free
     have hgq:=hide (show Gd.goneQ (Gd.lay I M m) r=Gd.zeroB (Gd.lay I M m r 0) (Gd.lay I M m r 1) (Gd.lay I M m r 2) (Gd.lay I M m r 3) from rfl)
     by_cases hz:Gd.zeroB (Gd.lay I M m r 0) (Gd.lay I M m r 1) (Gd.lay I M m r 2) (Gd.lay I M m r 3)=true
     ·have hs:=hide (Gd.lay_some (uh hno') ((uh hgq).trans hz) hr40)
      obtain ⟨e0,e1,e2,e3⟩:=(of_decide_eq_true hz:_∧_∧_∧_)
      rw [e0] at u0
      rw [e1] at u1
      rw [e2] at u2
      rw [e3] at u3
      have hJn:=hide ((uh hJ').put r (M m 0) (M m 1) (M m 2) (M m 3))
      have hgn:=hide (gow (uh hgr') (grown_put4 (World.grownBy.refl _ (some g)) r (.int .i64 (M m 0)) (.int .i64 (M m 1)) (.int .i64 (M m 2)) (.int .i64 (M m 3))) (fun k e=>by cases e;exact uh hlo'))
      clear hz e0 e1 e2 e3 hgq hr40
      go_wp2
      go_roundw
      case rel=>exact ⟨m+1,by have:=uh HL;omega,by go_num,by rw [uh hs];exact uh hJn,uh hgn⟩
      case measure=>simp [intOf];omega
     ·have hz':Gd.zeroB (Gd.lay I M m r 0) (Gd.lay I M m r 1) (Gd.lay I M m r 2) (Gd.lay I M m r 3)=false:=by simpa using hz
      have hq:=hide ((uh hgq).trans hz')
      have hcmp:∀wx:World,(binOp .eql 74 (.agg #[.int .i64 (Gd.lay I M m r 0),.int .i64 (Gd.lay I M m r 1),.int .i64 (Gd.lay I M m r 2),.int .i64 (Gd.lay I M m r 3)]) (.agg #[.int .i64 0,.int .i64 0,.int .i64 0,.int .i64 0])).run Tryz.prog wx=.ok (.bool false) wx:=fun wx=>by
       rw [run_eq_item]
       refine congrArg (fun z=>Result.ok (Value.bool z) wx) ?_
       have h:=of_decide_eq_false hz'
       rw [←Bool.not_eq_true]
       simp only [Bool.and_eq_true,decide_eq_true_eq]
       exact h
      clear hz hz' hgq hr40
      go_wp2
      go_round
      case rel=>exact ⟨r+1,by have:=uh HR;omega,by go_num,fun j hj=>by
       by_cases e:j=r
       ·rw [e];exact uh hq
       ·exact uh hno' j (by omega)⟩
      case measure=>simp [intOf];omega
    ·have hge:¬(r:Int)<40:=by omega
     have hs:=hide (Gd.lay_none (I:=I) (M:=M) (m:=m) (fun j hj=>uh hno' j (by omega)))
     go_wp2
     go_roundw
     case rel=>exact ⟨m+1,by have:=uh HL;omega,by go_num,by rw [uh hs];exact uh hJ',uh hgr'⟩
     case measure=>simp [intOf];omega
  ·have hge:¬(m:Int)<(n:Int):=by omega
   obtain rfl:m=n:=by omega
   go_wp2
   go_ret
   exact ⟨g,cap,rfl,uh hlo',uh hJ',uh hgr'⟩

end Go.Proofs.YtapgkgbpekkdjaaGreat
