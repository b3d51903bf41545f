import Derived.Test.YtbanjoflgoiegaaGreatPs08
namespace Go.Proofs.YtbanjoflgoiegaaGreat
open Go.RowKit

def Gn.mid (d:Gn.Dice) (j:Nat):Int:=if j % 2=0 then Gn.mx d (j / 2) else Gn.my d (j / 2)
def Gn.mids (d:Gn.Dice):Array Value:=#[.int .i64 (Gn.mid d 0),.int .i64 (Gn.mid d 1),.int .i64 (Gn.mid d 2),.int .i64 (Gn.mid d 3),.int .i64 (Gn.mid d 4),.int .i64 (Gn.mid d 5),.int .i64 (Gn.mid d 6),.int .i64 (Gn.mid d 7),.int .i64 (Gn.mid d 8),.int .i64 (Gn.mid d 9),.int .i64 (Gn.mid d 10),.int .i64 (Gn.mid d 11)]

theorem Arr.twelve {w:World} {g:Nat} {T:TypeId} {F:Nat→Value} (h:Arr w g T 12 F) :
  w.cell? ⟨g,0,none⟩=some (F 0)∧w.cell? ⟨g,1,none⟩=some (F 1)∧w.cell? ⟨g,2,none⟩=some (F 2)∧w.cell? ⟨g,3,none⟩=some (F 3)∧w.cell? ⟨g,4,none⟩=some (F 4)∧w.cell? ⟨g,5,none⟩=some (F 5)∧w.cell? ⟨g,6,none⟩=some (F 6)∧w.cell? ⟨g,7,none⟩=some (F 7)∧w.cell? ⟨g,8,none⟩=some (F 8)∧w.cell? ⟨g,9,none⟩=some (F 9)∧w.cell? ⟨g,10,none⟩=some (F 10)∧w.cell? ⟨g,11,none⟩=some (F 11) :=
 ⟨h.cell (by omega),h.cell (by omega),h.cell (by omega),h.cell (by omega),h.cell (by omega),h.cell (by omega),h.cell (by omega),h.cell (by omega),h.cell (by omega),h.cell (by omega),h.cell (by omega),h.cell (by omega)⟩

theorem Arr.twelveF {w:World} {g:Nat} {T:TypeId} {F:Nat→Value} (h:Arr w g T 12 F) :
  w.frozen? ⟨g,0,none⟩=false∧w.frozen? ⟨g,1,none⟩=false∧w.frozen? ⟨g,2,none⟩=false∧w.frozen? ⟨g,3,none⟩=false∧w.frozen? ⟨g,4,none⟩=false∧w.frozen? ⟨g,5,none⟩=false∧w.frozen? ⟨g,6,none⟩=false∧w.frozen? ⟨g,7,none⟩=false∧w.frozen? ⟨g,8,none⟩=false∧w.frozen? ⟨g,9,none⟩=false∧w.frozen? ⟨g,10,none⟩=false∧w.frozen? ⟨g,11,none⟩=false :=
 ⟨h.free _,h.free _,h.free _,h.free _,h.free _,h.free _,h.free _,h.free _,h.free _,h.free _,h.free _,h.free _⟩

structure RoomsHold (w:World) (G:Nat) (s f:Int) (d:Gn.Dice) (k:Nat) (wr:World):Prop where
 plan:Arr wr w.heap.size 116 2 (fun j=>.int .i64 (if j=0 then s else f))
 res:Arr wr (w.heap.size+1) 119 12 (fun _=>.int .i64 0)
 mid:Arr wr (w.heap.size+1+1) 119 12 (fun j=>.int .i64 (if j<2*k then Gn.mid d j else 0))
 grown:w.grownBy wr (some G)

theorem RoomsHold.on {w:World} {G:Nat} {s f:Int} {d:Gn.Dice} {k:Nat} {wr wx:World} (h:RoomsHold w G s f d k wr) (hg:wr.grownBy wx none):RoomsHold w G s f d k wx :=
 ⟨h.plan.grown hg (by simp),h.res.grown hg (by simp),h.mid.grown hg (by simp),grown_none h.grown hg⟩

theorem gs0 (w:World) (g i:Nat) (u:Value):w.grownBy (w.setCell ⟨g,i,none⟩ u) (some g):=gst (World.grownBy.refl _ _) i u

theorem RoomsHold.put {w:World} {G:Nat} {s f:Int} {d:Gn.Dice} {k:Nat} {wr:World} (h:RoomsHold w G s f d k wr) (hG:G<w.heap.size) (i:Nat) (u:Value):RoomsHold w G s f d k (wr.setCell ⟨G,i,none⟩ u) :=
 ⟨h.plan.grown (gs0 wr G i u) (by simp;omega),h.res.grown (gs0 wr G i u) (by simp;omega),h.mid.grown (gs0 wr G i u) (by simp;omega),gst h.grown i u⟩

theorem RoomsHold.start (w:World) (G:Nat) (s f:Int) (d:Gn.Dice) (z:Array Value) (hz:z=#[.int .i64 0,.int .i64 0,.int .i64 0,.int .i64 0,.int .i64 0,.int .i64 0,.int .i64 0,.int .i64 0,.int .i64 0,.int .i64 0,.int .i64 0,.int .i64 0]) :
  RoomsHold w G s f d 0 (((w.alloc (.cells #[.int .i64 s,.int .i64 f] 116)).alloc (.cells z 119)).alloc (.cells z 119)):=by
 have hzz:∀i,i<12→z[i]?=some (.int .i64 0):=by
  intro i hi
  subst hz
  rcases (show i=0∨i=1∨i=2∨i=3∨i=4∨i=5∨i=6∨i=7∨i=8∨i=9∨i=10∨i=11 by omega) with rfl | rfl | rfl | rfl | rfl | rfl | rfl | rfl | rfl | rfl | rfl | rfl <;> rfl
 have hs:z.size=12:=by subst hz;rfl
 refine ⟨?_,?_,?_,gal (gal (World.grownBy_alloc _ _ _) _) _⟩
 ·have h:Arr (w.alloc (.cells #[.int .i64 s,.int .i64 f] 116)) w.heap.size 116 2 (fun j=>.int .i64 (if j=0 then s else f)):=by
   refine ⟨_,heap_alloc_new _ _,rfl,fun i hi=>?_⟩
   rcases (show i=0∨i=1 by omega) with rfl | rfl <;> rfl
  exact (h.alloc _).alloc _
 ·have h:Arr ((w.alloc (.cells #[.int .i64 s,.int .i64 f] 116)).alloc (.cells z 119)) (w.heap.size+1) 119 12 (fun _=>.int .i64 0):=by
   refine ⟨_,?_,hs,fun i hi=>hzz i hi⟩
   have:=heap_alloc_new (w.alloc (.cells #[.int .i64 s,.int .i64 f] 116)) (.cells z 119)
   simpa using this
  exact h.alloc _
 ·refine ⟨_,?_,hs,fun i hi=>by rw [hzz i hi];show _=some (Value.int .i64 (if i<2*0 then Gn.mid d i else 0));rw [if_neg (by omega)]⟩
  have:=heap_alloc_new ((w.alloc (.cells #[.int .i64 s,.int .i64 f] 116)).alloc (.cells z 119)) (.cells z 119)
  simpa using this

theorem RoomsHold.next {w:World} {G:Nat} {s f:Int} {d:Gn.Dice} {k:Nat} {wr:World} (h:RoomsHold w G s f d k wr) (u v:Int) (hu:u=Gn.mx d k) (hv:v=Gn.my d k) :
  RoomsHold w G s f d (k+1) ((wr.setCell ⟨w.heap.size+1+1,k*2,none⟩ (.int .i64 u)).setCell ⟨w.heap.size+1+1,k*2+1,none⟩ (.int .i64 v)):=by
 have hg:wr.grownBy ((wr.setCell ⟨w.heap.size+1+1,k*2,none⟩ (.int .i64 u)).setCell ⟨w.heap.size+1+1,k*2+1,none⟩ (.int .i64 v)) (some (w.heap.size+1+1)):=gst (gs0 _ _ _ _) _ _
 refine ⟨h.plan.grown hg (by simp;omega),h.res.grown hg (by simp),?_,gow h.grown hg (fun n e=>by cases e;omega)⟩
 refine ((h.mid.store _ _).store _ _).congr fun j hj=>?_
 show (if j=k*2+1 then Value.int .i64 v else if j=k*2 then .int .i64 u else .int .i64 (if j<2*k then Gn.mid d j else 0))=_
 by_cases e1:j=k*2+1
 ·rw [if_pos e1,if_pos (by omega),hv,e1]
  unfold Gn.mid
  rw [if_neg (by omega),show (k*2+1) / 2=k by omega]
 ·rw [if_neg e1]
  by_cases e2:j=k*2
  ·rw [if_pos e2,if_pos (by omega),hu,e2]
   unfold Gn.mid
   rw [if_pos (by omega),show k*2 / 2=k by omega]
  ·rw [if_neg e2]
   by_cases e3:j<2*k
   ·rw [if_pos e3,if_pos (by omega)]
   ·rw [if_neg e3,if_neg (by omega)]

set_option maxRecDepth 8000 in
set_option maxHeartbeats 4000000 in
theorem rooms_any (s f:Int) (d:Gn.Dice) (hd:∀a b n,Gn.D s f a b n=d a b n) (hF:Gn.Fair d) (G:Nat) (w:World) (hA:Arr w G 5 384 (Byts fun _=>0)) :
  Calls Tryz.prog 97 #[.agg #[.int .i64 s,.int .i64 f],.slice (some ⟨G,0,none⟩) 384 384] w
   (fun e w'=>e=.returned (.agg (Gn.mids d))∧Arr w' G 5 384 (Byts (Gn.roomed d 6))∧w.grownBy w' (some G)):=by
 have hG:=hA.lt
 have hA':=hide hA
 have hd':=hide hd
 have hF':=hide hF
 clear hA hd hF
 go_enter Tryz.func97,Tryz.ntmps97
 go_wp2_with fail
 go_loopw [13] (fun i wr=>∃k:Nat,k≤6∧i=.int .i64 k∧Arr wr G 5 384 (Byts (Gn.roomed d k))∧RoomsHold w G s f d k wr) (fun i _=>6 - (intOf i).toNat)
 case atStart=>exact ⟨0,by omega,rfl,(((uh hA').alloc _).alloc _).alloc _,RoomsHold.start w G s f d _ rfl⟩
 case round =>
  obtain ⟨k,hk,rfl,hA,hH⟩:=hrel
  have hA1:=hide hA
  have hH1:=hide hH
  clear hA hH hA'
  by_cases hlt:k<6
  ·have hlt':(k:Int)<6:=by omega
   have HL:=hide hlt
   clear hlt hk
   obtain ⟨A0,hA0⟩:∃x,x=d k 0 5:=⟨_,rfl⟩
   obtain ⟨A1,hA1'⟩:∃x,x=d k 1 4:=⟨_,rfl⟩
   obtain ⟨A2,hA2⟩:∃x,x=d k 2 (23 - (3+A0)):=⟨_,rfl⟩
   obtain ⟨A3,hA3⟩:∃x,x=d k 3 (15 - (2+A1)):=⟨_,rfl⟩
   obtain ⟨a1,a2⟩:0≤A0∧A0<5:=by rw [hA0];exact uh hF' _ _ _ (by omega)
   obtain ⟨a3,a4⟩:0≤A1∧A1<4:=by rw [hA1'];exact uh hF' _ _ _ (by omega)
   obtain ⟨a5,a6⟩:0≤A2∧A2<23 - (3+A0):=by rw [hA2];exact uh hF' _ _ _ (by omega)
   obtain ⟨a7,a8⟩:0≤A3∧A3<15 - (2+A1):=by rw [hA3];exact uh hF' _ _ _ (by omega)
   have e0:=hide hA0
   have e1:=hide hA1'
   have e2:=hide hA2
   have e3:=hide hA3
   clear hA0 hA1' hA2 hA3
   go_wp2_with fail
   refine wp_region_grown (by kernel_rfl) (by kernel_rfl) ?_
   intro St hN W hI hx
   have c0:∀σ,(W σ).cell? ⟨w.heap.size,0,none⟩=some (.int .i64 s):=fun σ=>((uh hH1).on (hI σ)).plan.cell (by omega)
   have c1:∀σ,(W σ).cell? ⟨w.heap.size,1,none⟩=some (.int .i64 f):=fun σ=>((uh hH1).on (hI σ)).plan.cell (by omega)
   have c2:∀σ,Calls Tryz.prog 128 #[.agg #[.int .i64 s,.int .i64 f],.int .i64 k,.int .i64 0,.int .i64 5] (W σ) fun e w''=>e=.returned (.int .i64 A0)∧∃σ',w''=W σ':=fun σ=>by
    have h:=die3_any s f k 0 5 (W σ) (by omega)
    rw [uh hd',←uh e0] at h
    exact calls_class hI hx h
   have c3:∀σ,Calls Tryz.prog 128 #[.agg #[.int .i64 s,.int .i64 f],.int .i64 k,.int .i64 1,.int .i64 4] (W σ) fun e w''=>e=.returned (.int .i64 A1)∧∃σ',w''=W σ':=fun σ=>by
    have h:=die3_any s f k 1 4 (W σ) (by omega)
    rw [uh hd',←uh e1] at h
    exact calls_class hI hx h
   have hI':=hide hI
   clear hI hx
   repeat (go_big_quiet_step ((first | (go_at_call_of 128 (Value.int IntKind.i64 5);exact c2 _) | (go_at_call_of 128 (Value.int IntKind.i64 4);exact c3 _))))
   refine wpQuiet_nil ?_
   rintro _ ⟨σ,rfl⟩
   obtain ⟨wq,hwq⟩:∃wq,W σ=wq:=⟨_,rfl⟩
   have hA2:=hide ((uh hA1).grown (uh hI' σ) (by simp))
   have hH2:=hide ((uh hH1).on (uh hI' σ))
   rw [hwq] at hA2 hH2 ⊢
   clear c0 c1 c2 c3 hI' hwq hA1 hH1
   clear σ W hN St
   go_wp2_with fail
   refine wp_region_grown (by kernel_rfl) (by kernel_rfl) ?_
   intro St hN W hI hx
   have c0:∀σ,(W σ).cell? ⟨w.heap.size,0,none⟩=some (.int .i64 s):=fun σ=>((uh hH2).on (hI σ)).plan.cell (by omega)
   have c1:∀σ,(W σ).cell? ⟨w.heap.size,1,none⟩=some (.int .i64 f):=fun σ=>((uh hH2).on (hI σ)).plan.cell (by omega)
   have c2:∀σ,Calls Tryz.prog 128 #[.agg #[.int .i64 s,.int .i64 f],.int .i64 k,.int .i64 2,.int .i64 (23 - (3+A0))] (W σ) fun e w''=>e=.returned (.int .i64 A2)∧∃σ',w''=W σ':=fun σ=>by
    have h:=die3_any s f k 2 (23 - (3+A0)) (W σ) (by omega)
    rw [uh hd',←uh e2] at h
    exact calls_class hI hx h
   have c3:∀σ,Calls Tryz.prog 128 #[.agg #[.int .i64 s,.int .i64 f],.int .i64 k,.int .i64 3,.int .i64 (15 - (2+A1))] (W σ) fun e w''=>e=.returned (.int .i64 A3)∧∃σ',w''=W σ':=fun σ=>by
    have h:=die3_any s f k 3 (15 - (2+A1)) (W σ) (by omega)
    rw [uh hd',←uh e3] at h
    exact calls_class hI hx h
   have hI':=hide hI
   clear hI hx
   repeat (go_big_quiet_step ((first | (go_at_call_of 128 (Value.int IntKind.i64 2);exact c2 _) | (go_at_call_of 128 (Value.int IntKind.i64 3);exact c3 _))))
   refine wpQuiet_nil ?_
   rintro _ ⟨σ,rfl⟩
   obtain ⟨wp,hwp⟩:∃wq,W σ=wq:=⟨_,rfl⟩
   have hA3:=hide ((uh hA2).grown (uh hI' σ) (by simp))
   have hH3:=hide ((uh hH2).on (uh hI' σ))
   rw [hwp] at hA3 hH3 ⊢
   clear c0 c1 c2 c3 hI' hwp hA2 hH2
   clear σ W hN St wq
   go_wp2_with fail
   have hst:=hide ((uh hA3).congr (G:=Byts (Gn.paintTo (Gn.roomed d k) (1+A2) (1+A3) (3+A0) (2+A1) (1+A3) (1+A2))) fun j _=>by rw [Byts,Byts,Gn.paint_start])
   go_loopw [11] (fun i wr=>∃r:Int,1+A3≤r∧r≤1+A3+(2+A1)∧i=.int .i64 r∧Arr wr G 5 384 (Byts (Gn.paintTo (Gn.roomed d k) (1+A2) (1+A3) (3+A0) (2+A1) r (1+A2)))∧RoomsHold w G s f d k wr) (fun i _=>(1+A3+(2+A1) - intOf i).toNat)
   case atStart=>exact ⟨1+A3,by omega,by omega,rfl,uh hst,uh hH3⟩
   case round =>
    obtain ⟨r,hr1,hr2,rfl,hA,hH⟩:=hrel
    clear hst hA3 hH3
    have hA3:=hide hA
    have hH3:=hide hH
    clear hA hH
    by_cases hr:r<1+A3+(2+A1)
    ·go_wp2_with fail
     go_loopw [12] (fun i wr=>∃q:Int,1+A2≤q∧q≤1+A2+(3+A0)∧i=.int .i64 q∧Arr wr G 5 384 (Byts (Gn.paintTo (Gn.roomed d k) (1+A2) (1+A3) (3+A0) (2+A1) r q))∧RoomsHold w G s f d k wr) (fun i _=>(1+A2+(3+A0) - intOf i).toNat)
     case atStart=>exact ⟨1+A2,by omega,by omega,rfl,uh hA3,uh hH3⟩
     case round =>
      obtain ⟨q,hq1,hq2,rfl,hA,hH⟩:=hrel
      clear hA3 hH3
      have hA3:=hide hA
      have hH3:=hide hH
      clear hA hH
      by_cases hq:q<1+A2+(3+A0)
      ·go_wp2_with fail
       refine (num_any q r _ (by omega) (by omega) (by omega) (by omega)).mono ?_
       rintro e wn ⟨rfl,hgn⟩
       obtain ⟨c,hc⟩:∃c:Nat,r*24+q=(c:Int):=⟨(r*24+q).toNat,by omega⟩
       have hA4:=hide ((uh hA3).grown hgn (by simp))
       have hH4:=hide ((uh hH3).on hgn)
       have hcl:c<384:=by omega
       have hcc:=(uh hA4).cell hcl
       have hcf:=(uh hA4).free c
       have hstep:=hide (((uh hA4).store c (.int .u8 1)).congr (G:=Byts (Gn.paintTo (Gn.roomed d k) (1+A2) (1+A3) (3+A0) (2+A1) r (q+1))) fun j _=>by
        have h:=Gn.paint_one (Gn.roomed d k) (1+A2) (1+A3) (3+A0) (2+A1) r q c hq1 (by omega) hr1 (by omega) (by omega) (by omega) hc j
        show _=Value.int .u8 (Gn.paintTo (Gn.roomed d k) (1+A2) (1+A3) (3+A0) (2+A1) r (q+1) j)
        rw [←h]
        unfold Gr.upd Byts
        split <;> rfl)
       have hput:=hide ((uh hH4).put hG c (.int .u8 1))
       rw [hc]
       have hc2:(c:Int)<384:=by omega
       clear hgn hA3 hH3 hA4 hH4
       go_wp2
       go_roundw
       case rel=>exact ⟨q+1,by omega,by omega,by go_num,uh hstep,uh hput⟩
       case measure=>simp [intOf];omega
      ·have hqe:q=1+A2+(3+A0):=by omega
       have hrow:=hide ((uh hA3).congr (G:=Byts (Gn.paintTo (Gn.roomed d k) (1+A2) (1+A3) (3+A0) (2+A1) (r+1) (1+A2))) fun j _=>by rw [Byts,Byts,hqe,Gn.paint_row])
       clear hqe hA3
       go_wp2
       go_roundw
       case rel=>exact ⟨r+1,by omega,by omega,by go_num,uh hrow,uh hH3⟩
       case measure=>simp [intOf];omega
    ·have hre:r=1+A3+(2+A1):=by omega
     have hrx:Gn.rw d k=3+A0:=by rw [uh e0];rfl
     have hrh:Gn.rh d k=2+A1:=by rw [uh e1];rfl
     have hxx:Gn.rx d k=1+A2:=by unfold Gn.rx;rw [hrx,←uh e2]
     have hyy:Gn.ry d k=1+A3:=by unfold Gn.ry;rw [hrh,←uh e3]
     have hmx:1+A2+(3+A0) / 2=Gn.mx d k:=by unfold Gn.mx;rw [hrx,hxx]
     have hmy:1+A3+(2+A1) / 2=Gn.my d k:=by unfold Gn.my;rw [hrh,hyy]
     have hroom:=hide ((uh hA3).congr (G:=Byts (Gn.roomed d (k+1))) fun j _=>by
      show _=Value.int .u8 (Gn.roomed d (k+1) j)
      rw [Byts,Gn.roomed,Gn.paint,hrx,hrh,hxx,hyy,hre])
     have hmid:=(uh hH3).mid
     have q1:=hmid.cell (i:=k*2) (by have:=uh HL;omega)
     have q2:=hmid.cell (i:=k*2+1) (by have:=uh HL;omega)
     have q3:=hmid.free (k*2)
     have q4:=hmid.free (k*2+1)
     have hmx':=hide hmx
     have hmy':=hide hmy
     clear hre hrx hrh hxx hyy hmx hmy hA3 hmid
     go_wp2
     go_roundw
     case rel=>exact ⟨k+1,by have:=uh HL;omega,by go_num,(uh hroom).grown (gst (gs0 _ _ _ _) _ _) (by simp;omega),(uh hH3).next _ _ (uh hmx') (uh hmy')⟩
     case measure=>have:=uh HL;simp [intOf];omega
  ·have hge:¬(k:Int)<6:=by omega
   obtain rfl:k=6:=by omega
   obtain ⟨m0,m1,m2,m3,m4,m5,m6,m7,m8,m9,m10,m11⟩:=(uh hH1).mid.twelve
   obtain ⟨r0,r1,r2,r3,r4,r5,r6,r7,r8,r9,r10,r11⟩:=(uh hH1).res.twelve
   obtain ⟨f0,f1,f2,f3,f4,f5,f6,f7,f8,f9,f10,f11⟩:=(uh hH1).res.twelveF
   simp only [Nat.reduceLT,Nat.reduceMul,ite_true] at m0 m1 m2 m3 m4 m5 m6 m7 m8 m9 m10 m11
   clear hk hlt
   go_wp2
   refine bodyPost_ret (v:=.agg (Gn.mids d)) (by simp [results,Tryz.results97,go_sem,Gn.mids,r0,r1,r2,r3,r4,r5,r6,r7,r8,r9,r10,r11]) rfl ?_
   have hg:=gst (gst (gst (gst (gst (gst (gst (gst (gst (gst (gst (gs0 wr (w.heap.size+1) 0 (.int .i64 (Gn.mid d 0))) 1 (.int .i64 (Gn.mid d 1))) 2 (.int .i64 (Gn.mid d 2))) 3 (.int .i64 (Gn.mid d 3))) 4 (.int .i64 (Gn.mid d 4))) 5 (.int .i64 (Gn.mid d 5))) 6 (.int .i64 (Gn.mid d 6))) 7 (.int .i64 (Gn.mid d 7))) 8 (.int .i64 (Gn.mid d 8))) 9 (.int .i64 (Gn.mid d 9))) 10 (.int .i64 (Gn.mid d 10))) 11 (.int .i64 (Gn.mid d 11))
   exact ⟨rfl,(uh hA1).grown hg (by simp;omega),gow (uh hH1).grown hg (fun n e=>by cases e;omega)⟩


open Go.RowKit

structure CorrHold (w:World) (G:Nat) (s f:Int) (d:Gn.Dice) (wr:World):Prop where
 plan:Arr wr w.heap.size 116 2 (fun j=>.int .i64 (if j=0 then s else f))
 mid:Arr wr (w.heap.size+1) 119 12 (fun j=>.int .i64 (Gn.mid d j))
 grown:w.grownBy wr (some G)

theorem CorrHold.on {w:World} {G:Nat} {s f:Int} {d:Gn.Dice} {wr wx:World} (h:CorrHold w G s f d wr) (hg:wr.grownBy wx none):CorrHold w G s f d wx :=
 ⟨h.plan.grown hg (by simp),h.mid.grown hg (by simp),grown_none h.grown hg⟩

theorem CorrHold.own {w:World} {G:Nat} {s f:Int} {d:Gn.Dice} {wr wx:World} (h:CorrHold w G s f d wr) (hG:G<w.heap.size) (hg:wr.grownBy wx (some G)):CorrHold w G s f d wx :=
 ⟨h.plan.grown hg (by simp;omega),h.mid.grown hg (by simp;omega),gtr h.grown hg⟩

theorem CorrHold.start (w:World) (G:Nat) (s f:Int) (d:Gn.Dice) :
  CorrHold w G s f d ((w.alloc (.cells #[.int .i64 s,.int .i64 f] 116)).alloc (.cells (Gn.mids d) 119)):=by
 refine ⟨(Arr.pair _ _ _ _).alloc _,?_,gal (World.grownBy_alloc _ _ _) _⟩
 refine ⟨Gn.mids d,?_,rfl,fun i hi=>?_⟩
 ·have:=heap_alloc_new (w.alloc (.cells #[.int .i64 s,.int .i64 f] 116)) (.cells (Gn.mids d) 119)
  simpa using this
 ·rcases (show i=0∨i=1∨i=2∨i=3∨i=4∨i=5∨i=6∨i=7∨i=8∨i=9∨i=10∨i=11 by omega) with rfl | rfl | rfl | rfl | rfl | rfl | rfl | rfl | rfl | rfl | rfl | rfl <;> rfl

theorem Gn.mid_even (d:Gn.Dice) (k:Nat):Gn.mid d (k*2)=Gn.mx d k:=by
 unfold Gn.mid
 rw [if_pos (by omega),show k*2 / 2=k by omega]

theorem Gn.mid_odd (d:Gn.Dice) (k:Nat):Gn.mid d (k*2+1)=Gn.my d k:=by
 unfold Gn.mid
 rw [if_neg (by omega),show (k*2+1) / 2=k by omega]

set_option maxRecDepth 8000 in
set_option maxHeartbeats 4000000 in
theorem corridors_any (s f:Int) (d:Gn.Dice) (hd:∀a b n,Gn.D s f a b n=d a b n) (hF:Gn.Fair d) (G:Nat) (w:World) (hA:Arr w G 5 384 (Byts (Gn.dug d 0))) :
  Calls Tryz.prog 98 #[.agg #[.int .i64 s,.int .i64 f],.slice (some ⟨G,0,none⟩) 384 384,.agg (Gn.mids d)] w
   (fun e w'=>e=.returned (.tuple #[])∧Arr w' G 5 384 (Byts (Gn.dug d 5))∧w.grownBy w' (some G)):=by
 have hG:=hA.lt
 have hA':=hide hA
 have hd':=hide hd
 have hF':=hide hF
 clear hA hd hF
 go_enter Tryz.func98,Tryz.ntmps98
 go_wp2_with fail
 go_loopw [6] (fun i wr=>∃j k:Nat,k≤5∧j=k+1∧i=.int .i64 (j:Int)∧Arr wr G 5 384 (Byts (Gn.dug d k))∧CorrHold w G s f d wr) (fun i _=>6 - (intOf i).toNat)
 case atStart=>exact ⟨1,0,by omega,rfl,rfl,((uh hA').alloc _).alloc _,CorrHold.start w G s f d⟩
 case round =>
  obtain ⟨j,k,hk,hj,rfl,hA,hH⟩:=hrel
  have hA1:=hide hA
  have hH1:=hide hH
  clear hA hH hA'
  by_cases hlt:k<5
  ·have hlt':(j:Int)<6:=by omega
   have hjk:(j:Int) - 1=(k:Int):=by omega
   have hk2:(k:Int)<6:=by omega
   have hk0:(0:Int)≤(k:Int):=by omega
   have hj0:(0:Int)≤(j:Int):=by omega
   have hwr:IntKind.i64.wrap ((j:Int) - 1)=(k:Int):=by rw [hjk,IntKind.wrap_i64];omega
   have hwr2:IntKind.i64.wrap (k:Int)=(k:Int):=by rw [IntKind.wrap_i64];omega
   obtain ⟨D0,hD0⟩:∃x,x=d (j:Int) 4 2:=⟨_,rfl⟩
   obtain ⟨x0,hx0⟩:∃x,x=Gn.mx d k:=⟨_,rfl⟩
   obtain ⟨y0,hy0⟩:∃x,x=Gn.my d k:=⟨_,rfl⟩
   obtain ⟨x1,hx1⟩:∃x,x=Gn.mx d j:=⟨_,rfl⟩
   obtain ⟨y1,hy1⟩:∃x,x=Gn.my d j:=⟨_,rfl⟩
   have keep:∀x,CorrHold w G s f d x→(x.cell? ⟨w.heap.size,0,none⟩=some (.int .i64 s)∧x.cell? ⟨w.heap.size,1,none⟩=some (.int .i64 f)∧x.cell? ⟨w.heap.size+1,k*2,none⟩=some (.int .i64 x0)∧x.cell? ⟨w.heap.size+1,k*2+1,none⟩=some (.int .i64 y0)∧x.cell? ⟨w.heap.size+1,j*2,none⟩=some (.int .i64 x1)∧x.cell? ⟨w.heap.size+1,j*2+1,none⟩=some (.int .i64 y1)):=by
    intro x hx
    have m1:=hx.mid.cell (i:=k*2) (by omega)
    have m2:=hx.mid.cell (i:=k*2+1) (by omega)
    have m3:=hx.mid.cell (i:=j*2) (by omega)
    have m4:=hx.mid.cell (i:=j*2+1) (by omega)
    simp only [Gn.mid_even,Gn.mid_odd,←hx0,←hy0,←hx1,←hy1] at m1 m2 m3 m4
    exact ⟨hx.plan.cell (by omega),hx.plan.cell (by omega),m1,m2,m3,m4⟩
   have keep':=hide keep
   have cdie:Calls Tryz.prog 128 #[.agg #[.int .i64 s,.int .i64 f],.int .i64 j,.int .i64 4,.int .i64 2] wr.drew (fun e w'=>e=.returned (.int .i64 D0)∧Hid (CorrHold w G s f d w')∧Hid (Arr w' G 5 384 (Byts (Gn.dug d k)))):=by
    have h:=die3_any s f j 4 2 wr.drew (by omega)
    rw [uh hd',←hD0] at h
    have hg0:=gd1 (World.grownBy.refl wr none)
    exact h.mono fun e w' ⟨he,hg⟩=>⟨he,((uh hH1).on hg0).on hg,((uh hA1).grown hg0 (by simp)).grown hg (by simp)⟩
   have cdig:∀x,Hid (CorrHold w G s f d x)→Hid (Arr x G 5 384 (Byts (Gn.dug d k)))→Calls Tryz.prog 130 #[.slice (some ⟨G,0,none⟩) 384 384,.agg #[.int .i64 x0,.int .i64 y0],.agg #[.int .i64 x1,.int .i64 y1],.bool (D0 == 0)] x (fun e w'=>e=.returned (.tuple #[])∧Hid (CorrHold w G s f d w')∧Hid (Arr w' G 5 384 (Byts (Gn.dug d j)))):=by
    intro x hx ha
    have b0:=Gn.mid_bd (uh hF') k
    have b1:=Gn.mid_bd (uh hF') j
    rw [←hx0,←hy0] at b0
    rw [←hx1,←hy1] at b1
    have h:=dig_any G (Gn.dug d k) x0 y0 x1 y1 (D0 == 0) x (uh ha) (Gn.dug_5 d k) (by omega) (by omega)
    refine h.mono ?_
    rintro e w' ⟨he,hA2,hg⟩
    refine ⟨he,(uh hx).own hG hg,?_⟩
    rw [hx0,hy0,hx1,hy1,hD0,hj] at hA2
    rw [hj]
    exact hA2
   have cdie':=hide cdie
   have cdig':=hide cdig
   obtain ⟨p1,p2,p3,p4,p5,p6⟩:=keep wr (uh hH1)
   have hj':=hide hj
   clear keep cdie cdig hD0 hx0 hy0 hx1 hy1 hj hlt hk
   go_wp2_with fail
   go_region_held3 (fun x=>x.cell? ⟨w.heap.size,0,none⟩=some (.int .i64 s)∧x.cell? ⟨w.heap.size,1,none⟩=some (.int .i64 f)∧x.cell? ⟨w.heap.size+1,k*2,none⟩=some (.int .i64 x0)∧x.cell? ⟨w.heap.size+1,k*2+1,none⟩=some (.int .i64 y0)∧x.cell? ⟨w.heap.size+1,j*2,none⟩=some (.int .i64 x1)∧x.cell? ⟨w.heap.size+1,j*2+1,none⟩=some (.int .i64 y1)) (go_keep) (first | (go_at_call 128;refine (uh cdie').mono ?_;rintro e wd ⟨rfl,hHd,hAd⟩;obtain ⟨z1,z2,z3,z4,z5,z6⟩:=uh keep' wd (uh hHd)) | (go_at_call 130;refine (uh cdig' _ (by assumption) (by assumption)).mono ?_;rintro e we ⟨rfl,hHe,hAe⟩;obtain ⟨z1,z2,z3,z4,z5,z6⟩:=uh keep' we (uh hHe)))
   have hAe':Hid (Arr we G 5 384 (Byts (Gn.dug d j))):=hAe
   have hHe':Hid (CorrHold w G s f d we):=hHe
   clear cdie' cdig' keep' z1 z2 z3 z4 z5 z6 hwr hwr2 hjk
   go_wp2
   go_roundw
   case rel=>exact ⟨j+1,j,by omega,rfl,by go_num,uh hAe',uh hHe'⟩
   case measure=>simp [intOf];omega
  ·have hge:¬(j:Int)<6:=by omega
   obtain rfl:k=5:=by omega
   clear hk hlt hj
   go_wp2
   go_end0
   exact ⟨rfl,uh hA1,(uh hH1).grown⟩

end Go.Proofs.YtbanjoflgoiegaaGreat
