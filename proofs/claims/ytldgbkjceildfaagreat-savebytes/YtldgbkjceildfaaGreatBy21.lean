import Derived.Test.YtldgbkjceildfaaGreatBy17
import Derived.Test.YtldgbkjceildfaaGreatBy19
namespace Go.Proofs.YtldgbkjceildfaaGreat
open Go.RowKit

structure RefRoom (w:World) (B G X Y:Nat) (d:Gn.Dice) (k:Nat) (c:Nat→Int) (wr:World):Prop where
 cells:Arr wr G 5 384 (Byts c)
 xs:Arr wr X 112 6 (fun j=>.int .i64 (if j<k then Gn.mx d j else 0))
 ys:Arr wr Y 112 6 (fun j=>.int .i64 (if j<k then Gn.my d j else 0))
 res:Arr wr B 85 3 (fun _=>.slice none 0 0)
 grown:w.grownBy wr none
 o0:w.heap.size≤B
 o1:B<G
 o2:G<X
 o3:X<Y

theorem RefRoom.on {w:World} {B G X Y:Nat} {d:Gn.Dice} {k:Nat} {c:Nat→Int} {wr wx:World} (h:RefRoom w B G X Y d k c wr) (hg:wr.grownBy wx none):RefRoom w B G X Y d k c wx :=
 ⟨h.cells.grown hg (by simp),h.xs.grown hg (by simp),h.ys.grown hg (by simp),h.res.grown hg (by simp),grown_none h.grown hg,h.o0,h.o1,h.o2,h.o3⟩

theorem RefRoom.congr {w:World} {B G X Y:Nat} {d:Gn.Dice} {k:Nat} {c c':Nat→Int} {wr:World} (h:RefRoom w B G X Y d k c wr) (he:∀i,c i=c' i):RefRoom w B G X Y d k c' wr:=by
 obtain rfl:c=c':=funext he;exact h

theorem RefRoom.put {w:World} {B G X Y:Nat} {d:Gn.Dice} {k:Nat} {c:Nat→Int} {wr:World} (h:RefRoom w B G X Y d k c wr) (i:Nat) (v:Int):RefRoom w B G X Y d k (Gr.upd c i v) (wr.setCell ⟨G,i,none⟩ (.int .u8 v)):=by
 have h0:=h.o0;have h1:=h.o1;have h2:=h.o2;have h3:=h.o3;have hg:=gpt wr G i (.int .u8 v);exact ⟨h.cells.byte i v,h.xs.grown hg (by simp;omega),h.ys.grown hg (by simp;omega),h.res.grown hg (by simp;omega),gow h.grown hg (fun n e=>by cases e;omega),h0,h1,h2,h3⟩

theorem RefRoom.next {w:World} {B G X Y:Nat} {d:Gn.Dice} {k:Nat} {c:Nat→Int} {wr:World} (h:RefRoom w B G X Y d k c wr) (u v:Int) (hu:u=Gn.mx d k) (hv:v=Gn.my d k):RefRoom w B G X Y d (k+1) c ((wr.setCell ⟨X,k,none⟩ (.int .i64 u)).setCell ⟨Y,k,none⟩ (.int .i64 v)):=by
 have h0:=h.o0;have h1:=h.o1;have h2:=h.o2;have h3:=h.o3;have g1:=gpt wr X k (.int .i64 u);have g2:=gpt (wr.setCell ⟨X,k,none⟩ (.int .i64 u)) Y k (.int .i64 v);refine ⟨(h.cells.grown g1 (by simp;omega)).grown g2 (by simp;omega),((h.xs.store k (.int .i64 u)).grown g2 (by simp;omega)).congr fun j _=>fill_more hu j,((h.ys.grown g1 (by simp;omega)).store k (.int .i64 v)).congr fun j _=>fill_more hv j,(h.res.grown g1 (by simp;omega)).grown g2 (by simp;omega),gow (gow h.grown g1 (fun n e=>by cases e;omega)) g2 (fun n e=>by cases e;omega),h0,h1,h2,h3⟩

set_option maxRecDepth 100000 in
set_option maxHeartbeats 8000000 in
theorem refMake_any (s f:Int) (d:Gn.Dice) (hd:∀a b n,Gn.D s f a b n=d a b n) (hFr:Gn.Fair d) (h1f:1≤f) (h3f:f≤3) (w:World) :
  Calls Tryz.prog 35 #[.int .i64 s,.int .i64 f] w (RefDone w d f):=by
 obtain ⟨i0,hi,hz0,hz1,hz2⟩:=info_parts info_byte;have hd':=hide hd;have hF':=hide hFr;clear hd hFr;go_enter Tryz.func35,Tryz.ntmps35;go_wp2_with (at_make;refine wpList_make_full _ rfl _ _ 24 rfl (w.heap.size+1) 5 i0 (.int .u8 0) 1 Tryz.underlying24 hi hz0 hz1 .i64 .i64 _ _ 384 rfl rfl rfl rfl ?q3 ?q4 ?q5 ?_)
 any_goals (first | (rw [hz2];decide) | decide | (simp;done))
 intro w2 hown hgrow;have hA2:Arr w2 (w.heap.size+1) 5 384 (Byts fun _=>0):=Arr.zero hown;have hR2:Arr w2 w.heap.size 85 3 (fun _=>.slice none 0 0):=by
  have h:Arr (w.alloc (.cells #[.slice none 0 0,.slice none 0 0,.slice none 0 0] 85)) w.heap.size 85 3 (fun _=>.slice none 0 0):=by
   refine ⟨_,heap_alloc_new _ _,rfl,fun j hj=>?_⟩;rcases (show j=0∨j=1∨j=2 by omega) with rfl|rfl|rfl <;> rfl
  exact h.grown hgrow (by simp)
 have hg2:w.grownBy w2 none:=grown_none (World.grownBy_alloc _ _ _) hgrow;have hG2:=hA2.lt;have hH2:Hid (RefRoom w w.heap.size (w.heap.size+1) w2.heap.size (w2.heap.size+1) d 0 (Gn.roomed d 0) ((w2.alloc (.cells #[.int .i64 0,.int .i64 0,.int .i64 0,.int .i64 0,.int .i64 0,.int .i64 0] 112)).alloc (.cells #[.int .i64 0,.int .i64 0,.int .i64 0,.int .i64 0,.int .i64 0,.int .i64 0] 112))):=by
  have hz:∀(u:World) (F:Nat→Int),Arr (u.alloc (.cells #[.int .i64 0,.int .i64 0,.int .i64 0,.int .i64 0,.int .i64 0,.int .i64 0] 112)) u.heap.size 112 6 (fun j=>.int .i64 (if j<0 then F j else 0)):=fun u F=>by
   refine ⟨_,heap_alloc_new _ _,rfl,fun j hj=>?_⟩;rcases (show j=0∨j=1∨j=2∨j=3∨j=4∨j=5 by omega) with rfl|rfl|rfl|rfl|rfl|rfl <;> rfl
  refine ⟨(hA2.alloc _).alloc _,(hz w2 (Gn.mx d)).alloc _,?_,(hR2.alloc _).alloc _,gal (gal hg2 _) _,Nat.le_refl _,Nat.lt_succ_self _,hG2,Nat.lt_succ_self _⟩;have h:=hz (w2.alloc (.cells #[.int .i64 0,.int .i64 0,.int .i64 0,.int .i64 0,.int .i64 0,.int .i64 0] 112)) (Gn.my d);simpa using h
 obtain ⟨B,hB⟩:∃B,B=w.heap.size:=⟨_,rfl⟩;obtain ⟨G,hG⟩:∃G,G=w.heap.size+1:=⟨_,rfl⟩;obtain ⟨X,hX⟩:∃X,X=w2.heap.size:=⟨_,rfl⟩;obtain ⟨Y,hY⟩:∃Y,Y=w2.heap.size+1:=⟨_,rfl⟩;rw [←hG,←hB,←hX] at hH2;clear hown hgrow hA2 hR2 hg2 hG2 hi hz0 hz1 hz2;rw [←hG,←hB];go_upto_region 3 with fail;rw [←hX];have hY2:Y=X+1:=by rw [hY,hX]
 rw [←hY2] at hH2 ⊢;obtain ⟨w3,hw3⟩:∃w3,w3=(w2.alloc (.cells #[.int .i64 0,.int .i64 0,.int .i64 0,.int .i64 0,.int .i64 0,.int .i64 0] 112)).alloc (.cells #[.int .i64 0,.int .i64 0,.int .i64 0,.int .i64 0,.int .i64 0,.int .i64 0] 112):=⟨_,rfl⟩;rw [←hw3] at hH2 ⊢;clear hw3 hX hY hY2 hG hB;clear w2;rename_i K1 h1 K2 h2;have hK0:=hide h1;clear h1;go_wp2_with fail
 go_loopw [8] (fun i wr=>∃k:Nat,k≤6∧i=.int .i64 k∧RefRoom w B G X Y d k (Gn.roomed d k) wr) (fun i _=>6 - (intOf i).toNat)
 case atStart=>exact ⟨0,by omega,rfl,uh hH2⟩
 case round =>
  clear hH2;clear w3;obtain ⟨k,hk,rfl,hH⟩:=hrel;have hH1:=hide hH;clear hH;by_cases hlt:k<6
  ·have hlt':(k:Int)<6:=by omega
   have HL:=hide hlt;clear hlt hk;obtain ⟨A0,hA0⟩:∃x,x=d k 0 5:=⟨_,rfl⟩;obtain ⟨A1,hA1'⟩:∃x,x=d k 1 4:=⟨_,rfl⟩;obtain ⟨A2,hA2⟩:∃x,x=d k 2 (23 - (3+A0)):=⟨_,rfl⟩;obtain ⟨A3,hA3⟩:∃x,x=d k 3 (15 - (2+A1)):=⟨_,rfl⟩;obtain ⟨a1,a2⟩:0≤A0∧A0<5:=by rw [hA0];exact uh hF' _ _ _ (by omega)
   obtain ⟨a3,a4⟩:0≤A1∧A1<4:=by rw [hA1'];exact uh hF' _ _ _ (by omega)
   obtain ⟨a5,a6⟩:0≤A2∧A2<23 - (3+A0):=by rw [hA2];exact uh hF' _ _ _ (by omega)
   obtain ⟨a7,a8⟩:0≤A3∧A3<15 - (2+A1):=by rw [hA3];exact uh hF' _ _ _ (by omega)
   have c0:Hid (∀x,Calls Tryz.prog 61 #[.int .i64 s,.int .i64 f,.int .i64 k,.int .i64 0,.int .i64 5] x (Says x (.int .i64 A0))):=fun x=>by
    have h:=refD_any s f k 0 5 x (by omega);rw [uh hd',←hA0] at h;exact h
   have c1:Hid (∀x,Calls Tryz.prog 61 #[.int .i64 s,.int .i64 f,.int .i64 k,.int .i64 1,.int .i64 4] x (Says x (.int .i64 A1))):=fun x=>by
    have h:=refD_any s f k 1 4 x (by omega);rw [uh hd',←hA1'] at h;exact h
   have c2:Hid (∀x,Calls Tryz.prog 61 #[.int .i64 s,.int .i64 f,.int .i64 k,.int .i64 2,.int .i64 (23 - (3+A0))] x (Says x (.int .i64 A2))):=fun x=>by
    have h:=refD_any s f k 2 (23 - (3+A0)) x (by omega);rw [uh hd',←hA2] at h;exact h
   have c3:Hid (∀x,Calls Tryz.prog 61 #[.int .i64 s,.int .i64 f,.int .i64 k,.int .i64 3,.int .i64 (15 - (2+A1))] x (Says x (.int .i64 A3))):=fun x=>by
    have h:=refD_any s f k 3 (15 - (2+A1)) x (by omega);rw [uh hd',←hA3] at h;exact h
   have e0:=hide hA0;have e1:=hide hA1';have e2:=hide hA2;have e3:=hide hA3;clear hA0 hA1' hA2 hA3;go_wp2_with fail;refine (uh c0 _).mono ?_;rintro e wa ⟨rfl,hga⟩;have hHa:=hide ((uh hH1).on hga);clear hga hH1;go_wp2_with fail;refine (uh c1 _).mono ?_;rintro e wb ⟨rfl,hgb⟩;have hHb:=hide ((uh hHa).on hgb);clear hgb hHa;go_wp2_with fail;refine (uh c2 _).mono ?_;rintro e wc ⟨rfl,hgc⟩;have hHc:=hide ((uh hHb).on hgc);clear hgc hHb;go_wp2_with fail;refine (uh c3 _).mono ?_;rintro e wd ⟨rfl,hgd⟩;have hHd:=hide ((uh hHc).on hgd);clear hgd hHc c0 c1 c2 c3;clear wa wb wc;go_wp2_with fail;have hst:=hide ((uh hHd).congr (c':=Gn.paintTo (Gn.roomed d k) (1+A2) (1+A3) (3+A0) (2+A1) (1+A3) (1+A2)) fun j=>by rw [Gn.paint_start])
   go_loopw [13] (fun i wr=>∃r:Int,1+A3≤r∧r≤1+A3+(2+A1)∧i=.int .i64 r∧RefRoom w B G X Y d k (Gn.paintTo (Gn.roomed d k) (1+A2) (1+A3) (3+A0) (2+A1) r (1+A2)) wr) (fun i _=>(1+A3+(2+A1) - intOf i).toNat)
   case atStart=>exact ⟨1+A3,by omega,by omega,rfl,uh hst⟩
   case round =>
    clear hst hHd;obtain ⟨r,hr1,hr2,rfl,hH⟩:=hrel;have hH3:=hide hH;clear hH;by_cases hr:r<1+A3+(2+A1)
    ·go_wp2_with fail
     go_loopw [14] (fun i wr=>∃q:Int,1+A2≤q∧q≤1+A2+(3+A0)∧i=.int .i64 q∧RefRoom w B G X Y d k (Gn.paintTo (Gn.roomed d k) (1+A2) (1+A3) (3+A0) (2+A1) r q) wr) (fun i _=>(1+A2+(3+A0) - intOf i).toNat)
     case atStart=>exact ⟨1+A2,by omega,by omega,rfl,uh hH3⟩
     case round =>
      obtain ⟨q,hq1,hq2,rfl,hH⟩:=hrel;clear hH3;have hH3:=hide hH;clear hH;by_cases hq:q<1+A2+(3+A0)
      ·obtain ⟨c,hc⟩:∃c:Nat,r*24+q=(c:Int):=⟨(r*24+q).toNat,by omega⟩;have hcl:c<384:=by omega
       have hcc:=(uh hH3).cells.cell hcl;have hcf:=(uh hH3).cells.free c;have hstep:=hide (((uh hH3).put c 1).congr (c':=Gn.paintTo (Gn.roomed d k) (1+A2) (1+A3) (3+A0) (2+A1) r (q+1)) fun j=>Gn.paint_one (Gn.roomed d k) (1+A2) (1+A3) (3+A0) (2+A1) r q c hq1 (by omega) hr1 (by omega) (by omega) (by omega) hc j);have hc2:(c:Int)<384:=by omega
       clear hH3;go_wp2;go_roundw;case rel=>exact ⟨q+1,by omega,by omega,by go_num,uh hstep⟩
       case measure=>simp [intOf];omega
      ·have hqe:q=1+A2+(3+A0):=by omega
       have hrow:=hide ((uh hH3).congr (c':=Gn.paintTo (Gn.roomed d k) (1+A2) (1+A3) (3+A0) (2+A1) (r+1) (1+A2)) fun j=>by rw [hqe,Gn.paint_row]);clear hqe hH3;go_wp2;go_roundw;case rel=>exact ⟨r+1,by omega,by omega,by go_num,uh hrow⟩
       case measure=>simp [intOf];omega
    ·have hre:r=1+A3+(2+A1):=by omega
     have hrx:Gn.rw d k=3+A0:=by rw [uh e0];rfl
     have hrh:Gn.rh d k=2+A1:=by rw [uh e1];rfl
     have hxx:Gn.rx d k=1+A2:=by unfold Gn.rx;rw [hrx,←uh e2]
     have hyy:Gn.ry d k=1+A3:=by unfold Gn.ry;rw [hrh,←uh e3]
     have hmx:1+A2+(3+A0) / 2=Gn.mx d k:=by unfold Gn.mx;rw [hrx,hxx]
     have hmy:1+A3+(2+A1) / 2=Gn.my d k:=by unfold Gn.my;rw [hrh,hyy]
     have hroom:=hide ((uh hH3).congr (c':=Gn.roomed d (k+1)) fun j=>by rw [Gn.roomed,Gn.paint,hrx,hrh,hxx,hyy,hre]);have hk6:=uh HL;have q1:=(uh hH3).xs.cell hk6;have q2:=(uh hH3).ys.cell hk6;have q3:=(uh hH3).xs.free k;have q4:=(uh hH3).ys.free k;have hmx':=hide hmx;have hmy':=hide hmy;have hxy:=(uh hH3).o3;clear hre hrx hrh hxx hyy hmx hmy hH3 hk6;go_wp2;go_roundw;case rel=>exact ⟨k+1,by have:=uh HL;omega,by go_num,(uh hroom).next _ _ (uh hmx') (uh hmy')⟩
     case measure=>have:=uh HL;simp [intOf];omega
  ·have hge:¬(k:Int)<6:=by omega
   obtain rfl:k=6:=by omega
   have hC:Hid (RefCor w B G X Y d (Gn.dug d 0) wr):=by
    have h:=uh hH1;refine ⟨h.cells,h.xs.congr fun j hj=>?_,h.ys.congr fun j hj=>?_,h.res,h.grown,h.o0,h.o1,h.o2,h.o3⟩
    ·rw [if_pos hj]
    ·rw [if_pos hj]
   clear hk hlt;go_wp2_with fail;exact uh hK0 _ _ (ref_corr s f d (uh hd') (uh hF') h1f h3f w B G X Y wr (uh hC))


open Go.RowKit

structure Nv.Floor (c:Nat→Int):Prop where
 five:∀i,0≤c i∧c i≤5
 some:∃i,i<384∧c i≠0
 hang:∀P,Gn.Closed c P→∀k,k<384→c k≠0→P k→∀i,i<384→c i≠0→P i
 stairs:∃u v,u<384∧v<384∧(∀i,c i=3↔i=u)∧(∀i,c i=4↔i=v)

theorem Nv.to_up {d:Gn.Dice} (hd:Gn.Fair d) {c F:Nat→Int} {far:Nat} (h:Gn.Facts d c F far) {P:Nat→Prop} (hC:Gn.Closed c P):∀(n k:Nat),k<384→c k≠0→P k→F k=(n:Int)→P (Gn.up d):=by
 intro n;induction n with
 | zero =>
  intro k hk _ hP e;rw [←(h.fld.zero k hk).1 e];exact hP
 | succ n ih =>
  intro k hk hck hP e;obtain ⟨_,j,dd,hj,hdd,hn,rfl,he⟩:=h.fld.back k hk (by omega);obtain ⟨b1,b2⟩:=Gr.nb_back hj hdd hn;have hcj:c j≠0:=(h.reach hd j hj).1 (by omega);refine ih j hj hcj ?_ (by omega);have:=hC (Gr.nbOf j dd) (Gr.opp dd) hk (Gr.opp_lt hdd) hP b1 (by rw [b2];exact hcj)
  rwa [b2] at this

theorem Nv.floor_of {d:Gn.Dice} (hd:Gn.Fair d) {c F:Nat→Int} (h:Gn.IsLevel d c F):Nv.Floor c:=by
 obtain ⟨far,hf⟩:=h.facts hd;refine ⟨hf.five,⟨far,hf.farl,by have:=(hf.is4 far).2 rfl;omega⟩,fun P hC k hk hck hP i hi hci=>?_,⟨Gn.up d,far,hf.upl,hf.farl,hf.is3,hf.is4⟩⟩;have h0:=(hf.reach hd k hk).2 hck;have hup:=Nv.to_up hd hf hC (F k).toNat k hk hck hP (by omega);exact Gn.hangs hd (fun j _=>hf.nz j) hC hup i hi hci


open Go.RowKit

theorem madeCells_item (n c:Nat) (hc:c<n*4):(madeCells (Value.agg #[.int .i64 0,.int .i64 0,.int .i64 0,.int .i64 0]).cells (n*4))[c]?=some (.int .i64 0):=by
 have hm:c % 4<4:=by omega
 obtain ⟨m,hmm⟩:∃m,m=c % 4:=⟨_,rfl⟩;unfold madeCells;simp [hc,Value.cells];rw [←hmm] at hm ⊢;rcases (show m=0∨m=1∨m=2∨m=3 by omega) with rfl|rfl|rfl|rfl <;> rfl

theorem make40:∃Z:Array Value,(∀w:World,(Instr.makeSlice 27 (.int .i64 40) (.int .i64 40)).run Tryz.prog w=.ok (.slice (some ⟨w.heap.size,0,none⟩) 40 40) (w.alloc (.cells Z 72))) ∧
  ∀w:World,Lie (w.alloc (.cells Z 72)) w.heap.size 72 160 (Gd.flat (fun _ _=>0)):=by
 obtain ⟨i0,hi,hz0,hz1,hz2⟩:=info_parts info_item;refine ⟨madeCells (Value.agg #[.int .i64 0,.int .i64 0,.int .i64 0,.int .i64 0]).cells (40*4),fun w=>?_,fun w=>?_⟩
 ·have hr:=run_make (P:=Tryz.prog) w 27 72 i0 _ Tryz.underlying27 hi hz0 .i64 .i64 (40:Nat) (40:Nat) (by omega) (by omega) (by rw [hz2];decide) (by decide);rw [hz1] at hr;exact hr
 ·refine ⟨_,_,Arr.lit (heap_alloc_new w _),by rw [size_madeCells];omega,fun c hc=>?_⟩;show (madeCells _ _)[c]?.getD undef=_;rw [madeCells_item 40 c hc];rfl

theorem Lie.type_ne {x:World} {B G:Nat} {T U:TypeId} {m n:Nat} {F K:Nat→Value} (h1:Lie x B T m F) (h2:Lie x G U n K) (h:T≠U):B≠G:=by
 rintro rfl;obtain ⟨_,_,⟨c1,e1,_⟩,_⟩:=h1;obtain ⟨_,_,⟨c2,e2,_⟩,_⟩:=h2;rw [e1] at e2;simp only [Option.some.injEq,Obj.cells.injEq] at e2;exact h e2.2.1


open Go.RowKit

def cin:Code→Code
 | .block _ b=>b
 | .loop b=>b
 | c=>c

end Go.Proofs.YtldgbkjceildfaaGreat
