import Derived.Test.YtbanjoflgoiegaaGreatPart05
set_option maxHeartbeats 4000000
set_option maxRecDepth 8000
namespace Go.Proofs.YtbanjoflgoiegaaGreat
open Go.Proofs.Tryz
open Go.RowKit
variable{G k:Nat}{f s:Int}{w wr:World}
def Gn.fO(d:Gn.aY)(j:Nat):Int:=if j%2=0 then Gn.mx d (j/2)else Gn.my d (j/2)
def Gn.ud (d:Gn.aY):Array Value:=#[.int .i64 (Gn.fO d 0),.int .i64 (Gn.fO d 1),.int .i64 (Gn.fO d 2),.int .i64 (Gn.fO d 3),.int .i64 (Gn.fO d 4),.int .i64 (Gn.fO d 5),.int .i64 (Gn.fO d 6),.int .i64 (Gn.fO d 7),.int .i64 (Gn.fO d 8),.int .i64 (Gn.fO d 9),.int .i64 (Gn.fO d 10),.int .i64 (Gn.fO d 11)]
theorem ax.wG{g:Nat}{T:TypeId}{F:Nat->Value}(h:ax w g T 12 F):w.cell? ⟨g,0,none⟩=some (F 0)/\w.cell? ⟨g,1,none⟩=some (F 1)/\w.cell? ⟨g,2,none⟩=some (F 2)/\w.cell? ⟨g,3,none⟩=some (F 3)/\w.cell? ⟨g,4,none⟩=some (F 4)/\w.cell? ⟨g,5,none⟩=some (F 5)/\w.cell? ⟨g,6,none⟩=some (F 6)/\w.cell? ⟨g,7,none⟩=some (F 7)/\w.cell? ⟨g,8,none⟩=some (F 8)/\w.cell? ⟨g,9,none⟩=some (F 9)/\w.cell? ⟨g,10,none⟩=some (F 10)/\w.cell? ⟨g,11,none⟩=some (F 11) :=
 ⟨h.cell (by omega),h.cell (by omega),h.cell (by omega),h.cell (by omega),h.cell (by omega),h.cell (by omega),h.cell (by omega),h.cell (by omega),h.cell (by omega),h.cell (by omega),h.cell (by omega),h.cell (by omega)⟩
theorem ax.R5{g:Nat}{T:TypeId}{F:Nat->Value}(h:ax w g T 12 F):w.frozen? ⟨g,0,none⟩=false/\w.frozen? ⟨g,1,none⟩=false/\w.frozen? ⟨g,2,none⟩=false/\w.frozen? ⟨g,3,none⟩=false/\w.frozen? ⟨g,4,none⟩=false/\w.frozen? ⟨g,5,none⟩=false/\w.frozen? ⟨g,6,none⟩=false/\w.frozen? ⟨g,7,none⟩=false/\w.frozen? ⟨g,8,none⟩=false/\w.frozen? ⟨g,9,none⟩=false/\w.frozen? ⟨g,10,none⟩=false/\w.frozen? ⟨g,11,none⟩=false :=
 ⟨h.free _,h.free _,h.free _,h.free _,h.free _,h.free _,h.free _,h.free _,h.free _,h.free _,h.free _,h.free _⟩
structure dL(w:World)(G:Nat)(s f:Int)(d:Gn.aY)(k:Nat)(wr:World):Prop where
 ep:ax wr w.heap.size 116 2 (fun j=>.int .i64 (if j=0 then s else f))
 bl:ax wr (w.heap.size+1) 119 12 (fun _=>.int .i64 0)
 fO:ax wr (w.heap.size+1+1) 119 12 (fun j=>.int .i64 (if j<2*k then Gn.fO d j else 0))
 grown:w.grownBy wr (some G)
theorem dL.on{d:Gn.aY}{wx:World}(h:dL w G s f d k wr)(hg:wr.grownBy wx none):dL w G s f d k wx :=
 ⟨h.ep.grown hg (by simp),h.bl.grown hg (by simp),h.fO.grown hg (by simp),cO h.grown hg⟩
theorem gs0(w:World)(g i:Nat)(u:Value):w.grownBy (w.setCell ⟨g,i,none⟩ u) (some g):=gst (abF _ _) i u
theorem dL.put{d:Gn.aY}(h:dL w G s f d k wr)(hG:G<w.heap.size)(i:Nat)(u:Value):dL w G s f d k (wr.setCell ⟨G,i,none⟩ u) :=
 ⟨h.ep.grown (gs0 wr G i u) (by simp;omega),h.bl.grown (gs0 wr G i u) (by simp;omega),h.fO.grown (gs0 wr G i u) (by simp;omega),gst h.grown i u⟩
theorem dL.start(w:World)(G:Nat)(s f:Int)(d:Gn.aY)(z:Array Value)(hz:z=#[.int .i64 0,.int .i64 0,.int .i64 0,.int .i64 0,.int .i64 0,.int .i64 0,.int .i64 0,.int .i64 0,.int .i64 0,.int .i64 0,.int .i64 0,.int .i64 0]):dL w G s f d 0 (((w.alloc (.cells #[.int .i64 s,.int .i64 f] 116)).alloc (.cells z 119)).alloc (.cells z 119)):=by
 have Qf:∀i,i<12->z[i]?=some (.int .i64 0):=by
  intro i hi;subst hz;rcases(show i=0\/i=1\/i=2\/i=3\/i=4\/i=5\/i=6\/i=7\/i=8\/i=9\/i=10\/i=11 by omega)with rfl|rfl|rfl|rfl|rfl|rfl|rfl|rfl|rfl|rfl|rfl|rfl <;> rfl
 have hs:z.size=12:=by subst hz;rfl
 refine⟨?_,?_,?_,gal (gal (abE _ _ _) _) _⟩
 ·have h:ax (w.alloc (.cells #[.int .i64 s,.int .i64 f] 116)) w.heap.size 116 2 (fun j=>.int .i64 (if j=0 then s else f)):=by
   refine⟨_,abH _ _,rfl,fun i hi=>?_⟩;rcases(show i=0\/i=1 by omega)with rfl|rfl <;> rfl
  exact(h.alloc _).alloc _
 ·have h:ax ((w.alloc (.cells #[.int .i64 s,.int .i64 f] 116)).alloc (.cells z 119)) (w.heap.size+1) 119 12 (fun _=>.int .i64 0):=by
   refine⟨_,?_,hs,fun i hi=>Qf i hi⟩;have:=abH (w.alloc (.cells #[.int .i64 s,.int .i64 f] 116)) (.cells z 119)
   simpa using this
  exact h.alloc _
 ·refine⟨_,?_,hs,fun i hi=>by rw[Qf i hi];show _=some (Value.int .i64 (if i<2*0 then Gn.fO d i else 0));rw[abO (by omega)]⟩;have:=abH ((w.alloc (.cells #[.int .i64 s,.int .i64 f] 116)).alloc (.cells z 119)) (.cells z 119)
  simpa using this
theorem dL.next{d:Gn.aY}(h:dL w G s f d k wr)(u v:Int)(hu:u=Gn.mx d k)(hv:v=Gn.my d k):dL w G s f d (k+1) ((wr.setCell ⟨w.heap.size+1+1,k*2,none⟩ (.int .i64 u)).setCell ⟨w.heap.size+1+1,k*2+1,none⟩ (.int .i64 v)):=by
 have hg:wr.grownBy ((wr.setCell ⟨w.heap.size+1+1,k*2,none⟩ (.int .i64 u)).setCell ⟨w.heap.size+1+1,k*2+1,none⟩ (.int .i64 v)) (some (w.heap.size+1+1)):=gst (gs0 _ _ _ _) _ _;refine⟨h.ep.grown hg (by simp;omega),h.bl.grown hg (by simp),?_,gow h.grown hg (fun n e=>by cases e;omega)⟩;refine((h.fO.store _ _).store _ _).congr fun j hj=>?_;show(if j=k*2+1 then Value.int .i64 v else if j=k*2 then .int .i64 u else .int .i64 (if j<2*k then Gn.fO d j else 0))=_;by_cases e1:j=k*2+1
 ·rw[abP e1,abP (by omega),hv,e1];unfold Gn.fO;rw[abO (by omega),show(k*2+1)/2=k by omega]
 ·rw[abO e1];by_cases e2:j=k*2
  ·rw[abP e2,abP (by omega),hu,e2];unfold Gn.fO;rw[abP (by omega),show k*2/2=k by omega]
  ·rw[abO e2];by_cases e3:j<2*k
   ·rw[abP e3,abP (by omega)]
   ·rw[abO e3,abO (by omega)]
theorem MB(s f:Int)(d:Gn.aY)(hd:∀a b n,Gn.D s f a b n=d a b n)(hF:Gn.gL d)(G:Nat)(w:World)(hA:ax w G 5 384 (aZ fun _=>0)):Calls prog 97 #[.agg #[.int .i64 s,.int .i64 f],.slice (some ⟨G,0,none⟩) 384 384] w
   (fun e w'=>e=.returned (.agg (Gn.ud d))/\ax w' G 5 384 (aZ (Gn.roomed d 6))/\w.grownBy w' (some G)):=by
 have hG:=hA.lt;have jr:=aa hA;have jL:=aa hd;have iU:=aa hF;clear hA hd hF;go_enter func97,ntmps97;go_wp2_with fail;go_loopw [13] (fun i wr=>∃k:Nat,k<=6/\i=.int .i64 k/\ax wr G 5 384 (aZ (Gn.roomed d k))/\dL w G s f d k wr) (fun i _=>6-(intOf i).toNat)
 case atStart=>exact⟨0,by omega,rfl,(((uh jr).alloc _).alloc _).alloc _,dL.start w G s f d _ rfl⟩
 case round =>
  obtain⟨k,hk,rfl,hA,hH⟩:=hrel;have dP:=aa hA;have dp:=aa hH;clear hA hH jr;by_cases hlt:k<6
  ·have hlt':(k:Int)<6:=by omega
   have HL:=aa hlt;clear hlt hk;obtain⟨A0,hA0⟩:∃x,x=d k 0 5:=⟨_,rfl⟩;obtain⟨A1,GA⟩:∃x,x=d k 1 4:=⟨_,rfl⟩;obtain⟨A2,dF⟩:∃x,x=d k 2 (23-(3+A0)):=⟨_,rfl⟩;obtain⟨A3,fa⟩:∃x,x=d k 3 (15-(2+A1)):=⟨_,rfl⟩;obtain⟨a1,a2⟩:0<=A0/\A0<5:=by rw[hA0];exact uh iU _ _ _ (by omega)
   obtain⟨a3,a4⟩:0<=A1/\A1<4:=by rw[GA];exact uh iU _ _ _ (by omega)
   obtain⟨a5,a6⟩:0<=A2/\A2<23-(3+A0):=by rw[dF];exact uh iU _ _ _ (by omega)
   obtain⟨a7,a8⟩:0<=A3/\A3<15-(2+A1):=by rw[fa];exact uh iU _ _ _ (by omega)
   have e0:=aa hA0;have e1:=aa GA;have e2:=aa dF;have e3:=aa fa;clear hA0 GA dF fa;go_wp2_with fail;refine bF (by kernel_rfl) (by kernel_rfl) ?_;intro St hN W hI hx;have c0:∀σ,(W σ).cell? ⟨w.heap.size,0,none⟩=some (.int .i64 s):=fun σ=>((uh dp).on (hI σ)).ep.cell (by omega);have c1:∀σ,(W σ).cell? ⟨w.heap.size,1,none⟩=some (.int .i64 f):=fun σ=>((uh dp).on (hI σ)).ep.cell (by omega);have c2:∀σ,Calls prog 128 #[.agg #[.int .i64 s,.int .i64 f],.int .i64 k,.int .i64 0,.int .i64 5] (W σ) fun e sc=>e=.returned (.int .i64 A0)/\∃σ',sc=W σ':=fun σ=>by
    have h:=gR s f k 0 5 (W σ) (by omega);rw[uh jL,<-uh e0]at h;exact bQ hI hx h
   have c3:∀σ,Calls prog 128 #[.agg #[.int .i64 s,.int .i64 f],.int .i64 k,.int .i64 1,.int .i64 4] (W σ) fun e sc=>e=.returned (.int .i64 A1)/\∃σ',sc=W σ':=fun σ=>by
    have h:=gR s f k 1 4 (W σ) (by omega);rw[uh jL,<-uh e1]at h;exact bQ hI hx h
   have mS:=aa hI;clear hI hx
   repeat (go_big_quiet_step ((first| (go_at_call_of 128 (Value.int IntKind.i64 5);exact c2 _)|(go_at_call_of 128 (Value.int IntKind.i64 4);exact c3 _))))
   refine wpQuiet_nil ?_;rintro _ ⟨σ,rfl⟩;obtain⟨wq,G7⟩:=abV (W σ);have dF:=aa ((uh dP).grown (uh mS σ) (by simp));have kN:=aa ((uh dp).on (uh mS σ));rw[G7]at dF kN|-;clear c0 c1 c2 c3 mS G7 dP dp;clear σ W hN St;go_wp2_with fail;refine bF (by kernel_rfl) (by kernel_rfl) ?_;intro St hN W hI hx;have c0:∀σ,(W σ).cell? ⟨w.heap.size,0,none⟩=some (.int .i64 s):=fun σ=>((uh kN).on (hI σ)).ep.cell (by omega);have c1:∀σ,(W σ).cell? ⟨w.heap.size,1,none⟩=some (.int .i64 f):=fun σ=>((uh kN).on (hI σ)).ep.cell (by omega);have c2:∀σ,Calls prog 128 #[.agg #[.int .i64 s,.int .i64 f],.int .i64 k,.int .i64 2,.int .i64 (23-(3+A0))] (W σ) fun e sc=>e=.returned (.int .i64 A2)/\∃σ',sc=W σ':=fun σ=>by
    have h:=gR s f k 2 (23-(3+A0)) (W σ) (by omega);rw[uh jL,<-uh e2]at h;exact bQ hI hx h
   have c3:∀σ,Calls prog 128 #[.agg #[.int .i64 s,.int .i64 f],.int .i64 k,.int .i64 3,.int .i64 (15-(2+A1))] (W σ) fun e sc=>e=.returned (.int .i64 A3)/\∃σ',sc=W σ':=fun σ=>by
    have h:=gR s f k 3 (15-(2+A1)) (W σ) (by omega);rw[uh jL,<-uh e3]at h;exact bQ hI hx h
   have mS:=aa hI;clear hI hx
   repeat (go_big_quiet_step ((first| (go_at_call_of 128 (Value.int IntKind.i64 2);exact c2 _)|(go_at_call_of 128 (Value.int IntKind.i64 3);exact c3 _))))
   refine wpQuiet_nil ?_;rintro _ ⟨σ,rfl⟩;obtain⟨wp,hwp⟩:∃wq,W σ=wq:=⟨_,rfl⟩;have fa:=aa ((uh dF).grown (uh mS σ) (by simp));have eV:=aa ((uh kN).on (uh mS σ));rw[hwp]at fa eV|-;clear c0 c1 c2 c3 mS hwp dF kN;clear σ W hN St wq;go_wp2_with fail;have aK:=aa ((uh fa).congr (G:=aZ (Gn.cH (Gn.roomed d k) (1+A2) (1+A3) (3+A0) (2+A1) (1+A3) (1+A2))) fun j _=>by rw[aZ,aZ,Gn.tK]);go_loopw [11] (fun i wr=>∃r:Int,1+A3<=r/\r<=1+A3+(2+A1)/\i=.int .i64 r/\ax wr G 5 384 (aZ (Gn.cH (Gn.roomed d k) (1+A2) (1+A3) (3+A0) (2+A1) r (1+A2)))/\dL w G s f d k wr) (fun i _=>(1+A3+(2+A1)-intOf i).toNat)
   case atStart=>exact⟨1+A3,by omega,by omega,rfl,uh aK,uh eV⟩
   case round =>
    obtain⟨r,Re,pk,rfl,hA,hH⟩:=hrel;clear aK fa eV;have fa:=aa hA;have eV:=aa hH;clear hA hH;by_cases hr:r<1+A3+(2+A1)
    ·go_wp2_with fail;go_loopw [12] (fun i wr=>∃q:Int,1+A2<=q/\q<=1+A2+(3+A0)/\i=.int .i64 q/\ax wr G 5 384 (aZ (Gn.cH (Gn.roomed d k) (1+A2) (1+A3) (3+A0) (2+A1) r q))/\dL w G s f d k wr) (fun i _=>(1+A2+(3+A0)-intOf i).toNat)
     case atStart=>exact⟨1+A2,by omega,by omega,rfl,uh fa,uh eV⟩
     case round =>
      obtain⟨q,FX,FY,rfl,hA,hH⟩:=hrel;clear fa eV;have fa:=aa hA;have eV:=aa hH;clear hA hH;by_cases hq:q<1+A2+(3+A0)
      ·go_wp2_with fail;refine aaR (rP q r _ (by omega) (by omega) (by omega) (by omega)) fun wn zH=>?_;obtain⟨c,hc⟩:∃c:Nat,r*24+q=(c:Int):=⟨(r*24+q).toNat,by omega⟩;have jN:=aa ((uh fa).grown zH (by simp));have iH:=aa ((uh eV).on zH);have iu:c<384:=(by omega);have ya:=(uh jN).cell iu;have Z9:=(uh jN).free c
       have dm:=aa (((uh jN).store c (.int .u8 1)).congr (G:=aZ (Gn.cH (Gn.roomed d k) (1+A2) (1+A3) (3+A0) (2+A1) r (q+1))) fun j _=>by
        have h:=Gn.yv (Gn.roomed d k) (1+A2) (1+A3) (3+A0) (2+A1) r q c FX (by omega) Re (by omega) (by omega) (by omega) hc j;show _=Value.int .u8 (Gn.cH (Gn.roomed d k) (1+A2) (1+A3) (3+A0) (2+A1) r (q+1) j);rw[<-h];unfold Gr.dj aZ
        split <;> rfl)
       have pH:=aa ((uh iH).put hG c (.int .u8 1));rw[hc];have oS:(c:Int)<384:=(by omega);clear zH fa eV jN iH;go_wp2;go_roundw
       case rel=>exact⟨q+1,by omega,by omega,by go_num,uh dm,uh pH⟩
       case measure=>simp[intOf];omega
      ·have Xt:q=1+A2+(3+A0):=(by omega);have bZ:=aa ((uh fa).congr (G:=aZ (Gn.cH (Gn.roomed d k) (1+A2) (1+A3) (3+A0) (2+A1) (r+1) (1+A2))) fun j _=>by rw[aZ,aZ,Xt,Gn.yw]);clear Xt fa;go_wp2;go_roundw
       case rel=>exact⟨r+1,by omega,by omega,by go_num,uh bZ,uh eV⟩
       case measure=>simp[intOf];omega
    ·have Xw:r=1+A3+(2+A1):=(by omega);have Rh:Gn.rw d k=3+A0:=by rw[uh e0];rfl
     have Rg:Gn.rh d k=2+A1:=by rw[uh e1];rfl
     have UY:Gn.rx d k=1+A2:=by unfold Gn.rx;rw[Rh,<-uh e2]
     have UZ:Gn.ry d k=1+A3:=by unfold Gn.ry;rw[Rg,<-uh e3]
     have hmx:1+A2+(3+A0)/2=Gn.mx d k:=by unfold Gn.mx;rw[Rh,UY]
     have SS:1+A3+(2+A1)/2=Gn.my d k:=by unfold Gn.my;rw[Rg,UZ]
     have ol:=aa ((uh fa).congr (G:=aZ (Gn.roomed d (k+1))) fun j _=>by
      show _=Value.int .u8 (Gn.roomed d (k+1) j)
      rw[aZ,Gn.roomed,Gn.Hz,Rh,Rg,UY,UZ,Xw])
     have Oo:=(uh eV).fO;have q1:=Oo.cell (i:=k*2) (by have:=uh HL;omega);have q2:=Oo.cell (i:=k*2+1) (by have:=uh HL;omega);have q3:=Oo.free (k*2);have q4:=Oo.free (k*2+1);have UC:=aa hmx;have UD:=aa SS;clear Xw Rh Rg UY UZ hmx SS fa Oo;go_wp2;go_roundw
     case rel=>exact⟨k+1,by have:=uh HL;omega,by go_num,(uh ol).grown (gst (gs0 _ _ _ _) _ _) (by simp;omega),(uh eV).next _ _ (uh UC) (uh UD)⟩
     case measure=>have:=uh HL;simp[intOf];omega
  ·have hge:¬(k:Int)<6:=by omega
   obtain rfl:k=6:=by omega
   obtain⟨m0,m1,m2,m3,m4,m5,m6,m7,m8,m9,YX,YY⟩:=(uh dp).fO.wG;obtain⟨r0,r1,r2,r3,r4,r5,r6,r7,r8,r9,pb,r11⟩:=(uh dp).bl.wG;obtain⟨f0,f1,f2,f3,f4,f5,f6,f7,f8,f9,f10,f11⟩:=(uh dp).bl.R5;simp only[Nat.reduceLT,Nat.reduceMul,ite_true]at m0 m1 m2 m3 m4 m5 m6 m7 m8 m9 YX YY;clear hk hlt;go_wp2;refine abN (v:=.agg (Gn.ud d)) (by simp[results,results97,go_sem,Gn.ud,r0,r1,r2,r3,r4,r5,r6,r7,r8,r9,pb,r11]) rfl ?_;have hg:=gst (gst (gst (gst (gst (gst (gst (gst (gst (gst (gst (gs0 wr (w.heap.size+1) 0 (.int .i64 (Gn.fO d 0))) 1 (.int .i64 (Gn.fO d 1))) 2 (.int .i64 (Gn.fO d 2))) 3 (.int .i64 (Gn.fO d 3))) 4 (.int .i64 (Gn.fO d 4))) 5 (.int .i64 (Gn.fO d 5))) 6 (.int .i64 (Gn.fO d 6))) 7 (.int .i64 (Gn.fO d 7))) 8 (.int .i64 (Gn.fO d 8))) 9 (.int .i64 (Gn.fO d 9))) 10 (.int .i64 (Gn.fO d 10))) 11 (.int .i64 (Gn.fO d 11));exact⟨rfl,(uh dP).grown hg (by simp;omega),gow (uh dp).grown hg (fun n e=>by cases e;omega)⟩
structure eD(w:World)(G:Nat)(s f:Int)(d:Gn.aY)(wr:World):Prop where
 ep:ax wr w.heap.size 116 2 (fun j=>.int .i64 (if j=0 then s else f))
 fO:ax wr (w.heap.size+1) 119 12 (fun j=>.int .i64 (Gn.fO d j))
 grown:w.grownBy wr (some G)
theorem eD.on{w:World}{G:Nat}{s f:Int}{d:Gn.aY}{wr wx:World}(h:eD w G s f d wr)(hg:wr.grownBy wx none):eD w G s f d wx :=
 ⟨h.ep.grown hg (by simp),h.fO.grown hg (by simp),cO h.grown hg⟩
theorem eD.own{w:World}{G:Nat}{s f:Int}{d:Gn.aY}{wr wx:World}(h:eD w G s f d wr)(hG:G<w.heap.size)(hg:wr.grownBy wx (some G)):eD w G s f d wx :=
 ⟨h.ep.grown hg (by simp;omega),h.fO.grown hg (by simp;omega),gtr h.grown hg⟩
theorem eD.start(w:World)(G:Nat)(s f:Int)(d:Gn.aY):eD w G s f d ((w.alloc (.cells #[.int .i64 s,.int .i64 f] 116)).alloc (.cells (Gn.ud d) 119)):=by
 refine⟨(ax.iY _ _ _ _).alloc _,?_,gal (abE _ _ _) _⟩;refine⟨Gn.ud d,?_,rfl,fun i hi=>?_⟩
 ·have:=abH (w.alloc (.cells #[.int .i64 s,.int .i64 f] 116)) (.cells (Gn.ud d) 119)
  simpa using this
 ·rcases(show i=0\/i=1\/i=2\/i=3\/i=4\/i=5\/i=6\/i=7\/i=8\/i=9\/i=10\/i=11 by omega)with rfl|rfl|rfl|rfl|rfl|rfl|rfl|rfl|rfl|rfl|rfl|rfl <;> rfl
theorem Gn.OY(d:Gn.aY)(k:Nat):Gn.fO d (k*2)=Gn.mx d k:=by
 unfold Gn.fO;rw[abP (by omega),show k*2/2=k by omega]
theorem Gn.Ry(d:Gn.aY)(k:Nat):Gn.fO d (k*2+1)=Gn.my d k:=by
 unfold Gn.fO;rw[abO (by omega),show(k*2+1)/2=k by omega]
theorem xe(s f:Int)(d:Gn.aY)(hd:∀a b n,Gn.D s f a b n=d a b n)(hF:Gn.gL d)(G:Nat)(w:World)(hA:ax w G 5 384 (aZ (Gn.ks d 0))):Calls prog 98 #[.agg #[.int .i64 s,.int .i64 f],.slice (some ⟨G,0,none⟩) 384 384,.agg (Gn.ud d)] w
   (fun e w'=>e=.returned (.tuple #[])/\ax w' G 5 384 (aZ (Gn.ks d 5))/\w.grownBy w' (some G)):=by
 have hG:=hA.lt;have jr:=aa hA;have jL:=aa hd;have iU:=aa hF;clear hA hd hF;go_enter func98,ntmps98;go_wp2_with fail;go_loopw [6] (fun i wr=>∃j k:Nat,k<=5/\j=k+1/\i=.int .i64 (j:Int)/\ax wr G 5 384 (aZ (Gn.ks d k))/\eD w G s f d wr) (fun i _=>6-(intOf i).toNat)
 case atStart=>exact⟨1,0,by omega,rfl,rfl,((uh jr).alloc _).alloc _,eD.start w G s f d⟩
 case round =>
  obtain⟨j,k,hk,hj,rfl,hA,hH⟩:=hrel;have dP:=aa hA;have dp:=aa hH;clear hA hH jr;by_cases hlt:k<5
  ·have hlt':(j:Int)<6:=by omega
   have pG:(j:Int)-1=(k:Int):=by omega
   have IL:(k:Int)<6:=by omega
   have rJ:(0:Int)<=(k:Int):=by omega
   have hj0:(0:Int)<=(j:Int):=by omega
   have sS:IntKind.i64.wrap ((j:Int)-1)=(k:Int):=by rw[pG,abK];omega
   have G8:IntKind.i64.wrap (k:Int)=(k:Int):=by rw[abK];omega
   obtain⟨D0,wO⟩:∃x,x=d (j:Int) 4 2:=⟨_,rfl⟩;obtain⟨x0,L7⟩:∃x,x=Gn.mx d k:=⟨_,rfl⟩;obtain⟨y0,JD⟩:∃x,x=Gn.my d k:=⟨_,rfl⟩;obtain⟨x1,sU⟩:∃x,x=Gn.mx d j:=⟨_,rfl⟩;obtain⟨y1,IP⟩:∃x,x=Gn.my d j:=⟨_,rfl⟩;have dc:∀x,eD w G s f d x->(x.cell? ⟨w.heap.size,0,none⟩=some (.int .i64 s)/\x.cell? ⟨w.heap.size,1,none⟩=some (.int .i64 f)/\x.cell? ⟨w.heap.size+1,k*2,none⟩=some (.int .i64 x0)/\x.cell? ⟨w.heap.size+1,k*2+1,none⟩=some (.int .i64 y0)/\x.cell? ⟨w.heap.size+1,j*2,none⟩=some (.int .i64 x1)/\x.cell? ⟨w.heap.size+1,j*2+1,none⟩=some (.int .i64 y1)):=by
    intro x hx;have m1:=hx.fO.cell (i:=k*2) (by omega);have m2:=hx.fO.cell (i:=k*2+1) (by omega);have m3:=hx.fO.cell (i:=j*2) (by omega);have m4:=hx.fO.cell (i:=j*2+1) (by omega);simp only[Gn.OY,Gn.Ry,<-L7,<-JD,<-sU,<-IP]at m1 m2 m3 m4;exact⟨hx.ep.cell (by omega),hx.ep.cell (by omega),m1,m2,m3,m4⟩
   have OJ:=aa dc;have uR:Calls prog 128 #[.agg #[.int .i64 s,.int .i64 f],.int .i64 j,.int .i64 4,.int .i64 2] wr.drew (fun e w'=>e=.returned (.int .i64 D0)/\Hid (eD w G s f d w')/\Hid (ax w' G 5 384 (aZ (Gn.ks d k)))):=by
    have h:=gR s f j 4 2 wr.drew (by omega);rw[uh jL,<-wO]at h;have aN:=gd1 (abF wr none);exact h.mono fun e w' ⟨he,hg⟩=>⟨he,((uh dp).on aN).on hg,((uh dP).grown aN (by simp)).grown hg (by simp)⟩
   have V2:∀x,Hid (eD w G s f d x)->Hid (ax x G 5 384 (aZ (Gn.ks d k)))->Calls prog 130 #[.slice (some ⟨G,0,none⟩) 384 384,.agg #[.int .i64 x0,.int .i64 y0],.agg #[.int .i64 x1,.int .i64 y1],.bool (D0==0)] x (fun e w'=>e=.returned (.tuple #[])/\Hid (eD w G s f d w')/\Hid (ax w' G 5 384 (aZ (Gn.ks d j)))):=by
    intro x hx ha;have b0:=Gn.gz (uh iU) k;have b1:=Gn.gz (uh iU) j;rw[<-L7,<-JD]at b0;rw[<-sU,<-IP]at b1;have h:=QD G (Gn.ks d k) x0 y0 x1 y1 (D0==0) x (uh ha) (Gn.xQ d k) (by omega) (by omega);refine h.mono ?_;rintro e w' ⟨he,dF,hg⟩;refine⟨he,(uh hx).own hG hg,?_⟩;rw[L7,JD,sU,IP,wO,hj]at dF;rw[hj];exact dF
   have Si:=aa uR;have Sj:=aa V2;obtain⟨p1,p2,p3,p4,p5,p6⟩:=dc wr (uh dp);have zK:=aa hj;clear dc uR V2 wO L7 JD sU IP hj hlt hk;go_wp2_with fail
   go_region_held3 (fun x=>x.cell? ⟨w.heap.size,0,none⟩=some (.int .i64 s)/\x.cell? ⟨w.heap.size,1,none⟩=some (.int .i64 f)/\x.cell? ⟨w.heap.size+1,k*2,none⟩=some (.int .i64 x0)/\x.cell? ⟨w.heap.size+1,k*2+1,none⟩=some (.int .i64 y0)/\x.cell? ⟨w.heap.size+1,j*2,none⟩=some (.int .i64 x1)/\x.cell? ⟨w.heap.size+1,j*2+1,none⟩=some (.int .i64 y1)) (go_keep) (first| (go_at_call 128;refine(uh Si).mono ?_;rintro e wd ⟨rfl,KL,Yk⟩;obtain⟨z1,z2,z3,z4,z5,z6⟩:=uh OJ wd (uh KL))|(go_at_call 130;refine(uh Sj _ (by assumption) (by assumption)).mono ?_;rintro e we ⟨rfl,tq,hAe⟩;obtain⟨z1,z2,z3,z4,z5,z6⟩:=uh OJ we (uh tq)))
   have Zq:Hid (ax we G 5 384 (aZ (Gn.ks d j))):=hAe;have ZD:Hid (eD w G s f d we):=tq;clear Si Sj OJ z1 z2 z3 z4 z5 z6 sS G8 pG;go_wp2;go_roundw
   case rel=>exact⟨j+1,j,by omega,rfl,by go_num,uh Zq,uh ZD⟩
   case measure=>simp[intOf];omega
  ·have hge:¬(j:Int)<6:=by omega
   obtain rfl:k=5:=by omega
   clear hk hlt hj;go_wp2
   go_end0
   exact⟨rfl,uh dP,(uh dp).grown⟩
