import Derived.Test.YtbanjoflgoiegaaGreatPart37
set_option maxHeartbeats 51200000
set_option maxRecDepth 8000
namespace Go.Proofs.YtbanjoflgoiegaaGreat
open Go.Proofs.Tryz
open Go.RowKit
theorem MA(s g c:N1)(E I:N2)(gC gE gI cC cE cI t k:Nat)(w:World)(hL:Gd.av w gC gE gI c E I)(ht:t<4)(hk:k<32)(hh:Gd.aV E (t:Int)=(k:Int))(input:Int)(hc:∀i,0<=c i/\c i<=255)(eU:∀P:Prop,(∀m f:Nat,input=5->m<40->Gd.an I 40 1 (E k 3) (E k 4)=(m:Int)->I m 0≠4->Gd.cY I 40 (t:Int)=(f:Int)->Gd.yV c g E I t k input g E (En.put I m (Gd.row (I m 0) 2 (t:Int) (f:Int)))->P)->(∀m:Nat,input=5->m<40->Gd.an I 40 1 (E k 3) (E k 4)=(m:Int)->I m 0=4->0<=g t->g t<=999->Gd.yV c g E I t k input (Gd.jw g t (min (g t+5) 999)) E (En.put I m Gd.mN)->P)->(input=6->Gd.lF I 40 (t:Int) 1 1=-1->Gd.yV c g E I t k input g E I->P)->P):Calls prog 41 #[.agg (Gd.world s gC gE gI cC cE cI g),.int .i64 (t:Int),.int .i64 input] w (Gd.cL w s (Gd.jw g t (Gd.dN I (t:Int) (E k 3) (E k 4) (decide (Gr.at 384 c (E k 3) (E k 4)=5)) (g t) input)) c (Gd.eQ E I k (t:Int) input) (Gd.dQ I 40 (t:Int) (E k 3) (E k 4) (decide (Gr.at 384 c (E k 3) (E k 4)=5)) (g t) input)):=by
 obtain⟨w0,aD,aF,aM,aN,eC⟩:=Gd.kr w gC gE gI cC cE cI s g;have gQ:=aa (du s g c E I gC gE gI cC cE cI w0 (hL.on aN));obtain⟨b0,b1,b2,b3,b4,b5,b6,b7,b8,b9,b10⟩:=aF.ae;have da:=aa aF;have jM:=aa aM;have dv:=aa aN;have en:=aa eC;have kB:=aF.free;have ov:=aa hh;have oA:(t:Int)<4:=by omega
 have jy:(k:Int)<32:=by omega
 have HK:=aa hk;have HT:=aa ht;have HC:=aa hc;have HD:=aa eU;clear hc eU;clear hL aF aM aN eC hh hk ht;unfold Gd.world at aD gQ|-;go_enter func41,ntmps41;go_upto_region 1 with fail;rw[<-aD];clear aD;obtain⟨B,hB⟩:=abV w.heap.size;rw[hB]at da jM en b0 b1 b2 b3 b4 b5 b6 b7 b8 b9 b10|-;have eu:=aa hB;rw[hB]at kB;clear hB;go_cut [] from 7 (fun wx=>∃g1 g2 g3 c1 c2 c3,Hid (Gd.au w wx B g1 g2 g3 c1 c2 c3 s g c E I))
 case first =>
  go_wp2_with fail;refine(uh gQ).mono ?_;rintro e w1 ⟨g1,g2,g3,c1,c2,c3,rfl,ap,l1,l2,l3,n1,n2,n3,hL1,hg1⟩;obtain⟨y0,y1,y2,y3,y4,y5,y6,y7,y8,y9,y10⟩:=((uh da).on hg1).ae;have fB:=((uh da).on hg1).free;have fin:Hid (Gd.au w (w1.setCells B 0 (Gd.world s g1 g2 g3 c1 c2 c3 g).toList) B g1 g2 g3 c1 c2 c3 s g c E I):=Gd.au.iL (uh da) (uh jM) (uh dv) (uh eu) (uh en) ap l1 l2 l3 n1 n2 n3 hL1 hg1;unfold Gd.world at fin|-;clear ap l1 l2 l3 n1 n2 n3 hL1 hg1 b0 b1 b2 b3 b4 b5 b6 b7 b8 b9 b10 kB gQ;go_wp2_with fail;go_meet;exact⟨g1,g2,g3,c1,c2,c3,fin⟩
 case rest =>
  obtain⟨g1,g2,g3,c1,c2,c3,hX⟩:=hcut;clear b0 b1 b2 b3 b4 b5 b6 b7 b8 b9 b10 kB gQ da jM dv en eu;clear w0;have b5:=(uh hX).af.box.ae.2.2.2.2.2.1;have ch:=dn g2 c2 E (t:Int) wc (uh hX).af.ab.own;rw[uh ov]at ch;have uj:=aa ch;clear ch;go_wp2_with fail;refine aaR (uh uj) fun w2 hg2=>?_;have mu:=aa ((uh hX).on hg2);clear hg2 uj b5 hX ov;have b5:=(uh mu).af.box.ae.2.2.2.2.2.1;obtain⟨u0,u1,u2,u3,u4,u5,u6,u7,u8,u9,iO⟩:=(uh mu).af.ab.own.ai.row (uh HK);have bP:=aa ((uh mu).on (abE w2 (.cells (En.cells (E k)) 54) none));have hQ:=aa (Gd.pi w2 (E k));have PW:=aa (Gd.qU (uh mu));go_upto_region 6 with fail;unfold En.cells at bP hQ;obtain⟨Q,hQe⟩:=abV w2.heap.size;rw[hQe]at hQ PW|-;generalize w2.alloc (.cells #[.int .i64 (E k 0),.int .i64 (E k 1),.int .i64 (E k 2),.int .i64 (E k 3),.int .i64 (E k 4),.int .i64 (E k 5),.int .i64 (E k 6),.int .i64 (E k 7),.int .i64 (E k 8),.int .i64 (E k 9),.int .i64 (E k 10)] 54)=w3 at bP hQ|-;clear hQe u0 u1 u2 u3 u4 u5 u6 u7 u8 u9 iO b5 mu;obtain⟨z3,z4,z5,z6⟩:=uh hQ;have b6:=(uh bP).af.box.ae.2.2.2.2.2.2.1;have ci:=aa (bS g3 40 c3 I 1 (E k 3) (E k 4) w3 (uh bP).af.ab.fo);have cs:=aa (jJ g3 40 c3 I (t:Int) w3 (uh bP).af.ab.fo);obtain⟨fi,GN⟩:=abV (Gd.an I 40 1 (E k 3) (E k 4));obtain⟨sl,xp⟩:=abV (Gd.cY I 40 (t:Int));rw[GN]at ci;rw[xp]at cs;have so:=aa GN;have th:=aa xp;clear GN xp;go_wp2_with fail;refine abW (uh ci) ?_;go_wp2_with fail;refine abW (uh cs) ?_;clear ci cs b6;go_upto_block 0 with fail;go_cut [] from 7 (fun wx=>∃G F J,Gd.yV c g E I t k input G F J/\Hid (Gd.au w wx B g1 g2 g3 c1 c2 c3 s G c F J))
  case first =>
   clear z3 z4 z5 z6;refine uh HD _ ?_ ?_ ?_
   all_goals clear HD
   ·rintro m f cU hm hf h4 hs rG;have j5:(input==5)=true:=by rw[cU];rfl
    have j6:(input==6)=false:=by rw[cU];rfl
    have j7:(input==7)=false:=by rw[cU];rfl
    have j8:(input==8)=false:=by rw[cU];rfl
    have HG:(input==10)=false:=by rw[cU];rfl
    clear cU;obtain rfl:fi=(m:Int):=(uh so).symm.trans hf;clear hf;obtain rfl:sl=(f:Int):=(uh th).symm.trans hs;clear hs;clear so th;have mf:(m:Int)<40:=(by omega);have j4:(I m 0==4)=false:=by simpa using h4
    have HM:=aa hm;clear hm;obtain⟨i0,i1,i2,i3⟩:=(uh bP).af.ab.fo.row (uh HM);have fI:=(uh bP).af.ab.aj.free;have aK:=aa ((uh bP).Lg m 2 (t:Int) (f:Int));go_wp2_with fail;go_meet;exact⟨_,_,_,rG,aK⟩
   ·rintro m cU hm hf h4 g0 g9 rG;have j5:(input==5)=true:=by rw[cU];rfl
    have j6:(input==6)=false:=by rw[cU];rfl
    have j7:(input==7)=false:=by rw[cU];rfl
    have j8:(input==8)=false:=by rw[cU];rfl
    have HG:(input==10)=false:=by rw[cU];rfl
    clear cU;obtain rfl:fi=(m:Int):=(uh so).symm.trans hf;clear hf;clear so th;have mf:(m:Int)<40:=(by omega);have HM:=aa hm;have H4:=aa h4;clear hm h4;obtain⟨i0,i1,i2,i3⟩:=(uh bP).af.ab.fo.row (uh HM);rw[uh H4]at i0;have fI:=(uh bP).af.ab.aj.free;have fB:=(uh bP).af.box.free;have gB:w3.cell? ⟨B,7+t,none⟩=some (.int .i64 (g t)):=by rw[(uh bP).af.box.cell (by have:=uh HT;omega),Gd.jv _ _ _ _ _ _ _ _ _ (uh HT)]
    have TW:B≠g3:=(uh bP).af.bI;have ZG:g3≠B:=TW.symm;by_cases Z3:g t+5<=999
    ·have aK:Hid (Gd.au w (((((w3.setCell ⟨B,7+t,none⟩ (.int .i64 (g t+5))).setCell ⟨g3,m*4,none⟩ (.int .i64 0)).setCell ⟨g3,m*4+1,none⟩ (.int .i64 0)).setCell ⟨g3,m*4+2,none⟩ (.int .i64 0)).setCell ⟨g3,m*4+3,none⟩ (.int .i64 0)) B g1 g2 g3 c1 c2 c3 s (Gd.jw g t (min (g t+5) 999)) c E (En.put I m Gd.mN)):=by
      show Gd.au _ _ _ _ _ _ _ _ _ _ _ _ _ _;rw[show min (g t+5) 999=g t+5 by omega,<-Gd.ns];exact((uh bP).ir t (uh HT) (g t+5)).put m 0 0 0 0
     go_wp2_with fail;go_meet;exact⟨_,_,_,rG,aK⟩
    ·have aK:Hid (Gd.au w (((((w3.setCell ⟨B,7+t,none⟩ (.int .i64 999)).setCell ⟨g3,m*4,none⟩ (.int .i64 0)).setCell ⟨g3,m*4+1,none⟩ (.int .i64 0)).setCell ⟨g3,m*4+2,none⟩ (.int .i64 0)).setCell ⟨g3,m*4+3,none⟩ (.int .i64 0)) B g1 g2 g3 c1 c2 c3 s (Gd.jw g t (min (g t+5) 999)) c E (En.put I m Gd.mN)):=by
      show Gd.au _ _ _ _ _ _ _ _ _ _ _ _ _ _;rw[show min (g t+5) 999=999 by omega,<-Gd.ns];exact((uh bP).ir t (uh HT) 999).put m 0 0 0 0
     go_wp2_with fail;go_meet;exact⟨_,_,_,rG,aK⟩
   ·rintro cU hp rG;have j5:(input==5)=false:=by rw[cU];rfl
    have j6:(input==6)=true:=by rw[cU];rfl
    have j7:(input==7)=false:=by rw[cU];rfl
    have j8:(input==8)=false:=by rw[cU];rfl
    have HG:(input==10)=false:=by rw[cU];rfl
    clear cU;clear so th;have cp:=aa (lW g3 40 c3 I (t:Int) w3 (uh bP).af.ab.fo);rw[hp]at cp;clear hp;go_wp2_with fail;refine abW (uh cp) ?_;clear cp;go_wp2_with fail;go_meet;exact⟨_,_,_,rG,bP⟩
  case rest =>
   obtain⟨Gn,tQ,Jn,rG,da⟩:=hcut;obtain⟨b0,b1,b2,b3,b4,b5,b6,b7,b8,b9,b10⟩:=(uh da).af.box.ae;have fz:=(uh da).bl.free;obtain⟨z0,z1,z2,z3,z4,z5,z6,z7,z8,z9,bO⟩:=Gd.aq (uh da).bl;have ah:=aa (fun vs=>(uh da).bN vs);go_wp2;refine abN (v:=.agg (Gd.world s g1 g2 g3 c1 c2 c3 Gn)) (by simp[results,results41,go_sem,Gd.world,z0,z1,z2,z3,z4,z5,z6,z7,z8,z9,bO]) rfl ?_;obtain⟨rfl,rfl,rfl⟩:=rG;exact uh ah [_,_,_,_,_,_,_,_,_,_,_]
