import Derived.Test.YtbanjoflgoiegaaGreatPart37
set_option maxHeartbeats 51200000
set_option maxRecDepth 8000
namespace Go.Proofs.YtbanjoflgoiegaaGreat
open Go.Proofs.Tryz
open Go.RowKit
theorem abX(s g c:N1)(E I:N2)(gC gE gI cC cE cI t k:Nat)(w:World)(hL:Gd.av w gC gE gI c E I)(ht:t<4)(hk:k<32)(hh:Gd.aV E (t:Int)=(k:Int))(input:Int)(hc:∀i,0<=c i/\c i<=255)(eU:∀P:Prop,(∀f:Nat,input=10->Gr.at 384 c (E k 3) (E k 4)=5->5<=g t->Gd.cY I 40 (t:Int)=(f:Int)->Gd.ja I 40=-1->Gd.yV c g E I t k input g E I->P)->(∀m f:Nat,input=10->m<40->Gr.at 384 c (E k 3) (E k 4)=5->5<=g t->g t<=999->Gd.cY I 40 (t:Int)=(f:Int)->Gd.ja I 40=(m:Int)->Gd.yV c g E I t k input (Gd.jw g t (g t-5)) E (En.put I m (Gd.row (I m 0) 2 (t:Int) (f:Int)))->P)->P):Calls prog 41 #[.agg (Gd.world s gC gE gI cC cE cI g),.int .i64 (t:Int),.int .i64 input] w (Gd.cL w s (Gd.jw g t (Gd.dN I (t:Int) (E k 3) (E k 4) (decide (Gr.at 384 c (E k 3) (E k 4)=5)) (g t) input)) c (Gd.eQ E I k (t:Int) input) (Gd.dQ I 40 (t:Int) (E k 3) (E k 4) (decide (Gr.at 384 c (E k 3) (E k 4)=5)) (g t) input)):=by
 obtain⟨w0,aD,aF,aM,aN,eC⟩:=Gd.kr w gC gE gI cC cE cI s g;have gQ:=aa (du s g c E I gC gE gI cC cE cI w0 (hL.on aN));obtain⟨b0,b1,b2,b3,b4,b5,b6,b7,b8,b9,b10⟩:=aF.ae;have da:=aa aF;have jM:=aa aM;have dv:=aa aN;have en:=aa eC;have kB:=aF.free;have ov:=aa hh;have oA:(t:Int)<4:=by omega
 have jy:(k:Int)<32:=by omega
 have HK:=aa hk;have HT:=aa ht;have HC:=aa hc;have HD:=aa eU;clear hc eU;clear hL aF aM aN eC hh hk ht;unfold Gd.world at aD gQ|-;go_enter func41,ntmps41;go_upto_region 1 with fail;rw[<-aD];clear aD;obtain⟨B,hB⟩:=abV w.heap.size;rw[hB]at da jM en b0 b1 b2 b3 b4 b5 b6 b7 b8 b9 b10|-;have eu:=aa hB;rw[hB]at kB;clear hB;go_cut [] from 7 (fun wx=>∃g1 g2 g3 c1 c2 c3,Hid (Gd.au w wx B g1 g2 g3 c1 c2 c3 s g c E I))
 case first =>
  go_wp2_with fail;refine(uh gQ).mono ?_;rintro e w1 ⟨g1,g2,g3,c1,c2,c3,rfl,ap,l1,l2,l3,n1,n2,n3,hL1,hg1⟩;obtain⟨y0,y1,y2,y3,y4,y5,y6,y7,y8,y9,y10⟩:=((uh da).on hg1).ae;have fB:=((uh da).on hg1).free;have fin:Hid (Gd.au w (w1.setCells B 0 (Gd.world s g1 g2 g3 c1 c2 c3 g).toList) B g1 g2 g3 c1 c2 c3 s g c E I):=Gd.au.iL (uh da) (uh jM) (uh dv) (uh eu) (uh en) ap l1 l2 l3 n1 n2 n3 hL1 hg1;unfold Gd.world at fin|-;clear ap l1 l2 l3 n1 n2 n3 hL1 hg1 b0 b1 b2 b3 b4 b5 b6 b7 b8 b9 b10 kB gQ;go_wp2_with fail;go_meet;exact⟨g1,g2,g3,c1,c2,c3,fin⟩
 case rest =>
  obtain⟨g1,g2,g3,c1,c2,c3,hX⟩:=hcut;clear b0 b1 b2 b3 b4 b5 b6 b7 b8 b9 b10 kB gQ da jM dv en eu;clear w0;have b5:=(uh hX).af.box.ae.2.2.2.2.2.1;have ch:=dn g2 c2 E (t:Int) wc (uh hX).af.ab.own;rw[uh ov]at ch;have uj:=aa ch;clear ch;go_wp2_with fail;refine aaR (uh uj) fun w2 hg2=>?_;have mu:=aa ((uh hX).on hg2);clear hg2 uj b5 hX ov;have b5:=(uh mu).af.box.ae.2.2.2.2.2.1;obtain⟨u0,u1,u2,u3,u4,u5,u6,u7,u8,u9,iO⟩:=(uh mu).af.ab.own.ai.row (uh HK);have bP:=aa ((uh mu).on (abE w2 (.cells (En.cells (E k)) 54) none));have hQ:=aa (Gd.pi w2 (E k));have PW:=aa (Gd.qU (uh mu));go_upto_region 6 with fail;unfold En.cells at bP hQ;obtain⟨Q,hQe⟩:=abV w2.heap.size;rw[hQe]at hQ PW|-;generalize w2.alloc (.cells #[.int .i64 (E k 0),.int .i64 (E k 1),.int .i64 (E k 2),.int .i64 (E k 3),.int .i64 (E k 4),.int .i64 (E k 5),.int .i64 (E k 6),.int .i64 (E k 7),.int .i64 (E k 8),.int .i64 (E k 9),.int .i64 (E k 10)] 54)=w3 at bP hQ|-;clear hQe u0 u1 u2 u3 u4 u5 u6 u7 u8 u9 iO b5 mu;obtain⟨z3,z4,z5,z6⟩:=uh hQ;have b6:=(uh bP).af.box.ae.2.2.2.2.2.2.1;have ci:=aa (bS g3 40 c3 I 1 (E k 3) (E k 4) w3 (uh bP).af.ab.fo);have cs:=aa (jJ g3 40 c3 I (t:Int) w3 (uh bP).af.ab.fo);obtain⟨fi,GN⟩:=abV (Gd.an I 40 1 (E k 3) (E k 4));obtain⟨sl,xp⟩:=abV (Gd.cY I 40 (t:Int));rw[GN]at ci;rw[xp]at cs;have so:=aa GN;have th:=aa xp;clear GN xp;go_wp2_with fail;refine abW (uh ci) ?_;go_wp2_with fail;refine abW (uh cs) ?_;clear ci cs b6;go_upto_block 0 with fail;go_cut [] from 7 (fun wx=>∃G F J,Gd.yV c g E I t k input G F J/\Hid (Gd.au w wx B g1 g2 g3 c1 c2 c3 s G c F J))
  case first =>
   clear z3 z4 z5 z6;refine uh HD _ ?_ ?_
   all_goals clear HD
   ·rintro f cU js hg hs sS rG;have j5:(input==5)=false:=by rw[cU];rfl
    have j6:(input==6)=false:=by rw[cU];rfl
    have j7:(input==7)=false:=by rw[cU];rfl
    have j8:(input==8)=false:=by rw[cU];rfl
    have HG:(input==10)=true:=by rw[cU];rfl
    clear cU;obtain rfl:sl=(f:Int):=(uh th).symm.trans hs;clear hs;clear so th;have hc:=uh HC;obtain⟨z3,z4,z5,z6⟩:=uh hQ;clear z5 z6;have cin:=aa (fun q:Int=>bS g3 40 c3 I 4 q 0 w3 (uh bP).af.ab.fo);have cat:=bM w3.heap.size (some ⟨g1,0,none⟩) 384 c1 c (E k 3) (E k 4) w3 (uh bP).af.ab.lg hc;obtain⟨A,hA⟩:=abV (Gr.at 384 c (E k 3) (E k 4));rw[hA]at cat js;have jZ:=aa cat;clear cat hA hc;go_wp2_with fail;go_loop [17,18] (fun vi vq=>∃(q:Nat)(iv:Int),q<=3/\vq=.int .i64 (q:Int)/\vi=.int .i64 iv/\Hid (Gd.lp I q iv)) (fun _ vq=>10-(intOf vq).toNat)
    case atStart=>exact⟨0,-1,by omega,rfl,rfl,.inl ⟨rfl,fun j hj=>by omega⟩⟩
    case round =>
     obtain⟨q,iv,hq,rfl,rfl,hP⟩:=hrel;by_cases uc:q<3
     ·have vH:(q:Int)<3:=(by omega);have HQ:=aa uc;clear uc hq;by_cases hn:iv<0
      ·have mz:=aa (Gd.lp.next (uh hP) hn (uh HQ));obtain⟨r,hr⟩:=abV (Gd.an I 40 4 (q:Int) 0);have c2:=uh cin (q:Int);rw[hr]at c2 mz;have Ko:=aa c2;clear c2 hr cin jZ hP;go_wp2_with fail;refine abW (uh Ko) ?_;go_wp2
       go_round
       case rel=>exact⟨q+1,r,by have:=uh HQ;omega,by go_num,rfl,mz⟩
       case measure=>simp[intOf];have:=uh HQ;omega
      ·have hw:=(uh hP).done (.inl (by omega));rw[sS]at hw;omega
     ·have vH:¬(q:Int)<3:=(by omega);have hw:=(uh hP).done (.inr (by omega));clear uc hq;have b4:=(uh bP).af.box.ae.2.2.2.2.1;have G1:(A==5)=true:=by simpa using js
      rw[sS]at hw;subst hw;clear js sS;have gB:w3.cell? ⟨B,7+t,none⟩=some (.int .i64 (g t)):=by rw[(uh bP).af.box.cell (by have:=uh HT;omega),Gd.jv _ _ _ _ _ _ _ _ _ (uh HT)]
      clear cin hP;go_wp2_with fail;refine abW (uh jZ) ?_;clear jZ;go_wp2_with fail;go_meet;exact⟨_,_,_,rG,bP⟩
   ·rintro m f cU hm js hg ur hs sS rG;have j5:(input==5)=false:=by rw[cU];rfl
    have j6:(input==6)=false:=by rw[cU];rfl
    have j7:(input==7)=false:=by rw[cU];rfl
    have j8:(input==8)=false:=by rw[cU];rfl
    have HG:(input==10)=true:=by rw[cU];rfl
    clear cU;obtain rfl:sl=(f:Int):=(uh th).symm.trans hs;clear hs;clear so th;have hc:=uh HC;have mf:(m:Int)<40:=(by omega);have HM:=aa hm;clear hm;obtain⟨z3,z4,z5,z6⟩:=uh hQ;clear z5 z6;have cin:=aa (fun q:Int=>bS g3 40 c3 I 4 q 0 w3 (uh bP).af.ab.fo);have cat:=bM w3.heap.size (some ⟨g1,0,none⟩) 384 c1 c (E k 3) (E k 4) w3 (uh bP).af.ab.lg hc;obtain⟨A,hA⟩:=abV (Gr.at 384 c (E k 3) (E k 4));rw[hA]at cat js;have jZ:=aa cat;clear cat hA hc;go_wp2_with fail;go_loop [17,18] (fun vi vq=>∃(q:Nat)(iv:Int),q<=3/\vq=.int .i64 (q:Int)/\vi=.int .i64 iv/\Hid (Gd.lp I q iv)) (fun _ vq=>10-(intOf vq).toNat)
    case atStart=>exact⟨0,-1,by omega,rfl,rfl,.inl ⟨rfl,fun j hj=>by omega⟩⟩
    case round =>
     obtain⟨q,iv,hq,rfl,rfl,hP⟩:=hrel;by_cases uc:q<3
     ·have vH:(q:Int)<3:=(by omega);have HQ:=aa uc;clear uc hq;by_cases hn:iv<0
      ·have mz:=aa (Gd.lp.next (uh hP) hn (uh HQ));obtain⟨r,hr⟩:=abV (Gd.an I 40 4 (q:Int) 0);have c2:=uh cin (q:Int);rw[hr]at c2 mz;have Ko:=aa c2;clear c2 hr cin jZ hP;go_wp2_with fail;refine abW (uh Ko) ?_;go_wp2
       go_round
       case rel=>exact⟨q+1,r,by have:=uh HQ;omega,by go_num,rfl,mz⟩
       case measure=>simp[intOf];have:=uh HQ;omega
      ·have hw:=(uh hP).done (.inl (by omega));have b4:=(uh bP).af.box.ae.2.2.2.2.1;have G1:(A==5)=true:=by simpa using js
       rw[sS]at hw;subst hw;clear js sS;have gB:w3.cell? ⟨B,7+t,none⟩=some (.int .i64 (g t)):=by rw[(uh bP).af.box.cell (by have:=uh HT;omega),Gd.jv _ _ _ _ _ _ _ _ _ (uh HT)]
       obtain⟨i0,i1,i2,i3⟩:=(uh bP).af.ab.fo.row (uh HM);have fI:=(uh bP).af.ab.aj.free;have fB:=(uh bP).af.box.free;have TW:B≠g3:=(uh bP).af.bI;have ZG:g3≠B:=TW.symm;have aK:=aa (((uh bP).Lg m 2 (t:Int) (f:Int)).ir t (uh HT) (g t-5));clear cin hP;go_wp2_with fail;refine abW (uh jZ) ?_;clear jZ;go_wp2_with fail;go_meet;exact⟨_,_,_,rG,aK⟩
     ·have vH:¬(q:Int)<3:=(by omega);have hw:=(uh hP).done (.inr (by omega));clear uc hq;have b4:=(uh bP).af.box.ae.2.2.2.2.1;have G1:(A==5)=true:=by simpa using js
      rw[sS]at hw;subst hw;clear js sS;have gB:w3.cell? ⟨B,7+t,none⟩=some (.int .i64 (g t)):=by rw[(uh bP).af.box.cell (by have:=uh HT;omega),Gd.jv _ _ _ _ _ _ _ _ _ (uh HT)]
      obtain⟨i0,i1,i2,i3⟩:=(uh bP).af.ab.fo.row (uh HM);have fI:=(uh bP).af.ab.aj.free;have fB:=(uh bP).af.box.free;have TW:B≠g3:=(uh bP).af.bI;have ZG:g3≠B:=TW.symm;have aK:=aa (((uh bP).Lg m 2 (t:Int) (f:Int)).ir t (uh HT) (g t-5));clear cin hP;go_wp2_with fail;refine abW (uh jZ) ?_;clear jZ;go_wp2_with fail;go_meet;exact⟨_,_,_,rG,aK⟩
  case rest =>
   obtain⟨Gn,tQ,Jn,rG,da⟩:=hcut;obtain⟨b0,b1,b2,b3,b4,b5,b6,b7,b8,b9,b10⟩:=(uh da).af.box.ae;have fz:=(uh da).bl.free;obtain⟨z0,z1,z2,z3,z4,z5,z6,z7,z8,z9,bO⟩:=Gd.aq (uh da).bl;have ah:=aa (fun vs=>(uh da).bN vs);go_wp2;refine abN (v:=.agg (Gd.world s g1 g2 g3 c1 c2 c3 Gn)) (by simp[results,results41,go_sem,Gd.world,z0,z1,z2,z3,z4,z5,z6,z7,z8,z9,bO]) rfl ?_;obtain⟨rfl,rfl,rfl⟩:=rG;exact uh ah [_,_,_,_,_,_,_,_,_,_,_]
