import Derived.Test.YtbanjoflgoiegaaGreatPart29
import Derived.Test.YtbanjoflgoiegaaGreatPart31
set_option maxHeartbeats 6400000
set_option maxRecDepth 8000
namespace Go.Proofs.YtbanjoflgoiegaaGreat
open Go.Proofs.Tryz
open Go.RowKit
theorem H7(s g c:N1)(E I:N2)(gC gE gI cC cE cI:Nat)(w:World)(hL:Gd.av w gC gE gI c E I)(hF:Ft.mH c E I):Calls prog 43 #[.agg (Gd.world s gC gE gI cC cE cI g)] w (Gd.cL w s g c (Ft.ailE E I 32).1 (Ft.ailE E I 32).2):=by
 have Wo:=aa (fun m hm=>hF.IT m hm);clear hF;obtain⟨w0,aD,aF,aM,aN,eC⟩:=Gd.kr w gC gE gI cC cE cI s g;have gQ:=aa (du s g c E I gC gE gI cC cE cI w0 (hL.on aN));obtain⟨b0,b1,b2,b3,b4,b5,b6,b7,b8,b9,b10⟩:=aF.ae;have da:=aa aF;have jM:=aa aM;have dv:=aa aN;have en:=aa eC;have kB:=aF.free;clear hL aF aM aN eC;unfold Gd.world at aD gQ|-;go_enter func43,ntmps43;go_upto_region 1 with fail;rw[<-aD];clear aD;obtain⟨B,hB⟩:=abV w.heap.size;rw[hB]at da jM en b0 b1 b2 b3 b4 b5 b6 b7 b8 b9 b10|-;have eu:=aa hB;rw[hB]at kB;clear hB;go_cut [] from 4 (fun wx=>∃g1 g2 g3 c1 c2 c3,Hid (Gd.au w wx B g1 g2 g3 c1 c2 c3 s g c E I))
 case first =>
  go_wp2_with fail;refine(uh gQ).mono ?_;rintro e w1 ⟨g1,g2,g3,c1,c2,c3,rfl,ap,l1,l2,l3,n1,n2,n3,hL1,hg1⟩;obtain⟨y0,y1,y2,y3,y4,y5,y6,y7,y8,y9,y10⟩:=((uh da).on hg1).ae;have fB:=((uh da).on hg1).free;have fin:Hid (Gd.au w (w1.setCells B 0 (Gd.world s g1 g2 g3 c1 c2 c3 g).toList) B g1 g2 g3 c1 c2 c3 s g c E I):=by
   have r:=gss (g:=B) (Gd.world s g1 g2 g3 c1 c2 c3 g).toList 0 w1 (abF _ _);have hB:=uh eu;have hs:=uh en;exact⟨⟨((uh da).on hg1).iP s g g1 g2 g3 c1 c2 c3,⟨hL1.cells.grown r (by simp;omega),hL1.ai.grown r (by simp;omega),hL1.aj.grown r (by simp;omega)⟩,by omega,by omega,by omega,n1,n2,n3⟩,hB,by omega,by omega,by omega,ap,((uh jM).on hg1).grown r (by simp),aA (by omega) _ 0 w1 (gtr (uh dv) hg1)⟩
  unfold Gd.world at fin|-;clear ap l1 l2 l3 n1 n2 n3 hL1 hg1 b0 b1 b2 b3 b4 b5 b6 b7 b8 b9 b10 kB gQ;go_wp2_with fail;go_meet;exact⟨g1,g2,g3,c1,c2,c3,fin⟩
 case rest =>
  obtain⟨g1,g2,g3,c1,c2,c3,hX⟩:=hcut;clear b0 b1 b2 b3 b4 b5 b6 b7 b8 b9 b10 kB gQ da jM dv en eu;clear w0;have b5:=(uh hX).af.box.ae.2.2.2.2.2.1;go_wp2_with fail;go_loopw [3] (fun vk wr=>∃(k h1 h2 h3 d1 d2 d3:Nat),k<=32/\vk=.int .i64 (k:Int)/\Hid (Gd.au w wr B h1 h2 h3 d1 d2 d3 s g c (Ft.ailE E I k).1 (Ft.ailE E I k).2)) (fun vk _=>40-(intOf vk).toNat)
  case atStart=>exact⟨0,g1,g2,g3,c1,c2,c3,by omega,rfl,hX⟩
  case round =>
   clear hX b5;obtain⟨k,h1,h2,h3,d1,d2,d3,hk,rfl,hX⟩:=hrel;by_cases hlt:k<32
   ·have hlt':(k:Int)<32:=(by omega);have HK:=aa hlt;obtain⟨b0,b1,b2,b3,b4,b5,b6,b7,b8,b9,b10⟩:=(uh hX).af.box.ae;have T2:=aa (uh Wo k hk);have gM:Hid (Ft.ailE E I (k+1)=if (Ft.ailE E I k).1 k 0≠0 then(Ft.np (Ft.ailE E I k).1 k,Ft.rR (Ft.ailE E I k).1 (Ft.ailE E I k).2 k)else Ft.ailE E I k):=rfl;obtain⟨P,hP⟩:=abV (Ft.ailE E I k);obtain⟨E2,I2⟩:=P;rw[hP]at hX T2 gM;have ct:=fl s g c E2 I2 h1 h2 h3 d1 d2 d3 (k:Int) wr (uh hX).af.ab;rw[Ft.ib hlt]at ct;unfold Gd.world at ct;by_cases hz:E2 k 0=0
    ·rw[abI (by simpa using hz)]at ct;rw[abO (by simpa using hz)]at gM;have tk:=aa ct;clear ct hz hP hlt hk;go_wp2_with fail;refine aaR (uh tk) fun wy hg=>?_;have hY:=aa ((uh hX).on hg);clear tk b0 b1 b2 b3 b4 b5 b6 b7 b8 b9 b10 hg;go_wp2;go_roundw
     case rel=>exact⟨k+1,h1,h2,h3,d1,d2,d3,by have:=uh HK;omega,by go_num,by rw[uh gM];exact hY⟩
     case measure=>simp[intOf];have:=uh HK;omega
    ·rw[abJ hz]at ct;rw[abP hz]at gM;have LJ:Ft.mH c E2 I2:=uh T2;have hT:=(LJ.ix k hlt).ia hz;have YT:Ft.bT E2 k k 9=E2 k 9:=Ft.i9 E2 k 9 (by omega);have wT:Ft.bT E2 k k 0≠0:=by rw[Ft.i9 E2 k 0 (by omega)];exact hz
     have hFs:=aa (LJ.X1 hlt hz);have hFp:Hid (0<E2 k 9->Ft.mH c (Ft.ef (Ft.bT E2 k) k) I2):=fun hp=>(uh hFs).gN hlt wT (.inl rfl) (by rw[YT];omega) (by rw[YT];omega);have ub:Hid (Ft.ef (Ft.bT E2 k) k k 0≠0):=by
      show Ft.ef (Ft.bT E2 k) k k 0≠0;unfold Ft.ef;rw[Gd.dq (by omega)];exact wT
     have hth:Hid (Ft.bJ (Ft.ef (Ft.bT E2 k) k) (k:Int)=true/\(1:Int)<=1):=⟨(Ft.ib hlt).trans (by simpa using uh ub),by omega⟩;have YH:Hid (Ft.hE (Ft.ef (Ft.bT E2 k) k) (k:Int) 1=Ft.cW (Ft.ef (Ft.bT E2 k) k) k 1):=by
      show _=_;unfold Ft.hE;rw[abP (uh hth),abG]
     have YI:Hid (Ft.hI (Ft.ef (Ft.bT E2 k) k) I2 (k:Int) 1=Ft.jD (Ft.ef (Ft.bT E2 k) k) I2 k 1):=by
      show _=_;unfold Ft.hI;rw[abP (uh hth),abG]
     have tk:=aa ct;have t10:0<=E2 k 10:=(by omega);have abD:E2 k 10<=9:=(by omega);have t9:0<=E2 k 9:=(by omega);have t99:E2 k 9<=9:=(by omega);have HS9:=aa YT;clear ct hz hP hlt hk hT T2 LJ YT wT ub hth;go_wp2_with fail;refine aaR (uh tk) fun wy hg=>?_;have hY:=aa ((uh hX).on hg);clear tk b0 b1 b2 b3 b4 b5 b6 b7 b8 b9 b10 hg hX;have b5:=(uh hY).af.box.ae.2.2.2.2.2.1;have iO:=((uh hY).af.ab.own.ai.row (uh HK)).2.2.2.2.2.2.2.2.2.2;have fE:=(uh hY).af.ab.ai.free;go_upto_if 23 with fail;go_cut [] from 23 to 32 (fun wx=>Hid (Gd.au w wx B h1 h2 h3 d1 d2 d3 s g c (Ft.bT E2 k) I2))
     case first =>
      by_cases hp:0<E2 k 10
      ·have aK:Hid (Gd.au w (wy.setCell ⟨h2,k*11+10,none⟩ (.int .i64 (E2 k 10-1))) B h1 h2 h3 d1 d2 d3 s g c (Ft.bT E2 k) I2):=by
        show Gd.au _ _ _ _ _ _ _ _ _ _ _ _ _ _;unfold Ft.bT;rw[abP hp];exact(uh hY).gN k 10 (by omega) (E2 k 10-1)
       go_wp2_with fail;go_meet;exact aK
      ·have aK:Hid (Gd.au w wy B h1 h2 h3 d1 d2 d3 s g c (Ft.bT E2 k) I2):=by
        show Gd.au _ _ _ _ _ _ _ _ _ _ _ _ _ _;unfold Ft.bT;rw[abO hp];exact uh hY
       go_wp2_with fail;go_meet;exact aK
     case rest =>
      clear hY b5 iO fE;have hY:=aa (uh hcut);clear hcut;have b5:=(uh hY).af.box.ae.2.2.2.2.2.1;have u9:=((uh hY).af.ab.own.ai.row (uh HK)).2.2.2.2.2.2.2.2.2.1;rw[uh HS9]at u9;have fE:=(uh hY).af.ab.ai.free;by_cases hp:0<E2 k 9
      ·have P4:Hid (Ft.ailE E I (k+1)=(Ft.cW (Ft.ef (Ft.bT E2 k) k) k 1,Ft.jD (Ft.ef (Ft.bT E2 k) k) I2 k 1)):=by
        show _=_;rw[uh gM];unfold Ft.np Ft.rR;rw[abP hp,abP hp]
       have aK:Hid (Gd.au w (wc.setCell ⟨h2,k*11+9,none⟩ (.int .i64 (E2 k 9-1))) B h1 h2 h3 d1 d2 d3 s g c (Ft.ef (Ft.bT E2 k) k) I2):=by
        have h:=(uh hY).gN k 9 (by omega) (E2 k 9-1);show Gd.au _ _ _ _ _ _ _ _ _ _ _ _ _ _;unfold Ft.ef;rw[uh HS9];exact h
       have hFq:=aa (uh hFp hp);clear gM hFp;go_upto_region 10 with fail;generalize wc.setCell ⟨h2,k*11+9,none⟩ (.int .i64 (E2 k 9-1))=wz at aK|-;clear hY b5 u9 fE;have ch:=aa (rU s g c (Ft.ef (Ft.bT E2 k) k) I2 h1 h2 h3 d1 d2 d3 (k:Int) 1 wz (uh aK).af.ab (uh hFq));rw[uh YH,uh YI]at ch;obtain⟨b0,b1,b2,b3,b4,b5,b6,b7,b8,b9,b10⟩:=(uh aK).af.box.ae;unfold Gd.world at ch;go_wp2_with fail;refine(uh ch).mono ?_;rintro e w6 ⟨jC,jE,jI,dC,dE,dI,rfl,ap,l1,l2,l3,n1,n2,n3,hL,hg⟩;obtain⟨y0,y1,y2,y3,y4,y5,y6,y7,y8,y9,y10⟩:=((uh aK).on hg).af.box.ae;have fB:=((uh aK).on hg).af.box.free;have hZ:Hid (Gd.au w (((((((((((w6.setCell ⟨B,0,none⟩ (.int .i64 (s 0))).setCell ⟨B,1,none⟩ (.int .i64 (s 1))).setCell ⟨B,2,none⟩ (.int .i64 (s 2))).setCell ⟨B,3,none⟩ (.int .i64 (s 3))).setCell ⟨B,4,none⟩ (.slice (some ⟨jC,0,none⟩) 384 dC)).setCell ⟨B,5,none⟩ (.slice (some ⟨jE,0,none⟩) 32 dE)).setCell ⟨B,6,none⟩ (.slice (some ⟨jI,0,none⟩) 40 dI)).setCell ⟨B,7,none⟩ (.int .i64 (g 0))).setCell ⟨B,8,none⟩ (.int .i64 (g 1))).setCell ⟨B,9,none⟩ (.int .i64 (g 2))).setCell ⟨B,10,none⟩ (.int .i64 (g 3))) B jC jE jI dC dE dI s g c (Ft.ailE E I (k+1)).1 (Ft.ailE E I (k+1)).2):=by
        show Gd.au _ _ _ _ _ _ _ _ _ _ _ _ _ _;rw[uh P4];exact(uh aK).over (s':=s) (g':=g) (dC:=dC) (dI:=dI) ap l1 l2 l3 n1 n2 n3 hL hg
       clear ap l1 l2 l3 n1 n2 n3 hL hg ch b0 b1 b2 b3 b4 b5 b6 b7 b8 b9 b10 aK P4;unfold Gd.world;go_wp2;go_roundw
       case rel=>exact⟨k+1,jC,jE,jI,dC,dE,dI,by have:=uh HK;omega,by go_num,hZ⟩
       case measure=>simp[intOf];have:=uh HK;omega
      ·have P4:Hid (Ft.ailE E I (k+1)=(Ft.bT E2 k,I2)):=by
        show _=_;rw[uh gM];unfold Ft.np Ft.rR;rw[abO hp,abO hp]
       clear gM;go_wp2;go_roundw
       case rel=>exact⟨k+1,h1,h2,h3,d1,d2,d3,by have:=uh HK;omega,by go_num,by rw[uh P4];exact hY⟩
       case measure=>simp[intOf];have:=uh HK;omega
   ·obtain rfl:k=32:=(by omega);have hge:¬((32:Nat):Int)<32:=(by omega);clear hlt hk Wo;obtain⟨b0,b1,b2,b3,b4,b5,b6,b7,b8,b9,b10⟩:=(uh hX).af.box.ae;have fz:=(uh hX).bl.free;obtain⟨z0,z1,z2,z3,z4,z5,z6,z7,z8,z9,bO⟩:=Gd.aq (uh hX).bl;have ah:=aa (fun vs=>(uh hX).bN vs);go_wp2;refine abN (v:=.agg (Gd.world s h1 h2 h3 d1 d2 d3 g)) (by simp[results,results43,go_sem,Gd.world,z0,z1,z2,z3,z4,z5,z6,z7,z8,z9,bO]) rfl ?_;exact uh ah [_,_,_,_,_,_,_,_,_,_,_]
variable{I:N2}{n:Nat}
theorem Gd.Is{ag:Int}(h:Gd.cY I n ag<0):Gd.cY I n ag=-1:=by
 unfold Gd.cY at *;rcases En.aw (fun b=>decide (Gd.an I n 2 ag (b:Int)<0)) 4 with⟨h',_⟩|⟨k,hk,h',hq,_⟩
 ·exact h'
 ·omega
theorem Gd.zx{ag lo hi:Int}(h:Gd.lF I n ag lo hi<0):Gd.lF I n ag lo hi=-1:=by
 unfold Gd.lF at *;split at h
 ·rename_i hp;rw[abP hp];exact(Gd.mY h).1
 ·rename_i hp;rw[abO hp]
theorem Gd.PL(h:Gd.ja I n<0):Gd.ja I n=-1:=by
 unfold Gd.ja at *;split at h
 ·rename_i hp;rw[abP hp];exact(Gd.mY h).1
 ·rename_i hp;rw[abO hp]
def Gd.yV(c g:N1)(E I:N2)(t k:Nat)(input:Int)(G:N1)(F J:N2):Prop :=
 Gd.jw g t (Gd.dN I (t:Int) (E k 3) (E k 4) (decide (Gr.at 384 c (E k 3) (E k 4)=5)) (g t) input)=G/\Gd.eQ E I k (t:Int) input=F/\Gd.dQ I 40 (t:Int) (E k 3) (E k 4) (decide (Gr.at 384 c (E k 3) (E k 4)=5)) (g t) input=J
theorem Gd.eU{P:Prop}{c g:N1}{E:N2}{t k:Nat}{input:Int}(F:Gd.oF c g E I)(ht:t<4)(hk:k<32)(aP:input≠5->input≠6->input≠7->input≠8->input≠10->Gd.yV c g E I t k input g E I->P)(Pj:input=5->Gd.an I 40 1 (E k 3) (E k 4)=-1->Gd.yV c g E I t k input g E I->P)(Pg:∀m:Nat,input=5->m<40->Gd.an I 40 1 (E k 3) (E k 4)=(m:Int)->I m 0≠4->Gd.cY I 40 (t:Int)=-1->Gd.yV c g E I t k input g E I->P)(Pk:∀m f:Nat,input=5->m<40->Gd.an I 40 1 (E k 3) (E k 4)=(m:Int)->I m 0≠4->Gd.cY I 40 (t:Int)=(f:Int)->Gd.yV c g E I t k input g E (En.put I m (Gd.row (I m 0) 2 (t:Int) (f:Int)))->P)(Ph:∀m:Nat,input=5->m<40->Gd.an I 40 1 (E k 3) (E k 4)=(m:Int)->I m 0=4->0<=g t->g t<=999->Gd.yV c g E I t k input (Gd.jw g t (min (g t+5) 999)) E (En.put I m Gd.mN)->P)(X7:input=6->Gd.lF I 40 (t:Int) 1 1=-1->Gd.yV c g E I t k input g E I->P)(Vj:∀m:Nat,input=6->m<40->Gd.lF I 40 (t:Int) 1 1=(m:Int)->0<=E k 5->E k 5<=1000->Gd.yV c g E I t k input g (Gd.oT E k) (En.put I m Gd.mN)->P)(Vk:input=7->Gd.lF I 40 (t:Int) 2 3=-1->Gd.yV c g E I t k input g E I->P)(R9:∀m:Nat,input=7->m<40->Gd.lF I 40 (t:Int) 2 3=(m:Int)->2<=I m 0->I m 0<=3->Gd.an I 40 3 (t:Int) (I m 0-2)=-1->Gd.yV c g E I t k input g E (En.put I m (Gd.row (I m 0) 3 (I m 2) (I m 0-2)))->P)(Sa:∀m j:Nat,input=7->m<40->j<40->m≠j->Gd.lF I 40 (t:Int) 2 3=(m:Int)->2<=I m 0->I m 0<=3->Gd.an I 40 3 (t:Int) (I m 0-2)=(j:Int)->Gd.yV c g E I t k input g E (En.put (En.put I j (Gd.row (I j 0) 2 (I j 2) (I m 3))) m (Gd.row (I m 0) 3 (I m 2) (I m 0-2)))->P)(TF:input=8->Gd.lF I 40 (t:Int) 1 3=-1->Gd.yV c g E I t k input g E I->P)(ND:∀m j:Nat,input=8->Gd.lF I 40 (t:Int) 1 3=(m:Int)->Gd.an I 40 1 (E k 3) (E k 4)=(j:Int)->Gd.yV c g E I t k input g E I->P)(QG:∀m:Nat,input=8->m<40->Gd.lF I 40 (t:Int) 1 3=(m:Int)->Gd.an I 40 1 (E k 3) (E k 4)=-1->Gd.yV c g E I t k input g E (En.put I m (Gd.row (I m 0) 1 (E k 3) (E k 4)))->P)(Qx:input=10->Gr.at 384 c (E k 3) (E k 4)≠5->Gd.yV c g E I t k input g E I->P)(Qz:input=10->Gr.at 384 c (E k 3) (E k 4)=5->g t<5->Gd.yV c g E I t k input g E I->P)(Qy:input=10->Gr.at 384 c (E k 3) (E k 4)=5->5<=g t->Gd.cY I 40 (t:Int)=-1->Gd.yV c g E I t k input g E I->P)(Tx:∀f:Nat,input=10->Gr.at 384 c (E k 3) (E k 4)=5->5<=g t->Gd.cY I 40 (t:Int)=(f:Int)->Gd.ja I 40=-1->Gd.yV c g E I t k input g E I->P)(Ty:∀m f:Nat,input=10->m<40->Gr.at 384 c (E k 3) (E k 4)=5->5<=g t->g t<=999->Gd.cY I 40 (t:Int)=(f:Int)->Gd.ja I 40=(m:Int)->Gd.yV c g E I t k input (Gd.jw g t (g t-5)) E (En.put I m (Gd.row (I m 0) 2 (t:Int) (f:Int)))->P):P:=by
 obtain⟨g0,g9⟩:=F.ir t ht;obtain⟨p0,p9⟩:=F.hp k hk;by_cases i5:input=5
 ·have e6:Gd.eQ E I k (t:Int) input=E:=by subst i5;exact abO (by omega)
  have eg:Gd.dN I (t:Int) (E k 3) (E k 4) (decide (Gr.at 384 c (E k 3) (E k 4)=5)) (g t) input=if 0<=Gd.an I 40 1 (E k 3) (E k 4)/\I (Gd.an I 40 1 (E k 3) (E k 4)).toNat 0=4 then min (g t+5) 999 else g t:=by subst i5;rfl
  have ea:Gd.dQ I 40 (t:Int) (E k 3) (E k 4) (decide (Gr.at 384 c (E k 3) (E k 4)=5)) (g t) input=Gd.pick I 40 (t:Int) (E k 3) (E k 4):=by subst i5;rfl
  unfold Gd.pick at ea;rcases Gd.fL I 40 1 (E k 3) (E k 4)with⟨hf,_⟩|⟨m,hm,hf,_⟩
  ·rw[hf,abO (by omega)]at eg;rw[hf,abO (by omega),abO (by omega)]at ea;exact Pj i5 hf ⟨by rw[eg,Gd.dM],e6,ea⟩
  ·rw[hf,abG]at eg ea;by_cases h4:I m 0=4
   ·rw[abP ⟨by omega,h4⟩]at eg ea;exact Ph m i5 hm hf h4 g0 g9 ⟨by rw[eg],e6,ea⟩
   ·rw[abO (by omega)]at eg ea;by_cases hs:0<=Gd.cY I 40 (t:Int)
    ·obtain⟨f,fb⟩:∃f:Nat,Gd.cY I 40 (t:Int)=(f:Int):=⟨(Gd.cY I 40 (t:Int)).toNat,by omega⟩;rw[abP ⟨by omega,hs⟩,fb]at ea;exact Pk m f i5 hm hf h4 fb ⟨by rw[eg,Gd.dM],e6,ea⟩
    ·rw[abO (by omega)]at ea;exact Pg m i5 hm hf h4 (Gd.Is (by omega)) ⟨by rw[eg,Gd.dM],e6,ea⟩
 by_cases i6:input=6
 ·have eg:Gd.dN I (t:Int) (E k 3) (E k 4) (decide (Gr.at 384 c (E k 3) (E k 4)=5)) (g t) input=g t:=by subst i6;rfl
  have ee:Gd.eQ E I k (t:Int) input=if (6:Int)=6/\0<=Gd.lF I 40 (t:Int) 1 1 then Gd.oT E k else E:=by subst i6;rfl
  have ea:Gd.dQ I 40 (t:Int) (E k 3) (E k 4) (decide (Gr.at 384 c (E k 3) (E k 4)=5)) (g t) input=Gd.use I 40 (t:Int):=by subst i6;rfl
  unfold Gd.use at ea;by_cases hp:0<=Gd.lF I 40 (t:Int) 1 1
  ·obtain⟨m,hm,mf,_⟩:=Gd.kO hp;rw[abP ⟨rfl,hp⟩]at ee;rw[abP hp,mf,abG]at ea;exact Vj m i6 hm mf p0 p9 ⟨by rw[eg,Gd.dM],ee,ea⟩
  ·rw[abO (by omega)]at ee;rw[abO hp]at ea;exact X7 i6 (Gd.zx (by omega)) ⟨by rw[eg,Gd.dM],ee,ea⟩
 have e6:Gd.eQ E I k (t:Int) input=E:=abO (by omega);by_cases i7:input=7
 ·have eg:Gd.dN I (t:Int) (E k 3) (E k 4) (decide (Gr.at 384 c (E k 3) (E k 4)=5)) (g t) input=g t:=by subst i7;rfl
  have ea:Gd.dQ I 40 (t:Int) (E k 3) (E k 4) (decide (Gr.at 384 c (E k 3) (E k 4)=5)) (g t) input=Gd.FP I 40 (t:Int):=by subst i7;rfl
  unfold Gd.FP at ea;by_cases hp:0<=Gd.lF I 40 (t:Int) 2 3
  ·obtain⟨m,hm,mf,w2,_,_,_,k2,k3⟩:=Gd.kO hp;rw[abP hp,mf,abG]at ea;unfold Gd.l7 at ea;rcases Gd.fL I 40 3 (t:Int) (I m 0-2)with⟨hf,_⟩|⟨j,hj,hf,j1,_⟩
   ·rw[hf,abO (by omega)]at ea;exact R9 m i7 hm mf k2 k3 hf ⟨by rw[eg,Gd.dM],e6,ea⟩
   ·rw[hf,abP (by omega),abG]at ea;exact Sa m j i7 hm hj (by rintro rfl;omega) mf k2 k3 hf ⟨by rw[eg,Gd.dM],e6,ea⟩
  ·rw[abO hp]at ea;exact Vk i7 (Gd.zx (by omega)) ⟨by rw[eg,Gd.dM],e6,ea⟩
 by_cases i8:input=8
 ·have eg:Gd.dN I (t:Int) (E k 3) (E k 4) (decide (Gr.at 384 c (E k 3) (E k 4)=5)) (g t) input=g t:=by subst i8;rfl
  have ea:Gd.dQ I 40 (t:Int) (E k 3) (E k 4) (decide (Gr.at 384 c (E k 3) (E k 4)=5)) (g t) input=Gd.drop I 40 (t:Int) (E k 3) (E k 4):=by subst i8;rfl
  unfold Gd.drop at ea;by_cases hp:0<=Gd.lF I 40 (t:Int) 1 3
  ·obtain⟨m,hm,mf,_⟩:=Gd.kO hp;rcases Gd.fL I 40 1 (E k 3) (E k 4)with⟨hf,_⟩|⟨j,hj,hf,_⟩
   ·rw[abP ⟨hp,by omega⟩,mf,abG]at ea;exact QG m i8 hm mf hf ⟨by rw[eg,Gd.dM],e6,ea⟩
   ·rw[abO (by omega)]at ea;exact ND m j i8 mf hf ⟨by rw[eg,Gd.dM],e6,ea⟩
  ·rw[abO (by omega)]at ea;exact TF i8 (Gd.zx (by omega)) ⟨by rw[eg,Gd.dM],e6,ea⟩
 by_cases JE:input=10
 ·have eg:Gd.dN I (t:Int) (E k 3) (E k 4) (decide (Gr.at 384 c (E k 3) (E k 4)=5)) (g t) input=if Gd.ze I 40 (t:Int) (decide (Gr.at 384 c (E k 3) (E k 4)=5)) (g t)=true then g t-5 else g t:=by subst JE;rfl
  have ea:Gd.dQ I 40 (t:Int) (E k 3) (E k 4) (decide (Gr.at 384 c (E k 3) (E k 4)=5)) (g t) input=Gd.Qw I 40 (t:Int) (decide (Gr.at 384 c (E k 3) (E k 4)=5)) (g t):=by subst JE;rfl
  unfold Gd.Qw at ea;have da:Gd.ze I 40 (t:Int) (decide (Gr.at 384 c (E k 3) (E k 4)=5)) (g t)=true↔Gr.at 384 c (E k 3) (E k 4)=5/\5<=g t/\0<=Gd.cY I 40 (t:Int)/\0<=Gd.ja I 40:=by
   unfold Gd.ze;simp only[Bool.and_eq_true,decide_eq_true_eq]
  have no:¬(Gr.at 384 c (E k 3) (E k 4)=5/\5<=g t/\0<=Gd.cY I 40 (t:Int)/\0<=Gd.ja I 40)->Gd.yV c g E I t k input g E I:=fun h=>by
   rw[abO (fun q=>h (da.1 q))]at eg ea;exact⟨by rw[eg,Gd.dM],e6,ea⟩
  by_cases js:Gr.at 384 c (E k 3) (E k 4)=5
  ·by_cases hg:5<=g t
   ·by_cases hs:0<=Gd.cY I 40 (t:Int)
    ·obtain⟨f,hf⟩:∃f:Nat,Gd.cY I 40 (t:Int)=(f:Int):=⟨(Gd.cY I 40 (t:Int)).toNat,by omega⟩;by_cases hw:0<=Gd.ja I 40
     ·obtain⟨m,hm,mf,_⟩:=Gd.wI hw;rw[abP (da.2 ⟨js,hg,hs,hw⟩)]at eg ea;rw[mf,hf,abG]at ea;exact Ty m f JE hm js hg g9 hf mf ⟨by rw[eg],e6,ea⟩
     ·exact Tx f JE js hg hf (Gd.PL (by omega)) (no fun h=>hw h.2.2.2)
    ·exact Qy JE js hg (Gd.Is (by omega)) (no fun h=>hs h.2.2.1)
   ·exact Qz JE js (by omega) (no fun h=>hg h.2.1)
  ·exact Qx JE js (no fun h=>js h.1)
 have pR:Gd.dN I (t:Int) (E k 3) (E k 4) (decide (Gr.at 384 c (E k 3) (E k 4)=5)) (g t) input=g t:=by
  unfold Gd.dN;rw[abO i5,abO JE]
 have SB:Gd.dQ I 40 (t:Int) (E k 3) (E k 4) (decide (Gr.at 384 c (E k 3) (E k 4)=5)) (g t) input=I:=by
  unfold Gd.dQ;rw[abO i5,abO i6,abO i7,abO i8,abO JE]
 exact aP i5 i6 i7 i8 JE ⟨by rw[pR,Gd.dM],e6,SB⟩
theorem Gd.au.iL{w w0 w1:World}{B g1 g2 g3 c1 c2 c3:Nat}{s g c:N1}{E:N2}{F:Nat->Value}(da:ay w0 B 30 11 F)(jM:ay w0 (B+1) 30 11 (fun j=>#[.int .i64 0,.int .i64 0,.int .i64 0,.int .i64 0,.slice none 0 0,.slice none 0 0,.slice none 0 0,.int .i64 0,.int .i64 0,.int .i64 0,Value.int .i64 0][j]?.getD undef))(aN:w.grownBy w0 none)(hB:w.heap.size=B)(hs:w0.heap.size=B+2)(ap:32<=c2)(l1:w0.heap.size<=g1)(l2:w0.heap.size<=g2)(l3:w0.heap.size<=g3)(n1:g1≠g2)(n2:g1≠g3)(n3:g2≠g3)(hL1:Gd.av w1 g1 g2 g3 c E I)(hg1:w0.grownBy w1 none):Gd.au w (w1.setCells B 0 (Gd.world s g1 g2 g3 c1 c2 c3 g).toList) B g1 g2 g3 c1 c2 c3 s g c E I:=by
 have r:=gss (g:=B) (Gd.world s g1 g2 g3 c1 c2 c3 g).toList 0 w1 (abF _ _);exact⟨⟨(da.on hg1).iP s g g1 g2 g3 c1 c2 c3,⟨hL1.cells.grown r (by simp;omega),hL1.ai.grown r (by simp;omega),hL1.aj.grown r (by simp;omega)⟩,by omega,by omega,by omega,n1,n2,n3⟩,hB,by omega,by omega,by omega,ap,(jM.on hg1).grown r (by simp),aA (by omega) _ 0 w1 (gtr aN hg1)⟩
