import Derived.Test.YtbanjoflgoiegaaGreatPart17
set_option maxHeartbeats 6400000
namespace Go.Proofs.YtbanjoflgoiegaaGreat
open Go.Proofs.Tryz
open Go.RowKit
variable{B cC cE cI gC gE gI:Nat}{E I:N2}{c g s:N1}{w x:World}
theorem Gd.au.put(h:Gd.au w x B gC gE gI cC cE cI s g c E I)(m:Nat)(a b d e:Int):Gd.au w ((((x.setCell ⟨gI,m*4,none⟩ (.int .i64 a)).setCell ⟨gI,m*4+1,none⟩ (.int .i64 b)).setCell ⟨gI,m*4+2,none⟩ (.int .i64 d)).setCell ⟨gI,m*4+3,none⟩ (.int .i64 e)) B gC gE gI cC cE cI s g c E (En.put I m (Gd.row a b d e)):=by
 have h1:=h.lI;have h2:=h.jo;have r:=gT (abF x (some gI)) m (.int .i64 a) (.int .i64 b) (.int .i64 d) (.int .i64 e);exact { h with af:=h.af.put m a b d e,bl:=h.bl.grown r (by simp;omega),grown:=gow h.grown r (fun n e=>by cases e;omega) }
theorem Gd.au.ki{J:N2}(h:Gd.au w x B gC gE gI cC cE cI s g c E I)(he:∀i,i<40->J i=I i):Gd.au w x B gC gE gI cC cE cI s g c E J :=
 { h with af:={ h.af with ab:={ h.af.ab with aj:=h.af.ab.aj.congr fun q hq=>by unfold Gd.aL;rw[he (q/4) (by omega)] } } }
theorem Gd.bU.put(h:Gd.bU w x B gC gE gI cC cE cI s g c E I)(m:Nat)(a b d e:Int):Gd.bU w ((((x.setCell ⟨gI,m*4,none⟩ (.int .i64 a)).setCell ⟨gI,m*4+1,none⟩ (.int .i64 b)).setCell ⟨gI,m*4+2,none⟩ (.int .i64 d)).setCell ⟨gI,m*4+3,none⟩ (.int .i64 e)) B gC gE gI cC cE cI s g c E (En.put I m (Gd.row a b d e)):=by
 have h1:=h.lI;have h2:=h.jo;have r:=gT (abF x (some gI)) m (.int .i64 a) (.int .i64 b) (.int .i64 d) (.int .i64 e);exact { h with af:=h.af.put m a b d e,bl:=h.bl.grown r (by simp;omega),grown:=gow h.grown r (fun n e=>by cases e;omega) }
theorem Gd.bU.ki{J:N2}(h:Gd.bU w x B gC gE gI cC cE cI s g c E I)(he:∀i,i<40->J i=I i):Gd.bU w x B gC gE gI cC cE cI s g c E J :=
 { h with af:={ h.af with ab:={ h.af.ab with aj:=h.af.ab.aj.congr fun q hq=>by unfold Gd.aL;rw[he (q/4) (by omega)] } } }
def Gd.kq(I:N2)(ag:Int)(k:Nat):Nat->Nat->Int:=fun i=>if i<k then Gd.lZ I ag i else I i
theorem Gd.yF{ag:Int}{k:Nat}(h:(I k 1=2\/I k 1=3)/\I k 2=ag):Gd.kq I ag (k+1)=En.put (Gd.kq I ag k) k (Gd.row 0 0 0 0):=by
 funext i;unfold Gd.kq En.put;by_cases e:i=k
 ·rw[abP (by omega),abP e,e,Gd.ns];unfold Gd.lZ;rw[abP h]
 ·rw[abO e];show _=if i<k then _ else _;by_cases e2:i<k
  ·rw[abP (by omega),abP e2]
  ·rw[abO (by omega),abO e2]
theorem Gd.Iu{ag:Int}{k:Nat}(h:¬((I k 1=2\/I k 1=3)/\I k 2=ag)):Gd.kq I ag (k+1)=Gd.kq I ag k:=by
 funext i;unfold Gd.kq;by_cases e:i=k
 ·rw[abP (by omega),abO (by omega),e];unfold Gd.lZ;rw[abO h]
 ·by_cases e2:i<k
  ·rw[abP (by omega),abP e2]
  ·rw[abO (by omega),abO e2]
theorem Ke(s g c:N1)(E I:N2)(gC gE gI cC cE cI:Nat)(ag:Int)(w:World)(hL:Gd.av w gC gE gI c E I):Calls prog 171 #[.agg (Gd.world s gC gE gI cC cE cI g),.int .i64 ag] w (Gd.gH w s g c E (Gd.lZ I ag)):=by
 obtain⟨w0,aD,aF,aM,aN,eC⟩:=Gd.kr w gC gE gI cC cE cI s g;have ca:=uK s g c E I gC gE gI cC cE cI w0 (hL.on aN);obtain⟨b0,b1,b2,b3,b4,b5,b6,b7,b8,b9,b10⟩:=aF.ae;have da:=aa aF;have jM:=aa aM;have dv:=aa aN;have en:=aa eC;have gQ:=aa ca;have kB:=aF.free;clear hL ca aF aM aN eC;unfold Gd.world at aD gQ|-;go_enter func171,ntmps171;go_upto_region 1 with fail;rw[<-aD];clear aD;obtain⟨B,hB⟩:=abV w.heap.size;rw[hB]at da jM en b0 b1 b2 b3 b4 b5 b6 b7 b8 b9 b10|-;have eu:=aa hB;rw[hB]at kB;clear hB;go_cut [] from 7 (fun wx=>∃g1 g2 g3 c1 c2 c3,Hid (Gd.bU w wx B g1 g2 g3 c1 c2 c3 s g c E I))
 case first =>
  go_wp2_with fail;refine(uh gQ).mono ?_;rintro e w1 ⟨g1,g2,g3,c1,c2,c3,rfl,ap,l1,l2,l3,n1,n2,n3,hL1,hg1⟩;obtain⟨y0,y1,y2,y3,y4,y5,y6,y7,y8,y9,y10⟩:=((uh da).on hg1).ae;have fB:=((uh da).on hg1).free;have fin:Hid (Gd.bU w (w1.setCells B 0 (Gd.world s g1 g2 g3 c1 c2 c3 g).toList) B g1 g2 g3 c1 c2 c3 s g c E I):=by
   have r:=gss (g:=B) (Gd.world s g1 g2 g3 c1 c2 c3 g).toList 0 w1 (abF _ _);have hB:=uh eu;have hs:=uh en;exact⟨⟨((uh da).on hg1).iP s g g1 g2 g3 c1 c2 c3,⟨hL1.cells.grown r (by simp;omega),hL1.ai.grown r (by simp;omega),hL1.aj.grown r (by simp;omega)⟩,by omega,by omega,by omega,n1,n2,n3⟩,hB,by omega,by omega,by omega,ap,((uh jM).on hg1).grown r (by simp),aA (by omega) _ 0 w1 (gtr (uh dv) hg1)⟩
  unfold Gd.world at fin|-;clear ap l1 l2 l3 n1 n2 n3 hL1 hg1 b0 b1 b2 b3 b4 b5 b6 b7 b8 b9 b10 kB gQ;go_wp2_with fail;go_meet;exact⟨g1,g2,g3,c1,c2,c3,fin⟩
 case rest =>
  obtain⟨g1,g2,g3,c1,c2,c3,hX⟩:=hcut;clear b0 b1 b2 b3 b4 b5 b6 b7 b8 b9 b10 kB gQ da jM dv en eu;clear w0;have q6:=(uh hX).af.box.ae.2.2.2.2.2.2.1;go_wp2_with fail;go_loopw [12] (fun i wr=>∃k:Nat,k<=40/\i=.int .i64 (k:Int)/\Hid (Gd.bU w wr B g1 g2 g3 c1 c2 c3 s g c E (Gd.kq I ag k))) (fun i _=>200-(intOf i).toNat)
  case atStart=>exact⟨0,by omega,rfl,(uh hX).ki (fun i _=>abO (by omega))⟩
  case round =>
   clear q6 hX;obtain⟨k,hk,rfl,hB⟩:=hrel;by_cases hlt:k<40
   ·have hlt':(k:Int)<40:=(by omega);have bZ:=(uh hB).af.ab.fo.row hlt;rw[show Gd.kq I ag k k=I k from abO (by omega)]at bZ;obtain⟨u0,u1,u2,u3⟩:=bZ;have HL:=aa hlt;have gM:=aa (fun (o:Obj)=>(uh hB).on (abE wr o none));have q6:=(uh hB).af.box.ae.2.2.2.2.2.2.1;have fI:=(uh hB).af.ab.aj.free;have lI:=(uh hB).af.ab.aj.lt;have lB:=(uh hB).af.box.lt;by_cases hc:(I k 1=2\/I k 1=3)/\I k 2=ag
    ·have he:=aa (Gd.yF hc);obtain⟨kx,oS⟩:=hc;rcases kx with kx|kx
     all_goals
      go_wp2;go_roundw
      case rel=>exact⟨k+1,by have:=uh HL;omega,by go_num,by
       show Gd.bU _ _ _ _ _ _ _ _ _ _ _ _ _ _;rw[uh he]
       exact((uh hB).put k 0 0 0 0).on (abE _ _ _)⟩
      case measure=>simp[intOf];omega
    ·have he:=aa (Gd.Iu hc);by_cases oS:I k 2=ag
     ·have n1:¬I k 1=2:=fun h=>hc ⟨.inl h,oS⟩;have n2:¬I k 1=3:=fun h=>hc ⟨.inr h,oS⟩;have m1:(I k 1==2)=false:=(by simp[n1]);have m2:(I k 1==3)=false:=(by simp[n2]);clear hc;go_wp2;go_roundw
      case rel=>exact⟨k+1,by have:=uh HL;omega,by go_num,by
       show Gd.bU _ _ _ _ _ _ _ _ _ _ _ _ _ _;rw[uh he]
       exact uh gM _⟩
      case measure=>simp[intOf];omega
     ·have m2:(I k 2==ag)=false:=(by simp[oS]);clear hc;go_wp2;go_roundw
      case rel=>exact⟨k+1,by have:=uh HL;omega,by go_num,by
       show Gd.bU _ _ _ _ _ _ _ _ _ _ _ _ _ _;rw[uh he]
       exact uh gM _⟩
      case measure=>simp[intOf];omega
   ·have hge:¬(k:Int)<40:=(by omega);have Zt:=(uh hB).ki (J:=Gd.lZ I ag) (fun i hi=>by show _=if i<k then _ else _;rw[abP (by omega)]);clear hB;have da:=aa Zt;obtain⟨b0,b1,b2,b3,b4,b5,b6,b7,b8,b9,b10⟩:=(uh da).af.box.ae;have fz:=(uh da).bl.free;obtain⟨z0,z1,z2,z3,z4,z5,z6,z7,z8,z9,bO⟩:=Gd.aq (uh da).bl;have ah:=aa (fun vs=>(uh da).bN vs);go_wp2;refine abN (v:=.agg (Gd.world s g1 g2 g3 c1 c2 c3 g)) (by simp[results,results171,go_sem,Gd.world,z0,z1,z2,z3,z4,z5,z6,z7,z8,z9,bO]) rfl ?_;exact uh ah [_,_,_,_,_,_,_,_,_,_,_]
