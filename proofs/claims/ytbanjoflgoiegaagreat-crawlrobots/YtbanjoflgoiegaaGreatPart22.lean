import Derived.Test.YtbanjoflgoiegaaGreatPart21
import Derived.Test.YtbanjoflgoiegaaGreatPart20
set_option maxHeartbeats 6400000
namespace Go.Proofs.YtbanjoflgoiegaaGreat
open Go.Proofs.Tryz
open Go.RowKit
def Gd.wornK(I:N2)(ag kd:Int):Nat->Bool
 | 0=>false
 | k+1=>Gd.wornK I ag kd k||(decide (I k 1=3/\I k 2=ag)&&decide (I k 0=kd))
theorem Gd.IB(I:N2)(ag kd:Int):∀k,Gd.wornK I ag kd k=true↔∃j,j<k/\I j 1=3/\I j 2=ag/\I j 0=kd
  | 0=>by simp[Gd.wornK]
  | k+1 => by
      unfold Gd.wornK
      rw[Bool.or_eq_true,Gd.IB I ag kd k,Bool.and_eq_true,decide_eq_true_eq,decide_eq_true_eq]
      constructor
      · rintro(⟨j,hj,h⟩|⟨⟨h1,h2⟩,h3⟩)
        · exact⟨j,by omega,h⟩
        · exact⟨k,by omega,h1,h2,h3⟩
      · rintro⟨j,hj,h1,h2,h3⟩
        by_cases e:j=k
        · rw[e]at h1 h2 h3
          exact .inr ⟨⟨h1,h2⟩,h3⟩
        · exact .inl ⟨j,by omega,h1,h2,h3⟩
theorem Gd.Lp{c:N1}{I:N2}(h:Gd.Ok c 40 I)(ag b:Int):Gd.wornK I ag (b+2) 40=decide (0<=Gd.an I 40 3 ag b):=by
 apply Bool.eq_iff_iff.2;rw[Gd.IB,decide_eq_true_eq];constructor
 ·rintro⟨j,hj,h1,h2,h3⟩;rcases Gd.fL I 40 3 ag b with⟨_,hno⟩|⟨k,_,e,_⟩
  ·obtain⟨_,_,hp⟩:=h.of hj (by omega);exact absurd ⟨h1,h2,by omega⟩ (hno j hj)
  ·omega
 ·intro h0;obtain⟨k,hk,_,h1,h2,h3⟩:=Gd.gd h0;obtain⟨_,_,hp⟩:=h.of hk (by omega);exact⟨k,hk,h1,h2,by omega⟩
def Gd.fF(b:Bool):Int:=if b=true then 3 else 0
def Gd.jS (b:Bool):Int:=if b=true then 2 else 0
theorem Lw(s g c:N1)(E I:N2)(gC gE gI cC cE cI:Nat)(ag:Int)(w:World)(hL:Gd.av w gC gE gI c E I):Calls prog 186 #[.agg (Gd.world s gC gE gI cC cE cI g),.int .i64 ag] w (aJ w (.tuple #[.int .i64 (Gd.fF (Gd.wornK I ag 2 40)),.int .i64 (Gd.jS (Gd.wornK I ag 3 40))])):=by
 obtain⟨w0,aD⟩:∃w0,w0=w.alloc (.cells (Gd.world s gC gE gI cC cE cI g) 30):=⟨_,rfl⟩;have aF:ay w0 w.heap.size 30 11 (Gd.box s gC gE gI cC cE cI g):=by rw[aD];exact(ax.world (abH w _)).lie
 have aN:w.grownBy w0 none:=by rw[aD];exact abE _ _ _
 have tt:=aa (hL.on aN);obtain⟨B,hB⟩:=abV w.heap.size;rw[hB]at aF;have lH:=aa aF;have dv:=aa aN;obtain⟨_,_,_,_,_,_,b6,_⟩:=aF.ae;clear hL aF aN;unfold Gd.world at aD|-;go_enter func186,ntmps186;go_upto_region 1 with fail;rw[<-aD];clear aD hB;go_wp2_with fail;go_loopw [6,7,13] (fun a d i wr=>∃k:Nat,k<=40/\i=.int .i64 (k:Int)/\a=.int .i64 (Gd.fF (Gd.wornK I ag 2 k))/\d=.int .i64 (Gd.jS (Gd.wornK I ag 3 k))/\w0.grownBy wr none) (fun _ _ i _=>200-(intOf i).toNat)
 case atStart=>exact⟨0,by omega,rfl,rfl,rfl,abF _ _⟩
 case round =>
  obtain⟨k,hk,rfl,rfl,rfl,hgr⟩:=hrel;have bV:=aa hgr;clear hgr b6;by_cases hlt:k<40
  ·obtain⟨u0,u1,u2,u3⟩:=((uh tt).on (uh bV)).fo.row hlt;have hlt':(k:Int)<40:=by omega
   have HL:=aa hlt;have gM:=aa (fun (o:Obj)=>gal (uh bV) o);have e2:=aa (show Gd.wornK I ag 2 (k+1)=(Gd.wornK I ag 2 k||(decide (I k 1=3/\I k 2=ag)&&decide (I k 0=2))) from rfl);have e3:=aa (show Gd.wornK I ag 3 (k+1)=(Gd.wornK I ag 3 k||(decide (I k 1=3/\I k 2=ag)&&decide (I k 0=3))) from rfl);clear hlt;by_cases h1:I k 1=3
   ·by_cases h2:I k 2=ag
    ·by_cases k2:I k 0=2
     ·have r2:Hid (Gd.wornK I ag 2 (k+1)=true):=by show _=_;rw[uh e2];simp[h1,h2,k2]
      have r3:Hid (Gd.wornK I ag 3 (k+1)=Gd.wornK I ag 3 k):=by show _=_;rw[uh e3];simp[k2]
      clear e2 e3;go_wp2;go_roundw
      case rel=>exact⟨k+1,by have:=uh HL;omega,by go_num,by rw[uh r2];rfl,by rw[uh r3],uh gM _⟩
      case measure=>simp[intOf];omega
     ·have m2:(I k 0==2)=false:=(by simp[k2]);have r2:Hid (Gd.wornK I ag 2 (k+1)=Gd.wornK I ag 2 k):=by show _=_;rw[uh e2];simp[k2]
      by_cases k3:I k 0=3
      ·have r3:Hid (Gd.wornK I ag 3 (k+1)=true):=by show _=_;rw[uh e3];simp[h1,h2,k3]
       clear e2 e3;go_wp2;go_roundw
       case rel=>exact⟨k+1,by have:=uh HL;omega,by go_num,by rw[uh r2],by rw[uh r3];rfl,uh gM _⟩
       case measure=>simp[intOf];omega
      ·have m3:(I k 0==3)=false:=(by simp[k3]);have r3:Hid (Gd.wornK I ag 3 (k+1)=Gd.wornK I ag 3 k):=by show _=_;rw[uh e3];simp[k3]
       clear e2 e3;go_wp2;go_roundw
       case rel=>exact⟨k+1,by have:=uh HL;omega,by go_num,by rw[uh r2],by rw[uh r3],uh gM _⟩
       case measure=>simp[intOf];omega
    ·have m2:(I k 2==ag)=false:=(by simp[h2]);have r2:Hid (Gd.wornK I ag 2 (k+1)=Gd.wornK I ag 2 k):=by show _=_;rw[uh e2];simp[h2]
     have r3:Hid (Gd.wornK I ag 3 (k+1)=Gd.wornK I ag 3 k):=by show _=_;rw[uh e3];simp[h2]
     clear e2 e3;go_wp2;go_roundw
     case rel=>exact⟨k+1,by have:=uh HL;omega,by go_num,by rw[uh r2],by rw[uh r3],uh gM _⟩
     case measure=>simp[intOf];omega
   ·have m1:(I k 1==3)=false:=(by simp[h1]);have r2:Hid (Gd.wornK I ag 2 (k+1)=Gd.wornK I ag 2 k):=by show _=_;rw[uh e2];simp[h1]
    have r3:Hid (Gd.wornK I ag 3 (k+1)=Gd.wornK I ag 3 k):=by show _=_;rw[uh e3];simp[h1]
    clear e2 e3;go_wp2;go_roundw
    case rel=>exact⟨k+1,by have:=uh HL;omega,by go_num,by rw[uh r2],by rw[uh r3],uh gM _⟩
    case measure=>simp[intOf];omega
  ·have hge:¬(k:Int)<40:=by omega
   have ah:=aa (gtr (uh dv) (uh bV));obtain rfl:k=40:=by omega
   go_wp2;refine abN (v:=.tuple #[.int .i64 (Gd.fF (Gd.wornK I ag 2 40)),.int .i64 (Gd.jS (Gd.wornK I ag 3 40))]) (by simp[results,results186,go_sem]) rfl ?_;exact⟨rfl,uh ah⟩
theorem FD(s g c:N1)(E I:N2)(gC gE gI cC cE cI:Nat)(ag:Int)(w:World)(hL:Gd.av w gC gE gI c E I):Calls prog 127 #[.agg (Gd.world s gC gE gI cC cE cI g),.int .i64 ag] w (Gd.cL w s g c E (Gd.lZ I ag)):=by
 obtain⟨w0,aD,aF,aM,aN,eC⟩:=Gd.kr w gC gE gI cC cE cI s g;have ca:=du s g c E I gC gE gI cC cE cI w0 (hL.on aN);obtain⟨b0,b1,b2,b3,b4,b5,b6,b7,b8,b9,b10⟩:=aF.ae;have da:=aa aF;have jM:=aa aM;have dv:=aa aN;have en:=aa eC;have gQ:=aa ca;have kB:=aF.free;clear hL ca aF aM aN eC;unfold Gd.world at aD gQ|-;go_enter func127,ntmps127;go_upto_region 1 with fail;rw[<-aD];clear aD;obtain⟨B,hB⟩:=abV w.heap.size;rw[hB]at da jM en b0 b1 b2 b3 b4 b5 b6 b7 b8 b9 b10|-;have eu:=aa hB;rw[hB]at kB;clear hB;go_cut [] from 6 (fun wx=>∃g1 g2 g3 c1 c2 c3,Hid (Gd.au w wx B g1 g2 g3 c1 c2 c3 s g c E I))
 case first =>
  go_wp2_with fail;refine(uh gQ).mono ?_;rintro e w1 ⟨g1,g2,g3,c1,c2,c3,rfl,ap,l1,l2,l3,n1,n2,n3,hL1,hg1⟩;obtain⟨y0,y1,y2,y3,y4,y5,y6,y7,y8,y9,y10⟩:=((uh da).on hg1).ae;have fB:=((uh da).on hg1).free;have fin:Hid (Gd.au w (w1.setCells B 0 (Gd.world s g1 g2 g3 c1 c2 c3 g).toList) B g1 g2 g3 c1 c2 c3 s g c E I):=by
   have r:=gss (g:=B) (Gd.world s g1 g2 g3 c1 c2 c3 g).toList 0 w1 (abF _ _);have hB:=uh eu;have hs:=uh en;exact⟨⟨((uh da).on hg1).iP s g g1 g2 g3 c1 c2 c3,⟨hL1.cells.grown r (by simp;omega),hL1.ai.grown r (by simp;omega),hL1.aj.grown r (by simp;omega)⟩,by omega,by omega,by omega,n1,n2,n3⟩,hB,by omega,by omega,by omega,ap,((uh jM).on hg1).grown r (by simp),aA (by omega) _ 0 w1 (gtr (uh dv) hg1)⟩
  unfold Gd.world at fin|-;clear ap l1 l2 l3 n1 n2 n3 hL1 hg1 b0 b1 b2 b3 b4 b5 b6 b7 b8 b9 b10 kB gQ;go_wp2_with fail;go_meet;exact⟨g1,g2,g3,c1,c2,c3,fin⟩
 case rest =>
  obtain⟨g1,g2,g3,c1,c2,c3,hX⟩:=hcut;clear b0 b1 b2 b3 b4 b5 b6 b7 b8 b9 b10 kB gQ da jM dv en eu;clear w0;have q6:=(uh hX).af.box.ae.2.2.2.2.2.2.1;go_wp2_with fail;go_loopw [5] (fun i wr=>∃k:Nat,k<=40/\i=.int .i64 (k:Int)/\Hid (Gd.au w wr B g1 g2 g3 c1 c2 c3 s g c E (Gd.kq I ag k))) (fun i _=>200-(intOf i).toNat)
  case atStart=>exact⟨0,by omega,rfl,(uh hX).ki (fun i _=>abO (by omega))⟩
  case round =>
   clear q6 hX;obtain⟨k,hk,rfl,hB⟩:=hrel;have q6:=(uh hB).af.box.ae.2.2.2.2.2.2.1;by_cases hlt:k<40
   ·have hlt':(k:Int)<40:=(by omega);have bZ:=(uh hB).af.ab.fo.row hlt;rw[show Gd.kq I ag k k=I k from abO (by omega)]at bZ;obtain⟨u0,u1,u2,u3⟩:=bZ;have HL:=aa hlt;have fI:=(uh hB).af.ab.aj.free;have lI:=(uh hB).af.ab.aj.lt;have lB:=(uh hB).af.box.lt;by_cases hc:(I k 1=2\/I k 1=3)/\I k 2=ag
    ·have he:=aa (Gd.yF hc);obtain⟨kx,oS⟩:=hc;rcases kx with kx|kx
     all_goals
      go_wp2;go_roundw
      case rel=>exact⟨k+1,by have:=uh HL;omega,by go_num,by
       show Gd.au _ _ _ _ _ _ _ _ _ _ _ _ _ _;rw[uh he]
       exact(uh hB).put k 0 0 0 0⟩
      case measure=>simp[intOf];omega
    ·have he:=aa (Gd.Iu hc);by_cases w2:I k 1=2
     ·have hs:¬I k 2=ag:=fun h=>hc ⟨.inl w2,h⟩;have ms:(I k 2==ag)=false:=(by simp[hs]);clear hc;go_wp2;go_roundw
      case rel=>exact⟨k+1,by have:=uh HL;omega,by go_num,by
       show Gd.au _ _ _ _ _ _ _ _ _ _ _ _ _ _;rw[uh he]
       exact uh hB⟩
      case measure=>simp[intOf];omega
     ·have m1:(I k 1==2)=false:=(by simp[w2]);by_cases w3:I k 1=3
      ·have hs:¬I k 2=ag:=fun h=>hc ⟨.inr w3,h⟩;have ms:(I k 2==ag)=false:=(by simp[hs]);clear hc;go_wp2;go_roundw
       case rel=>exact⟨k+1,by have:=uh HL;omega,by go_num,by
        show Gd.au _ _ _ _ _ _ _ _ _ _ _ _ _ _;rw[uh he]
        exact uh hB⟩
       case measure=>simp[intOf];omega
      ·have m2:(I k 1==3)=false:=(by simp[w3]);clear hc;go_wp2;go_roundw
       case rel=>exact⟨k+1,by have:=uh HL;omega,by go_num,by
        show Gd.au _ _ _ _ _ _ _ _ _ _ _ _ _ _;rw[uh he]
        exact uh hB⟩
       case measure=>simp[intOf];omega
   ·have hge:¬(k:Int)<40:=(by omega);have Zt:=(uh hB).ki (J:=Gd.lZ I ag) (fun i hi=>by show _=if i<k then _ else _;rw[abP (by omega)]);clear hB;have da:=aa Zt;obtain⟨b0,b1,b2,b3,b4,b5,b6,b7,b8,b9,b10⟩:=(uh da).af.box.ae;have fz:=(uh da).bl.free;obtain⟨z0,z1,z2,z3,z4,z5,z6,z7,z8,z9,bO⟩:=Gd.aq (uh da).bl;have ah:=aa (fun vs=>(uh da).bN vs);go_wp2;refine abN (v:=.agg (Gd.world s g1 g2 g3 c1 c2 c3 g)) (by simp[results,results127,go_sem,Gd.world,z0,z1,z2,z3,z4,z5,z6,z7,z8,z9,bO]) rfl ?_;exact uh ah [_,_,_,_,_,_,_,_,_,_,_]
theorem Gd.PC(z:Int):Gd.fF (decide (0<=z))=if 0<=z then 3 else 0:=by
 unfold Gd.fF;by_cases h:0<=z <;> simp[h]
theorem Gd.Vi(z:Int):Gd.jS (decide (0<=z))=if 0<=z then 2 else 0:=by
 unfold Gd.jS;by_cases h:0<=z <;> simp[h]
theorem rS(s g c:N1)(E I:N2)(gC gE gI cC cE cI:Nat)(ag:Int)(w:World)(hL:Gd.av w gC gE gI c E I):Calls prog 122 #[.agg (Gd.world s gC gE gI cC cE cI g),.int .i64 ag] w (aJ w (.tuple #[.int .i64 (Gd.fF (decide (0<=Gd.an I 40 3 ag 0))),.int .i64 (Gd.jS (decide (0<=Gd.an I 40 3 ag 1)))])):=by
 obtain⟨w0,aD⟩:∃w0,w0=w.alloc (.cells (Gd.world s gC gE gI cC cE cI g) 30):=⟨_,rfl⟩;have aF:ay w0 w.heap.size 30 11 (Gd.box s gC gE gI cC cE cI g):=by rw[aD];exact(ax.world (abH w _)).lie
 have aN:w.grownBy w0 none:=by rw[aD];exact abE _ _ _
 have tt:=hL.on aN;obtain⟨B,hB⟩:=abV w.heap.size;rw[hB]at aF;have dv:=aa aN;obtain⟨_,_,_,_,_,_,b6,_⟩:=aF.ae;have c1:=bS gI 40 cI I 3 ag 0 w0 tt.fo;have c2:=bS gI 40 cI I 3 ag 1 w0 tt.fo;obtain⟨f,hf⟩:=abV (Gd.an I 40 3 ag 0);obtain⟨d,hd⟩:=abV (Gd.an I 40 3 ag 1);rw[hf]at c1|-;rw[hd]at c2|-;rw[Gd.PC,Gd.Vi];have Yb:=aa c1;have Ko:=aa c2;clear hL aF aN tt c1 c2 hf hd;unfold Gd.world at aD|-;by_cases h1:0<=f
 ·by_cases h2:0<=d
  ·rw[abP h1,abP h2];go_enter func122,ntmps122;go_upto_region 1 with fail;rw[<-aD];clear aD hB;go_wp2_with fail;refine abW (uh Yb) ?_;go_wp2_with fail;refine abW (uh Ko) ?_;go_wp2;refine abN (v:=.tuple #[.int .i64 3,.int .i64 2]) (by simp[results,results122,go_sem]) rfl ?_;exact⟨rfl,uh dv⟩
  ·rw[abP h1,abO h2];go_enter func122,ntmps122;go_upto_region 1 with fail;rw[<-aD];clear aD hB;go_wp2_with fail;refine abW (uh Yb) ?_;go_wp2_with fail;refine abW (uh Ko) ?_;go_wp2;refine abN (v:=.tuple #[.int .i64 3,.int .i64 0]) (by simp[results,results122,go_sem]) rfl ?_;exact⟨rfl,uh dv⟩
 ·by_cases h2:0<=d
  ·rw[abO h1,abP h2];go_enter func122,ntmps122;go_upto_region 1 with fail;rw[<-aD];clear aD hB;go_wp2_with fail;refine abW (uh Yb) ?_;go_wp2_with fail;refine abW (uh Ko) ?_;go_wp2;refine abN (v:=.tuple #[.int .i64 0,.int .i64 2]) (by simp[results,results122,go_sem]) rfl ?_;exact⟨rfl,uh dv⟩
  ·rw[abO h1,abO h2];go_enter func122,ntmps122;go_upto_region 1 with fail;rw[<-aD];clear aD hB;go_wp2_with fail;refine abW (uh Yb) ?_;go_wp2_with fail;refine abW (uh Ko) ?_;go_wp2;refine abN (v:=.tuple #[.int .i64 0,.int .i64 0]) (by simp[results,results122,go_sem]) rfl ?_;exact⟨rfl,uh dv⟩
theorem Ia(b n c:Nat)(E:N2)(ag:Int)(w:World)(hE:fG w b n E):Calls prog 22 #[.slice (some ⟨b,0,none⟩) n c,.int .i64 ag] w (aJ w (.int .i64 (En.first (En.dg E ag) n))):=by
 have hn:=hE.1;have iQ:=aa hE
 skip
 clear hE;go_enter func22,ntmps22;go_wp2_with fail;go_loop [5] (fun i=>∃k:Nat,k<=n/\i=.int .i64 (k:Int)/\∀j,j<k->En.dg E ag j=false) (fun i=>40-(intOf i).toNat)
 case atStart=>exact⟨0,by omega,rfl,fun j hj=>by omega⟩
 case round =>
  obtain⟨k,hk,rfl,hno⟩:=hrel;have aT:=aa hno;clear hno;by_cases hlt:k<n
  ·obtain⟨u0,_,u2,_⟩:=(uh iQ).row hlt;have hlt':(k:Int)<(n:Int):=by omega
   have HL:=aa hlt
   skip
   clear hlt;by_cases hf:E k 0=1
   ·by_cases h3:E k 2=ag
    ·have hq:Hid (En.dg E ag k=true):=by show En.dg E ag k=true;simp[En.dg,hf,h3]
     have he:=aa (En.cG (uh aT) (uh hq) (uh HL));go_wp2;go_ret;exact⟨rti (uh he).symm,abF _ _⟩
    ·have hq:Hid (En.dg E ag k=false):=by show En.dg E ag k=false;simp[En.dg,h3]
     have Sm:(E k 2==ag)=false:=(by simp[h3]);go_wp2
     go_round
     case rel=>exact⟨k+1,by have:=uh HL;omega,by go_num,fun j hj=>by
      by_cases e:j=k
      ·rw[e];exact uh hq
      ·exact uh aT j (by omega)⟩
     case measure=>simp[intOf];omega
   ·have hq:Hid (En.dg E ag k=false):=by show En.dg E ag k=false;simp[En.dg,hf]
    have fb:(E k 0==1)=false:=(by simp[hf]);go_wp2
    go_round
    case rel=>exact⟨k+1,by have:=uh HL;omega,by go_num,fun j hj=>by
     by_cases e:j=k
     ·rw[e];exact uh hq
     ·exact uh aT j (by omega)⟩
    case measure=>simp[intOf];omega
  ·have hge:¬(k:Int)<(n:Int):=by omega
   have he:=aa (En.bt (n:=n) (fun j hj=>uh aT j (by omega)));go_wp2;go_ret;exact⟨rti (uh he).symm,abF _ _⟩
theorem dn(g c:Nat)(E:N2)(ag:Int)(w:World)(h:fg w g 32 E):Calls prog 22 #[.slice (some ⟨g,0,none⟩) 32 c,.int .i64 ag] w (aJ w (.int .i64 (Gd.aV E ag))):=Ia g 32 c E ag w h.ai
variable{E:N2}{ag:Int}
def Md.oF(E:N2):Prop:=∀k,k<32->E k 0≠0->0<=E k 3/\E k 3<24/\0<=E k 4/\E k 4<16/\0<=E k 6/\E k 6<=20
def Md.oB(E:N2)(x y:Int)(d:Nat):Int:=En.first (En.eM E (x+(Fx.bh (d:Int)).1) (y+(Fx.bh (d:Int)).2)) 32
def Md.lz(E:N2)(x y:Int)(d:Nat):Bool:=decide (0<=Md.oB E x y d)&&!(decide (E (Md.oB E x y d).toNat 0=1))
def Md.de(c:N1)(E I:N2)(ag:Int)(k:Nat)(v:Int):Prop :=
 if E k 5<=E k 6/3/\0<=Gd.lF I 40 ag 1 1 then v=6
 else if Nv.wayFrom (Md.lz E (E k 3) (E k 4)) 4 1≠0 then v=Nv.wayFrom (Md.lz E (E k 3) (E k 4)) 4 1
 else if 0<=Gd.an I 40 1 (E k 3) (E k 4)/\(I (Gd.an I 40 1 (E k 3) (E k 4)).toNat 0=4\/0<=Gd.cY I 40 ag)then v=5
 else if Gr.at 384 c (E k 3) (E k 4)=4 then v=9
 else Nv.aW c (fun _=>Gr.an 384 c 4) 1 E 32 (E k 3) (E k 4) v
def Md.cB(c:N1)(E I:N2)(ag v:Int):Prop :=
 if Gd.aV E ag<0 then v=0 else Md.de c E I ag (Gd.aV E ag).toNat v
theorem Md.Il{c:N1}{I:N2}{k:Nat}{u v:Int}(h:Md.de c E I ag k u)(h':Md.de c E I ag k v):v=u:=by
 unfold Md.de at h h';by_cases h1:E k 5<=E k 6/3/\0<=Gd.lF I 40 ag 1 1
 ·rw[abP h1]at h h';omega
 rw[abO h1]at h h';by_cases h2:Nv.wayFrom (Md.lz E (E k 3) (E k 4)) 4 1≠0
 ·rw[abP h2]at h h';omega
 rw[abO h2]at h h';by_cases h3:0<=Gd.an I 40 1 (E k 3) (E k 4)/\(I (Gd.an I 40 1 (E k 3) (E k 4)).toNat 0=4\/0<=Gd.cY I 40 ag)
 ·rw[abP h3]at h h';omega
 rw[abO h3]at h h';by_cases h4:Gr.at 384 c (E k 3) (E k 4)=4
 ·rw[abP h4]at h h';omega
 rw[abO h4]at h h';exact h.bo h'
theorem Md.cB.bo{c:N1}{I:N2}{u v:Int}(h:Md.cB c E I ag u)(h':Md.cB c E I ag v):v=u:=by
 unfold Md.cB at h h';by_cases h1:Gd.aV E ag<0
 ·rw[abP h1]at h h';omega
 ·rw[abO h1]at h h';exact Md.Il h h'
theorem Md.lL(h:¬Gd.aV E ag<0):∃k:Nat,k<32/\Gd.aV E ag=(k:Int)/\E k 0=1/\E k 2=ag:=by
 unfold Gd.aV at h|-;rcases En.aw (En.dg E ag) 32 with⟨he,_⟩|⟨k,hk,he,hq,_⟩
 ·omega
 ·simp only[En.dg,Bool.and_eq_true,decide_eq_true_eq]at hq;exact⟨k,hk,he,hq.1,hq.2⟩
theorem Md.Lo{x y:Int}{d:Nat}:Md.oB E x y d=-1\/∃j:Nat,j<32/\Md.oB E x y d=(j:Int):=by
 unfold Md.oB;rcases En.aw (En.eM E (x+(Fx.bh (d:Int)).1) (y+(Fx.bh (d:Int)).2)) 32 with⟨he,_⟩|⟨j,hj,he,_⟩
 ·exact .inl he
 ·exact .inr ⟨j,hj,he⟩
theorem Md.te(d:Nat):-1<=(Fx.bh (d:Int)).1/\(Fx.bh (d:Int)).1<=1/\-1<=(Fx.bh (d:Int)).2/\(Fx.bh (d:Int)).2<=1:=by
 unfold Fx.bh;split
 ·simp
 ·split
  ·simp
  ·split
   ·simp
   ·split <;> simp
