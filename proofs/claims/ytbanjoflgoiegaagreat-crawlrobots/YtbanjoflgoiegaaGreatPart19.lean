import Derived.Test.YtbanjoflgoiegaaGreatPart18
import Derived.Test.YtbanjoflgoiegaaGreatPart14
import Derived.Laws.BytesArg
import Derived.ChangeKeysEq
set_option maxHeartbeats 8000000
set_option maxRecDepth 100000
namespace Go.Proofs.YtbanjoflgoiegaaGreat
open Go.Proofs.Tryz
open Go.RowKit
structure jT(w:World)(B G X Y:Nat)(d:Gn.aY)(c:N1)(wr:World):Prop where
 cells:ax wr G 5 384 (aZ c)
 xs:ax wr X 89 6 (fun j=>.int .i64 (Gn.mx d j))
 ys:ax wr Y 89 6 (fun j=>.int .i64 (Gn.my d j))
 bl:ax wr B 58 3 (fun _=>.slice none 0 0)
 grown:w.grownBy wr none
 o0:w.heap.size<=B
 o1:B<G
 o2:G<X
 o3:X<Y
theorem jT.on{w:World}{B G X Y:Nat}{d:Gn.aY}{c:N1}{wr wx:World}(h:jT w B G X Y d c wr)(hg:wr.grownBy wx none):jT w B G X Y d c wx :=
 ⟨h.cells.grown hg (by simp),h.xs.grown hg (by simp),h.ys.grown hg (by simp),h.bl.grown hg (by simp),cO h.grown hg,h.o0,h.o1,h.o2,h.o3⟩
theorem jT.Vs{w:World}{B G X Y:Nat}{d:Gn.aY}{c c':N1}{wr wx:World}(h:jT w B G X Y d c wr)(hA:ax wx G 5 384 (aZ c'))(hg:wr.grownBy wx (some G)):jT w B G X Y d c' wx:=by
 have h0:=h.o0;have h1:=h.o1;have h2:=h.o2;have h3:=h.o3;exact⟨hA,h.xs.grown hg (by simp;omega),h.ys.grown hg (by simp;omega),h.bl.grown hg (by simp;omega),gow h.grown hg (fun n e=>by cases e;omega),h0,h1,h2,h3⟩
theorem Po(s f:Int)(d:Gn.aY)(hd:∀a b n,Gn.D s f a b n=d a b n)(qn:Gn.gL d)(QN:1<=f)(QO:f<=3)(w:World)(B G X Y:Nat)(wr:World)(hC:jT w B G X Y d (Gn.ks d 0) wr){t2 t3 t8 t9 Aa Ab Ac Ad Ae Af Ag Ah Ai Aj Ak Al Am Ao Ap Aq Ar As Au Av Aw Ax Ay Az AA AB AC AD AE AF AG AH AI AJ AK AL AM AN AO AP AQ AR AS AT AU AV AW AX AY AZ A0 A1 A2 A3 A4 A5 A6 A7 A8 A9 Ba Bb Bc Bd Be Bf Bg Bh Bi Bj Bk Bl Bm Bn Bo Bp Bq Br Bs Bt Bu Bv Bw Bx Bz BA BB BC BD BE BF BG BH BI BJ BK BL BM BN BO BP BQ BR BS BT BU BV BW BX BY BZ B0 B1 B2 B3 B4 B5 B6 B7 B8 B9 Ca Cb Cc Cd Ce Cf Cg Ch Ci Cj Ck Cl Cm Cn Co Cp Cq Cs Ct Cu Cv Cw Cx Cy Cz CA CB CC CD CE CF CG CH CI CJ CK CL CM CN CO CP CQ CR CS CT CU CV CW CX CY CZ C0 C1 C2 C3 C4 C5 C6 C7 C8 C9 Da Db Dc Dd De Df Dg Dh Di Dj Dk Dl Dm Dn Dp Dq Dr Ds Dt Du Dv Dw Dx Dy Dz DA DB DC DD DE DF DG DH DI DJ DK DL DM DN DO DP DQ DR DS DT DU DV DW DX DY DZ D1 D2 D3 D4 D5 D6 D7 D8 D9 Ea Eb Ec Ed Ee Ef Eg Eh Ei Ej Ek El Em Eo Ep Er Es Et Eu Ev Ew Ex Ey Ez EA EB EC ED EE EF EG EH EI EJ EK EL EM EN EO EP EQ ER ES ET EU EV EW EX EY EZ E0 E1 E2 E3 E4 E5 E6 E7 E8 E9 Fa Fb Fc Fd Fe Ff Fg Fh Fi Fj Fk Fm Fn Fo:Value}:Code.wp prog ((f26.body.map (pP 4)).getD .skip) (bodyPost prog f26 (qN w d f)) ⟨#[.int .i64 s,.int .i64 f,t2,t3,.pointer (some ⟨B,0,none⟩),.slice (some ⟨G,0,none⟩) 384 384,.pointer (some ⟨X,0,none⟩),.pointer (some ⟨Y,0,none⟩),t8,t9,Aa,Ab,Ac,Ad,Ae,Af,Ag,Ah,Ai,Aj,Ak,Al,Am,Ao,Ap,Aq,Ar,As,Au,Av,Aw,Ax,Ay,Az,AA,AB,AC,AD,AE,AF,AG,AH,AI,AJ,AK,AL,AM,AN,AO,AP,AQ,AR,AS,AT,AU,AV,AW,AX,AY,AZ,A0,A1,A2,A3,A4,A5,A6,A7,A8,A9,Ba,Bb,Bc,Bd,Be,Bf,Bg,Bh,Bi,Bj,Bk,Bl,Bm,Bn,Bo,Bp,Bq,Br,Bs,Bt,Bu,Bv,Bw,Bx,Bz,BA,BB,BC,BD,BE,BF,BG,BH,BI,BJ,BK,BL,BM,BN,BO,BP,BQ,BR,BS,BT,BU,BV,BW,BX,BY,BZ,B0,B1,B2,B3,B4,B5,B6,B7,B8,B9,Ca,Cb,Cc,Cd,Ce,Cf,Cg,Ch,Ci,Cj,Ck,Cl,Cm,Cn,Co,Cp,Cq,Cs,Ct,Cu,Cv,Cw,Cx,Cy,Cz,CA,CB,CC,CD,CE,CF,CG,CH,CI,CJ,CK,CL,CM,CN,CO,CP,CQ,CR,CS,CT,CU,CV,CW,CX,CY,CZ,C0,C1,C2,C3,C4,C5,C6,C7,C8,C9,Da,Db,Dc,Dd,De,Df,Dg,Dh,Di,Dj,Dk,Dl,Dm,Dn,Dp,Dq,Dr,Ds,Dt,Du,Dv,Dw,Dx,Dy,Dz,DA,DB,DC,DD,DE,DF,DG,DH,DI,DJ,DK,DL,DM,DN,DO,DP,DQ,DR,DS,DT,DU,DV,DW,DX,DY,DZ,D1,D2,D3,D4,D5,D6,D7,D8,D9,Ea,Eb,Ec,Ed,Ee,Ef,Eg,Eh,Ei,Ej,Ek,El,Em,Eo,Ep,Er,Es,Et,Eu,Ev,Ew,Ex,Ey,Ez,EA,EB,EC,ED,EE,EF,EG,EH,EI,EJ,EK,EL,EM,EN,EO,EP,EQ,ER,ES,ET,EU,EV,EW,EX,EY,EZ,E0,E1,E2,E3,E4,E5,E6,E7,E8,E9,Fa,Fb,Fc,Fd,Fe,Ff,Fg,Fh,Fi,Fj,Fk,Fm,Fn,Fo],[]⟩ wr:=by
 conv=>arg 2;whnf
 have jL:=aa hd;have kb:=aa qn;have TX:=aa hC;clear hd qn hC;go_wp2_with fail;go_loopw [15] (fun vi wr=>∃j k:Nat,k<=5/\j=k+1/\vi=.int .i64 (j:Int)/\jT w B G X Y d (Gn.ks d k) wr) (fun vi _=>6-(intOf vi).toNat)
 case atStart=>exact⟨1,0,by omega,rfl,rfl,uh TX⟩
 case round =>
  clear TX;rename_i KM;have pB:=aa KM;clear KM;obtain⟨j,k,hk,hj,rfl,hC⟩:=hrel;have se:=aa hC;clear hC;by_cases hlt:k<5
  ·have hlt':(j:Int)<6:=by omega
   have pG:(j:Int)-1=(k:Int):=by omega
   have IL:(k:Int)<6:=by omega
   have sS:IntKind.i64.wrap ((j:Int)-1)=(k:Int):=by rw[pG,abK];omega
   have G8:IntKind.i64.wrap (k:Int)=(k:Int):=by rw[abK];omega
   obtain⟨D0,wO⟩:∃x,x=d (j:Int) 4 2:=⟨_,rfl⟩;obtain⟨x0,L7⟩:∃x,x=Gn.mx d k:=⟨_,rfl⟩;obtain⟨y0,JD⟩:∃x,x=Gn.my d k:=⟨_,rfl⟩;obtain⟨tx,sU⟩:∃x,x=Gn.mx d j:=⟨_,rfl⟩;obtain⟨ty,IP⟩:∃x,x=Gn.my d j:=⟨_,rfl⟩;have b0:=Gn.gz (uh kb) k;have b1:=Gn.gz (uh kb) j;rw[<-L7,<-JD]at b0;rw[<-sU,<-IP]at b1;obtain⟨a1,a2,a3,a4⟩:=b0;obtain⟨a5,a6,a7,a8⟩:=b1;have dc:Hid (∀x c,jT w B G X Y d c x->(x.cell? ⟨X,j,none⟩=some (.int .i64 tx)/\x.cell? ⟨Y,j,none⟩=some (.int .i64 ty))):=fun x c hx=>by
    rw[sU,IP];exact⟨hx.xs.cell (by omega),hx.ys.cell (by omega)⟩
   have p1:wr.cell? ⟨X,k,none⟩=some (.int .i64 x0):=by rw[L7];exact(uh se).xs.cell (by omega)
   have p2:wr.cell? ⟨Y,k,none⟩=some (.int .i64 y0):=by rw[JD];exact(uh se).ys.cell (by omega)
   obtain⟨c0,qu⟩:∃c0:Nat,y0*24+x0=(c0:Int):=⟨(y0*24+x0).toNat,by omega⟩;have fC:Hid (∀n,jT w B G X Y d (Gn.ks d k) (wr.drewN n)):=fun n=>(uh se).on (gdw (abF _ none) n);have wS:Hid (∀n,Calls prog 60 #[.slice (some ⟨G,0,none⟩) 384 384,.int .i64 x0,.int .i64 y0,.bool false] (wr.drewN n) fun e w'=>e=.returned (.bool (Gn.bG (Gn.ks d k,false) c0).2)/\ax w' G 5 384 (aZ (Gn.bG (Gn.ks d k,false) c0).1)/\(wr.drewN n).grownBy w' (some G)) :=
    fun n=>kh G (Gn.ks d k,false) x0 y0 c0 (wr.drewN n) (uh fC n).cells (Gn.xQ d k) (by omega) qu
   obtain⟨PR,T0⟩:∃F,F=Gn.digRun tx ty (D0==0) (Gn.dh x0 y0 tx ty) (Gn.ks d k,false) x0 y0:=⟨_,rfl⟩;have aaf:Hid (Gn.ks d j=PR.1):=by
    show Gn.ks d j=PR.1;rw[T0,L7,JD,sU,IP,wO,hj];rfl
   have Sq:=aa T0;have kP:=aa (fun x=>iN s f (j:Int) 4 2 x (by omega));have GC:=aa wO;have Uh:=aa qu;have TO:Hid (∀i,0<=Gn.ks d k i/\Gn.ks d k i<=5):=Gn.xQ d k;have zK:=aa hj;clear wO L7 JD sU IP T0 hj hlt hk;go_wp2_with fail;go_quiet (fail);go_wp2_with fail;refine(uh wS _).mono ?_;rintro e wd ⟨rfl,Yk,hgd⟩;have uZ:=aa ((uh fC _).Vs Yk hgd);clear Yk hgd wS fC p1 p2;go_wp2_with fail;have N0:=uh kP wd;rw[uh jL,<-uh GC]at N0;refine N0.mono ?_;rintro e we ⟨rfl,hge⟩;have hC3:=aa ((uh uZ).on hge);clear hge uZ N0 kP se;clear wd;obtain⟨first,WW⟩:∃b,(D0==0)=b:=⟨_,rfl⟩;have Sr:Hid (Gn.digRun tx ty first (Gn.dh x0 y0 tx ty) (Gn.ks d k,false) x0 y0=PR):=by
    rw[<-WW];exact(uh Sq).symm
   clear Sq;go_wp2_with fail;go_loopw [16,17,18] (fun vx vy vd wr=>∃(x y:Int) (st:(Nat->Int) × Bool) (c0:Nat),vx=.int .i64 x/\vy=.int .i64 y/\vd=.bool (Gn.bG st c0).2/\((1<=x/\x<=22)/\1<=y/\y<=14)/\y*24+x=(c0:Int)/\(∀i,0<=st.1 i/\st.1 i<=5)/\Gn.digRun tx ty first (Gn.dh x y tx ty) st x y=PR/\jT w B G X Y d (Gn.bG st c0).1 wr) (fun vx vy _ _=>Gn.dh (intOf vx) (intOf vy) tx ty)
   case atStart=>exact⟨x0,y0,(Gn.ks d k,false),c0,rfl,rfl,rfl,⟨⟨a1,a2⟩,a3,a4⟩,uh Uh,uh TO,uh Sr,uh hC3⟩
   case round =>
    clear hC3 Sr WW;obtain⟨x,y,st,q0,rfl,rfl,rfl,⟨⟨e1,e2⟩,e3,e4⟩,LW,h5,nS,hC⟩:=hrel;have se:=aa hC;have jg:=aa nS;have PT:=aa h5;have LX:=aa LW;obtain⟨p1,p2⟩:=uh dc _ _ hC;obtain⟨dr,fC⟩:∃b,b=(Gn.bG st q0).2:=⟨_,rfl⟩;rw[<-fC];have N3:=aa fC;clear hC nS h5 LW fC;by_cases hx:x=tx
    ·by_cases hy:y=ty
     ·have fh:Hid (PR=Gn.bG st q0):=by
       have h:=uh jg;rw[Gn.rX hx hy (uh LX)]at h;exact h.symm
      have ah:Hid (jT w B G X Y d (Gn.ks d j) wr):=by rw[uh aaf,uh fh];exact uh se
      have K8:(x !=tx)=false:=by simpa using hx
      have IN:(y !=ty)=false:=by simpa using hy
      clear hx hy;go_wp2;go_roundw
      case rel=>exact⟨j+1,j,by omega,rfl,by go_num,uh ah⟩
      case measure=>simp[intOf];omega
     ·have ow:Hid (¬(x=tx/\y=ty)):=fun h=>hy h.2;have P5:Hid (y≠ty):=hy;have K8:(x !=tx)=false:=by simpa using hx
      have IN:(y !=ty)=true:=by simpa using hy
      have VN:(y==ty)=false:=by simpa using hy
      clear hx hy;cases first with
      | true =>
       have ew:Gn.bh x y tx ty true=false:=by unfold Gn.bh;rw[VN,K8];rfl
       have eX:Gn.dY x y tx ty true=x:=by unfold Gn.dY;rw[ew];rfl
       have eY:Gn.dZ x y tx ty true=Gn.mb y ty:=by unfold Gn.dZ;rw[ew];rfl
       have eO:Hid (Gn.digRun tx ty true (Gn.dh (x) (Gn.mb y ty) tx ty) (Gn.bG st q0) (x) (Gn.mb y ty)=PR):=by
        have h:=uh jg;rw[Gn.n9 (c:=q0) (uh ow) (uh LX),eX,eY]at h;exact h
       have nO:(1<=(x)/\(x)<=22)/\1<=(Gn.mb y ty)/\(Gn.mb y ty)<=14:=by
        have h:=Gn.iT x y tx ty true ⟨⟨e1,e2⟩,e3,e4⟩ ⟨⟨a5,a6⟩,a7,a8⟩;rw[eX,eY]at h;exact h
       have jz:Gn.dh (x) (Gn.mb y ty) tx ty+1=Gn.dh x y tx ty:=by
        have h:=Gn.cJ x y tx ty true (uh ow);rw[eX,eY]at h;exact h
       obtain⟨z,hz⟩:∃z,z=Gn.mb y ty:=⟨_,rfl⟩;rw[<-hz]at eO nO jz;have wU:=l4 y ty wr (uh P5) (by omega) (by omega);rw[<-hz]at wU;have rL:=aa wU;obtain⟨c1,kx⟩:∃c1:Nat,z*24+x=(c1:Int):=⟨(z*24+x).toNat,by omega⟩;have wS:=aa (kh G (Gn.bG st q0) x z c1 wr (uh se).cells (Gn.gJ (uh PT)) nO kx);rw[<-uh N3]at wS;have vt:=aa kx;have nR:=aa jz;obtain⟨⟨g1,g2⟩,g3,g4⟩:=nO;clear eX eY ew hz wU kx jz;go_wp2_with fail;refine abW (uh rL) ?_;go_wp2_with fail;refine(uh wS).mono ?_;rintro e wy ⟨rfl,KG,qK⟩;have uZ:=aa ((uh se).Vs KG qK);clear KG qK wS rL se;go_wp2;go_roundw
       case rel=>exact⟨x,z,Gn.bG st q0,c1,rfl,rfl,rfl,⟨⟨g1,g2⟩,g3,g4⟩,uh vt,Gn.gJ (uh PT),uh eO,uh uZ⟩
       case measure=>have:=uh nR;simp[intOf];omega
      | false =>
       have ew:Gn.bh x y tx ty false=false:=by unfold Gn.bh;rw[VN];rfl
       have eX:Gn.dY x y tx ty false=x:=by unfold Gn.dY;rw[ew];rfl
       have eY:Gn.dZ x y tx ty false=Gn.mb y ty:=by unfold Gn.dZ;rw[ew];rfl
       have eO:Hid (Gn.digRun tx ty false (Gn.dh (x) (Gn.mb y ty) tx ty) (Gn.bG st q0) (x) (Gn.mb y ty)=PR):=by
        have h:=uh jg;rw[Gn.n9 (c:=q0) (uh ow) (uh LX),eX,eY]at h;exact h
       have nO:(1<=(x)/\(x)<=22)/\1<=(Gn.mb y ty)/\(Gn.mb y ty)<=14:=by
        have h:=Gn.iT x y tx ty false ⟨⟨e1,e2⟩,e3,e4⟩ ⟨⟨a5,a6⟩,a7,a8⟩;rw[eX,eY]at h;exact h
       have jz:Gn.dh (x) (Gn.mb y ty) tx ty+1=Gn.dh x y tx ty:=by
        have h:=Gn.cJ x y tx ty false (uh ow);rw[eX,eY]at h;exact h
       obtain⟨z,hz⟩:∃z,z=Gn.mb y ty:=⟨_,rfl⟩;rw[<-hz]at eO nO jz;have wU:=l4 y ty wr (uh P5) (by omega) (by omega);rw[<-hz]at wU;have rL:=aa wU;obtain⟨c1,kx⟩:∃c1:Nat,z*24+x=(c1:Int):=⟨(z*24+x).toNat,by omega⟩;have wS:=aa (kh G (Gn.bG st q0) x z c1 wr (uh se).cells (Gn.gJ (uh PT)) nO kx);rw[<-uh N3]at wS;have vt:=aa kx;have nR:=aa jz;obtain⟨⟨g1,g2⟩,g3,g4⟩:=nO;clear eX eY ew hz wU kx jz;go_wp2_with fail;refine abW (uh rL) ?_;go_wp2_with fail;refine(uh wS).mono ?_;rintro e wy ⟨rfl,KG,qK⟩;have uZ:=aa ((uh se).Vs KG qK);clear KG qK wS rL se;go_wp2;go_roundw
       case rel=>exact⟨x,z,Gn.bG st q0,c1,rfl,rfl,rfl,⟨⟨g1,g2⟩,g3,g4⟩,uh vt,Gn.gJ (uh PT),uh eO,uh uZ⟩
       case measure=>have:=uh nR;simp[intOf];omega
    ·have ow:Hid (¬(x=tx/\y=ty)):=fun h=>hx h.1;have K8:(x !=tx)=true:=by simpa using hx
     have gM:=aa hx;clear hx;cases first with
     | true =>
      have P5:Hid (x≠tx):=gM;have ew:Gn.bh x y tx ty true=true:=by unfold Gn.bh;rw[K8,Bool.true_and,Bool.or_true]
      have eX:Gn.dY x y tx ty true=Gn.mb x tx:=by unfold Gn.dY;rw[ew];rfl
      have eY:Gn.dZ x y tx ty true=y:=by unfold Gn.dZ;rw[ew];rfl
      have eO:Hid (Gn.digRun tx ty true (Gn.dh (Gn.mb x tx) (y) tx ty) (Gn.bG st q0) (Gn.mb x tx) (y)=PR):=by
       have h:=uh jg;rw[Gn.n9 (c:=q0) (uh ow) (uh LX),eX,eY]at h;exact h
      have nO:(1<=(Gn.mb x tx)/\(Gn.mb x tx)<=22)/\1<=(y)/\(y)<=14:=by
       have h:=Gn.iT x y tx ty true ⟨⟨e1,e2⟩,e3,e4⟩ ⟨⟨a5,a6⟩,a7,a8⟩;rw[eX,eY]at h;exact h
      have jz:Gn.dh (Gn.mb x tx) (y) tx ty+1=Gn.dh x y tx ty:=by
       have h:=Gn.cJ x y tx ty true (uh ow);rw[eX,eY]at h;exact h
      obtain⟨z,hz⟩:∃z,z=Gn.mb x tx:=⟨_,rfl⟩;rw[<-hz]at eO nO jz;have wU:=l4 x tx wr (uh P5) (by omega) (by omega);rw[<-hz]at wU;have rL:=aa wU;obtain⟨c1,kx⟩:∃c1:Nat,y*24+z=(c1:Int):=⟨(y*24+z).toNat,by omega⟩;have wS:=aa (kh G (Gn.bG st q0) z y c1 wr (uh se).cells (Gn.gJ (uh PT)) nO kx);rw[<-uh N3]at wS;have vt:=aa kx;have nR:=aa jz;obtain⟨⟨g1,g2⟩,g3,g4⟩:=nO;clear eX eY ew hz wU kx jz;go_wp2_with fail;refine abW (uh rL) ?_;go_wp2_with fail;refine(uh wS).mono ?_;rintro e wy ⟨rfl,KG,qK⟩;have uZ:=aa ((uh se).Vs KG qK);clear KG qK wS rL se;go_wp2;go_roundw
      case rel=>exact⟨z,y,Gn.bG st q0,c1,rfl,rfl,rfl,⟨⟨g1,g2⟩,g3,g4⟩,uh vt,Gn.gJ (uh PT),uh eO,uh uZ⟩
      case measure=>have:=uh nR;simp[intOf];omega
     | false =>
      by_cases hy:y=ty
      ·have P5:Hid (x≠tx):=gM;have VN:(y==ty)=true:=by simpa using hy
       clear hy;have ew:Gn.bh x y tx ty false=true:=by unfold Gn.bh;rw[VN];rfl
       have eX:Gn.dY x y tx ty false=Gn.mb x tx:=by unfold Gn.dY;rw[ew];rfl
       have eY:Gn.dZ x y tx ty false=y:=by unfold Gn.dZ;rw[ew];rfl
       have eO:Hid (Gn.digRun tx ty false (Gn.dh (Gn.mb x tx) (y) tx ty) (Gn.bG st q0) (Gn.mb x tx) (y)=PR):=by
        have h:=uh jg;rw[Gn.n9 (c:=q0) (uh ow) (uh LX),eX,eY]at h;exact h
       have nO:(1<=(Gn.mb x tx)/\(Gn.mb x tx)<=22)/\1<=(y)/\(y)<=14:=by
        have h:=Gn.iT x y tx ty false ⟨⟨e1,e2⟩,e3,e4⟩ ⟨⟨a5,a6⟩,a7,a8⟩;rw[eX,eY]at h;exact h
       have jz:Gn.dh (Gn.mb x tx) (y) tx ty+1=Gn.dh x y tx ty:=by
        have h:=Gn.cJ x y tx ty false (uh ow);rw[eX,eY]at h;exact h
       obtain⟨z,hz⟩:∃z,z=Gn.mb x tx:=⟨_,rfl⟩;rw[<-hz]at eO nO jz;have wU:=l4 x tx wr (uh P5) (by omega) (by omega);rw[<-hz]at wU;have rL:=aa wU;obtain⟨c1,kx⟩:∃c1:Nat,y*24+z=(c1:Int):=⟨(y*24+z).toNat,by omega⟩;have wS:=aa (kh G (Gn.bG st q0) z y c1 wr (uh se).cells (Gn.gJ (uh PT)) nO kx);rw[<-uh N3]at wS;have vt:=aa kx;have nR:=aa jz;obtain⟨⟨g1,g2⟩,g3,g4⟩:=nO;clear eX eY ew hz wU kx jz;go_wp2_with fail;refine abW (uh rL) ?_;go_wp2_with fail;refine(uh wS).mono ?_;rintro e wy ⟨rfl,KG,qK⟩;have uZ:=aa ((uh se).Vs KG qK);clear KG qK wS rL se;go_wp2;go_roundw
       case rel=>exact⟨z,y,Gn.bG st q0,c1,rfl,rfl,rfl,⟨⟨g1,g2⟩,g3,g4⟩,uh vt,Gn.gJ (uh PT),uh eO,uh uZ⟩
       case measure=>have:=uh nR;simp[intOf];omega
      ·have P5:Hid (y≠ty):=hy;have VN:(y==ty)=false:=by simpa using hy
       clear hy;have ew:Gn.bh x y tx ty false=false:=by unfold Gn.bh;rw[VN];rfl
       have eX:Gn.dY x y tx ty false=x:=by unfold Gn.dY;rw[ew];rfl
       have eY:Gn.dZ x y tx ty false=Gn.mb y ty:=by unfold Gn.dZ;rw[ew];rfl
       have eO:Hid (Gn.digRun tx ty false (Gn.dh (x) (Gn.mb y ty) tx ty) (Gn.bG st q0) (x) (Gn.mb y ty)=PR):=by
        have h:=uh jg;rw[Gn.n9 (c:=q0) (uh ow) (uh LX),eX,eY]at h;exact h
       have nO:(1<=(x)/\(x)<=22)/\1<=(Gn.mb y ty)/\(Gn.mb y ty)<=14:=by
        have h:=Gn.iT x y tx ty false ⟨⟨e1,e2⟩,e3,e4⟩ ⟨⟨a5,a6⟩,a7,a8⟩;rw[eX,eY]at h;exact h
       have jz:Gn.dh (x) (Gn.mb y ty) tx ty+1=Gn.dh x y tx ty:=by
        have h:=Gn.cJ x y tx ty false (uh ow);rw[eX,eY]at h;exact h
       obtain⟨z,hz⟩:∃z,z=Gn.mb y ty:=⟨_,rfl⟩;rw[<-hz]at eO nO jz;have wU:=l4 y ty wr (uh P5) (by omega) (by omega);rw[<-hz]at wU;have rL:=aa wU;obtain⟨c1,kx⟩:∃c1:Nat,z*24+x=(c1:Int):=⟨(z*24+x).toNat,by omega⟩;have wS:=aa (kh G (Gn.bG st q0) x z c1 wr (uh se).cells (Gn.gJ (uh PT)) nO kx);rw[<-uh N3]at wS;have vt:=aa kx;have nR:=aa jz;obtain⟨⟨g1,g2⟩,g3,g4⟩:=nO;clear eX eY ew hz wU kx jz;go_wp2_with fail;refine abW (uh rL) ?_;go_wp2_with fail;refine(uh wS).mono ?_;rintro e wy ⟨rfl,KG,qK⟩;have uZ:=aa ((uh se).Vs KG qK);clear KG qK wS rL se;go_wp2;go_roundw
       case rel=>exact⟨x,z,Gn.bG st q0,c1,rfl,rfl,rfl,⟨⟨g1,g2⟩,g3,g4⟩,uh vt,Gn.gJ (uh PT),uh eO,uh uZ⟩
       case measure=>have:=uh nR;simp[intOf];omega
  ·have hge:¬(j:Int)<6:=by omega
   obtain rfl:k=5:=by omega
   clear hk hlt hj;go_wp2_with fail;exact uh pB _ _ (J3 s f d (uh jL) (uh kb) QN QO w B G X Y wr (uh se).cells (uh se).xs (uh se).ys (uh se).bl (uh se).grown (uh se).o0 (uh se).o1)
variable{B G X Y k:Nat}{c:N1}{w wr:World}
structure fs(w:World)(B G X Y:Nat)(d:Gn.aY)(k:Nat)(c:N1)(wr:World):Prop where
 cells:ax wr G 5 384 (aZ c)
 xs:ax wr X 89 6 (fun j=>.int .i64 (if j<k then Gn.mx d j else 0))
 ys:ax wr Y 89 6 (fun j=>.int .i64 (if j<k then Gn.my d j else 0))
 bl:ax wr B 58 3 (fun _=>.slice none 0 0)
 grown:w.grownBy wr none
 o0:w.heap.size<=B
 o1:B<G
 o2:G<X
 o3:X<Y
theorem fs.on{d:Gn.aY}{wx:World}(h:fs w B G X Y d k c wr)(hg:wr.grownBy wx none):fs w B G X Y d k c wx :=
 ⟨h.cells.grown hg (by simp),h.xs.grown hg (by simp),h.ys.grown hg (by simp),h.bl.grown hg (by simp),cO h.grown hg,h.o0,h.o1,h.o2,h.o3⟩
theorem fs.congr{d:Gn.aY}{c':N1}(h:fs w B G X Y d k c wr)(he:∀i,c i=c' i):fs w B G X Y d k c' wr:=by
 obtain rfl:c=c':=funext he;exact h
theorem fs.put{d:Gn.aY}(h:fs w B G X Y d k c wr)(i:Nat)(v:Int):fs w B G X Y d k (Gr.dj c i v) (wr.setCell ⟨G,i,none⟩ (.int .u8 v)):=by
 have h0:=h.o0;have h1:=h.o1;have h2:=h.o2;have h3:=h.o3;have hg:=gpt wr G i (.int .u8 v);exact⟨h.cells.w9 i v,h.xs.grown hg (by simp;omega),h.ys.grown hg (by simp;omega),h.bl.grown hg (by simp;omega),gow h.grown hg (fun n e=>by cases e;omega),h0,h1,h2,h3⟩
theorem fs.next{d:Gn.aY}(h:fs w B G X Y d k c wr)(u v:Int)(hu:u=Gn.mx d k)(hv:v=Gn.my d k):fs w B G X Y d (k+1) c ((wr.setCell ⟨X,k,none⟩ (.int .i64 u)).setCell ⟨Y,k,none⟩ (.int .i64 v)):=by
 have h0:=h.o0;have h1:=h.o1;have h2:=h.o2;have h3:=h.o3;have g1:=gpt wr X k (.int .i64 u);have g2:=gpt (wr.setCell ⟨X,k,none⟩ (.int .i64 u)) Y k (.int .i64 v);refine⟨(h.cells.grown g1 (by simp;omega)).grown g2 (by simp;omega),((h.xs.store k (.int .i64 u)).grown g2 (by simp;omega)).congr fun j _=>mX hu j,((h.ys.grown g1 (by simp;omega)).store k (.int .i64 v)).congr fun j _=>mX hv j,(h.bl.grown g1 (by simp;omega)).grown g2 (by simp;omega),gow (gow h.grown g1 (fun n e=>by cases e;omega)) g2 (fun n e=>by cases e;omega),h0,h1,h2,h3⟩
theorem Ic(s f:Int)(d:Gn.aY)(hd:∀a b n,Gn.D s f a b n=d a b n)(qn:Gn.gL d)(QN:1<=f)(QO:f<=3)(w:World):Calls prog 26 #[.int .i64 s,.int .i64 f] w (qN w d f):=by
 obtain⟨i0,hi,dJ,dz,ed⟩:=info_parts kX;have jL:=aa hd;have iU:=aa qn;clear hd qn;go_enter func26,ntmps26;go_wp2_with (at_make;refine wpList_make_full _ rfl _ _ 25 rfl (w.heap.size+1) 5 i0 (.int .u8 0) 1 underlying25 hi dJ dz .i64 .i64 _ _ 384 rfl rfl rfl rfl ?q3 ?q4 ?q5 ?_)
 any_goals (first| (rw[ed];decide)|decide|(simp;done))
 intro w2 aH az;have dF:ax w2 (w.heap.size+1) 5 384 (aZ fun _=>0):=ax.zero aH;have zv:ax w2 w.heap.size 58 3 (fun _=>.slice none 0 0):=by
  have h:ax (w.alloc (.cells #[.slice none 0 0,.slice none 0 0,.slice none 0 0] 58)) w.heap.size 58 3 (fun _=>.slice none 0 0):=by
   refine⟨_,abH _ _,rfl,fun j hj=>?_⟩;rcases(show j=0\/j=1\/j=2 by omega)with rfl|rfl|rfl <;> rfl
  exact h.grown az (by simp)
 have hg2:w.grownBy w2 none:=cO (abE _ _ _) az;have rp:=dF.lt;have kN:Hid (fs w w.heap.size (w.heap.size+1) w2.heap.size (w2.heap.size+1) d 0 (Gn.roomed d 0) ((w2.alloc (.cells #[.int .i64 0,.int .i64 0,.int .i64 0,.int .i64 0,.int .i64 0,.int .i64 0] 89)).alloc (.cells #[.int .i64 0,.int .i64 0,.int .i64 0,.int .i64 0,.int .i64 0,.int .i64 0] 89))):=by
  have hz:∀(u:World)(F:N1),ax (u.alloc (.cells #[.int .i64 0,.int .i64 0,.int .i64 0,.int .i64 0,.int .i64 0,.int .i64 0] 89)) u.heap.size 89 6 (fun j=>.int .i64 (if j<0 then F j else 0)):=fun u F=>by
   refine⟨_,abH _ _,rfl,fun j hj=>?_⟩;rcases(show j=0\/j=1\/j=2\/j=3\/j=4\/j=5 by omega)with rfl|rfl|rfl|rfl|rfl|rfl <;> rfl
  refine⟨(dF.alloc _).alloc _,(hz w2 (Gn.mx d)).alloc _,?_,(zv.alloc _).alloc _,gal (gal hg2 _) _,abL _,Nat.lt_succ_self _,rp,Nat.lt_succ_self _⟩;have h:=hz (w2.alloc (.cells #[.int .i64 0,.int .i64 0,.int .i64 0,.int .i64 0,.int .i64 0,.int .i64 0] 89)) (Gn.my d)
  simpa using h
 obtain⟨B,hB⟩:∃B,B=w.heap.size:=⟨_,rfl⟩;obtain⟨G,hG⟩:∃G,G=w.heap.size+1:=⟨_,rfl⟩;obtain⟨X,hX⟩:∃X,X=w2.heap.size:=⟨_,rfl⟩;obtain⟨Y,hY⟩:∃Y,Y=w2.heap.size+1:=⟨_,rfl⟩;rw[<-hG,<-hB,<-hX]at kN;clear aH az dF zv hg2 rp hi dJ dz ed;rw[<-hG,<-hB];go_upto_region 3 with fail;rw[<-hX];have hY2:Y=X+1:=by rw[hY,hX]
 rw[<-hY2]at kN|-;obtain⟨w3,nT⟩:∃w3,w3=(w2.alloc (.cells #[.int .i64 0,.int .i64 0,.int .i64 0,.int .i64 0,.int .i64 0,.int .i64 0] 89)).alloc (.cells #[.int .i64 0,.int .i64 0,.int .i64 0,.int .i64 0,.int .i64 0,.int .i64 0] 89):=⟨_,rfl⟩;rw[<-nT]at kN|-;clear nT hX hY hY2 hG hB;clear w2;rename_i K1 h1 K2 h2;have pB:=aa h1;clear h1;go_wp2_with fail;go_loopw [8] (fun i wr=>∃k:Nat,k<=6/\i=.int .i64 k/\fs w B G X Y d k (Gn.roomed d k) wr) (fun i _=>6-(intOf i).toNat)
 case atStart=>exact⟨0,by omega,rfl,uh kN⟩
 case round =>
  clear kN;clear w3;obtain⟨k,hk,rfl,hH⟩:=hrel;have dp:=aa hH;clear hH;by_cases hlt:k<6
  ·have hlt':(k:Int)<6:=by omega
   have HL:=aa hlt;clear hlt hk;obtain⟨A0,hA0⟩:∃x,x=d k 0 5:=⟨_,rfl⟩;obtain⟨A1,GA⟩:∃x,x=d k 1 4:=⟨_,rfl⟩;obtain⟨A2,dF⟩:∃x,x=d k 2 (23-(3+A0)):=⟨_,rfl⟩;obtain⟨A3,fa⟩:∃x,x=d k 3 (15-(2+A1)):=⟨_,rfl⟩;obtain⟨a1,a2⟩:0<=A0/\A0<5:=by rw[hA0];exact uh iU _ _ _ (by omega)
   obtain⟨a3,a4⟩:0<=A1/\A1<4:=by rw[GA];exact uh iU _ _ _ (by omega)
   obtain⟨a5,a6⟩:0<=A2/\A2<23-(3+A0):=by rw[dF];exact uh iU _ _ _ (by omega)
   obtain⟨a7,a8⟩:0<=A3/\A3<15-(2+A1):=by rw[fa];exact uh iU _ _ _ (by omega)
   have c0:Hid (∀x,Calls prog 59 #[.int .i64 s,.int .i64 f,.int .i64 k,.int .i64 0,.int .i64 5] x (aJ x (.int .i64 A0))):=fun x=>by
    have h:=iN s f k 0 5 x (by omega);rw[uh jL,<-hA0]at h;exact h
   have c1:Hid (∀x,Calls prog 59 #[.int .i64 s,.int .i64 f,.int .i64 k,.int .i64 1,.int .i64 4] x (aJ x (.int .i64 A1))):=fun x=>by
    have h:=iN s f k 1 4 x (by omega);rw[uh jL,<-GA]at h;exact h
   have c2:Hid (∀x,Calls prog 59 #[.int .i64 s,.int .i64 f,.int .i64 k,.int .i64 2,.int .i64 (23-(3+A0))] x (aJ x (.int .i64 A2))):=fun x=>by
    have h:=iN s f k 2 (23-(3+A0)) x (by omega);rw[uh jL,<-dF]at h;exact h
   have c3:Hid (∀x,Calls prog 59 #[.int .i64 s,.int .i64 f,.int .i64 k,.int .i64 3,.int .i64 (15-(2+A1))] x (aJ x (.int .i64 A3))):=fun x=>by
    have h:=iN s f k 3 (15-(2+A1)) x (by omega);rw[uh jL,<-fa]at h;exact h
   have e0:=aa hA0;have e1:=aa GA;have e2:=aa dF;have e3:=aa fa;clear hA0 GA dF fa;go_wp2_with fail;refine aaR (uh c0 _) fun wa hga=>?_;have zr:=aa ((uh dp).on hga);clear hga dp;go_wp2_with fail;refine aaR (uh c1 _) fun wb tZ=>?_;have KK:=aa ((uh zr).on tZ);clear tZ zr;go_wp2_with fail;refine aaR (uh c2 _) fun wc MY=>?_;have sg:=aa ((uh KK).on MY);clear MY KK;go_wp2_with fail;refine aaR (uh c3 _) fun wd hgd=>?_;have KL:=aa ((uh sg).on hgd);clear hgd sg c0 c1 c2 c3;clear wa wb wc;go_wp2_with fail;have aK:=aa ((uh KL).congr (c':=Gn.cH (Gn.roomed d k) (1+A2) (1+A3) (3+A0) (2+A1) (1+A3) (1+A2)) fun j=>by rw[Gn.tK]);go_loopw [13] (fun i wr=>∃r:Int,1+A3<=r/\r<=1+A3+(2+A1)/\i=.int .i64 r/\fs w B G X Y d k (Gn.cH (Gn.roomed d k) (1+A2) (1+A3) (3+A0) (2+A1) r (1+A2)) wr) (fun i _=>(1+A3+(2+A1)-intOf i).toNat)
   case atStart=>exact⟨1+A3,by omega,by omega,rfl,uh aK⟩
   case round =>
    clear aK KL;obtain⟨r,Re,pk,rfl,hH⟩:=hrel;have eV:=aa hH;clear hH;by_cases hr:r<1+A3+(2+A1)
    ·go_wp2_with fail;go_loopw [14] (fun i wr=>∃q:Int,1+A2<=q/\q<=1+A2+(3+A0)/\i=.int .i64 q/\fs w B G X Y d k (Gn.cH (Gn.roomed d k) (1+A2) (1+A3) (3+A0) (2+A1) r q) wr) (fun i _=>(1+A2+(3+A0)-intOf i).toNat)
     case atStart=>exact⟨1+A2,by omega,by omega,rfl,uh eV⟩
     case round =>
      obtain⟨q,FX,FY,rfl,hH⟩:=hrel;clear eV;have eV:=aa hH;clear hH;by_cases hq:q<1+A2+(3+A0)
      ·obtain⟨c,hc⟩:∃c:Nat,r*24+q=(c:Int):=⟨(r*24+q).toNat,by omega⟩;have iu:c<384:=(by omega);have ya:=(uh eV).cells.cell iu;have Z9:=(uh eV).cells.free c;have dm:=aa (((uh eV).put c 1).congr (c':=Gn.cH (Gn.roomed d k) (1+A2) (1+A3) (3+A0) (2+A1) r (q+1)) fun j=>Gn.yv (Gn.roomed d k) (1+A2) (1+A3) (3+A0) (2+A1) r q c FX (by omega) Re (by omega) (by omega) (by omega) hc j);have oS:(c:Int)<384:=(by omega);clear eV;go_wp2;go_roundw
       case rel=>exact⟨q+1,by omega,by omega,by go_num,uh dm⟩
       case measure=>simp[intOf];omega
      ·have Xt:q=1+A2+(3+A0):=(by omega);have bZ:=aa ((uh eV).congr (c':=Gn.cH (Gn.roomed d k) (1+A2) (1+A3) (3+A0) (2+A1) (r+1) (1+A2)) fun j=>by rw[Xt,Gn.yw]);clear Xt eV;go_wp2;go_roundw
       case rel=>exact⟨r+1,by omega,by omega,by go_num,uh bZ⟩
       case measure=>simp[intOf];omega
    ·have Xw:r=1+A3+(2+A1):=(by omega);have Rh:Gn.rw d k=3+A0:=by rw[uh e0];rfl
     have Rg:Gn.rh d k=2+A1:=by rw[uh e1];rfl
     have UY:Gn.rx d k=1+A2:=by unfold Gn.rx;rw[Rh,<-uh e2]
     have UZ:Gn.ry d k=1+A3:=by unfold Gn.ry;rw[Rg,<-uh e3]
     have hmx:1+A2+(3+A0)/2=Gn.mx d k:=by unfold Gn.mx;rw[Rh,UY]
     have SS:1+A3+(2+A1)/2=Gn.my d k:=by unfold Gn.my;rw[Rg,UZ]
     have ol:=aa ((uh eV).congr (c':=Gn.roomed d (k+1)) fun j=>by rw[Gn.roomed,Gn.Hz,Rh,Rg,UY,UZ,Xw]);have hk6:=uh HL;have q1:=(uh eV).xs.cell hk6;have q2:=(uh eV).ys.cell hk6;have q3:=(uh eV).xs.free k;have q4:=(uh eV).ys.free k;have UC:=aa hmx;have UD:=aa SS;have tB:=(uh eV).o3;clear Xw Rh Rg UY UZ hmx SS eV hk6;go_wp2;go_roundw
     case rel=>exact⟨k+1,by have:=uh HL;omega,by go_num,(uh ol).next _ _ (uh UC) (uh UD)⟩
     case measure=>have:=uh HL;simp[intOf];omega
  ·have hge:¬(k:Int)<6:=by omega
   obtain rfl:k=6:=by omega
   have hC:Hid (jT w B G X Y d (Gn.ks d 0) wr):=by
    have h:=uh dp;refine⟨h.cells,h.xs.congr fun j hj=>?_,h.ys.congr fun j hj=>?_,h.bl,h.grown,h.o0,h.o1,h.o2,h.o3⟩
    ·rw[abP hj]
    ·rw[abP hj]
   clear hk hlt;go_wp2_with fail;exact uh pB _ _ (Po s f d (uh jL) (uh iU) QN QO w B G X Y wr (uh hC))
def Gd.PB(c:N1):ByteArray:=strOfNums ((List.range 384).map c)
theorem ay.PB{w:World}{G aG:Nat}{c:N1}(h:ay w G 5 384 (aZ c)):(convert 25 9 (.slice (some ⟨G,0,none⟩) 384 aG)).run prog w=.ok (.string (Gd.PB c)) w:=by
 refine run_convert_bytes_arg w 25 5 underlying25 underlying5 G 0 384 aG ((List.range 384).map c) (by simp) (fun i hi=>?_) 9 underlying9;rw[Nat.zero_add,h.cell hi];show some (Value.int .u8 (c i))=_;simp[List.getD,List.getElem?_map,List.getElem?_range hi]
theorem run_eq_gold(a b c d:Int)(w:World):(Op.equalIn 10000 28 (.agg #[.int .i64 a,.int .i64 b,.int .i64 c,.int .i64 d]) (.agg #[.int .i64 a,.int .i64 b,.int .i64 c,.int .i64 d])).run prog w=.ok true w:=by
 obtain⟨i0,hi,_,_,_⟩:=info_parts gX;have hc:prog.cellsOf 3=1:=by kernel_rfl
 have h:=run_equalIn_array (P:=prog) (w:=w) 9999 #[.int .i64 a,.int .i64 b,.int .i64 c,.int .i64 d] #[.int .i64 a,.int .i64 b,.int .i64 c,.int .i64 d] underlying28 hi;have hr:(Op.eqItems 9999 3 (prog.cellsOf 3) #[Value.int .i64 a,.int .i64 b,.int .i64 c,.int .i64 d] #[.int .i64 a,.int .i64 b,.int .i64 c,.int .i64 d] (List.range 4)).run prog w=.ok true w:=by
  rw[hc];simp[List.range,List.range.loop,Op.eqItems,go_sem]
 rw[hr]at h;exact h
theorem pw(s g c:N1)(E I:N2)(gC gE gI cC cE cI hC hE hI dC dE dI:Nat)(w:World)(hL:Gd.av w gC gE gI c E I)(hL2:Gd.av w hC hE hI c E I):Calls prog 12 #[.agg (Gd.world s gC gE gI cC cE cI g),.agg (Gd.world s hC hE hI dC dE dI g)] w (aJ w (.bool true)):=by
 obtain⟨W,hW⟩:∃W,W=(w.alloc (.cells (Gd.world s gC gE gI cC cE cI g) 30)).alloc (.cells (Gd.world s hC hE hI dC dE dI g) 30):=⟨_,rfl⟩;have hg:w.grownBy W none:=by rw[hW];exact gal (abE _ _ _) _
 have x1:ay W w.heap.size 30 11 (Gd.box s gC gE gI cC cE cI g):=by
  rw[hW];exact((ax.world (abH w _)).alloc _).lie
 have x2:ay W (w.heap.size+1) 30 11 (Gd.box s hC hE hI dC dE dI g):=by
  rw[hW];have h:=abH (w.alloc (.cells (Gd.world s gC gE gI cC cE cI g) 30)) (.cells (Gd.world s hC hE hI dC dE dI g) 30);rw[show(w.alloc (.cells (Gd.world s gC gE gI cC cE cI g) 30)).heap.size=w.heap.size+1 by simp]at h;exact(ax.world h).lie
 obtain⟨B,hB⟩:=abV w.heap.size;rw[hB]at x1 x2;have x1':=aa x1;have x2':=aa x2;have mr:=aa (hL.on hg);have LK:=aa (hL2.on hg);have nQ:=aa hg;have t1:=(uh mr).cells.PB (aG:=cC);have t2:=(uh LK).cells.PB (aG:=dC);obtain⟨T,hT⟩:∃T,T=Gd.PB c:=⟨_,rfl⟩;rw[<-hT]at t1 t2;obtain⟨a0,a1,a2,a3,a4,a5,a6,a7,a8,a9,Sh⟩:=x1.ae;obtain⟨b0,b1,b2,b3,b4,b5,b6,b7,b8,b9,b10⟩:=x2.ae;have dc:Hid (∀x,W.grownBy x none->(x.cell? ⟨B,5,none⟩=some (.slice (some ⟨gE,0,none⟩) 32 cE)/\x.cell? ⟨B,6,none⟩=some (.slice (some ⟨gI,0,none⟩) 40 cI)/\x.cell? ⟨B+1,5,none⟩=some (.slice (some ⟨hE,0,none⟩) 32 dE)/\x.cell? ⟨B+1,6,none⟩=some (.slice (some ⟨hI,0,none⟩) 40 dI))):=fun x h =>
  ⟨((uh x1').on h).ae.2.2.2.2.2.1,((uh x1').on h).ae.2.2.2.2.2.2.1,((uh x2').on h).ae.2.2.2.2.2.1,((uh x2').on h).ae.2.2.2.2.2.2.1⟩
 have W2:=fun wx=>run_eq_gold (g 0) (g 1) (g 2) (g 3) wx;clear hL hL2 hg hT x1 x2;unfold Gd.world at hW|-;go_enter func12,ntmps12;go_upto_region 1 with fail;rw[<-hW];clear hW hB;go_wp2_with fail;go_loopw [5] (fun vi wr=>∃k:Nat,k<=32/\vi=.int .i64 (k:Int)/\W.grownBy wr none) (fun vi _=>200-(intOf vi).toNat)
 case atStart=>exact⟨0,by omega,rfl,abF _ _⟩
 case round =>
  clear W2 t1 t2 a0 a1 a2 a3 a4 a5 a6 a7 a8 a9 Sh b0 b1 b2 b3 b4 b5 b6 b7 b8 b9 b10;obtain⟨k,hk,rfl,hgr⟩:=hrel;have bV:=aa hgr;obtain⟨k1,k2,k3,k4⟩:=uh dc wr hgr;clear hgr;by_cases hlt:k<32
  ·have hlt':(k:Int)<32:=by omega
   obtain⟨u0,u1,u2,u3,u4,u5,u6,u7,u8,u9,iO⟩:=((uh mr).on (uh bV)).own.ai.row hlt;obtain⟨s0,s1,s2,s3,s4,s5,s6,s7,s8,s9,s10⟩:=((uh LK).on (uh bV)).own.ai.row hlt;have fC:Hid (∀m,W.grownBy (wr.drewN m) none):=fun m=>gdw (uh bV) m;have HL:=aa hlt;clear hlt;go_wp2_with fail;go_quiet (fail);go_wp2;go_roundw
   case rel=>exact⟨k+1,by have:=uh HL;omega,by go_num,uh fC _⟩
   case measure=>simp[intOf];omega
  ·have hge:¬(k:Int)<32:=by omega
   clear hlt;go_wp2_with fail;go_loopw [6] (fun vi wr=>∃k:Nat,k<=40/\vi=.int .i64 (k:Int)/\W.grownBy wr none) (fun vi _=>200-(intOf vi).toNat)
   case atStart=>exact⟨0,by omega,rfl,uh bV⟩
   case round =>
    clear k1 k2 k3 k4 hge bV;obtain⟨k,hk,rfl,hgr⟩:=hrel;have bV:=aa hgr;obtain⟨k1,k2,k3,k4⟩:=uh dc wr hgr;clear hgr;by_cases hlt:k<40
    ·have hlt':(k:Int)<40:=(by omega);obtain⟨u0,u1,u2,u3⟩:=((uh mr).on (uh bV)).fo.row hlt;obtain⟨s0,s1,s2,s3⟩:=((uh LK).on (uh bV)).fo.row hlt;have fC:Hid (∀m,W.grownBy (wr.drewN m) none):=fun m=>gdw (uh bV) m;have HL:=aa hlt;clear hlt;go_wp2_with fail;go_quiet (fail);go_wp2;go_roundw
     case rel=>exact⟨k+1,by have:=uh HL;omega,by go_num,uh fC _⟩
     case measure=>simp[intOf];omega
    ·have hge:¬(k:Int)<40:=(by omega);have ah:=aa (gtr (uh nQ) (uh bV));go_wp2;go_ret;exact⟨rfl,uh ah⟩
