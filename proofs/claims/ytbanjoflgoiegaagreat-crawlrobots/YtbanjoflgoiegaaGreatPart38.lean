import Derived.Test.YtbanjoflgoiegaaGreatPart35
import Derived.Test.YtbanjoflgoiegaaGreatPart34
import Derived.Test.YtbanjoflgoiegaaGreatPart29
set_option maxHeartbeats 12800000
set_option maxRecDepth 8000
namespace Go.Proofs.YtbanjoflgoiegaaGreat
open Go.Proofs.Tryz
open Go.RowKit
theorem Cr.Pp(a:Int):(a.tmod 16=0)↔(a%16=0):=⟨fun h=>Int.emod_eq_zero_of_dvd (Int.dvd_of_tmod_eq_zero h),fun h=>Int.tmod_eq_zero_of_dvd (Int.dvd_of_emod_eq_zero h)⟩
theorem Nw(v x:World)(P gC gE gI cC cE cI:Nat)(how inp:N1)(sp:Nat->Bool)(bK left:Bool)(s g c:N1)(E I:N2)(h:Cr.ik v x P gC gE gI cC cE cI how inp sp bK left s g c E I)(hS:Cr.bs c E I)(hF:Nv.iy c):Calls prog 32 #[.pointer (some ⟨P,0,none⟩)] x (Cr.tR v P how inp sp bK left s g c (Cr.iw s c (Ft.ailE E I 32).1) (Ft.ailE E I 32).2):=by
 have ct:=aa (xf s g c E I gC gE gI cC cE cI x h.ab hS.ly);have yb:=aa (hS.IT).kz.rl;obtain⟨F,Su⟩:=abV ((Ft.ailE E I 32).1);obtain⟨J,ZK⟩:=abV ((Ft.ailE E I 32).2);rw[Su,ZK]at ct;rw[Su]at yb;rw[Su,ZK];have tX:∀i,0<=c i/\c i<=255:=hS.ly.cells;obtain⟨u,hu,sL,-,-⟩:=Cr.l5 hF;have cf:Hid (∀z a k,il z.heap.size z a 384 (aZ c)->384<=k->Calls prog 78 #[.slice a 384 k,.int .i64 3] z fun e w'=>e=.returned (.int .i64 (u:Int))/\w'=z):=fun z a k hv hk=>by
  have:=qX z.heap.size a 384 k c 3 z hv tX hk
  rwa [sL]at this
 have hno:Hid (s 1%16≠0->Cr.iw s c F=F):=fun h=>(show Cr.iw s c F=F by unfold Cr.iw;rw[abO (fun hh=>h hh.1)])
 have gw:Hid (s 1%16=0->Cr.iw s c F=Cr.db F [Cr.bo 2 0 u]):=fun h=>(show Cr.iw s c F=Cr.db F [Cr.bo 2 0 u] by
  unfold Cr.iw;show _=if En.first (En.eM F (Cr.bo 2 0 u 3) (Cr.bo 2 0 u 4)) 32<0 then Cr.dX F (Cr.bo 2 0 u)else F
  rw[(Cr.eS 2 0 u).2.2.1,(Cr.eS 2 0 u).2.2.2.1,sL,abG];by_cases hh:En.first (En.eM F ((u:Int)%24) ((u:Int)/24)) 32<0
  ·rw[abP ⟨h,hh⟩,abP hh]
  ·rw[abO (fun a=>hh a.2),abO hh])
 have nj:Hid (Cr.bo 2 0 u=En.dj (En.dj (En.stats 2) 3 ((u:Int)%24)) 4 ((u:Int)/24)):=(show Cr.bo 2 0 u=_ by
  unfold Cr.bo
  rw[show En.dj (En.stats 2) 2 0=En.stats 2 from funext fun j=>by unfold En.dj;by_cases e:j=2;rw[abP e,e];rfl;rw[abO e]])
 have VL:Hid (1<=Cr.bo 2 0 u 0/\Cr.bo 2 0 u 0<=4):=(show 1<=Cr.bo 2 0 u 0/\Cr.bo 2 0 u 0<=4 by rw[(Cr.eS 2 0 u).1 (by omega) (by omega)];omega);obtain⟨o,ho⟩:=abV (Cr.bo 2 0 u);rw[ho]at gw nj VL;obtain⟨R,hR⟩:=abV (Cr.iw s c F);rw[hR]at hno gw|-;have Qc:=aa hu;have aat:(u:Int)≥0:=by omega
 have Rf:=aa (Cr.Pp (s 1));have ka:=aa h;obtain⟨b0,b1,b2,b3,b4,b5,b6,b7,b8,b9,b10⟩:=h.ae;clear h hS hF Su ZK tX sL hu ho hR;unfold Gd.world at ct;go_enter func32,ntmps32;go_wp2_with fail;refine(uh ct).mono ?_;rintro e w4 ⟨jC,jE,jI,dC,dE,dI,rfl,ap,l1,l2,l3,n1,n2,n3,hL,hg⟩;have hX:Hid (Cr.ik v (((((((((((w4.setCell ⟨P,0,none⟩ (.int .i64 (s 0))).setCell ⟨P,1,none⟩ (.int .i64 (s 1))).setCell ⟨P,2,none⟩ (.int .i64 (s 2))).setCell ⟨P,3,none⟩ (.int .i64 (s 3))).setCell ⟨P,4,none⟩ (.slice (some ⟨jC,0,none⟩) 384 dC)).setCell ⟨P,5,none⟩ (.slice (some ⟨jE,0,none⟩) 32 dE)).setCell ⟨P,6,none⟩ (.slice (some ⟨jI,0,none⟩) 40 dI)).setCell ⟨P,7,none⟩ (.int .i64 (g 0))).setCell ⟨P,8,none⟩ (.int .i64 (g 1))).setCell ⟨P,9,none⟩ (.int .i64 (g 2))).setCell ⟨P,10,none⟩ (.int .i64 (g 3))) P jC jE jI dC dE dI how inp sp bK left s g c F J):=(uh ka).over (s':=s) (g':=g) (dI:=dI) ap l1 l2 l3 n1 n2 n3 hL hg;obtain⟨y0,y1,y2,y3,y4,y5,y6,y7,y8,y9,y10⟩:=((uh ka).on hg).ae;have fB:=((uh ka).on hg).box.free;clear ap l1 l2 l3 n1 n2 n3 hL hg ct b0 b1 b2 b3 b4 b5 b6 b7 b8 b9 b10 ka;unfold Gd.world;go_upto_region 1 with fail;generalize (((((((((((w4.setCell ⟨P,0,none⟩ (.int .i64 (s 0))).setCell ⟨P,1,none⟩ (.int .i64 (s 1))).setCell ⟨P,2,none⟩ (.int .i64 (s 2))).setCell ⟨P,3,none⟩ (.int .i64 (s 3))).setCell ⟨P,4,none⟩ (.slice (some ⟨jC,0,none⟩) 384 dC)).setCell ⟨P,5,none⟩ (.slice (some ⟨jE,0,none⟩) 32 dE)).setCell ⟨P,6,none⟩ (.slice (some ⟨jI,0,none⟩) 40 dI)).setCell ⟨P,7,none⟩ (.int .i64 (g 0))).setCell ⟨P,8,none⟩ (.int .i64 (g 1))).setCell ⟨P,9,none⟩ (.int .i64 (g 2))).setCell ⟨P,10,none⟩ (.int .i64 (g 3)))=w3 at hX|-;clear y0 y1 y2 y3 y4 y5 y6 y7 y8 y9 y10 fB;have b4:=(uh hX).ae.2.2.2.2.1;have b1:=(uh hX).ae.2.1;have Kr:=aa (uh cf w3 (some ⟨jC,0,none⟩) dC (uh hX).ab.lg (uh hX).aG.2);go_wp2_with fail;refine abW (uh Kr) ?_;clear cf Kr b4;by_cases KF:s 1%16=0
 ·obtain rfl:=uh gw KF;have e1:(s 1).tmod 16=0:=(uh Rf).2 KF;clear hno Rf;have zg:=aa (fun z=>kL 2 z);obtain⟨st,aK⟩:=abV (En.stats 2);rw[aK]at zg nj;have hkeep:Hid (∀x,w3.grownBy x none->x.cell? ⟨P,5,none⟩=some (.slice (some ⟨jE,0,none⟩) 32 dE)):=fun x hx=>((uh hX).on hx).ae.2.2.2.2.2.1;have cp:Hid (∀z,Calls prog 79 #[.agg #[.int .i64 (st 0),.int .i64 (st 1),.int .i64 (st 2),.int .i64 (st 3),.int .i64 (st 4),.int .i64 (st 5),.int .i64 (st 6),.int .i64 (st 7),.int .i64 (st 8),.int .i64 (st 9),.int .i64 (st 10)],.int .i64 (u:Int)] z (aJ z (.agg #[.int .i64 (o 0),.int .i64 (o 1),.int .i64 (o 2),.int .i64 (o 3),.int .i64 (o 4),.int .i64 (o 5),.int .i64 (o 6),.int .i64 (o 7),.int .i64 (o 8),.int .i64 (o 9),.int .i64 (o 10)]))):=fun z=>(show Calls prog 79 #[.agg (En.cells st),.int .i64 (u:Int)] z (aJ z (.agg (En.cells o))) by rw[uh nj];exact oM st u (uh Qc) z);have cj:Hid (∀z,w3.grownBy z none->∀a:Option Addr,Cr.F3 z a 1 [o]->Calls prog 54 #[.slice (some ⟨jE,0,none⟩) 32 dE,.slice a 1 1] z (Cr.pM z jE (Cr.db F [o]))):=fun z hz a hM=>oL jE dE 1 1 a F [o] z ((uh hX).on hz).ab.own (uh hX).aG.1 (uh yb) hM;have VE:=aa (gd1 (abF w3 none));unfold En.cells at zg;clear gw nj yb Qc aK;go_upto_region 3 with fail;clear b1 e1 KF aat;refine bH (h:=14) (S:=fun x=>x.cell? ⟨P,5,none⟩=some (.slice (some ⟨jE,0,none⟩) 32 dE)) (by kernel_rfl) ?_;have hS0:=uh hkeep _ (uh VE);refine wtk (i:=0) (v:=?_) [14] rfl (by kernel_rfl) (by kernel_rfl) (by kernel_rfl) (by kernel_rfl) (fun _ _ _ h=>h) hS0 (Or.inl ⟨by rfl,?_⟩) ?_;rotate_left
  ·intro x hSx
   try dsimp only at hSx
   go_simp
   try with_reducible rfl
  simp only[Act.put];refine wtk (i:=1) (v:=?_) [14] rfl (by kernel_rfl) (by kernel_rfl) (by kernel_rfl) (by kernel_rfl) (fun _ _ _ h=>h) hS0 (Or.inl ⟨by rfl,?_⟩) ?_;rotate_left
  ·intro x hSx
   try dsimp only at hSx
   go_simp
   try with_reducible rfl
  simp only[Act.put];refine wtk (i:=2) (v:=?_) [14] rfl (by kernel_rfl) (by kernel_rfl) (by kernel_rfl) (by kernel_rfl) (fun _ _ _ h=>h) hS0 (Or.inl ⟨by rfl,?_⟩) ?_;rotate_left
  ·intro x hSx
   try dsimp only at hSx
   go_simp
   try with_reducible rfl
  simp only[Act.put];refine wtk (i:=3) (v:=?_) [14] rfl (by kernel_rfl) (by kernel_rfl) (by kernel_rfl) (by kernel_rfl) (fun _ _ _ h=>h) hS0 (Or.inl ⟨by rfl,?_⟩) ?_;rotate_left
  ·intro x hSx
   try dsimp only at hSx
   go_simp
   try with_reducible rfl
  simp only[Act.put];refine wtk (i:=4) (v:=?_) [14] rfl (by kernel_rfl) (by kernel_rfl) (by kernel_rfl) (by kernel_rfl) (fun _ _ _ h=>h) hS0 (Or.inl ⟨by rfl,?_⟩) ?_;rotate_left
  ·intro x hSx
   try dsimp only at hSx
   go_simp
   try with_reducible rfl
  simp only[Act.put];refine wtk (i:=5) (v:=?_) [14] rfl (by kernel_rfl) (by kernel_rfl) (by kernel_rfl) (by kernel_rfl) (fun _ _ _ h=>h) hS0 (Or.inl ⟨by rfl,?_⟩) ?_;rotate_left
  ·intro x hSx
   try dsimp only at hSx
   go_simp
   try with_reducible rfl
  simp only[Act.put];refine wtk (i:=7) (v:=?_) [14] rfl (by kernel_rfl) (by kernel_rfl) (by kernel_rfl) (by kernel_rfl) (fun _ _ _ h=>h) hS0 (Or.inl ⟨by rfl,?_⟩) ?_;rotate_left
  ·intro x hSx
   try dsimp only at hSx
   go_simp
   try with_reducible rfl
  simp only[Act.put];refine wto (j:=6) (by kernel_rfl) rfl (fun K hK=>?_);go_simp;refine aaR (uh zg _) fun w4 hg4=>?_;have hG4:=aa (gtr (uh VE) hg4);have hS4:=uh hkeep _ (uh hG4);clear hg4 hS0
  try go_simp
  refine hK.out _ _ (fun _=>uh hkeep _ (uh hG4)) ?_;clear hK K;refine wto (j:=8) (by kernel_rfl) rfl (fun K hK=>?_);go_simp;refine aaR (uh cp _) fun w5 hg5=>?_;have hG5:=aa (gtr (uh hG4) hg5);have hS5:=uh hkeep _ (uh hG5);clear hg5 hS4
  try go_simp
  refine hK.out _ _ (fun _=>uh hkeep _ (uh hG5)) ?_;clear hK K;refine wto (j:=9) (by kernel_rfl) rfl (fun K hK=>?_);go_simp;have I8:Hid (w3.grownBy (w5.alloc (.cells #[.int .i64 (o 0),.int .i64 (o 1),.int .i64 (o 2),.int .i64 (o 3),.int .i64 (o 4),.int .i64 (o 5),.int .i64 (o 6),.int .i64 (o 7),.int .i64 (o 8),.int .i64 (o 9),.int .i64 (o 10)] 54)) none):=gal (uh hG5) _;have VA:=uh hkeep _ (uh I8);have hM:=aa (Cr.Hs w5 o (uh VL));clear hS5
  try go_simp
  refine hK.out _ _ (fun _=>uh hkeep _ (uh I8)) ?_;clear hK K;refine wto (j:=10) (by kernel_rfl) rfl (fun K hK=>?_);go_simp;refine(uh cj _ (uh I8) _ (uh hM)).mono ?_;rintro e0 w6 ⟨j6,d6,rfl,QY,W6,oh,qJ⟩;have Wp:=aa (gtr (uh I8) qJ);have IH:=uh hkeep _ (uh Wp);have aK:=aa ((uh hX).folk QY (W6.imp id (fun h=>abM (uh I8).size h)) oh (uh Wp));have f5:=((uh hX).on (uh Wp)).box.free;clear QY W6 oh qJ VA
  try go_simp
  refine hK.out _ _ (fun _=>uh hkeep _ (uh Wp)) ?_;clear hK K;refine wtk (i:=11) (v:=?_) [12,13,14] rfl (by kernel_rfl) (by kernel_rfl) (by kernel_rfl) (by kernel_rfl) (fun _ _ _ h=>h) IH (Or.inl ⟨by rfl,?_⟩) ?_;rotate_left
  ·intro x hSx
   try dsimp only at hSx
   go_simp
   try with_reducible rfl
  simp only[Act.put];refine wtk (i:=12) (v:=?_) [13,14] rfl (by kernel_rfl) (by kernel_rfl) (by kernel_rfl) (by kernel_rfl) (fun _ _ _ h=>h) IH (Or.inl ⟨by rfl,?_⟩) ?_;rotate_left
  ·intro x hSx
   try dsimp only at hSx
   go_simp
   try with_reducible rfl
  simp only[Act.put];refine wtk (i:=13) (v:=?_) [14] rfl (by kernel_rfl) (by kernel_rfl) (by kernel_rfl) (by kernel_rfl) (fun _ _ _ h=>h) IH (Or.inl ⟨by rfl,?_⟩) ?_;rotate_left
  ·intro x hSx
   try dsimp only at hSx
   go_simp
   try with_reducible rfl
  simp only[Act.put];refine wto (j:=14) (by kernel_rfl) rfl (fun K hK=>?_);go_simp;refine hK.out _ _ (fun hx=>absurd (hx.symm.trans (by kernel_rfl)) abT) ?_;clear hK K;refine cy (by kernel_rfl) ?_ _;clear hkeep cp cj zg IH hG4 hG5 I8 Wp hM;go_wp2
  go_end0
  exact⟨rfl,jC,j6,jI,dC,d6,dI,uh aK⟩
 ·obtain rfl:=uh hno KF;have e1:((s 1).tmod 16==0)=false:=by simp[uh Rf,KF]
  have e2:(s 1%16==0)=false:=by simpa using KF
  clear gw Rf nj VL;go_wp2
  go_end0
  exact⟨rfl,jC,jE,jI,dC,dE,dI,uh hX⟩
def Cr.VQ(v:World)(P:Nat)(how inp:N1)(sp:Nat->Bool)(bK left:Bool)(s g c:N1)(E I:N2)(e:Ending)(x:World):Prop :=
 ∃T,Cr.ft s g c E I bK left T/\Cr.tR v P how inp sp bK left T.s T.g T.c T.E T.I e x
theorem Nx(v x:World)(P gC gE gI cC cE cI:Nat)(how inp:N1)(sp:Nat->Bool)(bK left:Bool)(s g c:N1)(E I:N2)(h:Cr.ik v x P gC gE gI cC cE cI how inp sp bK left s g c E I)(hS:Cr.bs c E I)(f1:1<=s 2)(f3:s 2<=3):Calls prog 33 #[.pointer (some ⟨P,0,none⟩)] x (Cr.VQ v P how inp sp bK left s g c E I):=by
 have cc:=aa (pO gE cE E x h.ab.own hS.jR);have ka:=aa h;have NU:=aa hS;have b5:=h.ae.2.2.2.2.2.1;have GW:Hid (Cr.bn E=false->bK=true->Cr.ft s g c E I bK left ⟨Cr.bw s 3 2,g,c,E,I⟩):=fun h1 h2=>(show _ by unfold Cr.ft;rw[abP h1,abP h2]);have G4:Hid (Cr.bn E=false->bK=false->Cr.ft s g c E I bK left ⟨s,g,c,E,I⟩):=fun h1 h2=>(show _ by unfold Cr.ft;rw[abP h1,abO (by rw[h2];exact abT)]);have L6:Hid (Cr.bn E=true->left=true->s 2=3->Cr.ft s g c E I bK left ⟨Cr.bw s 3 1,g,c,E,I⟩):=fun h1 h2 h3=>(show _ by unfold Cr.ft;rw[abO (by rw[h1];exact Bool.false_ne_true.symm),abP h2,abP h3]);have nb:Hid (∀T,Cr.bn E=true->left=true->s 2≠3->Cr.Below s g E I T->Cr.ft s g c E I bK left T):=fun T h1 h2 h3 h4=>(show _ by unfold Cr.ft;rw[abO (by rw[h1];exact Bool.false_ne_true.symm),abP h2,abO h3];exact h4);have GO:Hid (Cr.bn E=true->left=false->Cr.ft s g c E I bK left ⟨s,g,c,E,I⟩):=fun h1 h2=>(show _ by unfold Cr.ft;rw[abO (by rw[h1];exact Bool.false_ne_true.symm),abO (by rw[h2];exact abT)]);obtain⟨mm,zN⟩:∃m,Cr.bn E=m:=⟨_,rfl⟩;rw[zN]at cc GW G4 L6 nb GO;have hw:=h.l8;clear h hS zN;cases mm
 ·clear L6 nb GO;cases bK
  ·have ah:=aa (uh G4 rfl rfl);clear GW G4;go_enter func33,ntmps33;go_wp2_with fail;refine aaR (uh cc) fun w1 hg1=>?_;have eN:=aa ((uh ka).on hg1);have q:=(uh eN).l8.1;clear hg1 cc b5 hw ka;go_wp2
   go_end0
   exact⟨_,uh ah,rfl,gC,gE,gI,cC,cE,cI,uh eN⟩
  ·have ah:=aa (uh GW rfl rfl);clear GW G4;go_enter func33,ntmps33;go_wp2_with fail;refine aaR (uh cc) fun w1 hg1=>?_;have eN:=aa ((uh ka).on hg1);have q:=(uh eN).l8.1;have b3:=(uh eN).ae.2.2.2.1;have fP:=(uh eN).box.free;have aK:=aa ((uh eN).bw 3 (by omega) 2);clear hg1 cc b5 hw ka eN;go_wp2
   go_end0
   exact⟨_,uh ah,rfl,gC,gE,gI,cC,cE,cI,uh aK⟩
 ·clear GW G4;cases left
  ·have ah:=aa (uh GO rfl rfl);clear L6 nb GO;go_enter func33,ntmps33;go_wp2_with fail;refine aaR (uh cc) fun w1 hg1=>?_;have eN:=aa ((uh ka).on hg1);have q:=(uh eN).l8.2;clear hg1 cc b5 hw ka;go_wp2
   go_end0
   exact⟨_,uh ah,rfl,gC,gE,gI,cC,cE,cI,uh eN⟩
  ·clear GO;by_cases h3:s 2=3
   ·have ah:=aa (uh L6 rfl rfl h3);have e3:(s 2==3)=true:=by simpa using h3
    clear L6 nb h3;go_enter func33,ntmps33;go_wp2_with fail;refine aaR (uh cc) fun w1 hg1=>?_;have eN:=aa ((uh ka).on hg1);have q:=(uh eN).l8.2;have b2:=(uh eN).ae.2.2.1;have b3:=(uh eN).ae.2.2.2.1;have fP:=(uh eN).box.free;have aK:=aa ((uh eN).bw 3 (by omega) 1);clear hg1 cc b5 hw ka eN;go_wp2
    go_end0
    exact⟨_,uh ah,rfl,gC,gE,gI,cC,cE,cI,uh aK⟩
   ·have ah:=aa (fun T=>uh nb T rfl rfl h3);have e3:(s 2==3)=false:=by simpa using h3
    have hf:=aa (show 0<=s 2/\s 2<=2 by omega);clear L6 nb h3 f1 f3;go_enter func33,ntmps33;go_wp2_with fail;refine aaR (uh cc) fun w1 hg1=>?_;have eN:=aa ((uh ka).on hg1);have q:=(uh eN).l8.2;obtain⟨b0,b1,b2,b3,b4,Y9,b6,b7,b8,b9,b10⟩:=(uh eN).ae;have ce:=aa (nK s g c E I (some ⟨gC,0,none⟩) 384 cC gE gI cE cI w1 (uh eN).ab.ai (uh eN).ab.aj (uh eN).aG.1 (uh eN).eI (uh NU) (uh hf).1 (uh hf).2);clear hg1 cc b5 hw ka;go_wp2_with fail;refine(uh ce).mono ?_;rintro e w4 ⟨T,hT,jC,jE,jI,dC,dE,dI,rfl,ap,l1,l2,l3,n1,n2,n3,hL,hg⟩;have hX:Hid (Cr.ik v (((((((((((w4.setCell ⟨P,0,none⟩ (.int .i64 (T.s 0))).setCell ⟨P,1,none⟩ (.int .i64 (T.s 1))).setCell ⟨P,2,none⟩ (.int .i64 (T.s 2))).setCell ⟨P,3,none⟩ (.int .i64 (T.s 3))).setCell ⟨P,4,none⟩ (.slice (some ⟨jC,0,none⟩) 384 dC)).setCell ⟨P,5,none⟩ (.slice (some ⟨jE,0,none⟩) 32 dE)).setCell ⟨P,6,none⟩ (.slice (some ⟨jI,0,none⟩) 40 dI)).setCell ⟨P,7,none⟩ (.int .i64 (T.g 0))).setCell ⟨P,8,none⟩ (.int .i64 (T.g 1))).setCell ⟨P,9,none⟩ (.int .i64 (T.g 2))).setCell ⟨P,10,none⟩ (.int .i64 (T.g 3))) P jC jE jI dC dE dI how inp sp bK true T.s T.g T.c T.E T.I):=(uh eN).over (s':=T.s) (g':=T.g) (dI:=dI) ap l1 l2 l3 n1 n2 n3 hL hg;obtain⟨y0,y1,y2,y3,y4,y5,y6,y7,y8,y9,y10⟩:=((uh eN).on hg).ae;have fB:=((uh eN).on hg).box.free;have WV:=aa (uh ah T hT);clear hT ap l1 l2 l3 n1 n2 n3 hL hg ce b0 b1 b2 b3 b4 Y9 b6 b7 b8 b9 b10 eN ah q;unfold Gd.world;go_wp2
    go_end0
    exact⟨T,uh WV,rfl,jC,jE,jI,dC,dE,dI,uh hX⟩
