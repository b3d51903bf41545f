import Derived.Test.YtbanjoflgoiegaaGreatPart29
import Derived.Test.YtbanjoflgoiegaaGreatPart35
import Derived.BigRegion
import Derived.Test.YtbanjoflgoiegaaGreatPart34
import Derived.Test.YtbanjoflgoiegaaGreatPart31
set_option maxHeartbeats 12800000
set_option maxRecDepth 8000
namespace Go.Proofs.YtbanjoflgoiegaaGreat
open Go.Proofs.Tryz
open Go.RowKit
theorem Fw(s g c:N1)(E I:N2)(gC gE gI cC cE cI:Nat)(f t:Int)(w:World)(hL:Gd.av w gC gE gI c E I)(hno:¬(Ft.bJ E f=true/\Ft.bJ E t=true)):Calls prog 86 #[.agg (Gd.world s gC gE gI cC cE cI g),.int .i64 f,.int .i64 t] w (Gd.cL w s g c E I):=by
 obtain⟨w0,aD,aF,aM,aN,eC⟩:=Gd.kr w gC gE gI cC cE cI s g;have hL1:=aa (hL.on aN);have qt:=aa aF;have pJ:=aa aM;have iR:=aa aN;have QB:=aa (fun x hx=>fl s g c E I gC gE gI cC cE cI f x hx);have Sl:=aa (fun x hx=>fl s g c E I gC gE gI cC cE cI t x hx);obtain⟨p,hp⟩:=abV (Ft.bJ E f);obtain⟨q,hq⟩:=abV (Ft.bJ E t);rw[hp,hq]at hno;rw[hp]at QB;rw[hq]at Sl;clear hL aF aM aN eC hp hq;unfold Gd.world at aD QB Sl|-;go_enter func86,ntmps86;go_upto_region 1 with fail;rw[<-aD];clear aD;obtain⟨B,hB⟩:=abV w.heap.size;rw[hB]at qt pJ|-;have eu:=aa hB;clear hB;cases p
 ·clear hno;obtain⟨b0,b1,b2,b3,b4,b5,b6,b7,b8,b9,b10⟩:=(uh qt).ae;go_wp2_with fail;refine aaR (uh QB _ (uh hL1)) fun w1 hg=>?_;have GK:=aa ((uh qt).on hg);have G0:=aa ((uh pJ).on hg);have hL2:=aa ((uh hL1).on hg);have GP:=aa (gtr (uh iR) hg);clear qt pJ hL1 iR hg b0 b1 b2 b3 b4 b5 b6 b7 b8 b9 b10;have qt:=aa (uh GK);have pJ:=aa (uh G0);have hL1:=aa (uh hL2);have iR:=aa (uh GP);clear GK G0 hL2 GP;obtain⟨b0,b1,b2,b3,b4,b5,b6,b7,b8,b9,b10⟩:=(uh qt).ae;have ca:=aa (du s g c E I gC gE gI cC cE cI w1 (uh hL1));unfold Gd.world at ca;go_wp2_with fail;refine(uh ca).mono ?_;rintro e w2 ⟨jC,jE,jI,dC,dE,dI,rfl,ap,l1,l2,l3,n1,n2,n3,hL2,hg2⟩;have fz:=((uh pJ).on hg2).free;obtain⟨z0,z1,z2,z3,z4,z5,z6,z7,z8,z9,bO⟩:=Gd.aq ((uh pJ).on hg2);have ah:Hid (∀vs,Gd.cL w s g c E I (.returned (.agg (Gd.world s jC jE jI dC dE dI g))) (w2.setCells (B+1) 0 vs)):=fun vs=>by
   have r:=gss (g:=B+1) vs 0 w2 (abF _ _);have hB:=uh eu;have hs:=(uh pJ).lt;have h0:=(uh iR).size;exact⟨jC,jE,jI,dC,dE,dI,rfl,ap,by omega,by omega,by omega,n1,n2,n3,⟨hL2.cells.grown r (by simp;omega),hL2.ai.grown r (by simp;omega),hL2.aj.grown r (by simp;omega)⟩,aA (by omega) _ 0 w2 (gtr (uh iR) hg2)⟩
  clear ap l1 l2 l3 n1 n2 n3 hL2 hg2 ca b0 b1 b2 b3 b4 b5 b6 b7 b8 b9 b10;unfold Gd.world;go_wp2;refine abN (v:=.agg (Gd.world s jC jE jI dC dE dI g)) (by simp[results,results86,go_sem,Gd.world,z0,z1,z2,z3,z4,z5,z6,z7,z8,z9,bO]) rfl ?_;exact uh ah [_,_,_,_,_,_,_,_,_,_,_]
 ·obtain rfl:q=false:=by
   cases q
   ·rfl
   ·exact absurd ⟨rfl,rfl⟩ hno
  clear hno;obtain⟨b0,b1,b2,b3,b4,b5,b6,b7,b8,b9,b10⟩:=(uh qt).ae;go_wp2_with fail;refine aaR (uh QB _ (uh hL1)) fun w1 hg=>?_;have GK:=aa ((uh qt).on hg);have G0:=aa ((uh pJ).on hg);have hL2:=aa ((uh hL1).on hg);have GP:=aa (gtr (uh iR) hg);clear qt pJ hL1 iR hg b0 b1 b2 b3 b4 b5 b6 b7 b8 b9 b10;have qt:=aa (uh GK);have pJ:=aa (uh G0);have hL1:=aa (uh hL2);have iR:=aa (uh GP);clear GK G0 hL2 GP;obtain⟨b0,b1,b2,b3,b4,b5,b6,b7,b8,b9,b10⟩:=(uh qt).ae;go_wp2_with fail;refine aaR (uh Sl _ (uh hL1)) fun w1 hg=>?_;have GK:=aa ((uh qt).on hg);have G0:=aa ((uh pJ).on hg);have hL2:=aa ((uh hL1).on hg);have GP:=aa (gtr (uh iR) hg);clear qt pJ hL1 iR hg b0 b1 b2 b3 b4 b5 b6 b7 b8 b9 b10;have qt:=aa (uh GK);have pJ:=aa (uh G0);have hL1:=aa (uh hL2);have iR:=aa (uh GP);clear GK G0 hL2 GP;obtain⟨b0,b1,b2,b3,b4,b5,b6,b7,b8,b9,b10⟩:=(uh qt).ae;have ca:=aa (du s g c E I gC gE gI cC cE cI w1 (uh hL1));unfold Gd.world at ca;go_wp2_with fail;refine(uh ca).mono ?_;rintro e w2 ⟨jC,jE,jI,dC,dE,dI,rfl,ap,l1,l2,l3,n1,n2,n3,hL2,hg2⟩;have fz:=((uh pJ).on hg2).free;obtain⟨z0,z1,z2,z3,z4,z5,z6,z7,z8,z9,bO⟩:=Gd.aq ((uh pJ).on hg2);have ah:Hid (∀vs,Gd.cL w s g c E I (.returned (.agg (Gd.world s jC jE jI dC dE dI g))) (w2.setCells (B+1) 0 vs)):=fun vs=>by
   have r:=gss (g:=B+1) vs 0 w2 (abF _ _);have hB:=uh eu;have hs:=(uh pJ).lt;have h0:=(uh iR).size;exact⟨jC,jE,jI,dC,dE,dI,rfl,ap,by omega,by omega,by omega,n1,n2,n3,⟨hL2.cells.grown r (by simp;omega),hL2.ai.grown r (by simp;omega),hL2.aj.grown r (by simp;omega)⟩,aA (by omega) _ 0 w2 (gtr (uh iR) hg2)⟩
  clear ap l1 l2 l3 n1 n2 n3 hL2 hg2 ca b0 b1 b2 b3 b4 b5 b6 b7 b8 b9 b10;unfold Gd.world;go_wp2;refine abN (v:=.agg (Gd.world s jC jE jI dC dE dI g)) (by simp[results,results86,go_sem,Gd.world,z0,z1,z2,z3,z4,z5,z6,z7,z8,z9,bO]) rfl ?_;exact uh ah [_,_,_,_,_,_,_,_,_,_,_]
variable{B cC cE cI gC gE gI:Nat}{E I:N2}{c g s:N1}{w x:World}
def En.ox(e:N1):Nat->Value:=fun j=>.int .i64 (e j)
theorem En.Lb(e:N1)(j:Nat):En.ox e j=.int .i64 (e j):=rfl
theorem En.JJ(e:N1)(j:Nat)(hj:j<11):(En.cells e)[j]?=some (En.ox e j):=by
 rcases(show j=0\/j=1\/j=2\/j=3\/j=4\/j=5\/j=6\/j=7\/j=8\/j=9\/j=10 by omega)with rfl|rfl|rfl|rfl|rfl|rfl|rfl|rfl|rfl|rfl|rfl <;> rfl
theorem ax.Pa{Q:Nat}{e:N1}(h:w.heap[Q]?=some (.cells (En.cells e) 54 (0,0))):ax w Q 54 11 (En.ox e) :=
 ⟨_,h,rfl,fun i hi=>En.JJ e i hi⟩
theorem Gd.Iz(x:World)(a b:N1):ay ((x.alloc (.cells (En.cells a) 54)).alloc (.cells (En.cells b) 54)).drew x.heap.size 54 11 (En.ox a)/\ay ((x.alloc (.cells (En.cells a) 54)).alloc (.cells (En.cells b) 54)).drew (x.heap.size+1) 54 11 (En.ox b)/\x.grownBy ((x.alloc (.cells (En.cells a) 54)).alloc (.cells (En.cells b) 54)).drew none:=by
 have g1:=abE x (.cells (En.cells a) 54) none;have g2:=abE (x.alloc (.cells (En.cells a) 54)) (.cells (En.cells b) 54) none;have g3:=gd1 g2;have hb:=(ax.Pa (abH (x.alloc (.cells (En.cells a) 54)) (.cells (En.cells b) 54))).lie;rw[show(x.alloc (.cells (En.cells a) 54)).heap.size=x.heap.size+1 by simp]at hb;exact⟨(ax.Pa (abH x (.cells (En.cells a) 54))).lie.on g3,hb.on (gd1 (abF _ none)),gtr g1 g3⟩
structure Gd.mU(w x:World)(B gC gE gI cC cE cI:Nat)(s g c:N1)(E I:N2):Prop where
 box:ay x B 30 11 (Gd.box s gC gE gI cC cE cI g)
 ab:Gd.av x gC gE gI c E I
 jo:w.heap.size=B
 bl:ay x (B+1) 30 11 (fun j=>#[.int .i64 0,.int .i64 0,.int .i64 0,.int .i64 0,.slice none 0 0,.slice none 0 0,.slice none 0 0,.int .i64 0,.int .i64 0,.int .i64 0,Value.int .i64 0][j]?.getD undef)
 grown:w.grownBy x none
theorem Gd.mU.on{y:World}(h:Gd.mU w x B gC gE gI cC cE cI s g c E I)(hg:x.grownBy y none):Gd.mU w y B gC gE gI cC cE cI s g c E I :=
 { h with box:=h.box.on hg,ab:=h.ab.on hg,bl:=h.bl.on hg,grown:=gtr h.grown hg }
theorem Gd.mU.Tw{Q m:Nat}{F:Nat->Value}(h:Gd.mU w x B gC gE gI cC cE cI s g c E I)(hq:ay x Q 54 m F):B≠Q :=
 ay.ao h.box hq (by decide)
theorem Gd.mU.over{x':World}{jC jE jI dC dE dI:Nat}{s' g' c':N1}{F J:N2}(h:Gd.mU w x B gC gE gI cC cE cI s g c E I)(ap:32<=dE)(l1:x.heap.size<=jC)(l2:x.heap.size<=jE)(l3:x.heap.size<=jI)(n1:jC≠jE)(n2:jC≠jI)(n3:jE≠jI)(hL:Gd.av x' jC jE jI c' F J)(hg:x.grownBy x' none):Gd.au w (x'.setCells B 0 (Gd.world s' jC jE jI dC dE dI g').toList) B jC jE jI dC dE dI s' g' c' F J:=by
 have h1:=h.box.lt;have h2:=h.grown.size;have h3:=h.jo;have h4:=h.bl.lt;have r:=gss (g:=B) (Gd.world s' jC jE jI dC dE dI g').toList 0 x' (abF _ _);exact⟨⟨(h.box.on hg).iP s' g' jC jE jI dC dE dI,⟨hL.cells.grown r (by simp;omega),hL.ai.grown r (by simp;omega),hL.aj.grown r (by simp;omega)⟩,by omega,by omega,by omega,n1,n2,n3⟩,h.jo,by omega,by omega,by omega,ap,(h.bl.on hg).grown r (by simp),aA (by omega) _ 0 x' (gtr h.grown hg)⟩
theorem Ft.L3{f t:Nat}{n:Int}(t0:E t 0≠0)(h:Ft.cW E t n t 0≠0):Ft.cW E t n f 0=E f 0:=by
 by_cases e:f=t
 ·subst e;have hlt:=(Ft.yf t0).1 h;unfold Ft.cW;rw[abP hlt,Gd.dq (by omega)]
 ·rw[Ft.JC E n e]
theorem Fy(s g c:N1)(E I:N2)(gC gE gI cC cE cI:Nat)(f t:Nat)(w:World)(hL:Gd.av w gC gE gI c E I)(hF:Ft.mH c E I)(hf:f<32)(ht:t<32)(f0:E f 0≠0)(t0:E t 0≠0):Calls prog 86 #[.agg (Gd.world s gC gE gI cC cE cI g),.int .i64 (f:Int),.int .i64 (t:Int)] w (Gd.cL w s g c (Ft.kH s E I f t) (Ft.ls s E I f t)):=by
 have rf:=Ft.ib (E:=E) hf;rw[abJ f0]at rf;have rt:=Ft.ib (E:=E) ht;rw[abJ t0]at rt;have QB:=aa (fun x hx=>fl s g c E I gC gE gI cC cE cI (f:Int) x hx);have Sl:=aa (fun x hx=>fl s g c E I gC gE gI cC cE cI (t:Int) x hx);rw[rf]at QB;rw[rt]at Sl;have QV:=(hF.ix f hf).ia f0;have NW:=(hF.ix t ht).ia t0;have e2:∀ag,decide (0<=Gd.an I 40 3 ag 0)=Gd.wornK I ag 2 40:=fun ag=>(Gd.Lp hF.ok ag 0).symm;have e3:∀ag,decide (0<=Gd.an I 40 3 ag 1)=Gd.wornK I ag 3 40:=fun ag=>(Gd.Lp hF.ok ag 1).symm;have Yc:=aa (fun x hx=>rS s g c E I gC gE gI cC cE cI (E f 2) x hx);have Yd:=aa (fun x hx=>rS s g c E I gC gE gI cC cE cI (E t 2) x hx);rw[e2,e3]at Yc Yd;have FV:∀b,0<=Gd.fF b/\Gd.fF b<=3:=fun b=>by unfold Gd.fF;split <;> omega
 have fy:∀b,0<=Gd.jS b/\Gd.jS b<=2:=fun b=>by unfold Gd.jS;split <;> omega
 have ba:0<=Ft.IE E I f/\Ft.IE E I f<=8:=by
  unfold Ft.IE;have:=FV (Gd.wornK I (E f 2) 2 40);split <;> omega
 have bg:0<=Ft.guard E I t/\Ft.guard E I t<=3:=by
  unfold Ft.guard;have:=fy (Gd.wornK I (E t 2) 3 40);split <;> omega
 have hxa:=FV (Gd.wornK I (E f 2) 2 40);have hxd:=fy (Gd.wornK I (E t 2) 3 40);have bd:=Dc.uU 3 (s 0) [s 1,(f:Int),(t:Int),77] (by omega);have ha:Hid (Ft.IE E I f=E f 7+if E f 0=1 then Gd.fF (Gd.wornK I (E f 2) 2 40)else 0):=rfl;have hd:Hid (Ft.guard E I t=E t 8+if E t 0=1 then Gd.jS (Gd.wornK I (E t 2) 3 40)else 0):=rfl;have fq:Hid (Ft.dW s E I f t=max 1 (Ft.IE E I f-Ft.guard E I t)+Dc.kK 3 (s 0) [s 1,(f:Int),(t:Int),77]):=rfl;have Ye:Hid (∀(x:World)(b:Nat),b=x.heap.size->Calls prog 92 #[.int .i64 3,.int .i64 (s 0),.slice (some ⟨b,0,none⟩) 4 4] (x.alloc (.cells #[.int .i64 (s 1),.int .i64 (f:Int),.int .i64 (t:Int),.int .i64 77] 3)).drew fun e w'=>e=.returned (.int .i64 (Dc.kK 3 (s 0) [s 1,(f:Int),(t:Int),77]))/\w'=(x.alloc (.cells #[.int .i64 (s 1),.int .i64 (f:Int),.int .i64 (t:Int),.int .i64 77] 3)).drew):=fun x b hb=>by
  subst hb;exact nZ 3 (s 0) _ 4 4 _ _ (show qf (x.alloc (.cells #[.int .i64 (s 1),.int .i64 (f:Int),.int .i64 (t:Int),.int .i64 77] 3)).drew _ _ [s 1,(f:Int),(t:Int),77] from qf.Gs x (s 1) (f:Int) (t:Int) 77 3) (by omega)
 have cd2:Hid (∀(x:World)(b:Nat),b=x.heap.size->Calls prog 92 #[.int .i64 4,.int .i64 (s 0),.slice (some ⟨b,0,none⟩) 4 4] (x.alloc (.cells #[.int .i64 (s 1),.int .i64 (f:Int),.int .i64 (t:Int),.int .i64 78] 3)) fun e w'=>e=.returned (.int .i64 (Dc.kK 4 (s 0) [s 1,(f:Int),(t:Int),78]))/\w'=x.alloc (.cells #[.int .i64 (s 1),.int .i64 (f:Int),.int .i64 (t:Int),.int .i64 78] 3)):=fun x b hb=>by
  subst hb;exact nZ 4 (s 0) _ 4 4 _ _ (qf.Gs x (s 1) (f:Int) (t:Int) 78 3) (by omega)
 have P1:=Ft.sD s E I f t;have eN:=hF.G5 ht t0 P1;have vJ:=@Ft.L3 E f t (Ft.dW s E I f t) t0;have ng:Hid (Ft.kH s E I f t=if Ft.cW E t (Ft.dW s E I f t) t 0≠0 then Ft.fj s (Ft.cW E t (Ft.dW s E I f t)) f t else Ft.cW E t (Ft.dW s E I f t)):=rfl;have nD:Hid (Ft.fj s (Ft.cW E t (Ft.dW s E I f t)) f t=if Ft.cW E t (Ft.dW s E I f t) f 0=4 then Gd.set (Ft.cW E t (Ft.dW s E I f t)) t 9 (min (Ft.cW E t (Ft.dW s E I f t) t 9+3) 9)else if Ft.cW E t (Ft.dW s E I f t) f 0=3/\Dc.kK 4 (s 0) [s 1,(f:Int),(t:Int),78]=0 then Gd.set (Ft.cW E t (Ft.dW s E I f t)) t 10 (min (Ft.cW E t (Ft.dW s E I f t) t 10+2) 9)else Ft.cW E t (Ft.dW s E I f t)):=rfl;have og:Hid (Ft.ls s E I f t=Ft.jD E I t (Ft.dW s E I f t)):=rfl;have ch:=aa (fun x hx=>rU s g c E I gC gE gI cC cE cI (t:Int) (Ft.dW s E I f t) x hx hF);have YH:Ft.hE E (t:Int) (Ft.dW s E I f t)=Ft.cW E t (Ft.dW s E I f t):=by
  unfold Ft.hE;rw[abP ⟨rt,P1⟩,abG]
 have YI:Ft.hI E I (t:Int) (Ft.dW s E I f t)=Ft.jD E I t (Ft.dW s E I f t):=by
  unfold Ft.hI;rw[abP ⟨rt,P1⟩,abG]
 rw[YH,YI]at ch;obtain⟨XA,Yr⟩:∃x,Gd.fF (Gd.wornK I (E f 2) 2 40)=x:=⟨_,rfl⟩;obtain⟨XB,hXB⟩:∃x,Gd.jS (Gd.wornK I (E f 2) 3 40)=x:=⟨_,rfl⟩;obtain⟨YA,hYA⟩:∃x,Gd.fF (Gd.wornK I (E t 2) 2 40)=x:=⟨_,rfl⟩;obtain⟨YB,Yt⟩:∃x,Gd.jS (Gd.wornK I (E t 2) 3 40)=x:=⟨_,rfl⟩;obtain⟨A,hA⟩:∃x,Ft.IE E I f=x:=⟨_,rfl⟩;obtain⟨D,hD⟩:∃x,Ft.guard E I t=x:=⟨_,rfl⟩;obtain⟨Z,hZ⟩:∃x,Dc.kK 3 (s 0) [s 1,(f:Int),(t:Int),77]=x:=⟨_,rfl⟩;obtain⟨Y,hY⟩:∃x,Dc.kK 4 (s 0) [s 1,(f:Int),(t:Int),78]=x:=⟨_,rfl⟩;obtain⟨n,hn⟩:∃x,Ft.dW s E I f t=x:=⟨_,rfl⟩;rw[hn]at fq P1 eN vJ ng nD og ch;obtain⟨E2,xV⟩:∃x,Ft.cW E t n=x:=⟨_,rfl⟩;obtain⟨I2,zt⟩:∃x,Ft.jD E I t n=x:=⟨_,rfl⟩;obtain⟨E3,GD⟩:∃x,Ft.fj s E2 f t=x:=⟨_,rfl⟩;rw[xV]at eN vJ ng nD ch;rw[zt]at eN og ch;rw[GD]at ng nD;rw[Yr,hXB]at Yc;rw[hYA,Yt]at Yd;rw[Yr,hA]at ha;rw[Yt,hD]at hd;rw[Yr]at hxa;rw[Yt]at hxd;rw[hA]at ba;rw[hD]at bg;rw[hZ]at bd Ye;rw[hY]at cd2 nD;rw[hA,hD,hZ]at fq;obtain⟨ba0,ba9⟩:=ba;obtain⟨bg0,bg9⟩:=bg;obtain⟨bd0,bd9⟩:=bd;obtain⟨abw,abx⟩:=hxa;obtain⟨aby,abz⟩:=hxd;have e70:0<=E f 7:=QV.2.2.2.2.2.1;have e79:E f 7<=5:=QV.2.2.2.2.2.2.1;have e80:0<=E t 8:=NW.2.2.2.2.2.2.2.1;have e89:E t 8<=1:=NW.2.2.2.2.2.2.2.2.1;have Zz:=aa eN;have UR:=aa vJ;have HF:=aa hf;have HT:=aa ht;have fb:(f:Int)<32:=by omega
 have oA:(t:Int)<32:=by omega
 clear Yr hXB hYA Yt hA hD hZ hY hn xV zt GD YH YI rf rt QV NW e2 e3 FV fy eN vJ hF f0 t0 hf ht P1;obtain⟨w0,aD,aF,aM,aN,eC⟩:=Gd.kr w gC gE gI cC cE cI s g;have hO:Hid (Gd.mU w w0 w.heap.size gC gE gI cC cE cI s g c E I):=⟨aF,hL.on aN,rfl,aM,aN⟩;clear hL aF aM aN eC;unfold Gd.world at aD QB Sl|-;go_enter func86,ntmps86;go_upto_region 1 with fail;rw[<-aD];clear aD;obtain⟨B,hB⟩:=abV w.heap.size;rw[hB]at hO|-;clear hB;obtain⟨b0,b1,b2,b3,b4,b5,b6,b7,b8,b9,b10⟩:=(uh hO).box.ae;go_wp2_with fail;refine aaR (uh QB _ (uh hO).ab) fun w1 hg=>?_;have gK:=aa ((uh hO).on hg);clear hO hg b0 b1 b2 b3 b4 b5 b6 b7 b8 b9 b10 QB;have hO:=aa (uh gK);clear gK;obtain⟨b0,b1,b2,b3,b4,b5,b6,b7,b8,b9,b10⟩:=(uh hO).box.ae;go_wp2_with fail;refine aaR (uh Sl _ (uh hO).ab) fun w2 hg=>?_;have gK:=aa ((uh hO).on hg);clear hO hg b0 b1 b2 b3 b4 b5 b6 b7 b8 b9 b10 Sl;have hO:=aa (uh gK);clear gK;have hS0:w2.cell? ⟨B,5,none⟩=some (.slice (some ⟨gE,0,none⟩) 32 cE)/\(w2.cell? ⟨gE,f*11,none⟩=some (.int .i64 (E f 0))/\w2.cell? ⟨gE,f*11+1,none⟩=some (.int .i64 (E f 1))/\w2.cell? ⟨gE,f*11+2,none⟩=some (.int .i64 (E f 2))/\w2.cell? ⟨gE,f*11+3,none⟩=some (.int .i64 (E f 3))/\w2.cell? ⟨gE,f*11+4,none⟩=some (.int .i64 (E f 4))/\w2.cell? ⟨gE,f*11+5,none⟩=some (.int .i64 (E f 5))/\w2.cell? ⟨gE,f*11+6,none⟩=some (.int .i64 (E f 6))/\w2.cell? ⟨gE,f*11+7,none⟩=some (.int .i64 (E f 7))/\w2.cell? ⟨gE,f*11+8,none⟩=some (.int .i64 (E f 8))/\w2.cell? ⟨gE,f*11+9,none⟩=some (.int .i64 (E f 9))/\w2.cell? ⟨gE,f*11+10,none⟩=some (.int .i64 (E f 10)))/\(w2.cell? ⟨gE,t*11,none⟩=some (.int .i64 (E t 0))/\w2.cell? ⟨gE,t*11+1,none⟩=some (.int .i64 (E t 1))/\w2.cell? ⟨gE,t*11+2,none⟩=some (.int .i64 (E t 2))/\w2.cell? ⟨gE,t*11+3,none⟩=some (.int .i64 (E t 3))/\w2.cell? ⟨gE,t*11+4,none⟩=some (.int .i64 (E t 4))/\w2.cell? ⟨gE,t*11+5,none⟩=some (.int .i64 (E t 5))/\w2.cell? ⟨gE,t*11+6,none⟩=some (.int .i64 (E t 6))/\w2.cell? ⟨gE,t*11+7,none⟩=some (.int .i64 (E t 7))/\w2.cell? ⟨gE,t*11+8,none⟩=some (.int .i64 (E t 8))/\w2.cell? ⟨gE,t*11+9,none⟩=some (.int .i64 (E t 9))/\w2.cell? ⟨gE,t*11+10,none⟩=some (.int .i64 (E t 10))):=⟨(uh hO).box.ae.2.2.2.2.2.1,(uh hO).ab.own.ai.row (uh HF),(uh hO).ab.own.ai.row (uh HT)⟩;go_upto_region 3 with fail;go_cut [7,8] from 15 (fun va vb wx=>∃Qa Qb,va=.pointer (some ⟨Qa,0,none⟩)/\vb=.pointer (some ⟨Qb,0,none⟩)/\Hid (Gd.mU w wx B gC gE gI cC cE cI s g c E I)/\Hid (ay wx Qa 54 11 (En.ox (E f)))/\Hid (ay wx Qb 54 11 (En.ox (E t))))
 case first =>
  have k1:=(uh hO).box.lt;have k2:=(uh hO).ab.ai.lt;have q1:w2.heap.size≠B:=by omega
  have q2:B≠w2.heap.size:=by omega
  have q3:w2.heap.size+1≠B:=by omega
  have q4:B≠w2.heap.size+1:=by omega
  have q5:w2.heap.size≠gE:=by omega
  have q6:gE≠w2.heap.size:=by omega
  have q7:w2.heap.size+1≠gE:=by omega
  have q8:gE≠w2.heap.size+1:=by omega
  have dz:=aa (Gd.Iz w2 (E f) (E t));have ed:=aa (Gd.Iz w2 (E t) (E f));clear k1 k2;unfold En.cells at dz ed
  go_region_held3 (fun x=>x.cell? ⟨B,5,none⟩=some (.slice (some ⟨gE,0,none⟩) 32 cE)/\(x.cell? ⟨gE,f*11,none⟩=some (.int .i64 (E f 0))/\x.cell? ⟨gE,f*11+1,none⟩=some (.int .i64 (E f 1))/\x.cell? ⟨gE,f*11+2,none⟩=some (.int .i64 (E f 2))/\x.cell? ⟨gE,f*11+3,none⟩=some (.int .i64 (E f 3))/\x.cell? ⟨gE,f*11+4,none⟩=some (.int .i64 (E f 4))/\x.cell? ⟨gE,f*11+5,none⟩=some (.int .i64 (E f 5))/\x.cell? ⟨gE,f*11+6,none⟩=some (.int .i64 (E f 6))/\x.cell? ⟨gE,f*11+7,none⟩=some (.int .i64 (E f 7))/\x.cell? ⟨gE,f*11+8,none⟩=some (.int .i64 (E f 8))/\x.cell? ⟨gE,f*11+9,none⟩=some (.int .i64 (E f 9))/\x.cell? ⟨gE,f*11+10,none⟩=some (.int .i64 (E f 10)))/\(x.cell? ⟨gE,t*11,none⟩=some (.int .i64 (E t 0))/\x.cell? ⟨gE,t*11+1,none⟩=some (.int .i64 (E t 1))/\x.cell? ⟨gE,t*11+2,none⟩=some (.int .i64 (E t 2))/\x.cell? ⟨gE,t*11+3,none⟩=some (.int .i64 (E t 3))/\x.cell? ⟨gE,t*11+4,none⟩=some (.int .i64 (E t 4))/\x.cell? ⟨gE,t*11+5,none⟩=some (.int .i64 (E t 5))/\x.cell? ⟨gE,t*11+6,none⟩=some (.int .i64 (E t 6))/\x.cell? ⟨gE,t*11+7,none⟩=some (.int .i64 (E t 7))/\x.cell? ⟨gE,t*11+8,none⟩=some (.int .i64 (E t 8))/\x.cell? ⟨gE,t*11+9,none⟩=some (.int .i64 (E t 9))/\x.cell? ⟨gE,t*11+10,none⟩=some (.int .i64 (E t 10)))) (go_keep) (fail)
  ·go_wp2_with fail;go_meet;exact⟨_,_,rfl,rfl,(uh hO).on (uh dz).2.2,(uh dz).1,(uh dz).2.1⟩
  ·go_wp2_with fail;go_meet;exact⟨_,_,rfl,rfl,(uh hO).on (uh ed).2.2,(uh ed).2.1,(uh ed).1⟩
 case rest =>
  clear hS0 hO;obtain⟨Qa,Qb,rfl,rfl,hO,sJ,Je⟩:=hcut;have z7:wc.cell? ⟨Qa,7,none⟩=some (.int .i64 (E f 7)):=(uh sJ).cell (c:=7) (by omega);have z8:wc.cell? ⟨Qb,8,none⟩=some (.int .i64 (E t 8)):=(uh Je).cell (c:=8) (by omega);go_upto_region 4 with fail;go_cut [9,10] from 37 (fun va vb wx=>va=.int .i64 (E f 7)/\vb=.int .i64 (E t 8)/\Hid (Gd.mU w wx B gC gE gI cC cE cI s g c E I)/\Hid (ay wx Qa 54 11 (En.ox (E f)))/\Hid (ay wx Qb 54 11 (En.ox (E t))))
  case first =>
   go_quiet (fail);go_wp2_with fail;go_meet;exact⟨rfl,rfl,(uh hO).on (gdw (abF _ none) _),(uh sJ).on (gdw (abF _ none) _),(uh Je).on (gdw (abF _ none) _)⟩
  case rest =>
   clear z7 z8 hO sJ Je;obtain⟨rfl,rfl,hO,sJ,Je⟩:=hcut;have z0:=(uh sJ).cell (c:=0) (by omega);have z2:=(uh sJ).cell (c:=2) (by omega);rw[En.Lb]at z0 z2;obtain⟨b0,b1,b2,b3,b4,b5,b6,b7,b8,b9,b10⟩:=(uh hO).box.ae;go_upto_if 43 with fail;go_cut [9,11,12] from 43 (fun va vb vc wx=>va=.int .i64 A/\Hid (Gd.mU w wx B gC gE gI cC cE cI s g c E I)/\Hid (ay wx Qa 54 11 (En.ox (E f)))/\Hid (ay wx Qb 54 11 (En.ox (E t))))
   case first =>
    by_cases h1:E f 0=1
    ·rw[abP h1]at ha;have ot:(E f 0==1)=true:=by simpa using h1
     have hw:IntKind.i64.wrap (E f 7+XA)=E f 7+XA:=by rw[abK];omega
     have IZ:=aa (uh Yc _ (uh hO).ab);clear h1;unfold Gd.world at IZ;go_wp2_with fail;refine aaR (uh IZ) fun wy hg=>?_;have oe:=aa ((uh hO).on hg);have FX:=aa ((uh sJ).on hg);have FY:=aa ((uh Je).on hg);clear hg IZ b0 b1 b2 b3 b4 b5 b6 b7 b8 b9 b10 z0 z2;go_wp2_with fail;go_meet;exact⟨by rw[uh ha],oe,FX,FY⟩
    ·rw[abO h1]at ha;have ot:(E f 0==1)=false:=by simpa using h1
     clear h1;go_wp2_with fail;go_meet;exact⟨by rw[uh ha,Int.add_zero],hO,sJ,Je⟩
   case rest =>
    clear z0 z2 b0 b1 b2 b3 b4 b5 b6 b7 b8 b9 b10 hO sJ Je Yc;obtain⟨rfl,hO,sJ,Je⟩:=hcut;have z0:=(uh Je).cell (c:=0) (by omega);have z2:=(uh Je).cell (c:=2) (by omega);rw[En.Lb]at z0 z2;obtain⟨b0,b1,b2,b3,b4,b5,b6,b7,b8,b9,b10⟩:=(uh hO).box.ae;go_upto_if 56 with fail;go_cut [10,13,14] from 56 (fun va vb vc wx=>va=.int .i64 D/\Hid (Gd.mU w wx B gC gE gI cC cE cI s g c E I)/\Hid (ay wx Qa 54 11 (En.ox (E f)))/\Hid (ay wx Qb 54 11 (En.ox (E t))))
    case first =>
     by_cases h1:E t 0=1
     ·rw[abP h1]at hd;have ot:(E t 0==1)=true:=by simpa using h1
      have hw:IntKind.i64.wrap (E t 8+YB)=E t 8+YB:=by rw[abK];omega
      have IZ:=aa (uh Yd _ (uh hO).ab);clear h1;unfold Gd.world at IZ;go_wp2_with fail;refine aaR (uh IZ) fun wy hg=>?_;have oe:=aa ((uh hO).on hg);have FX:=aa ((uh sJ).on hg);have FY:=aa ((uh Je).on hg);clear hg IZ b0 b1 b2 b3 b4 b5 b6 b7 b8 b9 b10 z0 z2;go_wp2_with fail;go_meet;exact⟨by rw[uh hd],oe,FX,FY⟩
     ·rw[abO h1]at hd;have ot:(E t 0==1)=false:=by simpa using h1
      clear h1;go_wp2_with fail;go_meet;exact⟨by rw[uh hd,Int.add_zero],hO,sJ,Je⟩
    case rest =>
     clear z0 z2 b0 b1 b2 b3 b4 b5 b6 b7 b8 b9 b10 hO sJ Je Yd;obtain⟨rfl,hO,sJ,Je⟩:=hcut;obtain⟨b0,b1,b2,b3,b4,b5,b6,b7,b8,b9,b10⟩:=(uh hO).box.ae;have oe:Hid (∀o:Obj,Gd.mU w (wc.alloc o).drew B gC gE gI cC cE cI s g c E I):=fun o=>((uh hO).on (abE _ _ _)).on (gd1 (abF _ none));have FU:Hid (∀o:Obj,ay (wc.alloc o).drew Qa 54 11 (En.ox (E f))):=fun o=>((uh sJ).on (abE _ _ _)).on (gd1 (abF _ none));have Sz:Hid (B≠Qa):=(uh hO).Tw (uh sJ);have rz:Hid (∀x,wc.grownBy x none->(x.cell? ⟨B,0,none⟩=some (.int .i64 (s 0))/\x.cell? ⟨B,1,none⟩=some (.int .i64 (s 1))/\x.cell? ⟨B,2,none⟩=some (.int .i64 (s 2))/\x.cell? ⟨B,3,none⟩=some (.int .i64 (s 3))/\x.cell? ⟨B,4,none⟩=some (.slice (some ⟨gC,0,none⟩) 384 cC)/\x.cell? ⟨B,5,none⟩=some (.slice (some ⟨gE,0,none⟩) 32 cE)/\x.cell? ⟨B,6,none⟩=some (.slice (some ⟨gI,0,none⟩) 40 cI)/\x.cell? ⟨B,7,none⟩=some (.int .i64 (g 0))/\x.cell? ⟨B,8,none⟩=some (.int .i64 (g 1))/\x.cell? ⟨B,9,none⟩=some (.int .i64 (g 2))/\x.cell? ⟨B,10,none⟩=some (.int .i64 (g 3)))):=fun x hx=>((uh hO).on hx).box.ae;have fC:=aa (gd1 (abF wc none));have fM:=aa (gd1 (abE wc (.cells #[.int .i64 (s 1),.int .i64 (f:Int),.int .i64 (t:Int),.int .i64 77] 3) none));unfold Gd.world at ch;go_upto_region 11 with fail;go_cut [] from 57 (fun wx=>∃jC jE jI dC dE dI,Hid (Gd.au w wx B jC jE jI dC dE dI s g c E2 I2)/\Hid (ay wx Qa 54 11 (En.ox (E f)))/\Hid (jE≠Qa))
     case first =>
      have FZ:IntKind.i64.wrap (A-D)=A-D:=by rw[abK];omega
      by_cases hm:1<A-D
      ·have ka:A-D+Z=n:=by
        rw[uh fq];omega
       have ig:IntKind.i64.wrap n=n:=by rw[abK];omega
       refine bH (h:=15) (S:=fun x=>x.cell? ⟨B,0,none⟩=some (.int .i64 (s 0))/\x.cell? ⟨B,1,none⟩=some (.int .i64 (s 1))/\x.cell? ⟨B,2,none⟩=some (.int .i64 (s 2))/\x.cell? ⟨B,3,none⟩=some (.int .i64 (s 3))/\x.cell? ⟨B,4,none⟩=some (.slice (some ⟨gC,0,none⟩) 384 cC)/\x.cell? ⟨B,5,none⟩=some (.slice (some ⟨gE,0,none⟩) 32 cE)/\x.cell? ⟨B,6,none⟩=some (.slice (some ⟨gI,0,none⟩) 40 cI)/\x.cell? ⟨B,7,none⟩=some (.int .i64 (g 0))/\x.cell? ⟨B,8,none⟩=some (.int .i64 (g 1))/\x.cell? ⟨B,9,none⟩=some (.int .i64 (g 2))/\x.cell? ⟨B,10,none⟩=some (.int .i64 (g 3))) (by kernel_rfl) ?_;have hS0:=uh rz _ (uh fC);refine wtk (i:=0) (v:=?_) [15] rfl (by kernel_rfl) (by kernel_rfl) (by kernel_rfl) (by kernel_rfl) (fun _ _ _ h=>h) hS0 (Or.inl ⟨by rfl,?_⟩) ?_;rotate_left
       ·intro x hSx
        try dsimp only at hSx
        go_simp
        try with_reducible rfl
       simp only[Act.put];refine wtk (i:=1) (v:=?_) [15] rfl (by kernel_rfl) (by kernel_rfl) (by kernel_rfl) (by kernel_rfl) (fun _ _ _ h=>h) hS0 (Or.inl ⟨by rfl,?_⟩) ?_;rotate_left
       ·intro x hSx
        try dsimp only at hSx
        go_simp
        try with_reducible rfl
       simp only[Act.put];refine wtk (i:=2) (v:=?_) [4,5,14,15] rfl (by kernel_rfl) (by kernel_rfl) (by kernel_rfl) (by kernel_rfl) (fun _ _ _ h=>h) hS0 (Or.inl ⟨by rfl,?_⟩) ?_;rotate_left
       ·intro x hSx
        try dsimp only at hSx
        go_simp
        try with_reducible rfl
       simp only[Act.put];refine wtk (i:=3) (v:=?_) [4,5,14,15] rfl (by kernel_rfl) (by kernel_rfl) (by kernel_rfl) (by kernel_rfl) (fun _ _ _ h=>h) hS0 (Or.inl ⟨by rfl,?_⟩) ?_;rotate_left
       ·intro x hSx
        try dsimp only at hSx
        go_simp
        try with_reducible rfl
       simp only[Act.put];refine wtk (i:=4) (v:=?_) [5,14,15] rfl (by kernel_rfl) (by kernel_rfl) (by kernel_rfl) (by kernel_rfl) (fun _ _ _ h=>h) hS0 (Or.inl ⟨by rfl,?_⟩) ?_;rotate_left
       ·intro x hSx
        try dsimp only at hSx
        go_simp
        try with_reducible rfl
       simp only[Act.put];refine wtk (i:=5) (v:=?_) [14,15] rfl (by kernel_rfl) (by kernel_rfl) (by kernel_rfl) (by kernel_rfl) (fun _ _ _ h=>h) hS0 (Or.inl ⟨by rfl,?_⟩) ?_;rotate_left
       ·intro x hSx
        try dsimp only at hSx
        go_simp
        try with_reducible rfl
       simp only[Act.put];refine wtk (i:=6) (v:=?_) [7,13,14,15] rfl (by kernel_rfl) (by kernel_rfl) (by kernel_rfl) (by kernel_rfl) (fun _ _ _ h=>h) hS0 (Or.inl ⟨by rfl,?_⟩) ?_;rotate_left
       ·intro x hSx
        try dsimp only at hSx
        go_simp
        try with_reducible rfl
       simp only[Act.put];refine wtk (i:=7) (v:=?_) [13,14,15] rfl (by kernel_rfl) (by kernel_rfl) (by kernel_rfl) (by kernel_rfl) (fun _ _ _ h=>h) hS0 (Or.inl ⟨by rfl,?_⟩) ?_;rotate_left
       ·intro x hSx
        try dsimp only at hSx
        go_simp
        try with_reducible rfl
       simp only[Act.put];refine wtk (i:=8) (v:=?_) [9,12,13,14,15] rfl (by kernel_rfl) (by kernel_rfl) (by kernel_rfl) (by kernel_rfl) (fun _ _ _ h=>h) hS0 (Or.inl ⟨by rfl,?_⟩) ?_;rotate_left
       ·intro x hSx
        try dsimp only at hSx
        go_simp
        try with_reducible rfl
       simp only[Act.put];refine wtk (i:=9) (v:=?_) [12,13,14,15] rfl (by kernel_rfl) (by kernel_rfl) (by kernel_rfl) (by kernel_rfl) (fun _ _ _ h=>h) hS0 (Or.inl ⟨by rfl,?_⟩) ?_;rotate_left
       ·intro x hSx
        try dsimp only at hSx
        go_simp
        try with_reducible rfl
       simp only[Act.put];refine wtk (i:=10) (v:=?_) [12,13,14,15] rfl (by kernel_rfl) (by kernel_rfl) (by kernel_rfl) (by kernel_rfl) (fun _ _ _ h=>h) hS0 (Or.inl ⟨by rfl,?_⟩) ?_;rotate_left
       ·intro x hSx
        try dsimp only at hSx
        go_simp
        try with_reducible rfl
       simp only[Act.put];refine wtk (i:=11) (v:=?_) [12,13,14,15] rfl (by kernel_rfl) (by kernel_rfl) (by kernel_rfl) (by kernel_rfl) (fun _ _ _ h=>h) hS0 (Or.inl ⟨by rfl,?_⟩) ?_;rotate_left
       ·intro x hSx
        try dsimp only at hSx
        go_simp
        try with_reducible rfl
       simp only[Act.put];refine wto (j:=12) (by kernel_rfl) rfl (fun K hK=>?_);go_simp;refine hK.out _ _ (fun _=>uh rz _ (uh fM)) ?_;clear hK K hS0;have hS0:=uh rz _ (uh fM);refine wto (j:=13) (by kernel_rfl) rfl (fun K hK=>?_);go_simp;refine abW (uh Ye _ _ rfl) ?_
       try go_simp
       refine hK.out _ _ (fun _=>uh rz _ (uh fM)) ?_;clear hK K;refine wtk (i:=14) (v:=?_) [15] rfl (by kernel_rfl) (by kernel_rfl) (by kernel_rfl) (by kernel_rfl) (fun _ _ _ h=>h) hS0 (Or.inl ⟨by rfl,?_⟩) ?_;rotate_left
       ·intro x hSx
        try dsimp only at hSx
        go_simp
        try with_reducible rfl
       simp only[Act.put];refine wto (j:=15) (by kernel_rfl) rfl (fun K hK=>?_);go_simp;refine(uh ch _ (uh oe _).ab).mono ?_;rintro e wv ⟨jC,jE,jI,dC,dE,dI,rfl,ap,l1,l2,l3,n1,n2,n3,hL,hg⟩;have aK:=aa ((uh oe _).over (s':=s) (g':=g) (dC:=dC) (dI:=dI) ap l1 l2 l3 n1 n2 n3 hL hg);have hq:=aa (((uh FU _).on hg).aQ (uh Sz) 0 (Gd.world s jC jE jI dC dE dI g).toList);have hj:Hid (jE≠Qa):=Nat.ne_of_gt (abR (uh FU _).lt l2);obtain⟨y0,y1,y2,y3,y4,y5,y6,y7,y8,y9,y10⟩:=((uh oe _).on hg).box.ae;have fB:=((uh oe _).on hg).box.free;clear ap l1 l2 l3 n1 n2 n3 hL hg b0 b1 b2 b3 b4 b5 b6 b7 b8 b9 b10 hS0;unfold Gd.world at aK hq|-
       try go_simp
       refine hK.out _ _ (fun hx=>absurd (hx.symm.trans (by kernel_rfl)) abT) ?_;clear hK K;refine wto (j:=16) (by kernel_rfl) rfl (fun K hK=>?_);go_simp;refine hK.out _ _ (fun hx=>absurd (hx.symm.trans (by kernel_rfl)) abT) ?_;clear hK K;refine cy (by kernel_rfl) ?_ _;go_wp2_with fail;go_meet;exact⟨jC,jE,jI,dC,dE,dI,aK,hq,hj⟩
      ·have ka:1+Z=n:=by
        rw[uh fq];omega
       have ig:IntKind.i64.wrap n=n:=by rw[abK];omega
       refine bH (h:=15) (S:=fun x=>x.cell? ⟨B,0,none⟩=some (.int .i64 (s 0))/\x.cell? ⟨B,1,none⟩=some (.int .i64 (s 1))/\x.cell? ⟨B,2,none⟩=some (.int .i64 (s 2))/\x.cell? ⟨B,3,none⟩=some (.int .i64 (s 3))/\x.cell? ⟨B,4,none⟩=some (.slice (some ⟨gC,0,none⟩) 384 cC)/\x.cell? ⟨B,5,none⟩=some (.slice (some ⟨gE,0,none⟩) 32 cE)/\x.cell? ⟨B,6,none⟩=some (.slice (some ⟨gI,0,none⟩) 40 cI)/\x.cell? ⟨B,7,none⟩=some (.int .i64 (g 0))/\x.cell? ⟨B,8,none⟩=some (.int .i64 (g 1))/\x.cell? ⟨B,9,none⟩=some (.int .i64 (g 2))/\x.cell? ⟨B,10,none⟩=some (.int .i64 (g 3))) (by kernel_rfl) ?_;have hS0:=uh rz _ (uh fC);refine wtk (i:=0) (v:=?_) [15] rfl (by kernel_rfl) (by kernel_rfl) (by kernel_rfl) (by kernel_rfl) (fun _ _ _ h=>h) hS0 (Or.inl ⟨by rfl,?_⟩) ?_;rotate_left
       ·intro x hSx
        try dsimp only at hSx
        go_simp
        try with_reducible rfl
       simp only[Act.put];refine wtk (i:=1) (v:=?_) [15] rfl (by kernel_rfl) (by kernel_rfl) (by kernel_rfl) (by kernel_rfl) (fun _ _ _ h=>h) hS0 (Or.inl ⟨by rfl,?_⟩) ?_;rotate_left
       ·intro x hSx
        try dsimp only at hSx
        go_simp
        try with_reducible rfl
       simp only[Act.put];refine wtk (i:=2) (v:=?_) [4,5,14,15] rfl (by kernel_rfl) (by kernel_rfl) (by kernel_rfl) (by kernel_rfl) (fun _ _ _ h=>h) hS0 (Or.inl ⟨by rfl,?_⟩) ?_;rotate_left
       ·intro x hSx
        try dsimp only at hSx
        go_simp
        try with_reducible rfl
       simp only[Act.put];refine wtk (i:=3) (v:=?_) [4,5,14,15] rfl (by kernel_rfl) (by kernel_rfl) (by kernel_rfl) (by kernel_rfl) (fun _ _ _ h=>h) hS0 (Or.inl ⟨by rfl,?_⟩) ?_;rotate_left
       ·intro x hSx
        try dsimp only at hSx
        go_simp
        try with_reducible rfl
       simp only[Act.put];refine wtk (i:=4) (v:=?_) [5,14,15] rfl (by kernel_rfl) (by kernel_rfl) (by kernel_rfl) (by kernel_rfl) (fun _ _ _ h=>h) hS0 (Or.inl ⟨by rfl,?_⟩) ?_;rotate_left
       ·intro x hSx
        try dsimp only at hSx
        go_simp
        try with_reducible rfl
       simp only[Act.put];refine wtk (i:=5) (v:=?_) [14,15] rfl (by kernel_rfl) (by kernel_rfl) (by kernel_rfl) (by kernel_rfl) (fun _ _ _ h=>h) hS0 (Or.inl ⟨by rfl,?_⟩) ?_;rotate_left
       ·intro x hSx
        try dsimp only at hSx
        go_simp
        try with_reducible rfl
       simp only[Act.put];refine wtk (i:=6) (v:=?_) [7,13,14,15] rfl (by kernel_rfl) (by kernel_rfl) (by kernel_rfl) (by kernel_rfl) (fun _ _ _ h=>h) hS0 (Or.inl ⟨by rfl,?_⟩) ?_;rotate_left
       ·intro x hSx
        try dsimp only at hSx
        go_simp
        try with_reducible rfl
       simp only[Act.put];refine wtk (i:=7) (v:=?_) [13,14,15] rfl (by kernel_rfl) (by kernel_rfl) (by kernel_rfl) (by kernel_rfl) (fun _ _ _ h=>h) hS0 (Or.inl ⟨by rfl,?_⟩) ?_;rotate_left
       ·intro x hSx
        try dsimp only at hSx
        go_simp
        try with_reducible rfl
       simp only[Act.put];refine wtk (i:=8) (v:=?_) [9,12,13,14,15] rfl (by kernel_rfl) (by kernel_rfl) (by kernel_rfl) (by kernel_rfl) (fun _ _ _ h=>h) hS0 (Or.inl ⟨by rfl,?_⟩) ?_;rotate_left
       ·intro x hSx
        try dsimp only at hSx
        go_simp
        try with_reducible rfl
       simp only[Act.put];refine wtk (i:=9) (v:=?_) [12,13,14,15] rfl (by kernel_rfl) (by kernel_rfl) (by kernel_rfl) (by kernel_rfl) (fun _ _ _ h=>h) hS0 (Or.inl ⟨by rfl,?_⟩) ?_;rotate_left
       ·intro x hSx
        try dsimp only at hSx
        go_simp
        try with_reducible rfl
       simp only[Act.put];refine wtk (i:=10) (v:=?_) [12,13,14,15] rfl (by kernel_rfl) (by kernel_rfl) (by kernel_rfl) (by kernel_rfl) (fun _ _ _ h=>h) hS0 (Or.inl ⟨by rfl,?_⟩) ?_;rotate_left
       ·intro x hSx
        try dsimp only at hSx
        go_simp
        try with_reducible rfl
       simp only[Act.put];refine wtk (i:=11) (v:=?_) [12,13,14,15] rfl (by kernel_rfl) (by kernel_rfl) (by kernel_rfl) (by kernel_rfl) (fun _ _ _ h=>h) hS0 (Or.inl ⟨by rfl,?_⟩) ?_;rotate_left
       ·intro x hSx
        try dsimp only at hSx
        go_simp
        try with_reducible rfl
       simp only[Act.put];refine wto (j:=12) (by kernel_rfl) rfl (fun K hK=>?_);go_simp;refine hK.out _ _ (fun _=>uh rz _ (uh fM)) ?_;clear hK K hS0;have hS0:=uh rz _ (uh fM);refine wto (j:=13) (by kernel_rfl) rfl (fun K hK=>?_);go_simp;refine abW (uh Ye _ _ rfl) ?_
       try go_simp
       refine hK.out _ _ (fun _=>uh rz _ (uh fM)) ?_;clear hK K;refine wtk (i:=14) (v:=?_) [15] rfl (by kernel_rfl) (by kernel_rfl) (by kernel_rfl) (by kernel_rfl) (fun _ _ _ h=>h) hS0 (Or.inl ⟨by rfl,?_⟩) ?_;rotate_left
       ·intro x hSx
        try dsimp only at hSx
        go_simp
        try with_reducible rfl
       simp only[Act.put];refine wto (j:=15) (by kernel_rfl) rfl (fun K hK=>?_);go_simp;refine(uh ch _ (uh oe _).ab).mono ?_;rintro e wv ⟨jC,jE,jI,dC,dE,dI,rfl,ap,l1,l2,l3,n1,n2,n3,hL,hg⟩;have aK:=aa ((uh oe _).over (s':=s) (g':=g) (dC:=dC) (dI:=dI) ap l1 l2 l3 n1 n2 n3 hL hg);have hq:=aa (((uh FU _).on hg).aQ (uh Sz) 0 (Gd.world s jC jE jI dC dE dI g).toList);have hj:Hid (jE≠Qa):=Nat.ne_of_gt (abR (uh FU _).lt l2);obtain⟨y0,y1,y2,y3,y4,y5,y6,y7,y8,y9,y10⟩:=((uh oe _).on hg).box.ae;have fB:=((uh oe _).on hg).box.free;clear ap l1 l2 l3 n1 n2 n3 hL hg b0 b1 b2 b3 b4 b5 b6 b7 b8 b9 b10 hS0;unfold Gd.world at aK hq|-
       try go_simp
       refine hK.out _ _ (fun hx=>absurd (hx.symm.trans (by kernel_rfl)) abT) ?_;clear hK K;refine wto (j:=16) (by kernel_rfl) rfl (fun K hK=>?_);go_simp;refine hK.out _ _ (fun hx=>absurd (hx.symm.trans (by kernel_rfl)) abT) ?_;clear hK K;refine cy (by kernel_rfl) ?_ _;go_wp2_with fail;go_meet;exact⟨jC,jE,jI,dC,dE,dI,aK,hq,hj⟩
     case rest =>
      clear b0 b1 b2 b3 b4 b5 b6 b7 b8 b9 b10 hO sJ Je oe FU ch Ye rz fC fM;obtain⟨jC,jE,jI,dC,dE,dI,hX,sJ,VH⟩:=hcut;obtain⟨b0,b1,b2,b3,b4,b5,b6,b7,b8,b9,b10⟩:=(uh hX).af.box.ae;have ct:=fl s g c E2 I2 jC jE jI dC dE dI (t:Int) wc (uh hX).af.ab;rw[Ft.ib (uh HT)]at ct;unfold Gd.world at ct;by_cases hz:E2 t 0=0
      ·rw[abI (by simpa using hz)]at ct;rw[abO (by simpa using hz)]at ng;have tk:=aa ct;clear ct hz;go_wp2_with fail;refine aaR (uh tk) fun wy hg=>?_;have hX0:Hid (Gd.au w wy B jC jE jI dC dE dI s g c (Ft.kH s E I f t) (Ft.ls s E I f t)):=by
        show Gd.au _ _ _ _ _ _ _ _ _ _ _ _ _ _;rw[uh ng,uh og];exact(uh hX).on hg
       clear tk hg b0 b1 b2 b3 b4 b5 b6 b7 b8 b9 b10 hX ng og;obtain⟨b0,b1,b2,b3,b4,b5,b6,b7,b8,b9,b10⟩:=(uh hX0).af.box.ae;have fz:=(uh hX0).bl.free;obtain⟨z0,z1,z2,z3,z4,z5,z6,z7,z8,z9,bO⟩:=Gd.aq (uh hX0).bl;have ah:=aa (fun vs=>(uh hX0).bN vs);go_upto_region 13 with fail;generalize QT:Exit.then _ _=QQ;go_wp2_with fail;subst QT;rename_i K hK;refine hK _ _ (wp_ret ?_);refine abN (v:=.agg (Gd.world s jC jE jI dC dE dI g)) (by simp[results,results86,go_sem,Gd.world,z0,z1,z2,z3,z4,z5,z6,z7,z8,z9,bO]) rfl ?_;exact uh ah [_,_,_,_,_,_,_,_,_,_,_]
      ·rw[abJ hz]at ct;rw[abP hz]at ng;have fy:=((uh Zz).ix t (uh HT)).ia hz;have p0:0<=E2 t 9:=(by omega);have p9:E2 t 9<=9:=(by omega);have s0:0<=E2 t 10:=(by omega);have s9:E2 t 10<=9:=(by omega);have hk:=uh UR hz;rw[hk]at nD;have tk:=aa ct;clear ct hz fy hk;go_wp2_with fail;refine aaR (uh tk) fun wy hg=>?_;have wR:=aa ((uh hX).on hg);have FU:=aa ((uh sJ).on hg);clear tk hg b0 b1 b2 b3 b4 b5 b6 b7 b8 b9 b10 hX sJ;obtain⟨E4,sf⟩:∃x,x=if E f 0=4 then Gd.set E2 t 9 (min (E2 t 9+3) 9)else E2:=⟨_,rfl⟩;have vg:=aa sf;clear sf;have z0:wy.cell? ⟨Qa,0,none⟩=some (.int .i64 (E f 0)):=(uh FU).cell (c:=0) (by omega);have b5:=(uh wR).af.box.ae.2.2.2.2.2.1;have r9:wy.cell? ⟨jE,t*11+9,none⟩=some (.int .i64 (E2 t 9)):=((uh wR).af.ab.own.ai.row (uh HT)).2.2.2.2.2.2.2.2.2.1;have fE:=(uh wR).af.ab.ai.free;go_upto_if 90 with fail;go_cut [] from 90 to 103 (fun wx=>Hid (Gd.au w wx B jC jE jI dC dE dI s g c E4 I2)/\Hid (ay wx Qa 54 11 (En.ox (E f))))
       case first =>
        by_cases h4:E f 0=4
        ·rw[abP h4]at vg;have I7:(E f 0==4)=true:=by simpa using h4
         have mu:=aa ((uh wR).on (gd1 (abF _ none)));have hQ2:=aa ((uh FU).on (gd1 (abF _ none)));clear h4;by_cases hm:E2 t 9+3<=9
         ·have aK:Hid (Gd.au w (wy.drew.setCell ⟨jE,t*11+9,none⟩ (.int .i64 (E2 t 9+3))) B jC jE jI dC dE dI s g c E4 I2):=by
           show Gd.au _ _ _ _ _ _ _ _ _ _ _ _ _ _;rw[uh vg,show min (E2 t 9+3) 9=E2 t 9+3 by omega];exact(uh mu).gN t 9 (by omega) _
          have hq:Hid (ay (wy.drew.setCell ⟨jE,t*11+9,none⟩ (.int .i64 (E2 t 9+3))) Qa 54 11 (En.ox (E f))):=(uh hQ2).aP (uh VH) _ _;go_wp2_with fail
          go_region
          all_goals
           go_wp2_with fail;go_meet;exact⟨aK,hq⟩
         ·have aK:Hid (Gd.au w (wy.drew.setCell ⟨jE,t*11+9,none⟩ (.int .i64 9)) B jC jE jI dC dE dI s g c E4 I2):=by
           show Gd.au _ _ _ _ _ _ _ _ _ _ _ _ _ _;rw[uh vg,show min (E2 t 9+3) 9=9 by omega];exact(uh mu).gN t 9 (by omega) _
          have hq:Hid (ay (wy.drew.setCell ⟨jE,t*11+9,none⟩ (.int .i64 9)) Qa 54 11 (En.ox (E f))):=(uh hQ2).aP (uh VH) _ _;go_wp2_with fail
          go_region
          all_goals
           go_wp2_with fail;go_meet;exact⟨aK,hq⟩
        ·rw[abO h4]at vg;have I7:(E f 0==4)=false:=by simpa using h4
         have aK:Hid (Gd.au w wy B jC jE jI dC dE dI s g c E4 I2):=by
          show Gd.au _ _ _ _ _ _ _ _ _ _ _ _ _ _;rw[uh vg];exact uh wR
         clear h4;go_wp2_with fail;go_meet;exact⟨aK,FU⟩
       case rest =>
        clear z0 b5 r9 fE wR FU;obtain⟨hX,sJ⟩:=hcut;have z0:wc.cell? ⟨Qa,0,none⟩=some (.int .i64 (E f 0)):=(uh sJ).cell (c:=0) (by omega);by_cases h4:E f 0=4
        ·rw[abP h4]at vg nD;rw[h4]at z0;have hX0:Hid (Gd.au w wc B jC jE jI dC dE dI s g c (Ft.kH s E I f t) (Ft.ls s E I f t)):=by
          show Gd.au _ _ _ _ _ _ _ _ _ _ _ _ _ _;rw[uh ng,uh og,uh nD,<-uh vg];exact uh hX
         clear h4 hX nD vg ng og;obtain⟨b0,b1,b2,b3,b4,b5,b6,b7,b8,b9,b10⟩:=(uh hX0).af.box.ae;have fz:=(uh hX0).bl.free;obtain⟨z0,z1,z2,z3,z4,z5,z6,z7,z8,z9,bO⟩:=Gd.aq (uh hX0).bl;have ah:=aa (fun vs=>(uh hX0).bN vs);go_upto_region 18 with fail;generalize QT:Exit.then _ _=QQ;go_wp2_with fail;subst QT;rename_i K hK;refine hK _ _ (wp_ret ?_);refine abN (v:=.agg (Gd.world s jC jE jI dC dE dI g)) (by simp[results,results86,go_sem,Gd.world,z0,z1,z2,z3,z4,z5,z6,z7,z8,z9,bO]) rfl ?_;exact uh ah [_,_,_,_,_,_,_,_,_,_,_]
        ·rw[abO h4]at vg nD;obtain rfl:E4=E2:=uh vg;clear vg;by_cases h3:E f 0=3
         ·rw[h3]at z0;obtain⟨b0,b1,b2,b3,b4,b5,b6,b7,b8,b9,b10⟩:=(uh hX).af.box.ae;have wR:Hid (∀o:Obj,Gd.au w (wc.alloc o) B jC jE jI dC dE dI s g c E4 I2):=fun o=>(uh hX).on (abE _ _ _);have V1:=aa (uh cd2 wc _ rfl);have hY3:Hid (E f 0=3):=h3;clear h4 h3;by_cases hy:Y=0
          ·rw[abP ⟨uh hY3,hy⟩]at nD;rw[hy]at V1;clear hy;go_wp2_with fail;refine aaR (uh V1) fun wy hy=>?_;have mu:Hid (Gd.au w wy B jC jE jI dC dE dI s g c E4 I2):=by
            rw[hy];exact uh wR _
           clear hy hX wR V1 b0 b1 b2 b3 b4 b5 b6 b7 b8 b9 b10 z0;have bP:=aa ((uh mu).on (gd1 (abF _ none)));have b5:=(uh mu).af.box.ae.2.2.2.2.2.1;have pb:wy.cell? ⟨jE,t*11+10,none⟩=some (.int .i64 (E4 t 10)):=((uh mu).af.ab.own.ai.row (uh HT)).2.2.2.2.2.2.2.2.2.2;have fE:=(uh mu).af.ab.ai.free;go_upto_region 17 with fail;go_cut [] from 104 (fun wx=>Hid (Gd.au w wx B jC jE jI dC dE dI s g c (Ft.kH s E I f t) (Ft.ls s E I f t)))
           case first =>
            by_cases hm:E4 t 10+2<=9
            ·have aK:Hid (Gd.au w (wy.drew.setCell ⟨jE,t*11+10,none⟩ (.int .i64 (E4 t 10+2))) B jC jE jI dC dE dI s g c (Ft.kH s E I f t) (Ft.ls s E I f t)):=by
              show Gd.au _ _ _ _ _ _ _ _ _ _ _ _ _ _;rw[uh ng,uh og,uh nD,show min (E4 t 10+2) 9=E4 t 10+2 by omega];exact(uh bP).gN t 10 (by omega) _
             go_region
             all_goals
              go_wp2_with fail;go_meet;exact aK
            ·have aK:Hid (Gd.au w (wy.drew.setCell ⟨jE,t*11+10,none⟩ (.int .i64 9)) B jC jE jI dC dE dI s g c (Ft.kH s E I f t) (Ft.ls s E I f t)):=by
              show Gd.au _ _ _ _ _ _ _ _ _ _ _ _ _ _;rw[uh ng,uh og,uh nD,show min (E4 t 10+2) 9=9 by omega];exact(uh bP).gN t 10 (by omega) _
             go_region
             all_goals
              go_wp2_with fail;go_meet;exact aK
           case rest =>
            clear b5 pb fE mu bP nD ng og;have hX0:=aa (uh hcut);clear hcut;obtain⟨b0,b1,b2,b3,b4,b5,b6,b7,b8,b9,b10⟩:=(uh hX0).af.box.ae;have fz:=(uh hX0).bl.free;obtain⟨z0,z1,z2,z3,z4,z5,z6,z7,z8,z9,bO⟩:=Gd.aq (uh hX0).bl;have ah:=aa (fun vs=>(uh hX0).bN vs);go_upto_region 18 with fail;generalize QT:Exit.then _ _=QQ;go_wp2_with fail;subst QT;rename_i K hK;refine hK _ _ (wp_ret ?_);refine abN (v:=.agg (Gd.world s jC jE jI dC dE dI g)) (by simp[results,results86,go_sem,Gd.world,z0,z1,z2,z3,z4,z5,z6,z7,z8,z9,bO]) rfl ?_;exact uh ah [_,_,_,_,_,_,_,_,_,_,_]
          ·rw[abO (fun h=>hy h.2)]at nD;have IN:(Y==0)=false:=by simpa using hy
           clear hy;go_wp2_with fail;refine aaR (uh V1) fun wy hy=>?_;have hX0:Hid (Gd.au w wy B jC jE jI dC dE dI s g c (Ft.kH s E I f t) (Ft.ls s E I f t)):=by
            show Gd.au _ _ _ _ _ _ _ _ _ _ _ _ _ _;rw[uh ng,uh og,uh nD,hy];exact uh wR _
           clear hy hX wR V1 b0 b1 b2 b3 b4 b5 b6 b7 b8 b9 b10 z0 nD ng og;obtain⟨b0,b1,b2,b3,b4,b5,b6,b7,b8,b9,b10⟩:=(uh hX0).af.box.ae;have fz:=(uh hX0).bl.free;obtain⟨z0,z1,z2,z3,z4,z5,z6,z7,z8,z9,bO⟩:=Gd.aq (uh hX0).bl;have ah:=aa (fun vs=>(uh hX0).bN vs);go_upto_region 18 with fail;generalize QT:Exit.then _ _=QQ;go_wp2_with fail;subst QT;rename_i K hK;refine hK _ _ (wp_ret ?_);refine abN (v:=.agg (Gd.world s jC jE jI dC dE dI g)) (by simp[results,results86,go_sem,Gd.world,z0,z1,z2,z3,z4,z5,z6,z7,z8,z9,bO]) rfl ?_;exact uh ah [_,_,_,_,_,_,_,_,_,_,_]
         ·rw[abO (fun h=>h3 h.1)]at nD;have Sm:(E f 0==3)=false:=by simpa using h3
          have hX0:Hid (Gd.au w wc B jC jE jI dC dE dI s g c (Ft.kH s E I f t) (Ft.ls s E I f t)):=by
           show Gd.au _ _ _ _ _ _ _ _ _ _ _ _ _ _;rw[uh ng,uh og,uh nD];exact uh hX
          clear h3 h4 hX nD ng og;obtain⟨b0,b1,b2,b3,b4,b5,b6,b7,b8,b9,b10⟩:=(uh hX0).af.box.ae;have fz:=(uh hX0).bl.free;obtain⟨z0,z1,z2,z3,z4,z5,z6,z7,z8,z9,bO⟩:=Gd.aq (uh hX0).bl;have ah:=aa (fun vs=>(uh hX0).bN vs);go_upto_region 18 with fail;generalize QT:Exit.then _ _=QQ;go_wp2_with fail;subst QT;rename_i K hK;refine hK _ _ (wp_ret ?_);refine abN (v:=.agg (Gd.world s jC jE jI dC dE dI g)) (by simp[results,results86,go_sem,Gd.world,z0,z1,z2,z3,z4,z5,z6,z7,z8,z9,bO]) rfl ?_;exact uh ah [_,_,_,_,_,_,_,_,_,_,_]
theorem Ib(s g c:N1)(E I:N2)(gC gE gI cC cE cI:Nat)(f t:Int)(w:World)(hL:Gd.av w gC gE gI c E I)(hF:Ft.mH c E I):Calls prog 86 #[.agg (Gd.world s gC gE gI cC cE cI g),.int .i64 f,.int .i64 t] w (Gd.cL w s g c (Ft.lM s E I f t) (Ft.mO s E I f t)):=by
 unfold Ft.lM Ft.mO;by_cases h:Ft.bJ E f=true/\Ft.bJ E t=true
 ·rw[abP h,abP h];obtain⟨a,ha,rfl,a0⟩:=Ft.lc h.1;obtain⟨b,hb,rfl,b0⟩:=Ft.lc h.2;rw[abG,abG];exact Fy s g c E I gC gE gI cC cE cI a b w hL hF ha hb a0 b0
 ·rw[abO h,abO h];exact Fw s g c E I gC gE gI cC cE cI f t w hL h
variable{E I:N2}{c g s:N1}{gC gE gI:Nat}{w:World}
def Cr.wW(w:World)(gC gE gI:Nat)(s g c:N1)(E I:N2)(e:Ending)(w':World):Prop :=
 ∃jC jE jI dC dE dI,e=.returned (.agg (Gd.world s jC jE jI dC dE dI g))/\32<=dE/\(jC=gC\/w.heap.size<=jC)/\(jE=gE\/w.heap.size<=jE)/\(jI=gI\/w.heap.size<=jI)/\jC≠jE/\jC≠jI/\jE≠jI/\Gd.av w' jC jE jI c E I/\w.grownBy w' none
theorem Cr.za{w':World}{e:Ending}(h:Gd.cL w s g c E I e w'):Cr.wW w gC gE gI s g c E I e w':=by
 obtain⟨jC,jE,jI,dC,dE,dI,he,ap,l1,l2,l3,n1,n2,n3,hL,hg⟩:=h;exact⟨jC,jE,jI,dC,dE,dI,he,ap,.inr l1,.inr l2,.inr l3,n1,n2,n3,hL,hg⟩
theorem Gd.mU.back{x:World}{B cC cE cI:Nat}(h:Gd.mU w x B gC gE gI cC cE cI s g c E I)(ap:32<=cE)(n1:gC≠gE)(n2:gC≠gI)(n3:gE≠gI)(l1:gC<B)(l2:gE<B)(l3:gI<B)(vs:List Value):Cr.wW w gC gE gI s g c E I (.returned (.agg (Gd.world s gC gE gI cC cE cI g))) (x.setCells (B+1) 0 vs):=by
 have r:=gss (g:=B+1) vs 0 x (abF _ _);have h3:=h.jo;exact⟨gC,gE,gI,cC,cE,cI,rfl,ap,.inl rfl,.inl rfl,.inl rfl,n1,n2,n3,⟨h.ab.cells.grown r (by simp;omega),h.ab.ai.grown r (by simp;omega),h.ab.aj.grown r (by simp;omega)⟩,aA (by omega) _ 0 x h.grown⟩
theorem Gd.mU.ae{x:World}{B cC cE cI:Nat}(h:Gd.mU w x B gC gE gI cC cE cI s g c E I):x.cell? ⟨B,0,none⟩=some (.int .i64 (s 0))/\x.cell? ⟨B,1,none⟩=some (.int .i64 (s 1))/\x.cell? ⟨B,2,none⟩=some (.int .i64 (s 2))/\x.cell? ⟨B,3,none⟩=some (.int .i64 (s 3))/\x.cell? ⟨B,4,none⟩=some (.slice (some ⟨gC,0,none⟩) 384 cC)/\x.cell? ⟨B,5,none⟩=some (.slice (some ⟨gE,0,none⟩) 32 cE)/\x.cell? ⟨B,6,none⟩=some (.slice (some ⟨gI,0,none⟩) 40 cI)/\x.cell? ⟨B,7,none⟩=some (.int .i64 (g 0))/\x.cell? ⟨B,8,none⟩=some (.int .i64 (g 1))/\x.cell? ⟨B,9,none⟩=some (.int .i64 (g 2))/\x.cell? ⟨B,10,none⟩=some (.int .i64 (g 3)):=h.box.ae
theorem qD(s g c:N1)(E I:N2)(gC gE gI cC cE cI k:Nat)(d:Int)(lz:Bool)(w:World)(hL:Gd.av w gC gE gI c E I)(jx:32<=cE)(n1:gC≠gE)(n2:gC≠gI)(n3:gE≠gI)(hS:Cr.bs c E I)(hk:k<32)(k0:E k 0≠0):Calls prog 39 #[.agg (Gd.world s gC gE gI cC cE cI g),.int .i64 (k:Int),.int .i64 d,.bool lz] w (Cr.wW w gC gE gI s g c (Cr.dQ s c E I k d lz).1 (Cr.dQ s c E I k d lz).2):=by
 obtain⟨w0,aD,aF,aM,aN,eC⟩:=Gd.kr w gC gE gI cC cE cI s g;obtain⟨B,hB⟩:=abV w.heap.size;rw[hB]at aF aM eC;have hO:Hid (Gd.mU w w0 B gC gE gI cC cE cI s g c E I):=⟨aF,hL.on aN,hB,aM,aN⟩;have lC:gC<B:=by rw[<-hB];exact hL.cells.lt
 have lE:gE<B:=by rw[<-hB];exact hL.ai.lt
 have lI:gI<B:=by rw[<-hB];exact hL.aj.lt
 have GZ:Hid (∀(x:World),Gd.mU w x B gC gE gI cC cE cI s g c E I->∀vs,Cr.wW w gC gE gI s g c E I (.returned (.agg (Gd.world s gC gE gI cC cE cI g))) (x.setCells (B+1) 0 vs)):=fun x h vs=>h.back jx n1 n2 n3 lC lE lI vs;obtain⟨a1,a2,a3,a4,a5⟩:=hS.set.iZ.on k hk k0;have tB:=aa (show(0<=E k 3/\E k 3<24)/\0<=E k 4/\E k 4<16 from⟨⟨a1,a2⟩,a3,a4⟩);have HK:=aa hk;have jy:(k:Int)<32:=by omega
 have wQ:=aa hS;have eu:=aa hB;clear hL aF aM aN eC jx n1 n2 n3 lC lE lI hS hk k0 a1 a2 a3 a4 a5 hB;have fq:Hid (Cr.dQ s c E I k d lz=if d<1\/4<d then(E,I)else if 0<=Cr.oB E k d then(if decide (E (Cr.oB E k d).toNat 0=1)=lz then(Ft.lM s E I (k:Int) (Cr.oB E k d),Ft.mO s E I (k:Int) (Cr.oB E k d))else(E,I))else if Gr.aS (Gr.at 384 c (E k 3+(Fx.bh d).1) (E k 4+(Fx.bh d).2))=true then(Cr.go E k (E k 3+(Fx.bh d).1) (E k 4+(Fx.bh d).2),I)else(E,I)):=rfl;have mQ:Hid (Cr.oB E k d=En.first (En.eM E (E k 3+(Fx.bh d).1) (E k 4+(Fx.bh d).2)) 32):=rfl;have cw:=aa (fun wq=>lY d wq);unfold Gd.world at aD GZ|-;by_cases hd:d<1\/4<d
 ·rw[uh fq,abP hd];rw[Fx.ie d hd]at cw;clear fq mQ;go_enter func39,ntmps39;go_upto_region 1 with fail;rw[<-aD,uh eu];clear aD;go_wp2_with fail;refine abW (uh cw _) ?_;obtain⟨b0,b1,b2,b3,b4,b5,b6,b7,b8,b9,b10⟩:=(uh hO).ae;have fz:=(uh hO).bl.free;obtain⟨z0,z1,z2,z3,z4,z5,z6,z7,z8,z9,bO⟩:=Gd.aq (uh hO).bl;have ah:=aa (fun vs=>uh GZ _ (uh hO) vs);clear cw hd;go_wp2;refine abN (v:=.agg (Gd.world s gC gE gI cC cE cI g)) (by simp[results,results39,go_sem,Gd.world,z0,z1,z2,z3,z4,z5,z6,z7,z8,z9,bO]) rfl ?_;exact uh ah [_,_,_,_,_,_,_,_,_,_,_]
 rw[uh fq,abO hd];have cz:=aa (fun z (hz:Gd.av z gC gE gI c E I)=>eA gE 32 cE E (E k 3+(Fx.bh d).1) (E k 4+(Fx.bh d).2) z hz.own.ai);have ca:=aa (fun z (hz:Gd.av z gC gE gI c E I)=>bM z.heap.size (some ⟨gC,0,none⟩) 384 cC c (E k 3+(Fx.bh d).1) (E k 4+(Fx.bh d).2) z hz.lg (uh wQ).ly.cells);have ck:=aa (fun wq=>cT (Gr.at 384 c (E k 3+(Fx.bh d).1) (E k 4+(Fx.bh d).2)) wq);have wb:=Fx.oa d;have ow:¬((Fx.bh d).1=0/\(Fx.bh d).2=0):=by
  obtain⟨n,rfl⟩:∃n:Nat,d=(n:Int):=⟨d.toNat,by omega⟩;have:=Md.PN (d:=n) (by omega) (by omega) 0 0;omega
 have k1:=uh tB;have x1:IntKind.i64.wrap (E k 3+(Fx.bh d).1)=E k 3+(Fx.bh d).1:=by rw[abK];omega
 have y1:IntKind.i64.wrap (E k 4+(Fx.bh d).2)=E k 4+(Fx.bh d).2:=by rw[abK];omega
 rw[uh mQ];obtain⟨z,hz⟩:=abV (En.first (En.eM E (E k 3+(Fx.bh d).1) (E k 4+(Fx.bh d).2)) 32)
 have Qe:z=-1\/∃j:Nat,j<32/\z=(j:Int):=by
  rw[<-hz];rcases En.aw (En.eM E (E k 3+(Fx.bh d).1) (E k 4+(Fx.bh d).2)) 32 with⟨he,_⟩|⟨j,hj,he,_⟩
  ·exact .inl he
  ·exact .inr ⟨j,hj,he⟩
 obtain⟨A,hA⟩:=abV (Gr.at 384 c (E k 3+(Fx.bh d).1) (E k 4+(Fx.bh d).2));obtain⟨wk,sk⟩:=abV (Gr.aS A);rw[hz]at cz|-;rw[hA]at ca ck|-;rw[sk]at ck|-;obtain⟨dx,zE⟩:=abV ((Fx.bh d).1);obtain⟨dy,zF⟩:=abV ((Fx.bh d).2);rw[zE]at cw cz ca x1 ow|-;rw[zF]at cw cz ca y1 ow|-;have U0:=aa Qe;have Xj:=aa ow;obtain⟨P,KO⟩:∃P,Cr.wW w gC gE gI s g c (if 0<=z then(if decide (E z.toNat 0=1)=lz then(Ft.lM s E I (k:Int) z,Ft.mO s E I (k:Int) z)else(E,I))else if wk=true then(Cr.go E k (E k 3+dx) (E k 4+dy),I)else(E,I)).1 (if 0<=z then(if decide (E z.toNat 0=1)=lz then(Ft.lM s E I (k:Int) z,Ft.mO s E I (k:Int) z)else(E,I))else if wk=true then(Cr.go E k (E k 3+dx) (E k 4+dy),I)else(E,I)).2=P:=⟨_,rfl⟩;have ah:Hid (∀F J e w',(if 0<=z then(if decide (E z.toNat 0=1)=lz then(Ft.lM s E I (k:Int) z,Ft.mO s E I (k:Int) z)else(E,I))else if wk=true then(Cr.go E k (E k 3+dx) (E k 4+dy),I)else(E,I))=(F,J)->Cr.wW w gC gE gI s g c F J e w'->P e w'):=fun F J e w' h1 h2=>by
  rw[<-KO,h1];exact h2
 rw[KO];clear hz hA sk zE zF wb k1 fq mQ Qe ow hd KO;go_enter func39,ntmps39;go_upto_region 1 with fail;rw[<-aD,uh eu];clear aD;go_wp2_with fail;refine abW (uh cw _) ?_;clear cw;go_upto_region 2 with fail;go_cut [24] from 19 to 24 (fun va wx=>va=.bool false/\wx=w0)
 case first =>
  by_cases h0:dx=0
  ·have h1:(dy==0)=false:=by have:=uh Xj;simp;omega
   subst h0;go_wp2_with fail;go_meet;exact⟨rfl,rfl⟩
  ·have h1:(dx==0)=false:=by simpa using h0
   clear h0;go_wp2_with fail;go_meet;exact⟨rfl,rfl⟩
 case rest =>
  obtain⟨rfl,xq⟩:=hcut;subst xq;clear Xj;have q5:=(uh hO).ae.2.2.2.2.2.1;have r3:=((uh hO).ab.own.ai.row (uh HK)).2.2.2.1;have r4:=((uh hO).ab.own.ai.row (uh HK)).2.2.2.2.1;go_upto_region 4 with fail;go_cut [11,12] from 26 to 41 (fun va vb wx=>va=.int .i64 (E k 3+dx)/\vb=.int .i64 (E k 4+dy)/\Hid (Gd.mU w wx B gC gE gI cC cE cI s g c E I))
  case first =>
   go_quiet (fail);go_wp2_with fail;go_meet;exact⟨rfl,rfl,(uh hO).on (gdw (abF _ none) _)⟩
  case rest =>
   clear hO q5 r3 r4 x1 y1;obtain⟨rfl,rfl,hO⟩:=hcut;have q5:=(uh hO).ae.2.2.2.2.2.1;have V7:=aa (uh cz _ (uh hO).ab);go_wp2_with fail;refine abW (uh V7) ?_;clear cz V7;rcases uh U0 with rfl|⟨j,hj,rfl⟩
   ·have q4:=(uh hO).ae.2.2.2.2.1;have gQ:=aa (uh ca _ (uh hO).ab);clear U0 q5;go_wp2_with fail;refine abW (uh gQ) ?_;go_wp2_with fail;refine abW (uh ck _) ?_;clear ca gQ ck q4;obtain⟨b0,b1,b2,b3,b4,b5,b6,b7,b8,b9,b10⟩:=(uh hO).ae;cases wk
    ·have hf:=aa (fun e w'=>uh ah E I e w' (by rw[abO (by omega),abO (by simp)]));clear ah;have fz:=(uh hO).bl.free;obtain⟨z0,z1,z2,z3,z4,z5,z6,z7,z8,z9,bO⟩:=Gd.aq (uh hO).bl;have ma:=aa (fun vs=>uh GZ _ (uh hO) vs);go_wp2;refine abN (v:=.agg (Gd.world s gC gE gI cC cE cI g)) (by simp[results,results39,go_sem,Gd.world,z0,z1,z2,z3,z4,z5,z6,z7,z8,z9,bO]) rfl ?_;exact uh hf _ _ (uh ma [_,_,_,_,_,_,_,_,_,_,_])
    ·have hf:=aa (fun e w'=>uh ah (Cr.go E k (E k 3+dx) (E k 4+dy)) I e w' (by rw[abO (by omega),abP rfl]));clear ah;have ct:=aa (du s g c E I gC gE gI cC cE cI _ (uh hO).ab);unfold Gd.world at ct;go_wp2_with fail;refine(uh ct).mono ?_;rintro e w1 ⟨jC,jE,jI,dC,dE,dI,rfl,ap,l1,l2,l3,n1,n2,n3,hL,hg⟩;have hX:Hid (Gd.au w (((((((((((w1.setCell ⟨B,0,none⟩ (.int .i64 (s 0))).setCell ⟨B,1,none⟩ (.int .i64 (s 1))).setCell ⟨B,2,none⟩ (.int .i64 (s 2))).setCell ⟨B,3,none⟩ (.int .i64 (s 3))).setCell ⟨B,4,none⟩ (.slice (some ⟨jC,0,none⟩) 384 dC)).setCell ⟨B,5,none⟩ (.slice (some ⟨jE,0,none⟩) 32 dE)).setCell ⟨B,6,none⟩ (.slice (some ⟨jI,0,none⟩) 40 dI)).setCell ⟨B,7,none⟩ (.int .i64 (g 0))).setCell ⟨B,8,none⟩ (.int .i64 (g 1))).setCell ⟨B,9,none⟩ (.int .i64 (g 2))).setCell ⟨B,10,none⟩ (.int .i64 (g 3))) B jC jE jI dC dE dI s g c E I):=(uh hO).over (s':=s) (g':=g) (dC:=dC) (dI:=dI) ap l1 l2 l3 n1 n2 n3 hL hg;obtain⟨y0,y1,y2,y3,y4,y5,y6,y7,y8,y9,y10⟩:=((uh hO).on hg).ae;have fB:=((uh hO).on hg).box.free;clear ap l1 l2 l3 n1 n2 n3 hL hg ct b0 b1 b2 b3 b4 b5 b6 b7 b8 b9 b10 hO GZ;unfold Gd.world;go_upto_region 12 with fail;generalize (((((((((((w1.setCell ⟨B,0,none⟩ (.int .i64 (s 0))).setCell ⟨B,1,none⟩ (.int .i64 (s 1))).setCell ⟨B,2,none⟩ (.int .i64 (s 2))).setCell ⟨B,3,none⟩ (.int .i64 (s 3))).setCell ⟨B,4,none⟩ (.slice (some ⟨jC,0,none⟩) 384 dC)).setCell ⟨B,5,none⟩ (.slice (some ⟨jE,0,none⟩) 32 dE)).setCell ⟨B,6,none⟩ (.slice (some ⟨jI,0,none⟩) 40 dI)).setCell ⟨B,7,none⟩ (.int .i64 (g 0))).setCell ⟨B,8,none⟩ (.int .i64 (g 1))).setCell ⟨B,9,none⟩ (.int .i64 (g 2))).setCell ⟨B,10,none⟩ (.int .i64 (g 3)))=w2 at hX|-;clear y0 y1 y2 y3 y4 y5 y6 y7 y8 y9 y10 fB;have pR:Hid (Cr.go E k (E k 3+dx) (E k 4+dy)=Gd.set (Gd.set E k 3 (E k 3+dx)) k 4 (E k 4+dy)):=rfl;rw[uh pR]at hf;obtain⟨X,hXe⟩:=abV (E k 3+dx);obtain⟨Y,Uc⟩:=abV (E k 4+dy);rw[hXe,Uc]at hf|-;clear hXe Uc pR;go_cut [] from 71 to 82 (fun wx=>Hid (Gd.au w wx B jC jE jI dC dE dI s g c (Gd.set (Gd.set E k 3 X) k 4 Y) I))
     case first =>
      have b5:=(uh hX).af.box.ae.2.2.2.2.2.1;have fE:=(uh hX).af.ab.ai.free;have r3:=((uh hX).af.ab.own.ai.row (uh HK)).2.2.2.1;have r4:=((uh hX).af.ab.own.ai.row (uh HK)).2.2.2.2.1;have ZW:B≠jE:=(uh hX).af.bE;have hET:jE≠B:=ZW.symm
      go_region
      all_goals (go_wp2_with fail;go_meet)
      exact(((uh hX).gN k 3 (by omega) X).gN k 4 (by omega) Y).on (gd1 (abF _ none))
     case rest =>
      clear hX;have hX:=hcut;clear hcut;obtain⟨b0,b1,b2,b3,b4,b5,b6,b7,b8,b9,b10⟩:=(uh hX).af.box.ae;have fz:=(uh hX).bl.free;obtain⟨z0,z1,z2,z3,z4,z5,z6,z7,z8,z9,bO⟩:=Gd.aq (uh hX).bl;have ma:=aa (fun vs=>Cr.za (gC:=gC) (gE:=gE) (gI:=gI) ((uh hX).bN vs));go_wp2;refine abN (v:=.agg (Gd.world s jC jE jI dC dE dI g)) (by simp[results,results39,go_sem,Gd.world,z0,z1,z2,z3,z4,z5,z6,z7,z8,z9,bO]) rfl ?_;exact uh hf _ _ (uh ma [_,_,_,_,_,_,_,_,_,_,_])
   ·have zK:(j:Int)<32:=(by omega);have hjp:(j:Int)≥0:=(by omega);have u0:=((uh hO).ab.own.ai.row hj).1;have ct:=aa (Ib s g c E I gC gE gI cC cE cI (k:Int) (j:Int) _ (uh hO).ab (uh wQ).ly);obtain⟨eq,GM⟩:∃eq,decide (E j 0=1)=eq:=⟨_,rfl⟩;have abc:(E j 0==1)=eq:=by rw[<-GM];rfl
    have SJ:Hid (∀F J e w',(if eq=lz then(Ft.lM s E I (k:Int) (j:Int),Ft.mO s E I (k:Int) (j:Int))else(E,I))=(F,J)->Cr.wW w gC gE gI s g c F J e w'->P e w'):=fun F J e w' h1 h2=>uh ah F J e w' (by rw[abP (by omega),abG,GM];exact h1) h2;clear U0 GM hj ca ck ah;obtain⟨b0,b1,b2,b3,b4,b5,b6,b7,b8,b9,b10⟩:=(uh hO).ae;cases lz <;> cases eq
    ·have hf:=aa (fun e w'=>uh SJ _ _ e w' (abP rfl));clear SJ;unfold Gd.world at ct;go_wp2_with fail;refine(uh ct).mono ?_;rintro e w1 ⟨jC,jE,jI,dC,dE,dI,rfl,ap,l1,l2,l3,n1,n2,n3,hL,hg⟩;have hX:Hid (Gd.au w (((((((((((w1.setCell ⟨B,0,none⟩ (.int .i64 (s 0))).setCell ⟨B,1,none⟩ (.int .i64 (s 1))).setCell ⟨B,2,none⟩ (.int .i64 (s 2))).setCell ⟨B,3,none⟩ (.int .i64 (s 3))).setCell ⟨B,4,none⟩ (.slice (some ⟨jC,0,none⟩) 384 dC)).setCell ⟨B,5,none⟩ (.slice (some ⟨jE,0,none⟩) 32 dE)).setCell ⟨B,6,none⟩ (.slice (some ⟨jI,0,none⟩) 40 dI)).setCell ⟨B,7,none⟩ (.int .i64 (g 0))).setCell ⟨B,8,none⟩ (.int .i64 (g 1))).setCell ⟨B,9,none⟩ (.int .i64 (g 2))).setCell ⟨B,10,none⟩ (.int .i64 (g 3))) B jC jE jI dC dE dI s g c (Ft.lM s E I (k:Int) (j:Int)) (Ft.mO s E I (k:Int) (j:Int))):=(uh hO).over (s':=s) (g':=g) (dC:=dC) (dI:=dI) ap l1 l2 l3 n1 n2 n3 hL hg;obtain⟨y0,y1,y2,y3,y4,y5,y6,y7,y8,y9,y10⟩:=((uh hO).on hg).ae;have fB:=((uh hO).on hg).box.free;clear ap l1 l2 l3 n1 n2 n3 hL hg ct b0 b1 b2 b3 b4 b5 b6 b7 b8 b9 b10 hO GZ;unfold Gd.world;go_upto_region 9 with fail;generalize (((((((((((w1.setCell ⟨B,0,none⟩ (.int .i64 (s 0))).setCell ⟨B,1,none⟩ (.int .i64 (s 1))).setCell ⟨B,2,none⟩ (.int .i64 (s 2))).setCell ⟨B,3,none⟩ (.int .i64 (s 3))).setCell ⟨B,4,none⟩ (.slice (some ⟨jC,0,none⟩) 384 dC)).setCell ⟨B,5,none⟩ (.slice (some ⟨jE,0,none⟩) 32 dE)).setCell ⟨B,6,none⟩ (.slice (some ⟨jI,0,none⟩) 40 dI)).setCell ⟨B,7,none⟩ (.int .i64 (g 0))).setCell ⟨B,8,none⟩ (.int .i64 (g 1))).setCell ⟨B,9,none⟩ (.int .i64 (g 2))).setCell ⟨B,10,none⟩ (.int .i64 (g 3)))=w2 at hX|-;clear y0 y1 y2 y3 y4 y5 y6 y7 y8 y9 y10 fB;obtain⟨b0,b1,b2,b3,b4,b5,b6,b7,b8,b9,b10⟩:=(uh hX).af.box.ae;have fz:=(uh hX).bl.free;obtain⟨z0,z1,z2,z3,z4,z5,z6,z7,z8,z9,bO⟩:=Gd.aq (uh hX).bl;have ma:=aa (fun vs=>Cr.za (gC:=gC) (gE:=gE) (gI:=gI) ((uh hX).bN vs));go_wp2;refine abN (v:=.agg (Gd.world s jC jE jI dC dE dI g)) (by simp[results,results39,go_sem,Gd.world,z0,z1,z2,z3,z4,z5,z6,z7,z8,z9,bO]) rfl ?_;exact uh hf _ _ (uh ma [_,_,_,_,_,_,_,_,_,_,_])
    ·have hf:=aa (fun e w'=>uh SJ E I e w' (abO (by simp)));clear SJ ct;have fz:=(uh hO).bl.free;obtain⟨z0,z1,z2,z3,z4,z5,z6,z7,z8,z9,bO⟩:=Gd.aq (uh hO).bl;have ma:=aa (fun vs=>uh GZ _ (uh hO) vs);go_wp2;refine abN (v:=.agg (Gd.world s gC gE gI cC cE cI g)) (by simp[results,results39,go_sem,Gd.world,z0,z1,z2,z3,z4,z5,z6,z7,z8,z9,bO]) rfl ?_;exact uh hf _ _ (uh ma [_,_,_,_,_,_,_,_,_,_,_])
    ·have hf:=aa (fun e w'=>uh SJ E I e w' (abO (by simp)));clear SJ ct;have fz:=(uh hO).bl.free;obtain⟨z0,z1,z2,z3,z4,z5,z6,z7,z8,z9,bO⟩:=Gd.aq (uh hO).bl;have ma:=aa (fun vs=>uh GZ _ (uh hO) vs);go_wp2;refine abN (v:=.agg (Gd.world s gC gE gI cC cE cI g)) (by simp[results,results39,go_sem,Gd.world,z0,z1,z2,z3,z4,z5,z6,z7,z8,z9,bO]) rfl ?_;exact uh hf _ _ (uh ma [_,_,_,_,_,_,_,_,_,_,_])
    ·have hf:=aa (fun e w'=>uh SJ _ _ e w' (abP rfl));clear SJ;unfold Gd.world at ct;go_wp2_with fail;refine(uh ct).mono ?_;rintro e w1 ⟨jC,jE,jI,dC,dE,dI,rfl,ap,l1,l2,l3,n1,n2,n3,hL,hg⟩;have hX:Hid (Gd.au w (((((((((((w1.setCell ⟨B,0,none⟩ (.int .i64 (s 0))).setCell ⟨B,1,none⟩ (.int .i64 (s 1))).setCell ⟨B,2,none⟩ (.int .i64 (s 2))).setCell ⟨B,3,none⟩ (.int .i64 (s 3))).setCell ⟨B,4,none⟩ (.slice (some ⟨jC,0,none⟩) 384 dC)).setCell ⟨B,5,none⟩ (.slice (some ⟨jE,0,none⟩) 32 dE)).setCell ⟨B,6,none⟩ (.slice (some ⟨jI,0,none⟩) 40 dI)).setCell ⟨B,7,none⟩ (.int .i64 (g 0))).setCell ⟨B,8,none⟩ (.int .i64 (g 1))).setCell ⟨B,9,none⟩ (.int .i64 (g 2))).setCell ⟨B,10,none⟩ (.int .i64 (g 3))) B jC jE jI dC dE dI s g c (Ft.lM s E I (k:Int) (j:Int)) (Ft.mO s E I (k:Int) (j:Int))):=(uh hO).over (s':=s) (g':=g) (dC:=dC) (dI:=dI) ap l1 l2 l3 n1 n2 n3 hL hg;obtain⟨y0,y1,y2,y3,y4,y5,y6,y7,y8,y9,y10⟩:=((uh hO).on hg).ae;have fB:=((uh hO).on hg).box.free;clear ap l1 l2 l3 n1 n2 n3 hL hg ct b0 b1 b2 b3 b4 b5 b6 b7 b8 b9 b10 hO GZ;unfold Gd.world;go_upto_region 9 with fail;generalize (((((((((((w1.setCell ⟨B,0,none⟩ (.int .i64 (s 0))).setCell ⟨B,1,none⟩ (.int .i64 (s 1))).setCell ⟨B,2,none⟩ (.int .i64 (s 2))).setCell ⟨B,3,none⟩ (.int .i64 (s 3))).setCell ⟨B,4,none⟩ (.slice (some ⟨jC,0,none⟩) 384 dC)).setCell ⟨B,5,none⟩ (.slice (some ⟨jE,0,none⟩) 32 dE)).setCell ⟨B,6,none⟩ (.slice (some ⟨jI,0,none⟩) 40 dI)).setCell ⟨B,7,none⟩ (.int .i64 (g 0))).setCell ⟨B,8,none⟩ (.int .i64 (g 1))).setCell ⟨B,9,none⟩ (.int .i64 (g 2))).setCell ⟨B,10,none⟩ (.int .i64 (g 3)))=w2 at hX|-;clear y0 y1 y2 y3 y4 y5 y6 y7 y8 y9 y10 fB;obtain⟨b0,b1,b2,b3,b4,b5,b6,b7,b8,b9,b10⟩:=(uh hX).af.box.ae;have fz:=(uh hX).bl.free;obtain⟨z0,z1,z2,z3,z4,z5,z6,z7,z8,z9,bO⟩:=Gd.aq (uh hX).bl;have ma:=aa (fun vs=>Cr.za (gC:=gC) (gE:=gE) (gI:=gI) ((uh hX).bN vs));go_wp2;refine abN (v:=.agg (Gd.world s jC jE jI dC dE dI g)) (by simp[results,results39,go_sem,Gd.world,z0,z1,z2,z3,z4,z5,z6,z7,z8,z9,bO]) rfl ?_;exact uh hf _ _ (uh ma [_,_,_,_,_,_,_,_,_,_,_])
theorem Cr.me.back{w x:World}{B R gC gE gI cC cE cI oC oE oI:Nat}{s g c:N1}{E I:N2}(h:Cr.me w x B gC gE gI cC cE cI s g c E I)(lR:w.heap.size<=R)(nC:R≠gC)(nE:R≠gE)(nI:R≠gI)(l1:gC=oC\/w.heap.size<=gC)(l2:gE=oE\/w.heap.size<=gE)(l3:gI=oI\/w.heap.size<=gI)(vs:List Value):Cr.wW w oC oE oI s g c E I (.returned (.agg (Gd.world s gC gE gI cC cE cI g))) (x.setCells R 0 vs):=by
 have r:=gss (g:=R) vs 0 x (abF _ _);exact⟨gC,gE,gI,cC,cE,cI,rfl,h.aG,l1,l2,l3,h.af.cE,h.af.cI,h.af.eI,⟨h.af.ab.cells.grown r (by simpa using nC),h.af.ab.ai.grown r (by simpa using nE),h.af.ab.aj.grown r (by simpa using nI)⟩,aA lR _ 0 x h.grown⟩
theorem pZ(seed f:Int)(h1:1<=f)(h3:f<=3)(w:World):Calls prog 26 #[.int .i64 seed,.int .i64 f] w (Cr.Made seed f w):=by
 obtain⟨d,hd,hF⟩:=Kv seed f;refine(Ic seed f d hd hF h1 h3 w).mono ?_;rintro e w' ⟨c,F,G,nE,nI,cE,cI,aE,aI,iW,rfl,hG,hA,Jr,rK,hE,hI,hg⟩;have hl:Cr.xC seed f c (Gn.ai d f c F) (Gn.aj d c):=⟨d,F,hd,hF,iW,rfl,rfl⟩;have NN:nE<=40:=by
  rw[Jr];have:=Gn.nm d f (f+2).toNat 0 ((Gn.bi (fun i=>c i==1) 384).filter (Gn.eB F));unfold Gn.ai;omega
 have GF:nI<=100:=by
  have:=Gn.yj d c;rw[rK,this.1];split <;> omega
 exact⟨c,_,_,G,nE,nI,cE,cI,aE,aI,hl,rfl,hG,hA.lie,Cr.uz hE Jr NN (fun p hp=>⟨(hl.mons h1 p hp).1,(hl.mons h1 p hp).2.1,(hl.mons h1 p hp).2.2.1⟩),Cr.rm hI rK GF,rK,hg,fun z hz=>⟨Cr.uz (hz.Mt hE) Jr NN (fun p hp=>⟨(hl.mons h1 p hp).1,(hl.mons h1 p hp).2.1,(hl.mons h1 p hp).2.2.1⟩),Cr.rm (hz.Mt hI) rK GF⟩⟩
variable{B cC cE cI gC gE gI:Nat}{E I:N2}{c g s:N1}{fZ:Nat->Value}{w x:World}
theorem Cr.Kd(E:N2){es:List (Int × Nat)}{i:Nat}{p:Int × Nat}(h:es[i]?=some p):Cr.cZ E (es.take (i+1))=if En.first (En.eM (Cr.cZ E (es.take i)) ((p.2:Int)%24) ((p.2:Int)/24)) 32<0 then Cr.dX (Cr.cZ E (es.take i)) (Cr.bo p.1 0 p.2)else Cr.cZ E (es.take i):=by
 unfold Cr.cZ;rw[List.take_add_one,h,List.foldl_append];rfl
structure Cr.oH(w x:World)(B gC gE gI cC cE cI:Nat)(fZ:Nat->Value)(s g c:N1)(E I:N2):Prop where
 al:Cr.me w x B gC gE gI cC cE cI s g c E I
 fZ:ay x (B+1) 58 3 fZ
 bl:ay x (B+1+1) 30 11 (fun j=>#[.int .i64 0,.int .i64 0,.int .i64 0,.int .i64 0,.slice none 0 0,.slice none 0 0,.slice none 0 0,.int .i64 0,.int .i64 0,.int .i64 0,Value.int .i64 0][j]?.getD undef)
theorem Cr.oH.on{y:World}(h:Cr.oH w x B gC gE gI cC cE cI fZ s g c E I)(hg:x.grownBy y none):Cr.oH w y B gC gE gI cC cE cI fZ s g c E I :=
 ⟨h.al.on hg,h.fZ.on hg,h.bl.on hg⟩
theorem Cr.oH.folk{x':World}{jE dE:Nat}{F:N2}(h:Cr.oH w x B gC gE gI cC cE cI fZ s g c E I)(ap:32<=dE)(hj:jE=gE\/x.heap.size<=jE)(hO:fg x' jE 32 F)(hg:x.grownBy x' none):Cr.oH w (x'.setCell ⟨B,5,none⟩ (.slice (some ⟨jE,0,none⟩) 32 dE)) B gC jE gI cC dE cI fZ s g c F I :=
 ⟨h.al.folk ap hj hO hg,(h.fZ.on hg).aP (by omega) 5 _,(h.bl.on hg).aP (by omega) 5 _⟩
theorem Cr.oH.xU{x':World}{jI dI:Nat}{J:N2}(h:Cr.oH w x B gC gE gI cC cE cI fZ s g c E I)(hj:x.heap.size<=jI)(hJ:ay x' jI 62 160 (Gd.aL J))(hg:x.grownBy x' none):Cr.oH w (x'.setCell ⟨B,6,none⟩ (.slice (some ⟨jI,0,none⟩) 40 dI)) B gC gE jI cC cE dI fZ s g c E J :=
 ⟨h.al.xU hj hJ hg,(h.fZ.on hg).aP (by omega) 6 _,(h.bl.on hg).aP (by omega) 6 _⟩
theorem rV(s g c:N1)(E I I0:N2)(gC gE gI cC cE cI G nE nI kE kI:Nat)(aE aI:Option Addr)(es:List (Int × Nat))(is:List Gn.li)(w:World)(hL:Gd.av w gC gE gI c E I)(jx:32<=cE)(n1:gC≠gE)(n2:gC≠gI)(n3:gE≠gI)(hS:Cr.bs c E I0)(hm:Cr.tS w aE nE es)(hw:∀p,p∈es->2<=p.1/\p.1<=4/\p.2<384/\Gr.aS (c p.2)=true)(hI:Gd.qP w aI nI (Cr.fN is))(rK:nI=is.length):Calls prog 27 #[.agg (Gd.world s gC gE gI cC cE cI g),.agg #[.slice (some ⟨G,0,none⟩) 384 384,.slice aE nE kE,.slice aI nI kI]] w (Cr.wW w gC gE gI s g c (Cr.cZ E es) (Cr.fU I is)):=by
 obtain⟨wz,gW⟩:∃wz,wz=w.alloc (.cells (Gd.world s gC gE gI cC cE cI g) 30):=⟨_,rfl⟩;obtain⟨wy,qL⟩:∃wy,wy=wz.alloc (.cells #[.slice (some ⟨G,0,none⟩) 384 384,.slice aE nE kE,.slice aI nI kI] 58):=⟨_,rfl⟩;obtain⟨w0,aD⟩:∃w0,w0=wy.alloc (.cells #[.int .i64 0,.int .i64 0,.int .i64 0,.int .i64 0,.slice none 0 0,.slice none 0 0,.slice none 0 0,.int .i64 0,.int .i64 0,.int .i64 0,.int .i64 0] 30):=⟨_,rfl⟩;have fM:w.grownBy wz none:=by rw[gW];exact abE _ _ _
 have qK:wz.grownBy wy none:=by rw[qL];exact abE _ _ _
 have aN:wy.grownBy w0 none:=by rw[aD];exact abE _ _ _
 have hg1:=gtr fM (gtr qK aN);have sz:wz.heap.size=w.heap.size+1:=by rw[gW];simp
 have sy:wy.heap.size=w.heap.size+1+1:=by rw[qL,gW];simp
 obtain⟨B,hB⟩:=abV w.heap.size;rw[hB]at sz sy;have lC:gC<B:=by rw[<-hB];exact hL.cells.lt
 have lE:gE<B:=by rw[<-hB];exact hL.ai.lt
 have lI:gI<B:=by rw[<-hB];exact hL.aj.lt
 have aF:ay w0 B 30 11 (Gd.box s gC gE gI cC cE cI g):=by
  refine ay.on ?_ (gtr qK aN);rw[gW,<-hB];exact(ax.world (abH w _)).lie
 have iW:ay w0 (B+1) 58 3 (fun j=>#[.slice (some ⟨G,0,none⟩) 384 384,.slice aE nE kE,.slice aI nI kI][j]?.getD undef):=by
  refine ay.on ?_ aN;rw[qL,<-sz];exact(ax.lit (abH wz _)).lie
 have aM:ay w0 (B+1+1) 30 11 (fun j=>#[.int .i64 0,.int .i64 0,.int .i64 0,.int .i64 0,.slice none 0 0,.slice none 0 0,.slice none 0 0,.int .i64 0,.int .i64 0,.int .i64 0,Value.int .i64 0][j]?.getD undef):=by
  rw[aD,<-sy];exact(ax.lit (abH wy _)).lie
 have hH:Hid (Cr.oH w w0 B gC gE gI cC cE cI (fun j=>#[.slice (some ⟨G,0,none⟩) 384 384,.slice aE nE kE,.slice aI nI kI][j]?.getD undef) s g c (Cr.cZ E (es.take 0)) I):=⟨⟨⟨aF,hL.on hg1,by omega,by omega,by omega,n1,n2,n3⟩,by omega,jx,hg1⟩,iW,aM⟩;have P9:Hid (∀i,Cr.bs c (Cr.cZ E (es.take i)) I0):=fun i=>hS.cZ _ (fun p hp=>hw p (List.mem_of_mem_take hp));have mf:=aa hm;have mS:=aa hI;have ju:=aa hm.1;have aam:=hm.2.1;have vD:=aa rK;have eu:=aa hB;have abm:=aa (And.intro lC (And.intro lE lI));clear hL jx n1 n2 n3 hS hm hw hI rK fM qK aN hg1 sz sy lC lE lI aF iW aM;unfold Gd.world at gW|-;rw[gW]at qL;rw[qL]at aD;clear gW qL;go_enter func27,ntmps27;go_upto_region 1 with fail;rw[<-aD];clear aD hB;go_wp2_with fail;go_loopw [5] (fun v5 wr=>∃(i jE dE:Nat),i<=nE/\v5=.int .i64 (i:Int)/\Hid (jE=gE\/w.heap.size<=jE)/\Hid (Cr.oH w wr B gC jE gI cC dE cI (fun j=>#[.slice (some ⟨G,0,none⟩) 384 384,.slice aE nE kE,.slice aI nI kI][j]?.getD undef) s g c (Cr.cZ E (es.take i)) I)) (fun v5 _=>50-(intOf v5).toNat)
 case atStart=>exact⟨0,gE,cE,by omega,rfl,.inl rfl,hH⟩
 case round =>
  clear hH;obtain⟨i,jE,dE,hi,rfl,VH,hH⟩:=hrel;have l1:wr.cell? ⟨B+1,1,none⟩=some (.slice aE nE kE):=(uh hH).fZ.cell (c:=1) (by omega);by_cases hlt:i<nE
  ·have hlt':(i:Int)<(nE:Int):=by omega
   have HL:=aa hlt;obtain⟨p,hp⟩:∃p,es[i]?=some p:=⟨es[i]'(by have:=uh ju;omega),abQ _⟩;obtain⟨hk,b,rfl,hb,iu⟩:=(uh mf).2.2 i p hp;have jA:=aa (Cr.Kd E hp);have US:=aa (uh P9 i);have HK:=aa hk;have bZ:Hid (∀z,wr.grownBy z none->∀j,j<11->z.cell? ⟨b,i*11+j,none⟩=some (.int .i64 (Cr.bo p.1 0 p.2 j))):=fun z hz j hj=>(gce (gtr (uh hH).al.grown hz) b _ hb (by simp)).trans (iu j hj);have nj:=aa (Cr.eS p.1 0 p.2);have Jg:Hid (b<wr.heap.size):=abR hb (uh hH).al.grown.size;obtain⟨Ei,hEi⟩:=abV (Cr.cZ E (es.take i));rw[hEi]at hH jA US;clear hlt hi hk hb iu hp hEi;have hkeep:Hid (∀z,wr.grownBy z none->(z.cell? ⟨B,5,none⟩=some (.slice (some ⟨jE,0,none⟩) 32 dE)/\z.cell? ⟨B+1,1,none⟩=some (.slice (some ⟨b,0,none⟩) nE kE)/\z.cell? ⟨b,i*11+3,none⟩=some (.int .i64 ((p.2:Int)%24))/\z.cell? ⟨b,i*11+4,none⟩=some (.int .i64 ((p.2:Int)/24)))):=fun z hz=>by
    have kN:=(uh hH).on hz;have h3:=uh bZ z hz 3 (by omega);have h4:=uh bZ z hz 4 (by omega);rw[(uh nj).2.2.1]at h3;rw[(uh nj).2.2.2.1]at h4;exact⟨kN.al.af.box.ae.2.2.2.2.2.1,kN.fZ.cell (c:=1) (by omega),h3,h4⟩
   have hS0:=uh hkeep wr (abF _ none);have fC:=aa (gd1 (abF wr none));have ca:=aa (fun z (hz:wr.grownBy z none)=>eA jE 32 dE Ei ((p.2:Int)%24) ((p.2:Int)/24) z ((uh hH).al.af.ab.on hz).own.ai);obtain⟨z0,dJ⟩:∃z,En.first (En.eM Ei ((p.2:Int)%24) ((p.2:Int)/24)) 32=z:=⟨_,rfl⟩
   rw[dJ]at ca jA;clear dJ l1;go_upto_region 4 with fail
   go_region_held3 (fun z=>z.cell? ⟨B,5,none⟩=some (.slice (some ⟨jE,0,none⟩) 32 dE)/\z.cell? ⟨B+1,1,none⟩=some (.slice (some ⟨b,0,none⟩) nE kE)/\z.cell? ⟨b,i*11+3,none⟩=some (.int .i64 ((p.2:Int)%24))/\z.cell? ⟨b,i*11+4,none⟩=some (.int .i64 ((p.2:Int)/24))) (go_keep) (first
    | (go_at_call 24;refine abW (uh ca _ (uh fC)) ?_))
   have dp:=aa ((uh hH).on (uh fC));clear hS0 hkeep ca hH;by_cases dH:z0<0
   ·have gM:Hid (Cr.cZ E (es.take (i+1))=Cr.dX Ei (Cr.bo p.1 0 p.2)):=(uh jA).trans (abP dH);have K4:Hid (∀j,j<11->wr.drew.cell? ⟨b,i*11+j,none⟩=some (.int .i64 (Cr.bo p.1 0 p.2 j))):=fun j hj=>uh bZ _ (uh fC) j hj;have gv:Hid (1<=Cr.bo p.1 0 p.2 0/\Cr.bo p.1 0 p.2 0<=4):=(show 1<=Cr.bo p.1 0 p.2 0/\Cr.bo p.1 0 p.2 0<=4 by have h:=uh HK;rw[(uh nj).1 (by omega) (by omega)];omega);obtain⟨e1,he1⟩:=abV (Cr.bo p.1 0 p.2);rw[he1]at gM K4 gv;have Ug:Hid (b<wr.drew.heap.size):=abR (uh Jg) (uh fC).size;generalize wr.drew=wd at dp K4 Ug|-;have PS:Hid (∀z,wd.grownBy z none->Calls prog 37 #[.slice (some ⟨jE,0,none⟩) 32 dE,.agg #[.int .i64 (e1 0),.int .i64 (e1 1),.int .i64 (e1 2),.int .i64 (e1 3),.int .i64 (e1 4),.int .i64 (e1 5),.int .i64 (e1 6),.int .i64 (e1 7),.int .i64 (e1 8),.int .i64 (e1 9),.int .i64 (e1 10)]] z (Cr.yR z jE (Cr.dX Ei e1))):=fun z hz=>lX jE dE Ei e1 z (((uh dp).al.af.ab.on hz).own) (uh dp).al.aG (uh US).kz.rl (uh gv);clear jA bZ nj he1 fC gv;go_upto_region 5 with fail;have M2:Hid (∀x,wd.grownBy x none->∀j,j<11->x.cell? ⟨b,i*11+j,none⟩=some (.int .i64 (e1 j))):=fun x hx j hj=>(gce hx b _ (uh Ug) (by simp)).trans (uh K4 j hj);have hkeep:Hid (∀x,wd.grownBy x none->(x.cell? ⟨B,5,none⟩=some (.slice (some ⟨jE,0,none⟩) 32 dE)/\x.cell? ⟨B+1,1,none⟩=some (.slice (some ⟨b,0,none⟩) nE kE)/\x.cell? ⟨b,i*11,none⟩=some (.int .i64 (e1 0))/\x.cell? ⟨b,i*11+1,none⟩=some (.int .i64 (e1 1))/\x.cell? ⟨b,i*11+2,none⟩=some (.int .i64 (e1 2))/\x.cell? ⟨b,i*11+3,none⟩=some (.int .i64 (e1 3))/\x.cell? ⟨b,i*11+4,none⟩=some (.int .i64 (e1 4))/\x.cell? ⟨b,i*11+5,none⟩=some (.int .i64 (e1 5))/\x.cell? ⟨b,i*11+6,none⟩=some (.int .i64 (e1 6))/\x.cell? ⟨b,i*11+7,none⟩=some (.int .i64 (e1 7))/\x.cell? ⟨b,i*11+8,none⟩=some (.int .i64 (e1 8))/\x.cell? ⟨b,i*11+9,none⟩=some (.int .i64 (e1 9))/\x.cell? ⟨b,i*11+10,none⟩=some (.int .i64 (e1 10)))):=fun x hx=>⟨((uh dp).on hx).al.af.box.ae.2.2.2.2.2.1,((uh dp).on hx).fZ.cell (c:=1) (by omega),uh M2 x hx 0 (by omega),uh M2 x hx 1 (by omega),uh M2 x hx 2 (by omega),uh M2 x hx 3 (by omega),uh M2 x hx 4 (by omega),uh M2 x hx 5 (by omega),uh M2 x hx 6 (by omega),uh M2 x hx 7 (by omega),uh M2 x hx 8 (by omega),uh M2 x hx 9 (by omega),uh M2 x hx 10 (by omega)⟩;have fC:=aa (gd1 (abF wd none));refine bH (h:=9) (S:=fun x=>x.cell? ⟨B,5,none⟩=some (.slice (some ⟨jE,0,none⟩) 32 dE)/\x.cell? ⟨B+1,1,none⟩=some (.slice (some ⟨b,0,none⟩) nE kE)/\x.cell? ⟨b,i*11,none⟩=some (.int .i64 (e1 0))/\x.cell? ⟨b,i*11+1,none⟩=some (.int .i64 (e1 1))/\x.cell? ⟨b,i*11+2,none⟩=some (.int .i64 (e1 2))/\x.cell? ⟨b,i*11+3,none⟩=some (.int .i64 (e1 3))/\x.cell? ⟨b,i*11+4,none⟩=some (.int .i64 (e1 4))/\x.cell? ⟨b,i*11+5,none⟩=some (.int .i64 (e1 5))/\x.cell? ⟨b,i*11+6,none⟩=some (.int .i64 (e1 6))/\x.cell? ⟨b,i*11+7,none⟩=some (.int .i64 (e1 7))/\x.cell? ⟨b,i*11+8,none⟩=some (.int .i64 (e1 8))/\x.cell? ⟨b,i*11+9,none⟩=some (.int .i64 (e1 9))/\x.cell? ⟨b,i*11+10,none⟩=some (.int .i64 (e1 10))) (by kernel_rfl) ?_;have hS0:=uh hkeep _ (uh fC);refine wtk (i:=0) (v:=?_) [1,7,9] rfl (by kernel_rfl) (by kernel_rfl) (by kernel_rfl) (by kernel_rfl) (fun _ _ _ h=>h) hS0 (Or.inl ⟨by rfl,?_⟩) ?_;rotate_left
    ·intro x hSx
     try dsimp only at hSx
     go_simp
     try with_reducible rfl
    simp only[Act.put];refine wtk (i:=1) (v:=?_) [7,9] rfl (by kernel_rfl) (by kernel_rfl) (by kernel_rfl) (by kernel_rfl) (fun _ _ _ h=>h) hS0 (Or.inl ⟨by rfl,?_⟩) ?_;rotate_left
    ·intro x hSx
     try dsimp only at hSx
     go_simp
     try with_reducible rfl
    simp only[Act.put];refine wtk (i:=2) (v:=?_) [3,5,6,7,9] rfl (by kernel_rfl) (by kernel_rfl) (by kernel_rfl) (by kernel_rfl) (fun _ _ _ h=>h) hS0 (Or.inl ⟨by rfl,?_⟩) ?_;rotate_left
    ·intro x hSx
     try dsimp only at hSx
     go_simp
     try with_reducible rfl
    simp only[Act.put];refine wtk (i:=3) (v:=?_) [5,6,7,9] rfl (by kernel_rfl) (by kernel_rfl) (by kernel_rfl) (by kernel_rfl) (fun _ _ _ h=>h) hS0 (Or.inl ⟨by rfl,?_⟩) ?_;rotate_left
    ·intro x hSx
     try dsimp only at hSx
     go_simp
     try with_reducible rfl
    simp only[Act.put];refine wtk (i:=4) (v:=?_) [5,6,7,9] rfl (by kernel_rfl) (by kernel_rfl) (by kernel_rfl) (by kernel_rfl) (fun _ _ _ h=>h) hS0 (Or.inl ⟨by rfl,?_⟩) ?_;rotate_left
    ·intro x hSx
     try dsimp only at hSx
     go_simp
     try with_reducible rfl
    simp only[Act.put];refine wtk (i:=5) (v:=?_) [6,7,9] rfl (by kernel_rfl) (by kernel_rfl) (by kernel_rfl) (by kernel_rfl) (fun _ _ _ h=>h) hS0 (Or.inl ⟨by rfl,?_⟩) ?_;rotate_left
    ·intro x hSx
     try dsimp only at hSx
     go_simp
     try with_reducible rfl
    simp only[Act.put];refine wtk (i:=6) (v:=?_) [7,9] rfl (by kernel_rfl) (by kernel_rfl) (by kernel_rfl) (by kernel_rfl) (fun _ _ _ h=>h) hS0 (Or.inl ⟨by rfl,?_⟩) ?_;rotate_left
    ·intro x hSx
     try dsimp only at hSx
     go_simp
     try with_reducible rfl
    simp only[Act.put];refine wto (j:=7) (by kernel_rfl) rfl (fun K hK=>?_);go_simp;refine(uh PS _ (uh fC)).mono ?_;rintro e w2 ⟨j2,d2,rfl,oS,sN,gj,hg2⟩;have dl:=aa (gtr (uh fC) hg2);have aK:=aa ((uh dp).folk oS (sN.imp id (fun h=>abM (uh fC).size h)) gj (uh dl));have SN:Hid (j2=gE\/w.heap.size<=j2):=sN.elim (fun h=>by rw[h];exact uh VH) (fun h=>.inr (abM (abM (uh dp).al.grown.size (uh fC).size) h));have x5:=((uh dp).on (uh dl)).al.af.box.ae.2.2.2.2.2.1;have f5:=((uh dp).on (uh dl)).al.af.box.free;have ko:=uh hkeep _ (uh dl);clear hg2 gj sN oS hS0
    try go_simp
    refine hK.out _ _ (fun _=>uh hkeep _ (uh dl)) ?_;clear hK K;refine wtk (i:=8) (v:=?_) [9] rfl (by kernel_rfl) (by kernel_rfl) (by kernel_rfl) (by kernel_rfl) (fun _ _ _ h=>h) ko (Or.inl ⟨by rfl,?_⟩) ?_;rotate_left
    ·intro x hSx
     try dsimp only at hSx
     go_simp
     try with_reducible rfl
    simp only[Act.put];refine wto (j:=9) (by kernel_rfl) rfl (fun K hK=>?_);go_simp;refine hK.out _ _ (fun hx=>absurd (hx.symm.trans (by kernel_rfl)) abT) ?_;clear hK K;refine cy (by kernel_rfl) ?_ _;rw[<-uh gM]at aK;clear PS K4 dl ko hkeep M2 x5 f5;go_wp2;go_roundw
    case rel=>exact⟨i+1,j2,d2,by have:=uh HL;omega,by go_num,SN,aK⟩
    case measure=>simp[intOf];have:=uh HL;omega
   ·have gM:Hid (Cr.cZ E (es.take (i+1))=Ei):=(uh jA).trans (abO dH);rw[<-uh gM]at dp;clear gM jA bZ nj;go_wp2;go_roundw
    case rel=>exact⟨i+1,jE,dE,by have:=uh HL;omega,by go_num,VH,dp⟩
    case measure=>simp[intOf];have:=uh HL;omega
  ·obtain rfl:i=nE:=by omega
   have hge:¬(i:Int)<(i:Int):=by omega
   have pD:es.take i=es:=by rw[uh ju];exact List.take_length
   rw[pD]at hH;have b6:=(uh hH).al.af.box.ae.2.2.2.2.2.2.1;have l2:wr.cell? ⟨B+1,2,none⟩=some (.slice aI nI kI):=(uh hH).fZ.cell (c:=2) (by omega);have cl:=aa (J1 gI cI nI kI aI I (Cr.fN is) wr (uh hH).al.af.ab.aj ((uh mS).on (uh hH).al.grown));have US:Hid (Gd.lay I (Cr.fN is) nI=Cr.fU I is):=(show Gd.lay I (Cr.fN is) nI=Cr.fU I is by rw[uh vD];rfl);rw[uh US]at cl;clear hlt hi pD US;go_wp2_with fail;refine(uh cl).mono ?_;rintro e w2 ⟨jI,dI,rfl,hj,oV,hg⟩;have hX:=aa ((uh hH).xU (dI:=dI) hj oV hg);have hjI:Hid (jI=gI\/w.heap.size<=jI):=.inr (abM (uh hH).al.grown.size hj);have x6:=((uh hH).on hg).al.af.box.ae.2.2.2.2.2.2.1;have f6:=((uh hH).on hg).al.af.box.free;clear hj oV hg b6 l1 l2 cl hH;go_upto_region 7 with fail;generalize w2.setCell ⟨B,6,none⟩ (.slice (some ⟨jI,0,none⟩) 40 dI)=w3 at hX|-;clear x6 f6;obtain⟨b0,b1,b2,b3,b4,b5,b6,b7,b8,b9,b10⟩:=(uh hX).al.af.box.ae;have fz:=(uh hX).bl.free;obtain⟨z0,z1,z2,z3,z4,z5,z6,z7,z8,z9,bO⟩:=Gd.aq (uh hX).bl;have hR:Hid (w.heap.size<=B+1+1/\B+1+1≠gC/\B+1+1≠jE/\B+1+1≠jI):=by
    have h1:=(uh hX).bl.ao (uh hX).al.af.ab.cells (by decide);have h2:=(uh hX).bl.ao (uh hX).al.af.ab.ai (by decide);have h3:=(uh hX).bl.ao (uh hX).al.af.ab.aj (by decide);exact⟨by rw[uh eu];omega,h1,h2,h3⟩
   have ma:=aa (fun vs=>(uh hX).al.back (oC:=gC) (oE:=gE) (oI:=gI) (uh hR).1 (uh hR).2.1 (uh hR).2.2.1 (uh hR).2.2.2 (.inl rfl) (uh VH) (uh hjI) vs);go_wp2;refine abN (v:=.agg (Gd.world s gC jE jI cC dE dI g)) (by simp[results,results27,go_sem,Gd.world,z0,z1,z2,z3,z4,z5,z6,z7,z8,z9,bO]) rfl ?_;exact uh ma [_,_,_,_,_,_,_,_,_,_,_]
variable{F:Nat->Value}{T:TypeId}{m:Nat}
theorem Cr.Vo{o p q:Obj}(h:∀w:World,ay (w.alloc o) w.heap.size T m F)(y:World):ay (((y.alloc o).alloc p).alloc q) y.heap.size T m F :=
 ((h y).on (abE _ _ _)).on (abE _ _ _)
theorem Cr.Vp{o p q:Obj}(h:∀w:World,ay (w.alloc o) w.heap.size T m F)(y:World):ay (((y.alloc p).alloc o).alloc q) (y.heap.size+1) T m F:=by
 have:=(h (y.alloc p)).on (abE _ q none)
 rwa [show(y.alloc p).heap.size=y.heap.size+1 by simp]at this
theorem Cr.Vq{o p q:Obj}(h:∀w:World,ay (w.alloc o) w.heap.size T m F)(y:World):ay (((y.alloc p).alloc q).alloc o) (y.heap.size+1+1) T m F:=by
 have:=h ((y.alloc p).alloc q)
 rwa [show((y.alloc p).alloc q).heap.size=y.heap.size+1+1 by simp]at this
theorem Cr.sE(y:World)(o p q:Obj):y.grownBy (((y.alloc o).alloc p).alloc q) none :=
 gtr (abE _ _ _) (gtr (abE _ _ _) (abE _ _ _))
structure Cr.Sb(w x:World)(B G gE gI:Nat)(seed:Int)(c:N1):Prop where
 af:Gd.eE x B G gE gI 384 32 40 (Cr.first seed) (fun _=>0) c (fun _ _=>0) (fun _ _=>0)
 lC:w.heap.size<=G
 lE:w.heap.size<=gE
 lI:w.heap.size<=gI
theorem Cr.xG{w y z:World}{B G gE gI:Nat}{seed:Int}{c:N1}(hy:w.grownBy y none)(hyz:y.grownBy z none)(lG:w.heap.size<=G)(hA:ay y G 5 384 (aZ c))(hE:ay z gE 54 352 (En.aL fun _ _=>0))(hI:ay z gI 62 160 (Gd.aL fun _ _=>0))(hB:ay z B 30 11 (Gd.box (Cr.first seed) G gE gI 384 32 40 (fun _=>0)))(lE:y.heap.size<=gE)(lI:y.heap.size<=gI):Cr.Sb w z.drew B G gE gI seed c/\y.grownBy z.drew none:=by
 have jr:=hA.on hyz;have n1:=hB.ao jr (by decide);have n2:=hB.ao hE (by decide);have n3:=hB.ao hI (by decide);have n4:=jr.ao hE (by decide);have n5:=jr.ao hI (by decide);have n6:=hE.ao hI (by decide);have hs:=hy.size;have hd:=gd1 (abF z none);exact⟨⟨⟨hB.on hd,⟨jr.on hd,hE.on hd,hI.on hd⟩,n1,n2,n3,n4,n5,n6⟩,lG,by omega,by omega⟩,gtr hyz hd⟩
theorem Cr.MC{seed:Int}{c:N1}{es:List (Int × Nat)}{is:List Gn.li}(hl:Cr.xC seed 1 c es is):Cr.bs c (fun _ _=>0) (Cr.fU (fun _ _=>0) is):=by
 have tX:∀i,0<=c i/\c i<=255:=fun i=>⟨(hl.ec.ku i).1,by have:=(hl.ec.ku i).2;omega⟩;have hI:=hl.lay (Md.uA c) (fun k _=>⟨by show¬(0:Int)=1;omega,by show¬(0:Int)=4;omega⟩);refine⟨⟨tX,hI,fun k _=>⟨by show(0:Int)<=0;omega,by show(0:Int)<=255;omega,.inl fun _ _ _=>rfl⟩⟩,⟨fun k _ k0=>absurd rfl k0,⟨fun k _ k0=>absurd rfl k0,fun j k _ _ j0=>absurd rfl j0⟩⟩,⟨fun k _ k1=>?_,fun j k _ _ j1=>?_,fun k _ k0=>absurd rfl k0⟩⟩
 ·exact absurd k1 (by show¬(0:Int)=1;omega)
 ·exact absurd j1 (by show¬(0:Int)=1;omega)
def Cr.Sc(w:World)(seed:Int)(e:Ending)(w':World):Prop:=∃T:Cr.W,Cr.oG seed T/\Gd.cL w T.s T.g T.c T.E T.I e w'
theorem vZ(seed:Int)(w:World):Calls prog 11 #[.int .i64 seed] w (Cr.Sc w seed):=by
 obtain⟨w0,aD⟩:∃w0,w0=w.alloc (.cells #[.int .i64 0,.int .i64 0,.int .i64 0,.int .i64 0,.slice none 0 0,.slice none 0 0,.slice none 0 0,.int .i64 0,.int .i64 0,.int .i64 0,.int .i64 0] 30):=⟨_,rfl⟩;have aN:Hid (w.grownBy w0 none):=by rw[aD];exact abE _ _ _
 obtain⟨B,hB⟩:=abV w.heap.size;have aM:Hid (ay w0 B 30 11 (fun j=>#[.int .i64 0,.int .i64 0,.int .i64 0,.int .i64 0,.slice none 0 0,.slice none 0 0,.slice none 0 0,.int .i64 0,.int .i64 0,.int .i64 0,Value.int .i64 0][j]?.getD undef)):=by
  rw[aD,<-hB];exact(ax.lit (abH w _)).lie
 have eu:=aa hB;go_enter func11,ntmps11;go_upto_region 1 with fail;rw[<-aD];clear aD hB;have cm:=aa (pZ seed 1 (by omega) (by omega) w0);go_wp2_with fail;refine(uh cm).mono ?_;rintro e w1 ⟨c,es,is,G,nE,nI,kE,kI,aE,aI,iW,rfl,lG,hA,hM,hI,rK,hg1,-⟩;obtain⟨L,hL⟩:=abV w1.heap.size;have hga:w1.grownBy (w1.alloc (.cells #[.slice (some ⟨G,0,none⟩) 384 384,.slice aE nE kE,.slice aI nI kI] 58)) none:=abE _ _ _;have nD:Hid (ay (w1.alloc (.cells #[.slice (some ⟨G,0,none⟩) 384 384,.slice aE nE kE,.slice aI nI kI] 58)) L 58 3 (fun j=>#[.slice (some ⟨G,0,none⟩) 384 384,.slice aE nE kE,Value.slice aI nI kI][j]?.getD undef)):=by
  rw[<-hL];exact(ax.lit (abH w1 _)).lie
 have iR:=aa (gtr (uh aN) (gtr hg1 hga));have jM:=aa ((uh aM).on (gtr hg1 hga));have jQ:=aa iW;have Rt:Hid (w.heap.size<=G):=abM (uh aN).size lG;have jr:=aa (hA.on hga);have FT:=aa (hM.on hga);have mS:=aa (hI.on hga);have vD:=aa rK;have hLB:Hid (w.heap.size<=L):=(show w.heap.size<=L by rw[<-hL];exact abM (uh aN).size hg1.size);clear iW lG hA hM hI rK hg1 cm hga aM aN;go_upto_region 2 with fail;generalize (w1.alloc (.cells #[.slice (some ⟨G,0,none⟩) 384 384,.slice aE nE kE,.slice aI nI kI] 58))=w2 at nD iR jM jr FT mS|-;clear hL;obtain⟨ZE,YO,WC⟩:=OT;obtain⟨ZI,YP,WD⟩:=OU;have fC:=aa (gd1 (abF w2 none));have hkeep:Hid (∀z,w2.grownBy z none->z.cell? ⟨L,0,none⟩=some (.slice (some ⟨G,0,none⟩) 384 384)):=fun z hz=>((uh nD).on hz).cell (c:=0) (by omega);have GD:=aa (fun w=>(WC w).lie (m:=352) (by omega));have Ja:=aa WD;have Ub:Hid (∀(a b:Nat)(x:World),ay (x.alloc (.cells #[.int .i64 seed,.int .i64 0,.int .i64 1,.int .i64 0,.slice (some ⟨G,0,none⟩) 384 384,.slice (some ⟨a,0,none⟩) 32 32,.slice (some ⟨b,0,none⟩) 40 40,.int .i64 0,.int .i64 0,.int .i64 0,.int .i64 0] 30)) x.heap.size 30 11 (Gd.box (Cr.first seed) G a b 384 32 40 (fun _=>0))):=fun a b x=>(ax.world (s:=Cr.first seed) (g:=fun _=>0) (abH x _)).lie;clear WC WD;go_cut [4] from 7 (fun va wx=>∃(P gE gI:Nat),va=.pointer (some ⟨P,0,none⟩)/\Hid (Cr.Sb w wx P G gE gI seed c/\w2.grownBy wx none))
 case first =>
  have hS0:=uh hkeep _ (uh fC)
  go_region_held3 (fun z=>z.cell? ⟨L,0,none⟩=some (.slice (some ⟨G,0,none⟩) 384 384)) (first| (refine uh hkeep _ ?_;repeat' (first| exact abF _ _|refine gd1 ?_|refine gal ?_ _|refine gsr ?_ _ (by simp;done) _|refine gsr ?_ _ (by simp;omega) _))) (fail)
  all_goals (go_wp2_with fail;go_meet)
  ·exact⟨_,_,_,rfl,Cr.xG (uh iR) (Cr.sE _ _ _ _) (uh Rt) (uh jr) (Cr.Vo (uh GD) w2) (Cr.Vp (uh Ja) w2) (Cr.Vq (uh Ub _ _) w2) (by omega) (by omega)⟩
  ·exact⟨_,_,_,rfl,Cr.xG (uh iR) (Cr.sE _ _ _ _) (uh Rt) (uh jr) (Cr.Vo (uh GD) w2) (Cr.Vq (uh Ja) w2) (Cr.Vp (uh Ub _ _) w2) (by omega) (by omega)⟩
  ·exact⟨_,_,_,rfl,Cr.xG (uh iR) (Cr.sE _ _ _ _) (uh Rt) (uh jr) (Cr.Vp (uh GD) w2) (Cr.Vo (uh Ja) w2) (Cr.Vq (uh Ub _ _) w2) (by omega) (by omega)⟩
  ·exact⟨_,_,_,rfl,Cr.xG (uh iR) (Cr.sE _ _ _ _) (uh Rt) (uh jr) (Cr.Vq (uh GD) w2) (Cr.Vo (uh Ja) w2) (Cr.Vp (uh Ub _ _) w2) (by omega) (by omega)⟩
  ·exact⟨_,_,_,rfl,Cr.xG (uh iR) (Cr.sE _ _ _ _) (uh Rt) (uh jr) (Cr.Vp (uh GD) w2) (Cr.Vq (uh Ja) w2) (Cr.Vo (uh Ub _ _) w2) (by omega) (by omega)⟩
  ·exact⟨_,_,_,rfl,Cr.xG (uh iR) (Cr.sE _ _ _ _) (uh Rt) (uh jr) (Cr.Vq (uh GD) w2) (Cr.Vp (uh Ja) w2) (Cr.Vo (uh Ub _ _) w2) (by omega) (by omega)⟩
 case rest =>
  clear YO YP GD Ja Ub hkeep fC;obtain⟨P,gE,gI,rfl,hX⟩:=hcut;obtain⟨b0,b1,b2,b3,b4,b5,b6,b7,b8,b9,b10⟩:=(uh hX).1.af.box.ae;have lv:=aa ((uh nD).on (uh hX).2);have l0:wc.cell? ⟨L,0,none⟩=some (.slice (some ⟨G,0,none⟩) 384 384):=(uh lv).cell (c:=0) (by omega);have l1:wc.cell? ⟨L,1,none⟩=some (.slice aE nE kE):=(uh lv).cell (c:=1) (by omega);have l2:wc.cell? ⟨L,2,none⟩=some (.slice aI nI kI):=(uh lv).cell (c:=2) (by omega);have cs:=aa (rV (Cr.first seed) (fun _=>0) c (fun _ _=>0) (fun _ _=>0) (Cr.fU (fun _ _=>0) is) G gE gI 384 32 40 G nE nI kE kI aE aI es is wc (uh hX).1.af.ab (by omega) (uh hX).1.af.cE (uh hX).1.af.cI (uh hX).1.af.eI (Cr.MC (uh jQ)) ((uh FT).on (uh hX).2) ((uh jQ).mons (by omega)) ((uh mS).on (uh hX).2) (uh vD));have Xy:=aa ((uh jM).on (uh hX).2);unfold Gd.world at cs;clear nD jM jr FT mS lv;go_wp2_with fail;refine(uh cs).mono ?_;rintro e w3 ⟨jC,jE,jI,dC,dE,dI,rfl,ap,m1,m2,m3,n1,n2,n3,hL,hg⟩;have Xu:=aa ((uh Xy).on hg);have fz:=(uh Xu).free;obtain⟨z0,z1,z2,z3,z4,z5,z6,z7,z8,z9,bO⟩:=Gd.aq (uh Xu);have ma:Hid (∀vs,Cr.Sc w seed (.returned (.agg (Gd.world (Cr.first seed) jC jE jI dC dE dI (fun _=>0)))) (w3.setCells B 0 vs)):=fun vs=>by
   have k0:=(uh iR).size;have k1:=(uh hX).2.size;have k2:=(uh hX).1.lC;have k3:=(uh hX).1.lE;have k4:=(uh hX).1.lI;have q1:=(uh Xu).ao hL.cells (by decide);have q2:=(uh Xu).ao hL.ai (by decide);have q3:=(uh Xu).ao hL.aj (by decide);have r:=gss (g:=B) vs 0 w3 (abF _ _);refine⟨_,⟨c,es,is,uh jQ,rfl⟩,jC,jE,jI,dC,dE,dI,rfl,ap,by omega,by omega,by omega,n1,n2,n3,⟨hL.cells.grown r (by simpa using q1),hL.ai.grown r (by simpa using q2),hL.aj.grown r (by simpa using q3)⟩,?_⟩;exact aA (by rw[uh eu];omega) _ 0 w3 (gtr (uh iR) (gtr (uh hX).2 hg))
  clear ap m1 m2 m3 n1 n2 n3 hL hg cs b0 b1 b2 b3 b4 b5 b6 b7 b8 b9 b10 l0 l1 l2 hX Xy;unfold Gd.world;go_wp2;refine abN (v:=.agg (Gd.world (Cr.first seed) jC jE jI dC dE dI (fun _=>0))) (by simp[results,results11,go_sem,Gd.world,z0,z1,z2,z3,z4,z5,z6,z7,z8,z9,bO]) rfl ?_;exact uh ma [_,_,_,_,_,_,_,_,_,_,_]
variable{B L cC cE cI gC gE gI gO lo:Nat}{E I jm:N2}{c g s:N1}{fZ:Nat->Value}{u v x:World}
structure Cr.oq(lo:Nat)(u v x:World)(B L gC gE gI gO cC cE cI:Nat)(fZ:Nat->Value)(s g c:N1)(E I jm:N2):Prop where
 al:Cr.me v x B gC gE gI cC cE cI s g c E I
 fZ:ay x L 58 3 fZ
 bl:ay x (B+1) 30 11 (fun j=>#[.int .i64 0,.int .i64 0,.int .i64 0,.int .i64 0,.slice none 0 0,.slice none 0 0,.slice none 0 0,.int .i64 0,.int .i64 0,.int .i64 0,Value.int .i64 0][j]?.getD undef)
 jm:ay x gO 54 352 (En.aL jm)
 ki:Cr.ll lo u x
 Lt:B<lo
 U2:gI<lo
theorem Cr.oq.on{y:World}(h:Cr.oq lo u v x B L gC gE gI gO cC cE cI fZ s g c E I jm)(hg:x.grownBy y none):Cr.oq lo u v y B L gC gE gI gO cC cE cI fZ s g c E I jm :=
 ⟨h.al.on hg,h.fZ.on hg,h.bl.on hg,h.jm.on hg,h.ki.on hg,h.Lt,h.U2⟩
theorem Cr.oq.folk{x':World}{jE dE:Nat}{F:N2}(h:Cr.oq lo u v x B L gC gE gI gO cC cE cI fZ s g c E I jm)(ap:32<=dE)(hj:jE=gE\/x.heap.size<=jE)(hO:fg x' jE 32 F)(hg:x.grownBy x' none):Cr.oq lo u v (x'.setCell ⟨B,5,none⟩ (.slice (some ⟨jE,0,none⟩) 32 dE)) B L gC jE gI gO cC dE cI fZ s g c F I jm :=
 ⟨h.al.folk ap hj hO hg,(h.fZ.on hg).aP (h.al.af.box.ao h.fZ (by decide)) 5 _,(h.bl.on hg).aP (by omega) 5 _,(h.jm.on hg).aP (h.al.af.box.ao h.jm (by decide)) 5 _,(h.ki.on hg).set (.inl h.Lt) 5 _,h.Lt,h.U2⟩
theorem Cr.oq.Mc(h:Cr.oq lo u v x B L gC gE gI gO cC cE cI fZ s g c E I jm)(hv:v.heap.size<=gI)(k:Nat)(r:N1):Cr.oq lo u v (x.setCells gI (k*4) (Gd.cells r).toList) B L gC gE gI gO cC cE cI fZ s g c E (En.put I k r) jm:=by
 have hh:=h.al.af;have hi:=hh.ab.aj;exact⟨⟨⟨hh.box.aQ hh.bI.symm _ _,⟨hh.ab.cells.aQ hh.cI.symm _ _,hh.ab.ai.aQ hh.eI.symm _ _,hi.Mc k r⟩,hh.bC,hh.bE,hh.bI,hh.cE,hh.cI,hh.eI⟩,h.al.lB,h.al.aG,aA hv _ _ x h.al.grown⟩,h.fZ.aQ (hi.ao h.fZ (by decide)) _ _,h.bl.aQ (hi.ao h.bl (by decide)) _ _,h.jm.aQ (hi.ao h.jm (by decide)) _ _,h.ki.Pw (.inl h.U2) _ _,h.Lt,h.U2⟩
theorem Cr.oq.kt(h:Cr.oq lo u v x B L gC gE gI gO cC cE cI fZ s g c E I jm)(hv:v.heap.size<=gE)(hO:gE≠gO)(hu:u.heap.size<=gE)(k:Nat)(r:N1):Cr.oq lo u v (x.setCells gE (k*11) (En.cells r).toList) B L gC gE gI gO cC cE cI fZ s g c (En.put E k r) I jm:=by
 have hh:=h.al.af;have hi:=hh.ab.ai;exact⟨⟨⟨hh.box.aQ hh.bE.symm _ _,⟨hh.ab.cells.aQ hh.cE.symm _ _,(hh.ab.own.store k r).lie (by omega),hh.ab.aj.aQ hh.eI _ _⟩,hh.bC,hh.bE,hh.bI,hh.cE,hh.cI,hh.eI⟩,h.al.lB,h.al.aG,aA hv _ _ x h.al.grown⟩,h.fZ.aQ (hi.ao h.fZ (by decide)) _ _,h.bl.aQ (hi.ao h.bl (by decide)) _ _,h.jm.aQ hO _ _,h.ki.Pw (.inr hu) _ _,h.Lt,h.U2⟩
theorem Cr.mT.iP{w w':World}{e:N1}{x:Ending}(h:Cr.mT w c E e x w'):∃(f:N1)(ok:Bool),x=.returned (.tuple #[.agg (En.cells f),.bool ok])/\(∃v,Nv.dR c E 32 (Gr.an 384 c 3%24) (Gr.an 384 c 3/24) v/\f=if v<0 then e else En.dj (En.dj e 3 (v%24)) 4 (v/24))/\w.grownBy w' none:=by
 obtain⟨⟨v,hv,⟨h0,rfl⟩|⟨q,rfl,rfl⟩⟩,hg⟩:=h
 ·exact⟨e,false,rfl,⟨v,hv,by rw[abP h0]⟩,hg⟩
 ·exact⟨_,true,rfl,⟨_,hv,by rw[abO (by omega)]⟩,hg⟩
def Cr.jX(E:N2)(n:Nat):Nat->Nat->Int:=fun k=>if k<n then Cr.jq E k else E k
theorem Cr.F9(E:N2):Cr.jX E 0=E:=by funext k;unfold Cr.jX;rw[abO (by omega)]
theorem Cr.Lu(E:N2)(n:Nat):En.put (Cr.jX E n) n (En.mP (Cr.jX E n n 1))=Cr.jX E (n+1):=by
 have e0:Cr.jX E n n=E n:=by unfold Cr.jX;rw[abO (by omega)]
 rw[e0];funext k;by_cases e:k=n
 ·subst e;rw[En.aB];unfold Cr.jX Cr.jq;rw[abP (by omega)]
 ·rw[En.ak e];unfold Cr.jX;by_cases hk:k<n
  ·rw[abP hk,abP (by omega)]
  ·rw[abO hk,abO (by omega)]
theorem Cr.aaI{Q:Nat}{T:TypeId}{F:Nat->Value}(h:ay x Q T 11 F)(p:N1):ay (x.setCells Q 0 (En.cells p).toList) Q T 11 (bB p) :=
 (h.kl 0 (En.cells p).toList).congr fun j hj=>by
  rcases(show j=0\/j=1\/j=2\/j=3\/j=4\/j=5\/j=6\/j=7\/j=8\/j=9\/j=10 by omega)with rfl|rfl|rfl|rfl|rfl|rfl|rfl|rfl|rfl|rfl|rfl <;> rfl
