import Derived.Test.YtbanjoflgoiegaaGreatPart30
import Derived.Test.YtbanjoflgoiegaaGreatPart32
import Derived.Test.YtbanjoflgoiegaaGreatPart29
import Derived.BigRegion
set_option maxHeartbeats 12800000
set_option maxRecDepth 8000
namespace Go.Proofs.YtbanjoflgoiegaaGreat
open Go.Proofs.Tryz
open Go.RowKit
theorem Cr.Nh{s c:N1}{E I:N2}(h:Cr.bs c E I){k:Nat}(hk:k<32)(k0:E k 0≠0)(d:Int):Cr.dQ s c E I k d (decide (E k 0≠1))=(if 0<=Cr.oB E k d then(if (decide (E k 0=1) !=decide (E (Cr.oB E k d).toNat 0=1))=true then(Ft.lM s E I (k:Int) (Cr.oB E k d),Ft.mO s E I (k:Int) (Cr.oB E k d))else(E,I))else if Gr.aS (Gr.at 384 c (E k 3+(Fx.bh d).1) (E k 4+(Fx.bh d).2))=true then(Cr.go E k (E k 3+(Fx.bh d).1) (E k 4+(Fx.bh d).2),I)else(E,I)):=by
 unfold Cr.dQ;by_cases hd:d<1\/4<d
 ·rw[abP hd];have hw:Cr.oB E k d=(k:Int):=by
   unfold Cr.oB;rw[Fx.ie d hd];show En.first (En.eM E (E k 3+0) (E k 4+0)) 32=_
   rw[Int.add_zero,Int.add_zero];rcases En.aw (En.eM E (E k 3) (E k 4)) 32 with⟨_,hno⟩|⟨j,hj,he,hq,_⟩
   ·have:=hno k hk;simp[En.eM,k0]at this
   ·have kp:E j 0≠0/\E j 3=E k 3/\E j 4=E k 4:=by simpa [En.eM] using hq
    rw[he,h.set.iZ.apart j k hj hk kp.1 k0 kp.2.1 kp.2.2]
  rw[hw,abP (by omega),abG,abO (by simp)]
 ·rw[abO hd];by_cases h0:0<=Cr.oB E k d
  ·rw[abP h0,abP h0];by_cases a:E k 0=1
   ·by_cases b:E (Cr.oB E k d).toNat 0=1 <;> simp[a,b]
   ·by_cases b:E (Cr.oB E k d).toNat 0=1 <;> simp[a,b]
  ·rw[abO h0,abO h0]
theorem xM(v x:World)(P gC gE gI cC cE cI:Nat)(how inp:N1)(sp:Nat->Bool)(bK left:Bool)(s g c:N1)(E I:N2)(k:Nat)(d:Int)(h:Cr.ik v x P gC gE gI cC cE cI how inp sp bK left s g c E I)(hS:Cr.bs c E I)(hk:k<32)(k0:E k 0≠0):Calls prog 75 #[.pointer (some ⟨P,0,none⟩),.int .i64 (k:Int),.int .i64 d] x (Cr.tR v P how inp sp bK left s g c (Cr.dQ s c E I k d (decide (E k 0≠1))).1 (Cr.dQ s c E I k d (decide (E k 0≠1))).2):=by
 have kQ:=aa hS.ly;have HK:=aa hk;have jy:(k:Int)<32:=by omega
 have k1:=hS.set.iZ.on k hk k0;have wb:=Fx.oa d;rw[Cr.Nh hS hk k0 d];have mQ:Hid (Cr.oB E k d=En.first (En.eM E (E k 3+(Fx.bh d).1) (E k 4+(Fx.bh d).2)) 32):=rfl;rw[uh mQ];have cw:=aa (fun wq=>FN d wq);have cz:=aa (fun z (hz:Cr.ik v z P gC gE gI cC cE cI how inp sp bK left s g c E I)=>mW gE 32 cE E (E k 3+(Fx.bh d).1) (E k 4+(Fx.bh d).2) z hz.ab.own.ai hz.aG.1);have ca:=aa (fun z (hz:Cr.ik v z P gC gE gI cC cE cI how inp sp bK left s g c E I)=>nJ z.heap.size (some ⟨gC,0,none⟩) 384 cC c (E k 3+(Fx.bh d).1) (E k 4+(Fx.bh d).2) z hz.ab.lg hS.ly.cells);have ck:=aa (fun wq=>gm (Gr.at 384 c (E k 3+(Fx.bh d).1) (E k 4+(Fx.bh d).2)) wq);have x1:IntKind.i64.wrap (E k 3+(Fx.bh d).1)=E k 3+(Fx.bh d).1:=by rw[abK];omega
 have y1:IntKind.i64.wrap (E k 4+(Fx.bh d).2)=E k 4+(Fx.bh d).2:=by rw[abK];omega
 obtain⟨z,hz⟩:=abV (En.first (En.eM E (E k 3+(Fx.bh d).1) (E k 4+(Fx.bh d).2)) 32)
 have Qe:Hid (z=-1\/∃j:Nat,j<32/\z=(j:Int)):=by
  show z=-1\/∃j:Nat,j<32/\z=(j:Int);rw[<-hz];rcases En.aw (En.eM E (E k 3+(Fx.bh d).1) (E k 4+(Fx.bh d).2)) 32 with⟨he,_⟩|⟨j,hj,he,_⟩
  ·exact .inl he
  ·exact .inr ⟨j,hj,he⟩
 obtain⟨A,hA⟩:=abV (Gr.at 384 c (E k 3+(Fx.bh d).1) (E k 4+(Fx.bh d).2));obtain⟨wk,sk⟩:=abV (Gr.aS A);rw[hz]at cz|-;rw[hA]at ca ck|-;rw[sk]at ck|-;obtain⟨dx,zE⟩:=abV ((Fx.bh d).1);obtain⟨dy,zF⟩:=abV ((Fx.bh d).2);rw[zE]at cw cz ca x1|-;rw[zF]at cw cz ca y1|-;obtain⟨R,hR⟩:∃R,(if 0<=z then(if (decide (E k 0=1) !=decide (E z.toNat 0=1))=true then(Ft.lM s E I (k:Int) z,Ft.mO s E I (k:Int) z)else(E,I))else if wk=true then(Cr.go E k (E k 3+dx) (E k 4+dy),I)else(E,I))=R:=⟨_,rfl⟩;rw[hR];have T7:=aa hR;obtain⟨w0,aD⟩:∃w0,w0=x.alloc (.cells (En.cells (E k)) 54):=⟨_,rfl⟩;have aN:x.grownBy w0 none:=by rw[aD];exact abE _ _ _
 have hQ:Hid (ay w0 x.heap.size 54 11 (bB (E k))):=by rw[aD];exact ay.ei _ _ _
 have sI:=aa (h.on aN);have b5:=h.ae.2.2.2.2.2.1;obtain⟨r0,r1,r2,r3,r4,r5,r6,r7,r8,r9,pb⟩:=h.ab.own.ai.row hk;clear h hS hk k0 k1 wb mQ hz hA sk zE zF hR aN;unfold En.cells at aD;go_enter func75,ntmps75;go_upto_region 1 with fail;rw[<-aD];clear aD b5 r0 r1 r2 r3 r4 r5 r6 r7 r8 r9 pb;obtain⟨Q,hQe⟩:=abV x.heap.size;rw[hQe]at hQ|-;clear hQe;go_wp2_with fail;refine abW (uh cw _) ?_;clear cw;go_upto_region 2 with fail;go_cut [9,10] from 25 (fun va vb wx=>va=.int .i64 (E k 3+dx)/\vb=.int .i64 (E k 4+dy)/\Hid (Cr.ik v wx P gC gE gI cC cE cI how inp sp bK left s g c E I)/\Hid (ay wx Q 54 11 (bB (E k))))
 case first =>
  have q3:=(uh hQ).kt.2.2.2.1;have q4:=(uh hQ).kt.2.2.2.2.1;go_quiet (fail);go_wp2_with fail;go_meet;exact⟨rfl,rfl,(uh sI).on (gdw (abF _ none) _),(uh hQ).on (gdw (abF _ none) _)⟩
 case rest =>
  clear sI hQ x1 y1;obtain⟨rfl,rfl,ka,hQ⟩:=hcut;have b5:=(uh ka).ae.2.2.2.2.2.1;have V7:=aa (uh cz _ (uh ka));go_wp2_with fail;refine aaR (uh V7) fun w1 hg1=>?_;have eN:=aa ((uh ka).on hg1);have hQ2:=aa ((uh hQ).on hg1);clear hg1 b5 cz V7 ka hQ;rcases uh Qe with rfl|⟨j,hj,rfl⟩
  ·have zv:Hid ((if wk=true then(Cr.go E k (E k 3+dx) (E k 4+dy),I)else(E,I))=R):=(abO (by decide)).symm.trans (uh T7);have gQ:=aa (fun z (hz:Cr.ik v z P gC gE gI cC cE cI how inp sp bK left s g c E I)=>uh ca z hz);have hng:decide ((-1:Int)≥0)=false:=by decide
   clear Qe T7 ca;go_upto_region 4 with fail;go_cut [41] from 42 (fun va wx=>va=.bool false/\Hid (Cr.ik v wx P gC gE gI cC cE cI how inp sp bK left s g c E I))
   case first =>
    go_quiet (fail);go_wp2_with fail;go_meet;exact⟨rfl,(uh eN).on (gdw (abF _ none) _)⟩
   case rest =>
    clear eN hQ2 hng;obtain⟨rfl,kn⟩:=hcut;have b4:=(uh kn).ae.2.2.2.2.1;have ca2:=aa (uh gQ _ (uh kn));go_wp2_with fail;refine abW (uh ca2) ?_;go_wp2_with fail;refine abW (uh ck _) ?_;clear gQ ca2 ck b4;cases wk
    ·obtain rfl:(E,I)=R:=(show(E,I)=R by rw[<-uh zv,abO (by simp)]);clear zv;go_wp2
     go_end0
     exact⟨rfl,gC,gE,gI,cC,cE,cI,uh kn⟩
    ·obtain rfl:(Cr.go E k (E k 3+dx) (E k 4+dy),I)=R:=(show(Cr.go E k (E k 3+dx) (E k 4+dy),I)=R by rw[<-uh zv,abP rfl]);clear zv;have pR:Hid (Cr.go E k (E k 3+dx) (E k 4+dy)=Gd.set (Gd.set E k 3 (E k 3+dx)) k 4 (E k 4+dy)):=rfl;have ah:Hid (∀wx,Cr.ik v wx P gC gE gI cC cE cI how inp sp bK left s g c (Gd.set (Gd.set E k 3 (E k 3+dx)) k 4 (E k 4+dy)) I->Cr.tR v P how inp sp bK left s g c (Cr.go E k (E k 3+dx) (E k 4+dy),I).1 (Cr.go E k (E k 3+dx) (E k 4+dy),I).2 (.returned (.tuple #[])) wx):=fun wx hx=>⟨rfl,gC,gE,gI,cC,cE,cI,hx⟩;obtain⟨X,hXe⟩:=abV (E k 3+dx);obtain⟨Y,Uc⟩:=abV (E k 4+dy);rw[hXe,Uc]at ah;rw[hXe,Uc];have xX:=aa hXe;have MV:=aa Uc;clear hXe Uc pR;go_upto_region 7 with fail;have b5:=(uh kn).ae.2.2.2.2.2.1;have fE:=(uh kn).ab.ai.free;have r3:=((uh kn).ab.own.ai.row (uh HK)).2.2.2.1;have r4:=((uh kn).ab.own.ai.row (uh HK)).2.2.2.2.1;have ZW:P≠gE:=(uh kn).apart.2.1;have hET:gE≠P:=ZW.symm;have aK:=aa (((uh kn).gN k 3 (by omega) X).gN k 4 (by omega) Y);have nk:=aa (fun y hy=>uh ah _ ((uh aK).on (y:=y) hy))
     go_region
     all_goals (go_wp2;go_end0;rw[uh xX,uh MV];exact uh nk _ (gd1 (abF _ none)))
  ·have zK:(j:Int)<32:=by omega
   have hjp:decide ((j:Int)≥0)=true:=by simp
   have VI:decide ((j:Int)<0)=false:=by simp
   have HJ:=aa hj;have zv:Hid ((if (decide (E k 0=1) !=decide (E j 0=1))=true then(Ft.lM s E I (k:Int) (j:Int),Ft.mO s E I (k:Int) (j:Int))else(E,I))=R):=(abP (Int.natCast_nonneg j)).symm.trans (uh T7);have c1:=aa (fun z=>mj (E k) z);have c2:=aa (fun z=>mj (E j) z);obtain⟨bk,hbk⟩:∃b,decide (E k 0=1)=b:=⟨_,rfl⟩;obtain⟨bj,hbj⟩:∃b,decide (E j 0=1)=b:=⟨_,rfl⟩;rw[hbk]at c1 zv;rw[hbj]at c2 zv;unfold En.cells at c1 c2;clear Qe T7 ca ck hbk hbj hj;go_upto_region 4 with fail;go_cut [41] from 42 (fun va wx=>va=.bool (bk !=bj)/\Hid (Cr.ik v wx P gC gE gI cC cE cI how inp sp bK left s g c E I))
   case first =>
    refine bF (by kernel_rfl) (by kernel_rfl) ?_;intro St hN W hI hx;have q0:=fun σ=>((uh hQ2).on (hI σ)).kt.1;have q1:=fun σ=>((uh hQ2).on (hI σ)).kt.2.1;have q2:=fun σ=>((uh hQ2).on (hI σ)).kt.2.2.1;have q3:=fun σ=>((uh hQ2).on (hI σ)).kt.2.2.2.1;have q4:=fun σ=>((uh hQ2).on (hI σ)).kt.2.2.2.2.1;have q5:=fun σ=>((uh hQ2).on (hI σ)).kt.2.2.2.2.2.1;have q6:=fun σ=>((uh hQ2).on (hI σ)).kt.2.2.2.2.2.2.1;have q7:=fun σ=>((uh hQ2).on (hI σ)).kt.2.2.2.2.2.2.2.1;have q8:=fun σ=>((uh hQ2).on (hI σ)).kt.2.2.2.2.2.2.2.2.1;have q9:=fun σ=>((uh hQ2).on (hI σ)).kt.2.2.2.2.2.2.2.2.2.1;have S4:=fun σ=>((uh hQ2).on (hI σ)).kt.2.2.2.2.2.2.2.2.2.2;have b5:=fun σ=>((uh eN).on (hI σ)).ae.2.2.2.2.2.1;have row:=fun σ=>((uh eN).on (hI σ)).ab.own.ai.row (uh HJ);have r0:=fun σ=>(row σ).1;have r1:=fun σ=>(row σ).2.1;have r2:=fun σ=>(row σ).2.2.1;have r3:=fun σ=>(row σ).2.2.2.1;have r4:=fun σ=>(row σ).2.2.2.2.1;have r5:=fun σ=>(row σ).2.2.2.2.2.1;have r6:=fun σ=>(row σ).2.2.2.2.2.2.1;have r7:=fun σ=>(row σ).2.2.2.2.2.2.2.1;have r8:=fun σ=>(row σ).2.2.2.2.2.2.2.2.1;have r9:=fun σ=>(row σ).2.2.2.2.2.2.2.2.2.1;have pb:=fun σ=>(row σ).2.2.2.2.2.2.2.2.2.2;have d1:=fun σ=>bQ hI hx (uh c1 (W σ));have d2:=fun σ=>bQ hI hx (uh c2 (W σ));have mS:=aa hI;clear row hI hx
    repeat (go_big_quiet_step ((go_at_call 71;with_reducible first| exact d1 _|exact d2 _)))
    refine wpQuiet_nil ?_;rintro _ ⟨σ,rfl⟩;have kn:=aa ((uh eN).on (uh mS σ));obtain⟨wq,G7⟩:=abV (W σ);rw[G7]at kn|-;clear q0 q1 q2 q3 q4 q5 q6 q7 q8 q9 S4 b5 r0 r1 r2 r3 r4 r5 r6 r7 r8 r9 pb d1 d2 mS G7;clear σ W hN St;go_wp2_with fail;go_meet;exact⟨rfl,kn⟩
   case rest =>
    clear eN hQ2 c1 c2;obtain⟨rfl,kn⟩:=hcut;obtain⟨bb,KR⟩:=abV ((bk !=bj));rw[KR]at zv|-;clear KR;cases bb
    ·obtain rfl:(E,I)=R:=(show(E,I)=R by rw[<-uh zv,abO (by simp)]);clear zv;go_wp2
     go_end0
     exact⟨rfl,gC,gE,gI,cC,cE,cI,uh kn⟩
    ·obtain rfl:(Ft.lM s E I (k:Int) (j:Int),Ft.mO s E I (k:Int) (j:Int))=R:=(show(Ft.lM s E I (k:Int) (j:Int),Ft.mO s E I (k:Int) (j:Int))=R by rw[<-uh zv,abP rfl]);clear zv;obtain⟨b0,b1,b2,b3,b4,b5,b6,b7,b8,b9,b10⟩:=(uh kn).ae;have ct:=aa (xk s g c E I gC gE gI cC cE cI (k:Int) (j:Int) _ (uh kn).ab (uh kQ));unfold Gd.world at ct;go_wp2_with fail;refine(uh ct).mono ?_;rintro e w4 ⟨jC,jE,jI,dC,dE,dI,rfl,ap,l1,l2,l3,n1,n2,n3,hL,hg⟩;have hX:Hid (Cr.ik v (((((((((((w4.setCell ⟨P,0,none⟩ (.int .i64 (s 0))).setCell ⟨P,1,none⟩ (.int .i64 (s 1))).setCell ⟨P,2,none⟩ (.int .i64 (s 2))).setCell ⟨P,3,none⟩ (.int .i64 (s 3))).setCell ⟨P,4,none⟩ (.slice (some ⟨jC,0,none⟩) 384 dC)).setCell ⟨P,5,none⟩ (.slice (some ⟨jE,0,none⟩) 32 dE)).setCell ⟨P,6,none⟩ (.slice (some ⟨jI,0,none⟩) 40 dI)).setCell ⟨P,7,none⟩ (.int .i64 (g 0))).setCell ⟨P,8,none⟩ (.int .i64 (g 1))).setCell ⟨P,9,none⟩ (.int .i64 (g 2))).setCell ⟨P,10,none⟩ (.int .i64 (g 3))) P jC jE jI dC dE dI how inp sp bK left s g c (Ft.lM s E I (k:Int) (j:Int)) (Ft.mO s E I (k:Int) (j:Int))):=(uh kn).over (s':=s) (g':=g) (dI:=dI) ap l1 l2 l3 n1 n2 n3 hL hg;obtain⟨y0,y1,y2,y3,y4,y5,y6,y7,y8,y9,y10⟩:=((uh kn).on hg).ae;have fB:=((uh kn).on hg).box.free;clear ap l1 l2 l3 n1 n2 n3 hL hg ct b0 b1 b2 b3 b4 b5 b6 b7 b8 b9 b10 kn;unfold Gd.world;go_wp2
     go_end0
     exact⟨rfl,jC,jE,jI,dC,dE,dI,uh hX⟩
theorem Cr.Mp{c g:N1}{E I:N2}{t v:Int}(h5:v≠5)(h6:v≠6)(h7:v≠7)(h8:v≠8)(sH:v≠10):Gd.bW c g E I t v=g/\Gd.eH E I t v=E/\Gd.eJ c g E I t v=I:=by
 unfold Gd.bW Gd.eH Gd.eJ;by_cases hc:0<=t/\t<4/\0<=Gd.aV E t
 ·rw[abP hc,abP hc,abP hc];refine⟨?_,?_,?_⟩
  ·unfold Gd.dN;rw[abO h5,abO sH];exact Gd.dM g t.toNat
  ·unfold Gd.eQ;rw[abO (fun h=>h6 h.1)]
  ·unfold Gd.dQ;simp[h5,h6,h7,h8,sH]
 ·rw[abO hc,abO hc,abO hc];exact⟨rfl,rfl,rfl⟩
theorem QA(v x:World)(P gC gE gI cC cE cI:Nat)(how inp:N1)(sp:Nat->Bool)(bK left:Bool)(s g c:N1)(E I:N2)(t k:Nat)(u:Int)(h:Cr.ik v x P gC gE gI cC cE cI how inp sp bK left s g c E I)(hS:Cr.bs c E I)(hG:Cr.uG g)(hk:k<32)(k1:E k 0=1):Calls prog 112 #[.pointer (some ⟨P,0,none⟩),.int .i64 (t:Int),.int .i64 (k:Int),.int .i64 u] x (Cr.tR v P how inp sp bK (Cr.eU s c ⟨g,E,I,left⟩ (t:Int) k u).left s (Cr.eU s c ⟨g,E,I,left⟩ (t:Int) k u).g c (Cr.eU s c ⟨g,E,I,left⟩ (t:Int) k u).E (Cr.eU s c ⟨g,E,I,left⟩ (t:Int) k u).I):=by
 have jy:(k:Int)<32:=by omega
 have HK:=aa hk;have hh:=aa h;have NU:=aa hS;have N7:=aa (hS.tV hG);have cw:=aa (xM v x P gC gE gI cC cE cI how inp sp bK left s g c E I k u h hS hk (by omega));rw[show decide (E k 0≠1)=false from abI (fun h=>h k1)]at cw;have cd:=aa (QF s g c E I gC gE gI cC cE cI (t:Int) u x h.ab (hS.tV hG));by_cases h4:1<=u/\u<=4
 ·have hd:Hid ((Cr.eU s c ⟨g,E,I,left⟩ (t:Int) k u)=⟨g,(Cr.dQ s c E I k u false).1,(Cr.dQ s c E I k u false).2,left⟩):=(show _=_ by unfold Cr.eU;rw[abP h4]);rw[uh hd];obtain⟨A,hA⟩:=abV (Cr.dQ s c E I k u false);rw[hA]at cw|-;clear hA hd cd h hS hG hk k1 jy hh NU N7;rcases(show u=1\/u=2\/u=3\/u=4 by omega)with rfl|rfl|rfl|rfl
  all_goals
   clear h4;go_enter func112,ntmps112;go_wp2_with fail;refine aaR (uh cw) fun w1 ah=>?_;have gh:=aa ah;clear ah cw;go_wp2
   go_end0
   exact⟨rfl,uh gh⟩
 ·by_cases h9:u=9
  ·subst h9;obtain⟨X,hX⟩:=abV (E k 3);obtain⟨Y,hY⟩:=abV (E k 4);have hd:Hid ((Cr.eU s c ⟨g,E,I,left⟩ (t:Int) k 9)=⟨g,E,I,left||decide (Gr.at 384 c X Y=4)⟩):=(show _=_ by unfold Cr.eU;rw[abO (by omega),abP rfl,<-hX,<-hY]);rw[uh hd];have ca:=aa (fun z (hz:Cr.ik v z P gC gE gI cC cE cI how inp sp bK left s g c E I)=>nJ z.heap.size (some ⟨gC,0,none⟩) 384 cC c X Y z hz.ab.lg hS.ly.cells);obtain⟨A,hA⟩:=abV (Gr.at 384 c X Y);rw[hA]at ca|-;obtain⟨L2,hL2⟩:∃b,(left||decide (A=4))=b:=⟨_,rfl⟩;rw[hL2];have LK:=aa hL2;clear hL2;obtain⟨w0,aD⟩:∃w0,w0=x.alloc (.cells (En.cells (E k)) 54):=⟨_,rfl⟩;have aN:x.grownBy w0 none:=by rw[aD];exact abE _ _ _
   have hQ:ay w0 x.heap.size 54 11 (bB (E k)):=by rw[aD];exact ay.ei _ _ _
   have sI:=aa (h.on aN);have q3:=hQ.kt.2.2.2.1;have q4:=hQ.kt.2.2.2.2.1;rw[hX]at q3;rw[hY]at q4;have b5:=h.ae.2.2.2.2.2.1;obtain⟨r0,r1,r2,r3,r4,r5,r6,r7,r8,r9,pb⟩:=h.ab.own.ai.row hk;clear hX hY hd hA h hS hG hk k1 cw cd h4 aN hQ hh NU N7;unfold En.cells at aD;go_enter func112,ntmps112;go_upto_region 14 with fail;rw[<-aD];clear aD b5 r0 r1 r2 r3 r4 r5 r6 r7 r8 r9 pb;obtain⟨Q,hQe⟩:=abV x.heap.size;rw[hQe]at q3 q4|-;clear hQe;go_cut [55] from 45 to 55 (fun va wx=>va=.bool (A==4)/\Hid (Cr.ik v wx P gC gE gI cC cE cI how inp sp bK left s g c E I))
   case first =>
    have b4:=(uh sI).ae.2.2.2.2.1;have gQ:=aa (uh ca _ (uh sI));go_quiet (first| (go_at_call 116;refine abU (uh ca _ ?_);exact(uh sI).on (gdw (abF _ none) _))|fail);go_wp2_with fail;go_meet;exact⟨rfl,(uh sI).on (gdw (abF _ none) _)⟩
   case rest =>
    obtain⟨rfl,ka⟩:=hcut;obtain⟨b4,Z2⟩:∃b,(A==4)=b:=⟨_,rfl⟩;have hL3:(left||b4)=L2:=(show(left||b4)=L2 by rw[<-Z2];exact uh LK);rw[Z2];clear sI ca q3 q4 Z2 LK;cases b4
    ·rw[Bool.or_false]at hL3;subst hL3;go_wp2
     go_end0
     exact⟨rfl,gC,gE,gI,cC,cE,cI,uh ka⟩
    ·rw[Bool.or_true]at hL3;subst hL3;have aK:=aa ((uh ka).left true);have q:=(uh ka).l8.2;have fP:=(uh ka).box.free;clear ka;go_wp2
     go_end0
     exact⟨rfl,gC,gE,gI,cC,cE,cI,uh aK⟩
  ·have hd:Hid ((Cr.eU s c ⟨g,E,I,left⟩ (t:Int) k u)=⟨Gd.bW c g E I (t:Int) u,Gd.eH E I (t:Int) u,Gd.eJ c g E I (t:Int) u,left⟩):=(show _=_ by unfold Cr.eU;rw[abO h4,abO h9]);rw[uh hd];have fm:=aa (@Cr.Mp c g E I (t:Int) u);obtain⟨G,rp⟩:=abV (Gd.bW c g E I (t:Int) u);obtain⟨F,eN⟩:=abV (Gd.eH E I (t:Int) u);obtain⟨J,ZH⟩:=abV (Gd.eJ c g E I (t:Int) u);rw[rp,eN,ZH]at cd fm;rw[rp,eN,ZH];obtain⟨b0,b1,b2,b3,b4,b5,b6,b7,b8,b9,b10⟩:=h.ae;clear hd rp eN ZH h hS hG hk k1 cw NU N7;by_cases h5:u=5\/u=6\/u=7\/u=8\/u=10
   ·unfold Gd.world at cd;clear fm;rcases h5 with rfl|rfl|rfl|rfl|rfl
    all_goals
     clear h4 h9;go_enter func112,ntmps112;go_wp2_with fail;refine(uh cd).mono ?_;rintro e w4 ⟨jC,jE,jI,dC,dE,dI,rfl,ap,l1,l2,l3,n1,n2,n3,hL,hg⟩;have hX:Hid (Cr.ik v (((((((((((w4.setCell ⟨P,0,none⟩ (.int .i64 (s 0))).setCell ⟨P,1,none⟩ (.int .i64 (s 1))).setCell ⟨P,2,none⟩ (.int .i64 (s 2))).setCell ⟨P,3,none⟩ (.int .i64 (s 3))).setCell ⟨P,4,none⟩ (.slice (some ⟨jC,0,none⟩) 384 dC)).setCell ⟨P,5,none⟩ (.slice (some ⟨jE,0,none⟩) 32 dE)).setCell ⟨P,6,none⟩ (.slice (some ⟨jI,0,none⟩) 40 dI)).setCell ⟨P,7,none⟩ (.int .i64 (G 0))).setCell ⟨P,8,none⟩ (.int .i64 (G 1))).setCell ⟨P,9,none⟩ (.int .i64 (G 2))).setCell ⟨P,10,none⟩ (.int .i64 (G 3))) P jC jE jI dC dE dI how inp sp bK left s G c F J):=(uh hh).over (s':=s) (g':=G) (dI:=dI) ap l1 l2 l3 n1 n2 n3 hL hg;obtain⟨y0,y1,y2,y3,y4,y5,y6,y7,y8,y9,y10⟩:=((uh hh).on hg).ae;have fB:=((uh hh).on hg).box.free;clear ap l1 l2 l3 n1 n2 n3 hL hg cd b0 b1 b2 b3 b4 b5 b6 b7 b8 b9 b10 hh;unfold Gd.world;go_wp2
     go_end0
     exact⟨rfl,jC,jE,jI,dC,dE,dI,uh hX⟩
   ·obtain⟨rfl,rfl,rfl⟩:=uh fm (by omega) (by omega) (by omega) (by omega) (by omega);have v1:(u==1)=false:=by simp;omega
    have v2:(u==2)=false:=by simp;omega
    have v3:(u==3)=false:=by simp;omega
    have v4:(u==4)=false:=by simp;omega
    have v5:(u==5)=false:=by simp;omega
    have v6:(u==6)=false:=by simp;omega
    have v7:(u==7)=false:=by simp;omega
    have v8:(u==8)=false:=by simp;omega
    have v9:(u==9)=false:=by simp;omega
    have v10:(u==10)=false:=by simp;omega
    clear h4 h9 h5 cd fm b0 b1 b2 b3 b4 b5 b6 b7 b8 b9 b10;go_enter func112,ntmps112;go_wp2
    go_end0
    exact⟨rfl,gC,gE,gI,cC,cE,cI,uh hh⟩
