import Derived.Test.YtbanjoflgoiegaaGreatPart25
import Derived.Test.YtbanjoflgoiegaaGreatPart23
set_option maxHeartbeats 12800000
set_option maxRecDepth 8000
namespace Go.Proofs.YtbanjoflgoiegaaGreat
open Go.Proofs.Tryz
open Go.RowKit
theorem ji(b c:Nat)(E:N2)(row:Int)(w:World)(hE:fg w b 32 E):Calls prog 119 #[.slice (some ⟨b,0,none⟩) 32 c,.int .i64 row] w fun e w'=>e=.returned (.bool (Ft.bJ E row))/\w'=w:=by
 by_cases h0:0<=row
 ·by_cases h1:row<32
  ·obtain⟨k,rfl⟩:∃k:Nat,row=(k:Int):=⟨row.toNat,by omega⟩;have hk:k<32:=by omega
   have u0:=(hE.ai.row hk).1;have hr:=aa (Ft.ib (E:=E) hk);clear hE h0;by_cases hz:E k 0=0
   ·rw[hz]at u0;have pk:Hid (Ft.bJ E (k:Int)=false):=(uh hr).trans (by simp[hz]);clear hz hr;go_enter func119,ntmps119;go_wp2;go_ret;exact⟨aO (uh pk).symm,rfl⟩
   ·have pk:Hid (Ft.bJ E (k:Int)=true):=(uh hr).trans (by simp[hz]);have kW:(E k 0==0)=false:=by simpa using hz
    have ed:Hid ((E k 0 !=0)=true):=(show(E k 0 !=0)=true by simpa using hz);clear hr;go_enter func119,ntmps119;go_wp2;go_ret;exact⟨aO ((uh ed).trans (uh pk).symm),rfl⟩
  ·have pk:Hid (Ft.bJ E row=false):=by
    show Ft.bJ E row=false;unfold Ft.bJ;rw[abI (by omega)];rfl
   clear hE;go_enter func119,ntmps119;go_wp2;go_ret;exact⟨aO (uh pk).symm,rfl⟩
 ·have pk:Hid (Ft.bJ E row=false):=by
   show Ft.bJ E row=false;unfold Ft.bJ;rw[abI (by omega)];rfl
  clear hE;go_enter func119,ntmps119;go_wp2;go_ret;exact⟨aO (uh pk).symm,rfl⟩
theorem qf.Gs(w:World)(a b c d:Int)(T:TypeId):qf (w.alloc (.cells #[.int .i64 a,.int .i64 b,.int .i64 c,.int .i64 d] T)) (some ⟨w.heap.size,0,none⟩) 4 [a,b,c,d]:=by
 refine⟨rfl,by unfold maxLen;omega,.inr ⟨w.heap.size,0,rfl,fun i hi=>?_⟩⟩;have h:=ax.lit (abH w (.cells #[.int .i64 a,.int .i64 b,.int .i64 c,.int .i64 d] T));rw[Nat.zero_add,h.cell (i:=i) hi];rcases(show i=0\/i=1\/i=2\/i=3 by omega)with rfl|rfl|rfl|rfl <;> rfl
theorem yK(s g:N1)(gC gE gI cC cE cI:Nat)(n f t v:Int)(w:World)(hn:n<=9223372036854775807):Calls prog 173 #[.agg (Gd.world s gC gE gI cC cE cI g),.int .i64 n,.int .i64 f,.int .i64 t,.int .i64 v] w (aJ w (.int .i64 (Dc.kK n (s 0) [s 1,f,t,v]))):=by
 obtain⟨w0,aD⟩:∃w0,w0=w.alloc (.cells (Gd.world s gC gE gI cC cE cI g) 30):=⟨_,rfl⟩;have aF:ay w0 w.heap.size 30 11 (Gd.box s gC gE gI cC cE cI g):=by rw[aD];exact(ax.world (abH w _)).lie
 have aN:=aa (show w.grownBy w0 none by rw[aD];exact abE _ _ _);have q0:=aF.ae.1;have q1:=aF.ae.2.1;have cd:=aa (zh n (s 0) (some ⟨w0.heap.size,0,none⟩) 4 4 [s 1,f,t,v] (w0.alloc (.cells #[.int .i64 (s 1),.int .i64 f,.int .i64 t,.int .i64 v] 3)) (qf.Gs w0 (s 1) f t v 3) hn);obtain⟨D,hD⟩:=abV (Dc.kK n (s 0) [s 1,f,t,v]);rw[hD]at cd|-;clear aF hD hn;unfold Gd.world at aD|-;go_enter func173,ntmps173;go_upto_region 1 with fail;obtain⟨B,hB⟩:=abV w.heap.size;rw[<-aD];rw[hB]at q0 q1|-;clear aD hB;have ah:=aa (gal (uh aN) (.cells #[.int .i64 (s 1),.int .i64 f,.int .i64 t,.int .i64 v] 3));go_wp2_with fail;refine abW (uh cd) ?_;go_wp2;go_ret;exact⟨rfl,uh ah⟩
theorem rY(s g c:N1)(E I:N2)(gC gE gI cC cE cI k:Nat)(w:World)(hL:Gd.av w gC gE gI c E I)(hk:k<32)(h7:0<=E k 7)(h7':E k 7<=5)(h8:0<=E k 8)(h8':E k 8<=1):Calls prog 172 #[.agg (Gd.world s gC gE gI cC cE cI g),.int .i64 (k:Int)] w (aJ w (.tuple #[.int .i64 (Ft.IE E I k),.int .i64 (Ft.guard E I k)])):=by
 obtain⟨w0,aD⟩:∃w0,w0=w.alloc (.cells (Gd.world s gC gE gI cC cE cI g) 30):=⟨_,rfl⟩;have aF:Hid (ay w0 w.heap.size 30 11 (Gd.box s gC gE gI cC cE cI g)):=by
  show ay w0 w.heap.size _ 11 _;rw[aD];exact(ax.world (abH w _)).lie
 have aN:=aa (show w.grownBy w0 none by rw[aD];exact abE _ _ _);have tt:=aa (hL.on (uh aN));have q5:=(uh aF).ae.2.2.2.2.2.1;obtain⟨u0,u1,u2,u3,u4,u5,u6,u7,u8,u9,iO⟩:=(uh tt).own.ai.row hk;have jy:(k:Int)<32:=by omega
 have cb:=aa (fun x hx=>Lw s g c E I gC gE gI cC cE cI (E k 2) x hx);have FV:Hid (∀b,0<=Gd.fF b/\Gd.fF b<=3):=fun b=>by unfold Gd.fF;split <;> omega
 have fy:Hid (∀b,0<=Gd.jS b/\Gd.jS b<=2):=fun b=>by unfold Gd.jS;split <;> omega
 have ha:Hid (Ft.IE E I k=E k 7+if E k 0=1 then Gd.fF (Gd.wornK I (E k 2) 2 40)else 0):=rfl;have hd:Hid (Ft.guard E I k=E k 8+if E k 0=1 then Gd.jS (Gd.wornK I (E k 2) 3 40)else 0):=rfl;obtain⟨AA,hAA⟩:∃x,Ft.IE E I k=x:=⟨_,rfl⟩;obtain⟨DD,hDD⟩:∃x,Ft.guard E I k=x:=⟨_,rfl⟩;rw[hAA]at ha|-;rw[hDD]at hd|-;clear hL hk hAA hDD;unfold Gd.world at aD|-;go_enter func172,ntmps172;go_upto_region 1 with fail;obtain⟨B,hB⟩:=abV w.heap.size;rw[<-aD];rw[hB]at q5 aF|-;clear aD hB;have hQ:=aa (ax.lit (abH w0 (.cells (En.cells (E k)) 54)));have hg1:=aa (abE w0 (.cells (En.cells (E k)) 54) none);unfold En.cells at hQ hg1;go_upto_region 2 with fail;obtain⟨Q,hQe⟩:=abV w0.heap.size;rw[hQe]at hQ|-;generalize w0.alloc (.cells #[.int .i64 (E k 0),.int .i64 (E k 1),.int .i64 (E k 2),.int .i64 (E k 3),.int .i64 (E k 4),.int .i64 (E k 5),.int .i64 (E k 6),.int .i64 (E k 7),.int .i64 (E k 8),.int .i64 (E k 9),.int .i64 (E k 10)] 54)=w1 at hQ hg1|-;clear hQe u0 u1 u2 u3 u4 u5 u6 u7 u8 u9 iO q5;have z0:w1.cell? ⟨Q,0,none⟩=some (.int .i64 (E k 0)):=(uh hQ).cell (i:=0) (by show 0<11;omega);have z2:w1.cell? ⟨Q,2,none⟩=some (.int .i64 (E k 2)):=(uh hQ).cell (i:=2) (by show 2<11;omega);have z7:w1.cell? ⟨Q,7,none⟩=some (.int .i64 (E k 7)):=(uh hQ).cell (i:=7) (by show 7<11;omega);have z8:w1.cell? ⟨Q,8,none⟩=some (.int .i64 (E k 8)):=(uh hQ).cell (i:=8) (by show 8<11;omega);by_cases h1:E k 0=1
 ·rw[h1]at z0;rw[abP h1]at ha hd;obtain⟨b0,b1,b2,b3,b4,b5,b6,b7,b8,b9,b10⟩:=((uh aF).on (uh hg1)).ae;obtain⟨A3,fa⟩:∃x,Gd.fF (Gd.wornK I (E k 2) 2 40)=x:=⟨_,rfl⟩;obtain⟨A2,dF⟩:∃x,Gd.jS (Gd.wornK I (E k 2) 3 40)=x:=⟨_,rfl⟩;have t3:0<=A3/\A3<=3:=by rw[<-fa];exact uh FV _
  have t2:0<=A2/\A2<=2:=by rw[<-dF];exact uh fy _
  rw[fa,dF]at cb;rw[fa]at ha;rw[dF]at hd;have IZ:=aa (uh cb w1 ((uh tt).on (uh hg1)));obtain⟨p3,p3'⟩:=t3;obtain⟨p2,p2'⟩:=t2;have v7:IntKind.i64.wrap (E k 7+A3)=E k 7+A3:=by rw[abK];omega
  have v8:IntKind.i64.wrap (E k 8+A2)=E k 8+A2:=by rw[abK];omega
  clear h1 fa dF cb;unfold Gd.world at IZ;go_wp2_with fail;refine aaR (uh IZ) fun w2 hg2=>?_;have y7:w2.cell? ⟨Q,7,none⟩=some (.int .i64 (E k 7)):=((uh hQ).grown hg2 (by simp)).cell (i:=7) (by show 7<11;omega);have y8:w2.cell? ⟨Q,8,none⟩=some (.int .i64 (E k 8)):=((uh hQ).grown hg2 (by simp)).cell (i:=8) (by show 8<11;omega);have ah:Hid (∀n,w.grownBy (w2.drewN n) none):=fun n=>gdw (gtr (uh aN) (gtr (uh hg1) hg2)) n;clear hg2 IZ z0 z2 z7 z8 b0 b1 b2 b3 b4 b5 b6 b7 b8 b9 b10;go_wp2_with fail;go_quiet (fail);go_wp2;have he:Ending.returned (.tuple #[.int .i64 (E k 7+A3),.int .i64 (E k 8+A2)])=.returned (.tuple #[.int .i64 AA,.int .i64 DD]):=by rw[uh ha,uh hd]
  go_ret2
  exact⟨he,uh ah _⟩
 ·have ot:(E k 0==1)=false:=by simpa using h1
  rw[abO h1]at ha hd;have ah:Hid (∀n,w.grownBy (w1.drewN n) none):=fun n=>gdw (gtr (uh aN) (uh hg1)) n;clear h1 cb;go_wp2_with fail;go_quiet (fail);go_wp2;have he:Ending.returned (.tuple #[.int .i64 (E k 7),.int .i64 (E k 8)])=.returned (.tuple #[.int .i64 AA,.int .i64 DD]):=by rw[uh ha,uh hd,Int.add_zero,Int.add_zero]
  go_ret2
  exact⟨he,uh ah _⟩
theorem LF(s g c:N1)(E I:N2)(gC gE gI cC cE cI f t:Nat)(w:World)(hL:Gd.av w gC gE gI c E I)(hf:f<32)(ht:t<32)(hF:Ft.qf (E f))(hT:Ft.qf (E t))(f0:E f 0≠0)(t0:E t 0≠0):Calls prog 150 #[.agg (Gd.world s gC gE gI cC cE cI g),.int .i64 (f:Int),.int .i64 (t:Int)] w (aJ w (.int .i64 (Ft.dW s E I f t))):=by
 obtain⟨w0,aD⟩:∃w0,w0=w.alloc (.cells (Gd.world s gC gE gI cC cE cI g) 30):=⟨_,rfl⟩;have aF:Hid (ay w0 w.heap.size 30 11 (Gd.box s gC gE gI cC cE cI g)):=by
  show ay w0 w.heap.size _ 11 _;rw[aD];exact(ax.world (abH w _)).lie
 have aN:=aa (show w.grownBy w0 none by rw[aD];exact abE _ _ _);have tt:=aa (hL.on (uh aN));have QV:=hF.ia f0;have NW:=hT.ia t0;have cf:=aa (fun x hx=>rY s g c E I gC gE gI cC cE cI f x hx hf QV.2.2.2.2.2.1 QV.2.2.2.2.2.2.1 QV.2.2.2.2.2.2.2.1 QV.2.2.2.2.2.2.2.2.1);have ct:=aa (fun x hx=>rY s g c E I gC gE gI cC cE cI t x hx ht NW.2.2.2.2.2.1 NW.2.2.2.2.2.2.1 NW.2.2.2.2.2.2.2.1 NW.2.2.2.2.2.2.2.2.1);have cd:=aa (fun x=>yK s g gC gE gI cC cE cI 3 (f:Int) (t:Int) 77 x (by omega));have FV:∀b,0<=Gd.fF b/\Gd.fF b<=3:=fun b=>by unfold Gd.fF;split <;> omega
 have fy:∀b,0<=Gd.jS b/\Gd.jS b<=2:=fun b=>by unfold Gd.jS;split <;> omega
 have ba:0<=Ft.IE E I f/\Ft.IE E I f<=8:=by
  unfold Ft.IE;have:=FV (Gd.wornK I (E f 2) 2 40);split <;> omega
 have bg:0<=Ft.guard E I t/\Ft.guard E I t<=3:=by
  unfold Ft.guard;have:=fy (Gd.wornK I (E t 2) 3 40);split <;> omega
 have bd:=Dc.uU 3 (s 0) [s 1,(f:Int),(t:Int),77] (by omega);have fq:Hid (Ft.dW s E I f t=max 1 (Ft.IE E I f-Ft.guard E I t)+Dc.kK 3 (s 0) [s 1,(f:Int),(t:Int),77]):=rfl;obtain⟨A,hA⟩:∃x,Ft.IE E I f=x:=⟨_,rfl⟩;obtain⟨A',jr⟩:∃x,Ft.guard E I f=x:=⟨_,rfl⟩;obtain⟨D,hD⟩:∃x,Ft.guard E I t=x:=⟨_,rfl⟩;obtain⟨D',Zu⟩:∃x,Ft.IE E I t=x:=⟨_,rfl⟩;obtain⟨Z,hZ⟩:∃x,Dc.kK 3 (s 0) [s 1,(f:Int),(t:Int),77]=x:=⟨_,rfl⟩;obtain⟨F,Su⟩:∃x,Ft.dW s E I f t=x:=⟨_,rfl⟩;rw[hA,jr]at cf;rw[hD,Zu]at ct;rw[hZ]at cd bd;rw[hA]at ba;rw[hD]at bg;rw[Su,hA,hD,hZ]at fq;rw[Su];obtain⟨ba0,ba9⟩:=ba;obtain⟨bg0,bg9⟩:=bg;obtain⟨bd0,bd9⟩:=bd;clear hL hf ht hF hT f0 t0 QV NW FV fy hA jr hD Zu hZ Su;unfold Gd.world at aD cf ct cd|-;go_enter func150,ntmps150;go_upto_region 1 with fail;obtain⟨B,hB⟩:=abV w.heap.size;rw[<-aD];rw[hB]at aF|-;clear aD hB;obtain⟨b0,b1,b2,b3,b4,b5,b6,b7,b8,b9,b10⟩:=(uh aF).ae;go_wp2_with fail;refine aaR (uh cf _ (uh tt)) fun w1 hg1=>?_;have ke:=aa hg1;clear hg1 b0 b1 b2 b3 b4 b5 b6 b7 b8 b9 b10 cf;obtain⟨b0,b1,b2,b3,b4,b5,b6,b7,b8,b9,b10⟩:=((uh aF).on (uh ke)).ae;go_wp2_with fail;refine(uh ct _ ((uh tt).on (uh ke))).mono ?_;rintro e w2 ⟨rfl,hg2⟩;have zG:=aa (gtr (uh ke) hg2);clear hg2 b0 b1 b2 b3 b4 b5 b6 b7 b8 b9 b10 ct;obtain⟨b0,b1,b2,b3,b4,b5,b6,b7,b8,b9,b10⟩:=((uh aF).on (uh zG)).ae;by_cases hm:A-D<=1
 ·have ka:Hid (1+Z=F):=by
   show 1+Z=F;rw[uh fq];omega
  go_wp2_with fail
  all_goals
   refine aaR (uh cd _) fun w3 dl=>?_;have ah:=aa (gtr (uh aN) (gtr (uh zG) dl));clear dl;go_wp2;go_ret;exact⟨rti (by have:=uh ka;omega),uh ah⟩
 ·have ka:Hid (A-D+Z=F):=by
   show A-D+Z=F;rw[uh fq];omega
  go_wp2_with fail
  all_goals
   refine aaR (uh cd _) fun w3 dl=>?_;have ah:=aa (gtr (uh aN) (gtr (uh zG) dl));clear dl;go_wp2;go_ret;exact⟨rti (by have:=uh ka;omega),uh ah⟩
variable{B cC cE cI dE gC gE gI jE:Nat}{E F I:N2}{c g s:N1}{w x x':World}
theorem Gd.au.over{jC jI dC dI:Nat}{s' g' c':N1}{J:N2}(h:Gd.au w x B gC gE gI cC cE cI s g c E I)(ap:32<=dE)(l1:x.heap.size<=jC)(l2:x.heap.size<=jE)(l3:x.heap.size<=jI)(n1:jC≠jE)(n2:jC≠jI)(n3:jE≠jI)(hL:Gd.av x' jC jE jI c' F J)(hg:x.grownBy x' none):Gd.au w (x'.setCells B 0 (Gd.world s' jC jE jI dC dE dI g').toList) B jC jE jI dC dE dI s' g' c' F J:=by
 have h1:=h.af.box.lt;have h2:=h.grown.size;have h3:=h.jo;have h4:=h.bl.lt;have r:=gss (g:=B) (Gd.world s' jC jE jI dC dE dI g').toList 0 x' (abF _ _);exact⟨⟨(h.af.box.on hg).iP s' g' jC jE jI dC dE dI,⟨hL.cells.grown r (by simp;omega),hL.ai.grown r (by simp;omega),hL.aj.grown r (by simp;omega)⟩,by omega,by omega,by omega,n1,n2,n3⟩,h.jo,by omega,by omega,by omega,ap,(h.bl.on hg).grown r (by simp),aA (by omega) _ 0 x' (gtr h.grown hg)⟩
theorem Gd.au.folk(h:Gd.au w x B gC gE gI cC cE cI s g c E I)(ap:32<=dE)(l2:x.heap.size<=jE)(hO:fg x' jE 32 F)(hg:x.grownBy x' none):Gd.au w (x'.setCell ⟨B,5,none⟩ (.slice (some ⟨jE,0,none⟩) 32 dE)) B gC jE gI cC dE cI s g c F I:=by
 have h1:=h.af.box.lt;have h2:=h.af.ab.cells.lt;have h3:=h.af.ab.aj.lt;have h4:=h.jo;have h5:=h.bl.lt;have r:=gs0 x' B 5 (.slice (some ⟨jE,0,none⟩) 32 dE);have hb:=((h.af.box.on hg).store 5 (.slice (some ⟨jE,0,none⟩) 32 dE)).congr (Gd.Ge s g gC gE gI cC cE cI jE dE);exact⟨⟨hb,⟨(h.af.ab.cells.on hg).grown r (by simpa using h.af.bC),(hO.lie (m:=352) (by omega)).grown r (by simp;omega),(h.af.ab.aj.on hg).grown r (by simpa using h.af.bI)⟩,h.af.bC,by omega,h.af.bI,by omega,h.af.cI,by omega⟩,h4,h.lC,by omega,h.lI,ap,(h.bl.on hg).grown r (by simp),gsr (gtr h.grown hg) ⟨B,5,none⟩ (by show w.heap.size<=B;omega) _⟩
theorem Gd.bU.over{jC jI dC dI:Nat}{s' g' c':N1}{J:N2}(h:Gd.bU w x B gC gE gI cC cE cI s g c E I)(ap:32<=dE/\384<=dC)(l1:x.heap.size<=jC)(l2:x.heap.size<=jE)(l3:x.heap.size<=jI)(n1:jC≠jE)(n2:jC≠jI)(n3:jE≠jI)(hL:Gd.av x' jC jE jI c' F J)(hg:x.grownBy x' none):Gd.bU w (x'.setCells B 0 (Gd.world s' jC jE jI dC dE dI g').toList) B jC jE jI dC dE dI s' g' c' F J:=by
 have h1:=h.af.box.lt;have h2:=h.grown.size;have h3:=h.jo;have h4:=h.bl.lt;have r:=gss (g:=B) (Gd.world s' jC jE jI dC dE dI g').toList 0 x' (abF _ _);exact⟨⟨(h.af.box.on hg).iP s' g' jC jE jI dC dE dI,⟨hL.cells.grown r (by simp;omega),hL.ai.grown r (by simp;omega),hL.aj.grown r (by simp;omega)⟩,by omega,by omega,by omega,n1,n2,n3⟩,h.jo,by omega,by omega,by omega,ap,(h.bl.on hg).grown r (by simp),aA (by omega) _ 0 x' (gtr h.grown hg)⟩
theorem Gd.bU.folk(h:Gd.bU w x B gC gE gI cC cE cI s g c E I)(ap:32<=dE)(l2:x.heap.size<=jE)(hO:fg x' jE 32 F)(hg:x.grownBy x' none):Gd.bU w (x'.setCell ⟨B,5,none⟩ (.slice (some ⟨jE,0,none⟩) 32 dE)) B gC jE gI cC dE cI s g c F I:=by
 have h1:=h.af.box.lt;have h2:=h.af.ab.cells.lt;have h3:=h.af.ab.aj.lt;have h4:=h.jo;have h5:=h.bl.lt;have r:=gs0 x' B 5 (.slice (some ⟨jE,0,none⟩) 32 dE);have hb:=((h.af.box.on hg).store 5 (.slice (some ⟨jE,0,none⟩) 32 dE)).congr (Gd.Ge s g gC gE gI cC cE cI jE dE);exact⟨⟨hb,⟨(h.af.ab.cells.on hg).grown r (by simpa using h.af.bC),(hO.lie (m:=352) (by omega)).grown r (by simp;omega),(h.af.ab.aj.on hg).grown r (by simpa using h.af.bI)⟩,h.af.bC,by omega,h.af.bI,by omega,h.af.cI,by omega⟩,h4,h.lC,by omega,h.lI,⟨ap,h.aG.2⟩,(h.bl.on hg).grown r (by simp),gsr (gtr h.grown hg) ⟨B,5,none⟩ (by show w.heap.size<=B;omega) _⟩
def Ft.qe(w:World)(B:Nat)(s g c:N1)(E I:N2)(e:Ending)(x':World):Prop :=
 e=.returned (.tuple #[])/\∃gC gE gI cC cE cI,Gd.bU w x' B gC gE gI cC cE cI s g c E I
theorem L4(w:World)(B g1 g2 g3 c1 c2 c3 k:Nat)(s g c:N1)(E I:N2)(n:Int)(x:World)(hX:Gd.bU w x B g1 g2 g3 c1 c2 c3 s g c E I)(hk:k<32)(h0:0<=E k 5)(h9:E k 5<=20)(hn:1<=n)(hlt:n<E k 5):Calls prog 149 #[.pointer (some ⟨B,0,none⟩),.int .i64 (k:Int),.int .i64 n] x (Ft.qe w B s g c (Gd.set E k 5 (E k 5-n)) I):=by
 have xX:=aa hX;have b5:=hX.af.box.ae.2.2.2.2.2.1;obtain⟨u0,u1,u2,u3,u4,u5,u6,u7,u8,u9,iO⟩:=hX.af.ab.own.ai.row hk;have jy:(k:Int)<32:=by omega
 have HK:=aa hk;have bP:=aa (hX.on (abE x (.cells (En.cells (E k)) 54) none));have hQ:=aa (Gd.pi x (E k));clear hX hk;unfold En.cells at bP hQ;go_enter func149,ntmps149;go_upto_region 1 with fail;obtain⟨Q,hQe⟩:=abV x.heap.size;rw[hQe]at hQ|-;generalize x.alloc (.cells #[.int .i64 (E k 0),.int .i64 (E k 1),.int .i64 (E k 2),.int .i64 (E k 3),.int .i64 (E k 4),.int .i64 (E k 5),.int .i64 (E k 6),.int .i64 (E k 7),.int .i64 (E k 8),.int .i64 (E k 9),.int .i64 (E k 10)] 54)=w3 at bP hQ|-;clear hQe u0 u1 u2 u3 u4 u5 u6 u7 u8 u9 iO b5 xX;obtain⟨z3,z4,z5,z6⟩:=uh hQ;have b5:=(uh bP).af.box.ae.2.2.2.2.2.1;have r5:w3.cell? ⟨g2,k*11+5,none⟩=some (.int .i64 (E k 5)):=((uh bP).af.ab.own.ai.row (uh HK)).2.2.2.2.2.1;have fE:=(uh bP).af.ab.ai.free;have aK:=aa ((uh bP).gN k 5 (by omega) (E k 5-n));clear z3 z4 z6;go_wp2
 go_end0
 exact⟨rfl,g1,g2,g3,c1,c2,c3,uh aK⟩
theorem JB(w:World)(B g1 g2 g3 c1 c2 c3 k:Nat)(s g c:N1)(E I:N2)(n:Int)(x:World)(hX:Gd.bU w x B g1 g2 g3 c1 c2 c3 s g c E I)(hk:k<32)(hlt:¬n<E k 5)(h1:E k 0≠1):Calls prog 149 #[.pointer (some ⟨B,0,none⟩),.int .i64 (k:Int),.int .i64 n] x (Ft.qe w B s g c (En.put E k (En.mP (E k 1))) I):=by
 have b5:=hX.af.box.ae.2.2.2.2.2.1;obtain⟨u0,u1,u2,u3,u4,u5,u6,u7,u8,u9,iO⟩:=hX.af.ab.own.ai.row hk;have jy:(k:Int)<32:=by omega
 have bP:=aa (hX.on (abE x (.cells (En.cells (E k)) 54) none));have hQ:=aa (Gd.pi x (E k));have Yo:Hid ((x.alloc (.cells (En.cells (E k)) 54)).cell? ⟨x.heap.size,0,none⟩=some (.int .i64 (E k 0))):=(ax.lit (abH x (.cells (En.cells (E k)) 54))).cell (i:=0) (by show 0<11;omega);have cf:=aa (fun y (hy:fg y g2 32 E)=>zn g2 32 c2 k E y hy.ai hX.aG.1 hk);have ot:(E k 0==1)=false:=by simpa using h1
 clear hX hk h1;unfold En.cells at bP hQ Yo;go_enter func149,ntmps149;go_upto_region 1 with fail;obtain⟨Q,hQe⟩:=abV x.heap.size;rw[hQe]at hQ Yo|-;generalize x.alloc (.cells #[.int .i64 (E k 0),.int .i64 (E k 1),.int .i64 (E k 2),.int .i64 (E k 3),.int .i64 (E k 4),.int .i64 (E k 5),.int .i64 (E k 6),.int .i64 (E k 7),.int .i64 (E k 8),.int .i64 (E k 9),.int .i64 (E k 10)] 54)=w3 at bP hQ Yo|-;clear hQe u0 u1 u2 u3 u4 u5 u6 u7 u8 u9 iO b5;obtain⟨z3,z4,z5,z6⟩:=uh hQ;have z0:=uh Yo;have b5:=(uh bP).af.box.ae.2.2.2.2.2.1;clear z3 z4 z6;go_wp2_with fail;refine(uh cf _ (uh bP).af.ab.own).mono ?_;rintro e w4 ⟨j,aG,rfl,iC,jP,tu,aH,hgr⟩;have aK:=aa ((uh bP).folk jP iC aH hgr);have y5:=((uh bP).on hgr).af.box.ae.2.2.2.2.2.1;have fB:=((uh bP).on hgr).af.box.free;clear iC jP tu aH hgr cf z0 z5 b5;go_wp2
 go_end0
 exact⟨rfl,g1,j,g3,c1,aG,c3,uh aK⟩
theorem L1(w:World)(B g1 g2 g3 c1 c2 c3 k:Nat)(s g c:N1)(E I:N2)(n:Int)(x:World)(hX:Gd.bU w x B g1 g2 g3 c1 c2 c3 s g c E I)(hk:k<32)(hlt:¬n<E k 5)(h1:E k 0=1):Calls prog 149 #[.pointer (some ⟨B,0,none⟩),.int .i64 (k:Int),.int .i64 n] x (Ft.qe w B s g c (En.put E k (En.mP (E k 1))) (Gd.lZ I (E k 2))):=by
 have b5:=hX.af.box.ae.2.2.2.2.2.1;obtain⟨u0,u1,u2,u3,u4,u5,u6,u7,u8,u9,iO⟩:=hX.af.ab.own.ai.row hk;have jy:(k:Int)<32:=by omega
 have bP:=aa (hX.on (abE x (.cells (En.cells (E k)) 54) none));have hQ:=aa (ax.lit (abH x (.cells (En.cells (E k)) 54)));have PW:Hid (x.heap.size≠B):=(Gd.qU hX.aaS).2.2;have H1:=aa h1;have HK:=aa hk;clear hX hk h1;unfold En.cells at bP hQ;go_enter func149,ntmps149;go_upto_region 1 with fail;obtain⟨Q,hQe⟩:=abV x.heap.size;rw[hQe]at hQ PW|-;generalize x.alloc (.cells #[.int .i64 (E k 0),.int .i64 (E k 1),.int .i64 (E k 2),.int .i64 (E k 3),.int .i64 (E k 4),.int .i64 (E k 5),.int .i64 (E k 6),.int .i64 (E k 7),.int .i64 (E k 8),.int .i64 (E k 9),.int .i64 (E k 10)] 54)=w3 at bP hQ|-;clear hQe u0 u1 u2 u3 u4 u5 u6 u7 u8 u9 iO b5;have z0:w3.cell? ⟨Q,0,none⟩=some (.int .i64 1):=by rw[<-uh H1];exact(uh hQ).cell (i:=0) (by show 0<11;omega)
 have z2:w3.cell? ⟨Q,2,none⟩=some (.int .i64 (E k 2)):=(uh hQ).cell (i:=2) (by show 2<11;omega);have z5:w3.cell? ⟨Q,5,none⟩=some (.int .i64 (E k 5)):=(uh hQ).cell (i:=5) (by show 5<11;omega);obtain⟨b0,b1,b2,b3,b4,b5,b6,b7,b8,b9,b10⟩:=(uh bP).af.box.ae;go_upto_region 4 with fail;have cs:=aa (Ke s g c E I g1 g2 g3 c1 c2 c3 (E k 2) w3.drew ((uh bP).on (gd1 (abF _ _))).af.ab);clear z0 z5;have Ys:=aa ((uh bP).on (gd1 (abF _ none)));unfold Gd.world at cs
 go_region_with (first| (go_at_call 171;refine(uh cs).mono ?_;rintro e w4 ⟨jC,jE,jI,dC,dE,dI,rfl,ap,l1,l2,l3,n1,n2,n3,hL,hg⟩;have aK:=aa ((uh Ys).over (s':=s) (g':=g) (dC:=dC) (dI:=dI) ap l1 l2 l3 n1 n2 n3 hL hg);obtain⟨y0,y1,y2,y3,y4,y5,y6,y7,y8,y9,y10⟩:=((uh Ys).on hg).af.box.ae;have fB:=((uh Ys).on hg).af.box.free;clear ap l1 l2 l3 n1 n2 n3 hL hg b0 b1 b2 b3 b4 b5 b6 b7 b8 b9 b10 z2;unfold Gd.world at aK|-))
 all_goals
  have nk:Hid (Gd.bU w (((((((((((w4.setCell ⟨B,0,none⟩ (.int .i64 (s 0))).setCell ⟨B,1,none⟩ (.int .i64 (s 1))).setCell ⟨B,2,none⟩ (.int .i64 (s 2))).setCell ⟨B,3,none⟩ (.int .i64 (s 3))).setCell ⟨B,4,none⟩ (.slice (some ⟨jC,0,none⟩) 384 dC)).setCell ⟨B,5,none⟩ (.slice (some ⟨jE,0,none⟩) 32 dE)).setCell ⟨B,6,none⟩ (.slice (some ⟨jI,0,none⟩) 40 dI)).setCell ⟨B,7,none⟩ (.int .i64 (g 0))).setCell ⟨B,8,none⟩ (.int .i64 (g 1))).setCell ⟨B,9,none⟩ (.int .i64 (g 2))).setCell ⟨B,10,none⟩ (.int .i64 (g 3))) B jC jE jI dC dE dI s g c E (Gd.lZ I (E k 2))):=uh aK;clear aK bP Ys hQ;generalize (((((((((((w4.setCell ⟨B,0,none⟩ (.int .i64 (s 0))).setCell ⟨B,1,none⟩ (.int .i64 (s 1))).setCell ⟨B,2,none⟩ (.int .i64 (s 2))).setCell ⟨B,3,none⟩ (.int .i64 (s 3))).setCell ⟨B,4,none⟩ (.slice (some ⟨jC,0,none⟩) 384 dC)).setCell ⟨B,5,none⟩ (.slice (some ⟨jE,0,none⟩) 32 dE)).setCell ⟨B,6,none⟩ (.slice (some ⟨jI,0,none⟩) 40 dI)).setCell ⟨B,7,none⟩ (.int .i64 (g 0))).setCell ⟨B,8,none⟩ (.int .i64 (g 1))).setCell ⟨B,9,none⟩ (.int .i64 (g 2))).setCell ⟨B,10,none⟩ (.int .i64 (g 3)))=wc at nk|-;clear y0 y1 y2 y3 y4 y5 y6 y7 y8 y9 y10 fB;have cf:=aa (zn jE 32 dE k E wc (uh nk).af.ab.own.ai (uh nk).aG.1 (uh HK));have b5:=(uh nk).af.box.ae.2.2.2.2.2.1;go_wp2_with fail;refine(uh cf).mono ?_;rintro e w5 ⟨j,aG,rfl,iC,jP,tu,aH,hgr⟩;have ah:=aa ((uh nk).folk jP iC aH hgr);have y5:=((uh nk).on hgr).af.box.ae.2.2.2.2.2.1;have fB:=((uh nk).on hgr).af.box.free;clear iC jP tu aH hgr cf b5;go_wp2
  go_end0
  exact⟨rfl,jC,j,jI,dC,aG,dI,uh ah⟩
theorem G6(w:World)(B g1 g2 g3 c1 c2 c3 k:Nat)(s g c:N1)(E I:N2)(n:Int)(x:World)(hX:Gd.bU w x B g1 g2 g3 c1 c2 c3 s g c E I)(hk:k<32)(h0:0<=E k 5)(h9:E k 5<=20)(hn:1<=n):Calls prog 149 #[.pointer (some ⟨B,0,none⟩),.int .i64 (k:Int),.int .i64 n] x (Ft.qe w B s g c (Ft.cW E k n) (Ft.jD E I k n)):=by
 unfold Ft.cW Ft.jD;by_cases hlt:n<E k 5
 ·rw[abP hlt,abP hlt];exact L4 w B g1 g2 g3 c1 c2 c3 k s g c E I n x hX hk h0 h9 hn hlt
 ·rw[abO hlt,abO hlt];by_cases h1:E k 0=1
  ·rw[abP h1];exact L1 w B g1 g2 g3 c1 c2 c3 k s g c E I n x hX hk hlt h1
  ·rw[abO h1];exact JB w B g1 g2 g3 c1 c2 c3 k s g c E I n x hX hk hlt h1
theorem Mh(w:World)(B g1 g2 g3 c1 c2 c3 f t:Nat)(s g c:N1)(E I:N2)(x:World)(hX:Gd.bU w x B g1 g2 g3 c1 c2 c3 s g c E I)(hf:f<32)(ht:t<32)(p0:0<=E t 9)(p9:E t 9<=9)(s0:0<=E t 10)(s9:E t 10<=9):Calls prog 151 #[.pointer (some ⟨B,0,none⟩),.int .i64 (f:Int),.int .i64 (t:Int)] x (Ft.qe w B s g c (Ft.fj s E f t) I):=by
 have xX:=aa hX;have b5:=hX.af.box.ae.2.2.2.2.2.1;have u0:=(hX.af.ab.own.ai.row hf).1;have fb:(f:Int)<32:=by omega
 have oA:(t:Int)<32:=by omega
 have HT:=aa ht;have r9:x.cell? ⟨g2,t*11+9,none⟩=some (.int .i64 (E t 9)):=(hX.af.ab.own.ai.row ht).2.2.2.2.2.2.2.2.2.1;have pb:x.cell? ⟨g2,t*11+10,none⟩=some (.int .i64 (E t 10)):=(hX.af.ab.own.ai.row ht).2.2.2.2.2.2.2.2.2.2;have fE:=hX.af.ab.ai.free;clear hX hf ht;by_cases h4:E f 0=4
 ·have hd:Hid (Ft.fj s E f t=Gd.set E t 9 (min (E t 9+3) 9)):=abP h4;rw[h4]at u0;clear h4 pb;by_cases hm:E t 9+3<=9
  ·have aK:Hid (Gd.bU w (x.setCell ⟨g2,t*11+9,none⟩ (.int .i64 (E t 9+3))) B g1 g2 g3 c1 c2 c3 s g c (Ft.fj s E f t) I):=by
    show Gd.bU _ _ _ _ _ _ _ _ _ _ _ _ _ _;rw[uh hd,show min (E t 9+3) 9=E t 9+3 by omega];exact(uh xX).gN t 9 (by omega) _
   go_enter func151,ntmps151;go_wp2
   go_end0
   exact⟨rfl,g1,g2,g3,c1,c2,c3,uh aK⟩
  ·have aK:Hid (Gd.bU w (x.setCell ⟨g2,t*11+9,none⟩ (.int .i64 9)) B g1 g2 g3 c1 c2 c3 s g c (Ft.fj s E f t) I):=by
    show Gd.bU _ _ _ _ _ _ _ _ _ _ _ _ _ _;rw[uh hd,show min (E t 9+3) 9=9 by omega];exact(uh xX).gN t 9 (by omega) _
   go_enter func151,ntmps151;go_wp2
   go_end0
   exact⟨rfl,g1,g2,g3,c1,c2,c3,uh aK⟩
 ·have I7:(E f 0==4)=false:=by simpa using h4
  by_cases h3:E f 0=3
  ·have hd:Hid (Ft.fj s E f t=if Dc.kK 4 (s 0) [s 1,(f:Int),(t:Int),78]=0 then Gd.set E t 10 (min (E t 10+2) 9)else E):=by
    show Ft.fj s E f t=_;unfold Ft.fj;rw[abO h4];by_cases hz:Dc.kK 4 (s 0) [s 1,(f:Int),(t:Int),78]=0
    ·rw[abP hz,abP ⟨h3,hz⟩]
    ·rw[abO hz,abO (fun h=>hz h.2)]
   rw[h3]at u0;have cd:=aa (yK s g g1 g2 g3 c1 c2 c3 4 (f:Int) (t:Int) 78 x (by omega));obtain⟨Z,hZ⟩:=abV (Dc.kK 4 (s 0) [s 1,(f:Int),(t:Int),78]);rw[hZ]at cd hd;obtain⟨b0,b1,b2,b3,b4,-,b6,b7,b8,b9,b10⟩:=(uh xX).af.box.ae;clear h4 I7 h3 hZ r9;unfold Gd.world at cd;by_cases hz:Z=0
   ·subst hz;rw[abP rfl]at hd;go_enter func151,ntmps151;go_wp2_with fail;refine aaR (uh cd) fun x1 hg=>?_;have wR:=aa ((uh xX).on hg);clear hg cd b0 b1 b2 b3 b4 b5 b6 b7 b8 b9 b10 u0 pb fE;have y10:x1.cell? ⟨g2,t*11+10,none⟩=some (.int .i64 (E t 10)):=((uh wR).af.ab.own.ai.row (uh HT)).2.2.2.2.2.2.2.2.2.2;have fE:=(uh wR).af.ab.ai.free;by_cases hm:E t 10+2<=9
    ·have aK:Hid (Gd.bU w (x1.setCell ⟨g2,t*11+10,none⟩ (.int .i64 (E t 10+2))) B g1 g2 g3 c1 c2 c3 s g c (Ft.fj s E f t) I):=by
      show Gd.bU _ _ _ _ _ _ _ _ _ _ _ _ _ _;rw[uh hd,show min (E t 10+2) 9=E t 10+2 by omega];exact(uh wR).gN t 10 (by omega) _
     go_wp2
     go_end0
     exact⟨rfl,g1,g2,g3,c1,c2,c3,uh aK⟩
    ·have aK:Hid (Gd.bU w (x1.setCell ⟨g2,t*11+10,none⟩ (.int .i64 9)) B g1 g2 g3 c1 c2 c3 s g c (Ft.fj s E f t) I):=by
      show Gd.bU _ _ _ _ _ _ _ _ _ _ _ _ _ _;rw[uh hd,show min (E t 10+2) 9=9 by omega];exact(uh wR).gN t 10 (by omega) _
     go_wp2
     go_end0
     exact⟨rfl,g1,g2,g3,c1,c2,c3,uh aK⟩
   ·have kW:(Z==0)=false:=by simpa using hz
    rw[abO hz]at hd;clear hz;go_enter func151,ntmps151;go_wp2_with fail;refine aaR (uh cd) fun x1 hg=>?_;have aK:Hid (Gd.bU w x1 B g1 g2 g3 c1 c2 c3 s g c (Ft.fj s E f t) I):=by
     show Gd.bU _ _ _ _ _ _ _ _ _ _ _ _ _ _;rw[uh hd];exact(uh xX).on hg
    clear hg cd;go_wp2
    go_end0
    exact⟨rfl,g1,g2,g3,c1,c2,c3,uh aK⟩
  ·have Sm:(E f 0==3)=false:=by simpa using h3
   have aK:Hid (Gd.bU w x B g1 g2 g3 c1 c2 c3 s g c (Ft.fj s E f t) I):=by
    show Gd.bU _ _ _ _ _ _ _ _ _ _ _ _ _ _;unfold Ft.fj;rw[abO h4,abO (fun h=>h3 h.1)];exact uh xX
   clear h4 h3 r9 pb;go_enter func151,ntmps151;go_wp2
   go_end0
   exact⟨rfl,g1,g2,g3,c1,c2,c3,uh aK⟩
theorem Nj(w:World)(B g1 g2 g3 c1 c2 c3 k:Nat)(s g c:N1)(E I:N2)(x:World)(hX:Gd.bU w x B g1 g2 g3 c1 c2 c3 s g c E I)(hk:k<32)(h0:0<=E k 5)(h9:E k 5<=20)(p0:0<=E k 9)(p9:E k 9<=9)(s0:0<=E k 10)(s9:E k 10<=9):Calls prog 120 #[.pointer (some ⟨B,0,none⟩),.int .i64 (k:Int)] x (Ft.qe w B s g c (Ft.np E k) (Ft.rR E I k)):=by
 have xX:=aa hX;have b5:=hX.af.box.ae.2.2.2.2.2.1;have jy:(k:Int)<32:=by omega
 have r9:x.cell? ⟨g2,k*11+9,none⟩=some (.int .i64 (E k 9)):=(hX.af.ab.own.ai.row hk).2.2.2.2.2.2.2.2.2.1;have pb:x.cell? ⟨g2,k*11+10,none⟩=some (.int .i64 (E k 10)):=(hX.af.ab.own.ai.row hk).2.2.2.2.2.2.2.2.2.2;have fE:=hX.af.ab.ai.free;have e9:Hid (Ft.bT E k k 9=E k 9):=Ft.i9 E k 9 (by omega);have e5:Hid (Ft.ef (Ft.bT E k) k k 5=E k 5):=by
  show Ft.ef (Ft.bT E k) k k 5=E k 5;unfold Ft.ef;rw[Gd.dq (by omega),Ft.i9 E k 5 (by omega)]
 have ch:Hid (∀y,Gd.bU w y B g1 g2 g3 c1 c2 c3 s g c (Ft.ef (Ft.bT E k) k) I->Calls prog 149 #[.pointer (some ⟨B,0,none⟩),.int .i64 (k:Int),.int .i64 1] y (Ft.qe w B s g c (Ft.cW (Ft.ef (Ft.bT E k) k) k 1) (Ft.jD (Ft.ef (Ft.bT E k) k) I k 1))):=fun y hy=>G6 w B g1 g2 g3 c1 c2 c3 k s g c _ I 1 y hy hk (by rw[uh e5];exact h0) (by rw[uh e5];exact h9) (by omega);have HB:=aa hX.af.bE;clear hX hk;by_cases hs:0<E k 10
 ·have XD:Hid (Ft.bT E k=Gd.set E k 10 (E k 10-1)):=abP hs;by_cases hp:0<E k 9
  ·have Xo:Hid (Ft.np E k=Ft.cW (Ft.ef (Ft.bT E k) k) k 1):=abP hp;have UL:Hid (Ft.rR E I k=Ft.jD (Ft.ef (Ft.bT E k) k) I k 1):=abP hp;have aK:Hid (Gd.bU w ((x.setCell ⟨g2,k*11+10,none⟩ (.int .i64 (E k 10-1))).setCell ⟨g2,k*11+9,none⟩ (.int .i64 (E k 9-1))) B g1 g2 g3 c1 c2 c3 s g c (Ft.ef (Ft.bT E k) k) I):=by
    show Gd.bU _ _ _ _ _ _ _ _ _ _ _ _ _ _;unfold Ft.ef;rw[uh e9,uh XD];exact((uh xX).gN k 10 (by omega) _).gN k 9 (by omega) _
   have Wi:B≠g2:=uh HB;have hEB:g2≠B:=Wi.symm;go_enter func120,ntmps120;go_wp2_with fail;refine(uh ch _ (uh aK)).mono ?_;rintro e x1 ⟨rfl,h1,h2,h3,d1,d2,d3,hY⟩;have MV:=aa hY;clear hY ch aK r9 pb fE b5;go_wp2
   go_end0
   refine⟨rfl,h1,h2,h3,d1,d2,d3,?_⟩;rw[uh Xo,uh UL];exact uh MV
  ·have Xo:Hid (Ft.np E k=Ft.bT E k):=abO hp;have UL:Hid (Ft.rR E I k=I):=abO hp;have aK:Hid (Gd.bU w (x.setCell ⟨g2,k*11+10,none⟩ (.int .i64 (E k 10-1))) B g1 g2 g3 c1 c2 c3 s g c (Ft.np E k) (Ft.rR E I k)):=by
    show Gd.bU _ _ _ _ _ _ _ _ _ _ _ _ _ _;rw[uh Xo,uh UL,uh XD];exact(uh xX).gN k 10 (by omega) _
   clear ch;go_enter func120,ntmps120;go_wp2
   go_end0
   exact⟨rfl,g1,g2,g3,c1,c2,c3,uh aK⟩
 ·have XD:Hid (Ft.bT E k=E):=abO hs;by_cases hp:0<E k 9
  ·have Xo:Hid (Ft.np E k=Ft.cW (Ft.ef (Ft.bT E k) k) k 1):=abP hp;have UL:Hid (Ft.rR E I k=Ft.jD (Ft.ef (Ft.bT E k) k) I k 1):=abP hp;have aK:Hid (Gd.bU w (x.setCell ⟨g2,k*11+9,none⟩ (.int .i64 (E k 9-1))) B g1 g2 g3 c1 c2 c3 s g c (Ft.ef (Ft.bT E k) k) I):=by
    show Gd.bU _ _ _ _ _ _ _ _ _ _ _ _ _ _;unfold Ft.ef;rw[uh e9,uh XD];exact(uh xX).gN k 9 (by omega) _
   have Wi:B≠g2:=uh HB;have hEB:g2≠B:=Wi.symm;go_enter func120,ntmps120;go_wp2_with fail;refine(uh ch _ (uh aK)).mono ?_;rintro e x1 ⟨rfl,h1,h2,h3,d1,d2,d3,hY⟩;have MV:=aa hY;clear hY ch aK r9 pb fE b5;go_wp2
   go_end0
   refine⟨rfl,h1,h2,h3,d1,d2,d3,?_⟩;rw[uh Xo,uh UL];exact uh MV
  ·have aK:Hid (Gd.bU w x B g1 g2 g3 c1 c2 c3 s g c (Ft.np E k) (Ft.rR E I k)):=by
    show Gd.bU _ _ _ _ _ _ _ _ _ _ _ _ _ _;unfold Ft.np Ft.rR;rw[abO hp,abO hp,uh XD];exact uh xX
   clear ch;go_enter func120,ntmps120;go_wp2
   go_end0
   exact⟨rfl,g1,g2,g3,c1,c2,c3,uh aK⟩
def Md.Lr(b:Bool)(p:Prop):Prop:=b=true↔p
theorem Md.R4{p:Prop}{b:Bool}(h:b=true↔p):(b=false↔¬p):=by
 cases b
 ·exact⟨fun _ hp=>by have:=h.2 hp;simp at this,fun _=>rfl⟩
 ·exact⟨fun h'=>by simp at h',fun hp=>absurd (h.1 rfl) hp⟩
theorem vY(s g c:N1)(E I:N2)(gC gE gI cC cE cI:Nat)(row:Int)(w:World)(hL:Gd.av w gC gE gI c E I)(hc:∀i,0<=c i/\c i<=255)(jx:32<=cE)(hE:Md.oF E):Calls prog 42 #[.agg (Gd.world s gC gE gI cC cE cI g),.int .i64 row] w (Md.aJ w (Md.aU s c E row)):=by
 obtain⟨w0,aD⟩:∃w0,w0=w.alloc (.cells (Gd.world s gC gE gI cC cE cI g) 30):=⟨_,rfl⟩;have aN:w.grownBy w0 none:=by rw[aD];exact abE _ _ _
 have hO:Hid (Gd.iz w w0 w.heap.size gC gE gI cC cE cI s g c E I):=by
  refine⟨?_,hL.on aN,aN⟩;rw[aD];exact(ax.world (abH w _)).lie
 have fD:=aa hc;have kc:=aa jx;have iQ:=aa hE;have fq:Hid (∀v,Md.aU s c E row v↔if (row<0\/32<=row)\/E row.toNat 0=0\/E row.toNat 0=1 then v=0 else Md.nn s c E row.toNat v):=fun v=>Iff.rfl;have fm:Hid (((row<0\/32<=row)\/E row.toNat 0=0\/E row.toNat 0=1)->Md.aJ w (Md.aU s c E row) (.returned (.int .i64 0)) w0):=fun h=>⟨0,(uh fq 0).2 (by rw[abP h]),rfl,aN⟩;clear hL hc jx hE aN;unfold Gd.world at aD|-;go_enter func42,ntmps42;go_upto_region 1 with fail;rw[<-aD];clear aD;obtain⟨B,hB⟩:=abV w.heap.size;rw[hB]at hO|-;clear hB;have q5:=(uh hO).box.ae.2.2.2.2.2.1;by_cases r0:row<0
 ·have ah:=aa (uh fm (.inl (.inl r0)));clear fm fq;go_wp2;go_ret;exact uh ah
 by_cases r9:32<=row
 ·have ah:=aa (uh fm (.inl (.inr r9)));clear fm fq;go_wp2;go_ret;exact uh ah
 obtain⟨k,rfl⟩:∃k:Nat,row=(k:Int):=⟨row.toNat,by omega⟩;have hk:k<32:=by omega
 have jy:(k:Int)<32:=by omega
 have HK:=aa hk;rw[abG]at fm;have u0:=((uh hO).ab.own.ai.row hk).1;by_cases k0:E k 0=0
 ·have ah:=aa (uh fm (.inr (.inl k0)));rw[k0]at u0;clear fm fq k0 r0 r9;go_wp2;go_ret;exact uh ah
 by_cases k1:E k 0=1
 ·have ah:=aa (uh fm (.inr (.inr k1)));rw[k1]at u0;clear fm fq k0 k1 r0 r9;go_wp2;go_ret;exact uh ah
 have zR:Hid (∀v,Md.nn s c E k v->Md.aU s c E (k:Int) v):=fun v hv=>(uh fq v).2 (by
  rw[abG,abO (by omega)]
  exact hv)
 obtain⟨x0,x9,y0,y9,-,-⟩:=uh iQ k hk k0;have U4:(E k 0==0)=false:=by simpa using k0
 have XS:(E k 0==1)=false:=by simpa using k1
 obtain⟨-,u1,u2,u3,u4,u5,u6,u7,u8,u9,iO⟩:=(uh hO).ab.own.ai.row hk;have hQ:=aa (ay.ei w0 (E k) 54);have gK:=aa ((uh hO).on (abE w0 (.cells (En.cells (E k)) 54) none));clear hk k0 k1 fm fq r0 r9;unfold En.cells at hQ gK;go_upto_region 4 with fail;obtain⟨Q,hQe⟩:=abV w0.heap.size;rw[hQe]at hQ|-;generalize w0.alloc (.cells #[.int .i64 (E k 0),.int .i64 (E k 1),.int .i64 (E k 2),.int .i64 (E k 3),.int .i64 (E k 4),.int .i64 (E k 5),.int .i64 (E k 6),.int .i64 (E k 7),.int .i64 (E k 8),.int .i64 (E k 9),.int .i64 (E k 10)] 54)=w2 at hQ gK|-;clear hQe q5 u0 u1 u2 u3 u4 u5 u6 u7 u8 u9 iO hO U4 XS;have vC:Hid (∀v,Md.nn s c E k v↔∃b a,Md.mK c E (E k 3) (E k 4) 4 b a/\((a<0/\v=Md.oo s c E k)\/∃h:Nat,a=(h:Int)/\if 0<Nv.ez (E h 3-E k 3) (E h 4-E k 4)then v=Nv.ez (E h 3-E k 3) (E h 4-E k 4)else Nv.aW c (fun _=>E h 4*24+E h 3) 1 E 32 (E k 3) (E k 4) v)):=fun v=>Iff.rfl;have Jz:Hid (Md.oo s c E k=if (1<=Dc.kK 8 (s 0) [s 1,(k:Int),90]/\Dc.kK 8 (s 0) [s 1,(k:Int),90]<=4)/\Gr.aS (Gr.at 384 c (E k 3+(Fx.bh (Dc.kK 8 (s 0) [s 1,(k:Int),90])).1) (E k 4+(Fx.bh (Dc.kK 8 (s 0) [s 1,(k:Int),90])).2))=true/\En.first (En.eM E (E k 3+(Fx.bh (Dc.kK 8 (s 0) [s 1,(k:Int),90])).1) (E k 4+(Fx.bh (Dc.kK 8 (s 0) [s 1,(k:Int),90])).2)) 32<0 then Dc.kK 8 (s 0) [s 1,(k:Int),90]else 0):=rfl;obtain⟨x,hx⟩:=abV (E k 3);obtain⟨y,hy⟩:=abV (E k 4);have rq:Hid (∀z,w2.grownBy z none->z.cell? ⟨Q,3,none⟩=some (.int .i64 x)/\z.cell? ⟨Q,4,none⟩=some (.int .i64 y)):=fun z hz=>by
  have h3:=((uh hQ).on hz).cell (c:=3) (by omega);have h4:=((uh hQ).on hz).cell (c:=4) (by omega);rw[<-hx,<-hy];exact⟨h3,h4⟩
 rw[hx]at x0 x9 vC Jz;rw[hy]at y0 y9 vC Jz;clear hx hy hQ;have hg2:=aa (abF w2 none);go_upto_block 0 with fail;go_cut [6,7] from 8 (fun vb va wx=>∃b a:Int,vb=.int .i64 b/\va=.int .i64 a/\Hid (Md.mK c E x y 4 b a)/\Hid (a=-1\/∃h:Nat,h<32/\a=(h:Int)/\E h 0=1)/\Hid (Gd.iz w wx B gC gE gI cC cE cI s g c E I)/\Hid (w2.grownBy wx none))
 case first =>
  go_wp2_with fail;go_loopw [6,7,8,9,10,11,12] (fun v6 v7 v8 v9 v10 v11 Tp wr=>∃(t:Nat)(b a:Int),t<=4/\v6=.int .i64 b/\v7=.int .i64 a/\v8=.int .i64 (t:Int)/\Hid (Md.mK c E x y t b a)/\Hid (a=-1\/∃h:Nat,h<32/\a=(h:Int)/\E h 0=1)/\Hid (Gd.iz w wr B gC gE gI cC cE cI s g c E I)/\Hid (w2.grownBy wr none)) (fun _ _ v8 _ _ _ _ _=>10-(intOf v8).toNat)
  case atStart=>exact⟨0,0,-1,by omega,rfl,rfl,rfl,⟨rfl,rfl⟩,.inl rfl,gK,hg2⟩
  case round =>
   clear gK hg2;obtain⟨t,b,a,ht,rfl,rfl,rfl,je,IF,gK,hg2⟩:=hrel;by_cases hlt:t<4
   ·have hlt':(t:Int)<4:=(by omega);have HT:=aa hlt;have q5:=(uh gK).box.ae.2.2.2.2.2.1;have ch:=aa (dn gE cE E (t:Int) wr (uh gK).ab.own);have bZ:=aa (@Md.lL E (t:Int));obtain⟨h0,hh⟩:∃h,Gd.aV E (t:Int)=h:=⟨_,rfl⟩;have ov:=aa hh;rw[hh]at ch;clear hh hlt ht;go_wp2_with fail;refine aaR (uh ch) fun w3 hg=>?_;have kA:=aa ((uh gK).on hg);have dl:=aa (gtr (uh hg2) hg);clear hg ch q5 gK hg2;by_cases dH:h0<0
    ·have Jv:Hid (Md.mK c E x y (t+1) b a):=⟨b,a,uh je,.inl ⟨by rw[uh ov];exact dH,rfl,rfl⟩⟩;clear bZ ov;go_wp2;go_roundw
     case rel=>exact⟨t+1,b,a,by have:=uh HT;omega,rfl,rfl,by go_num,Jv,IF,kA,dl⟩
     case measure=>simp[intOf];have:=uh HT;omega
    obtain⟨h,qx,W5,gv,-⟩:=uh bZ (by rw[uh ov];omega);obtain rfl:h0=(h:Int):=by rw[<-uh ov];exact W5
    obtain⟨p0,p9,r0,r9,-,-⟩:=uh iQ h qx (by omega);have HH:=aa (show h<32/\E h 0=1 from⟨qx,gv⟩);have hh3:(h:Int)<32:=(by omega);have q5:=(uh kA).box.ae.2.2.2.2.2.1;have u3:=((uh kA).ab.own.ai.row qx).2.2.2.1;have u4:=((uh kA).ab.own.ai.row qx).2.2.2.2.1;clear bZ W5 gv dH qx;go_upto_region 10 with fail;go_cut [10,11] from 51 to 105 (fun va vb wx=>va=.int .i64 (E h 3)/\vb=.int .i64 (E h 4)/\Hid (Gd.iz w wx B gC gE gI cC cE cI s g c E I)/\Hid (w2.grownBy wx none))
    case first =>
     go_quiet (fail);go_wp2_with fail;go_meet;exact⟨rfl,rfl,(uh kA).on (gdw (abF _ none) _),gdw (uh dl) _⟩
    case rest =>
     clear q5 u3 u4 kA dl;obtain⟨rfl,rfl,kA,dl⟩:=hcut;have q4:=(uh kA).box.ae.2.2.2.2.1;have z3:=(uh rq wc (uh dl)).1;have z4:=(uh rq wc (uh dl)).2;have dm:Hid (∀b' a',(∃r:Int,Fx.lO (((E h 3-x)*(E h 3-x)+(E h 4-y)*(E h 4-y))*65536) r/\((Md.pN c x y (E h 3) (E h 4) r b a/\b'=r/\a'=(h:Int))\/(¬Md.pN c x y (E h 3) (E h 4) r b a/\b'=b/\a'=a)))->Md.mK c E x y (t+1) b' a'):=fun b' a' hr=>by
      obtain⟨r,h1,h2⟩:=hr;exact⟨b,a,uh je,.inr ⟨h,r,uh ov,h1,h2⟩⟩
     have cd:=aa (H8 (E h 3-x) (E h 4-y) wc (by omega) (by omega) (by omega) (by omega));have cs:=aa (Ii (some ⟨gC,0,none⟩) 384 cC c x y (E h 3) (E h 4) wc (uh kA).ab.lg (uh fD));obtain⟨X,hX⟩:∃z,E h 3=z:=⟨_,rfl⟩;obtain⟨Y,hY⟩:∃z,E h 4=z:=⟨_,rfl⟩;rw[hX]at cd cs dm p0 p9;rw[hY]at cd cs dm r0 r9;rw[hX,hY];have w1:IntKind.i64.wrap (X-x)=X-x:=by rw[abK];omega
     have w2':IntKind.i64.wrap (Y-y)=Y-y:=by rw[abK];omega
     clear hX hY je ov;go_wp2_with fail;refine(uh cd).mono ?_;rintro e wy ⟨r,rfl,hr,hy⟩;subst wy;have hr':=aa hr;clear hr cd;go_upto_region 12 with fail;go_cut [103] from 51 to 102 (fun va wx=>∃p:Bool,va=.bool p/\Hid (Md.Lr p (Md.pN c x y X Y r b a))/\Hid (Gd.iz w wx B gC gE gI cC cE cI s g c E I)/\Hid (w2.grownBy wx none))
     case first =>
      by_cases hd:r<=1536
      ·go_wp2_with fail;refine(uh cs).mono ?_;rintro e wz ⟨q,rfl,hq,hb⟩;have hg:=dV hb;have zu:=aa ((uh kA).on hg);have hg4:=aa (gtr (uh dl) hg);have kp:=aa hq;clear hb hg hq cs;cases q
       ·have hno:Hid (Md.Lr false (Md.pN c x y X Y r b a)):=⟨fun h=>by simp at h,fun h=>(uh kp).2 h.2.1⟩;go_wp2_with fail;go_meet;exact⟨false,rfl,hno,zu,hg4⟩
       ·by_cases ha:a<0
        ·have gw:Hid (Md.Lr true (Md.pN c x y X Y r b a)):=⟨fun _=>⟨hd,(uh kp).1 rfl,.inl ha⟩,fun _=>rfl⟩;go_wp2_with fail;go_meet;exact⟨true,rfl,gw,zu,hg4⟩
        ·by_cases hb:r<b
         ·have gw:Hid (Md.Lr true (Md.pN c x y X Y r b a)):=⟨fun _=>⟨hd,(uh kp).1 rfl,.inr hb⟩,fun _=>rfl⟩;go_wp2_with fail;go_meet;exact⟨true,by first| rfl|(simp[hb];done)|(simp;omega),gw,zu,hg4⟩
         ·have hno:Hid (Md.Lr false (Md.pN c x y X Y r b a)):=⟨fun h=>by simp at h,fun h=>by rcases h.2.2 with h|h <;> omega⟩;go_wp2_with fail;go_meet;exact⟨false,by first| rfl|(simp[hb];done)|(simp;omega),hno,zu,hg4⟩
      ·have hno:Hid (Md.Lr false (Md.pN c x y X Y r b a)):=⟨fun h=>by simp at h,fun h=>absurd h.1 hd⟩;clear cs;go_wp2_with fail;go_meet;exact⟨false,rfl,hno,kA,dl⟩
     case rest =>
      clear q4 z3 z4 cs kA dl;obtain⟨p,rfl,hp,kA,dl⟩:=hcut;cases p
      ·have Jv:Hid (Md.mK c E x y (t+1) b a):=uh dm b a ⟨r,uh hr',.inr ⟨(Md.R4 (uh hp)).1 rfl,rfl,rfl⟩⟩;go_wp2;go_roundw
       case rel=>exact⟨t+1,b,a,by have:=uh HT;omega,rfl,rfl,by go_num,Jv,IF,kA,dl⟩
       case measure=>simp[intOf];have:=uh HT;omega
      ·have Jv:Hid (Md.mK c E x y (t+1) r (h:Int)):=uh dm r (h:Int) ⟨r,uh hr',.inl ⟨(uh hp).1 rfl,rfl,rfl⟩⟩;go_wp2;go_roundw
       case rel=>exact⟨t+1,r,(h:Int),by have:=uh HT;omega,rfl,rfl,by go_num,Jv,.inr ⟨h,(uh HH).1,rfl,(uh HH).2⟩,kA,dl⟩
       case measure=>simp[intOf];have:=uh HT;omega
   ·obtain rfl:t=4:=(by omega);have hge:¬((4:Nat):Int)<4:=(by omega);clear hlt ht;go_wp2_with fail;go_meet;exact⟨b,a,rfl,rfl,je,IF,gK,hg2⟩
 case rest =>
  clear gK hg2;obtain⟨b,a,rfl,rfl,je,IF,gK,hg2⟩:=hcut;rcases uh IF with rfl|⟨h,qx,rfl,gv⟩
  ·have aM:Hid (∀v wx,v=Md.oo s c E k->w.grownBy wx none->Md.aJ w (Md.aU s c E (k:Int)) (.returned (.int .i64 v)) wx):=fun v wx hv hg=>⟨v,uh zR v ((uh vC v).2 ⟨b,-1,uh je,.inl ⟨by omega,hv⟩⟩),rfl,hg⟩;have bd:=Dc.uU 8 (s 0) [s 1,(k:Int),90] (by omega);have cd:Hid (∀b,b=wc.heap.size->Calls prog 92 #[.int .i64 8,.int .i64 (s 0),.slice (some ⟨b,0,none⟩) 3 3] (wc.alloc (.cells #[.int .i64 (s 1),.int .i64 (k:Int),.int .i64 90] 3)) fun e w'=>e=.returned (.int .i64 (Dc.kK 8 (s 0) [s 1,(k:Int),90]))/\w'=wc.alloc (.cells #[.int .i64 (s 1),.int .i64 (k:Int),.int .i64 90] 3)):=fun b hb=>by
    subst hb;exact nZ 8 (s 0) _ 3 3 _ _ (qf.fF wc (s 1) (k:Int) 90 3) (by omega)
   obtain⟨d,hd⟩:=abV (Dc.kK 8 (s 0) [s 1,(k:Int),90]);rw[hd]at cd bd Jz;obtain⟨bd0,bd8⟩:=bd;have fM:=abE wc (.cells #[.int .i64 (s 1),.int .i64 (k:Int),.int .i64 90] 3) none;have kA:=aa ((uh gK).on fM);have dl:=aa (gtr (uh hg2) fM);have q0:=(uh gK).box.ae.1;have q1:=(uh gK).box.ae.2.1;have hzero:Hid (¬((1<=d/\d<=4)/\Gr.aS (Gr.at 384 c (x+(Fx.bh d).1) (y+(Fx.bh d).2))=true/\En.first (En.eM E (x+(Fx.bh d).1) (y+(Fx.bh d).2)) 32<0)->0=Md.oo s c E k):=fun h=>by rw[uh Jz,abO h]
   have kP:Hid (((1<=d/\d<=4)/\Gr.aS (Gr.at 384 c (x+(Fx.bh d).1) (y+(Fx.bh d).2))=true/\En.first (En.eM E (x+(Fx.bh d).1) (y+(Fx.bh d).2)) 32<0)->d=Md.oo s c E k):=fun h=>by rw[uh Jz,abP h]
   clear hd fM vC zR Jz je IF;go_upto_region 20 with fail;go_wp2_with fail;refine aaR (uh cd _ rfl) fun wy hy=>?_;rw[<-hy]at kA dl;clear hy q0 q1 cd gK hg2;by_cases h1:1<=d;rotate_left
   ·have ah:=aa (uh aM 0 wy (uh hzero (fun h=>h1 h.1.1)) (uh kA).grown);clear hzero kP aM;go_wp2;go_ret;exact uh ah
   by_cases h4:d<=4;rotate_left
   ·have ah:=aa (uh aM 0 wy (uh hzero (fun h=>h4 h.1.2)) (uh kA).grown);clear hzero kP aM;go_wp2;go_ret;exact uh ah
   obtain⟨n,rfl⟩:∃n:Nat,d=(n:Int):=⟨d.toNat,by omega⟩;obtain⟨s1,s2,s3,s4⟩:=Md.te n;have cw:=aa (fun wq=>lY (n:Int) wq);have ca:=aa (bM wy.heap.size (some ⟨gC,0,none⟩) 384 cC c (x+(Fx.bh (n:Int)).1) (y+(Fx.bh (n:Int)).2) wy (uh kA).ab.lg (uh fD));have ce:=aa (eA gE 32 cE E (x+(Fx.bh (n:Int)).1) (y+(Fx.bh (n:Int)).2) wy (uh kA).ab.own.ai);obtain⟨dx,zE⟩:∃z,(Fx.bh (n:Int)).1=z:=⟨_,rfl⟩;obtain⟨dy,zF⟩:∃z,(Fx.bh (n:Int)).2=z:=⟨_,rfl⟩;rw[zE]at s1 s2 cw ca ce hzero kP;rw[zF]at s3 s4 cw ca ce hzero kP;obtain⟨z,hz⟩:=abV (En.first (En.eM E (x+dx) (y+dy)) 32)
   obtain⟨a,ha⟩:∃z,Gr.at 384 c (x+dx) (y+dy)=z:=⟨_,rfl⟩;have ck:=aa (cT a wy);obtain⟨q,hq⟩:∃z,Gr.aS a=z:=⟨_,rfl⟩;rw[hz]at ce hzero kP;rw[ha]at ca hzero kP;rw[hq]at ck hzero kP;have w1:IntKind.i64.wrap (x+dx)=x+dx:=by rw[abK];omega
   have w3:IntKind.i64.wrap (y+dy)=y+dy:=by rw[abK];omega
   have q4:=(uh kA).box.ae.2.2.2.2.1;have q5:=(uh kA).box.ae.2.2.2.2.2.1;have z3:=(uh rq wy (uh dl)).1;have z4:=(uh rq wy (uh dl)).2;clear zE zF hz ha hq;go_wp2_with fail;refine abW (uh cw _) ?_;go_wp2_with fail;refine abW (uh ca) ?_;go_wp2_with fail;refine abW (uh ck) ?_;clear cw ca ck;cases q
   ·have ah:=aa (uh aM 0 wy (uh hzero (fun h=>by simpa using h.2.1)) (uh kA).grown);clear hzero kP aM ce;go_wp2;go_ret;exact uh ah
   ·go_wp2_with fail;refine abW (uh ce) ?_;clear ce;by_cases hzn:z<0
    ·have ah:=aa (uh aM (n:Int) wy (uh kP ⟨⟨h1,h4⟩,by first| rfl|trivial,hzn⟩) (uh kA).grown);clear hzero kP aM;go_wp2;go_ret;exact uh ah
    ·have ah:=aa (uh aM 0 wy (uh hzero (fun h=>hzn h.2.2)) (uh kA).grown);clear hzero kP aM;go_wp2;go_ret;exact uh ah
  ·have aM:Hid (∀v wx,(if 0<Nv.ez (E h 3-x) (E h 4-y)then v=Nv.ez (E h 3-x) (E h 4-y)else Nv.aW c (fun _=>E h 4*24+E h 3) 1 E 32 x y v)->w.grownBy wx none->Md.aJ w (Md.aU s c E (k:Int)) (.returned (.int .i64 v)) wx):=fun v wx hv hg=>⟨v,uh zR v ((uh vC v).2 ⟨b,(h:Int),uh je,.inr ⟨h,rfl,hv⟩⟩),rfl,hg⟩;obtain⟨p0,p9,r0,r9,-,-⟩:=uh iQ h qx (by omega);have HH:=aa qx;have hh3:(h:Int)<32:=by omega
   have q5:=(uh gK).box.ae.2.2.2.2.2.1;have u3:=((uh gK).ab.own.ai.row qx).2.2.2.1;have u4:=((uh gK).ab.own.ai.row qx).2.2.2.2.1;clear vC Jz zR je IF gv qx;go_upto_region 15 with fail;go_cut [13,14] from 15 (fun va vb wx=>va=.int .i64 (E h 3)/\vb=.int .i64 (E h 4)/\Hid (Gd.iz w wx B gC gE gI cC cE cI s g c E I)/\Hid (w2.grownBy wx none))
   case first =>
    go_quiet (fail);go_wp2_with fail;go_meet;exact⟨rfl,rfl,(uh gK).on (gdw (abF _ none) _),gdw (uh hg2) _⟩
   case rest =>
    clear q5 u3 u4 gK hg2;obtain⟨rfl,rfl,kA,dl⟩:=hcut;obtain⟨X,hX⟩:∃z,E h 3=z:=⟨_,rfl⟩;obtain⟨Y,hY⟩:∃z,E h 4=z:=⟨_,rfl⟩;rw[hX]at aM p0 p9;rw[hY]at aM r0 r9;rw[hX,hY];have q4:=(uh kA).box.ae.2.2.2.2.1;have q5:=(uh kA).box.ae.2.2.2.2.2.1;have z3:=(uh rq wc (uh dl)).1;have z4:=(uh rq wc (uh dl)).2;have cb:=xv x y X Y wc (by omega) (by omega) (by omega) (by omega);rw[py (X-x) (by omega),py (Y-y) (by omega)]at cb;have IZ:=aa cb;obtain⟨d,hd⟩:=abV (Nv.ez (X-x) (Y-y));rw[hd]at IZ aM;clear hX hY cb hd;go_wp2_with fail;refine abW (uh IZ) ?_;clear IZ;by_cases hd:0<d
    ·have ah:=aa (uh aM d wc (by rw[abP hd]) (uh kA).grown);clear aM;go_wp2;go_ret;exact uh ah
    ·have fM:=aa (abE wc (.cells #[.int .i64 (Y*24+X)] 3) none);have ct:Hid (∀b,b=wc.heap.size->Calls prog 85 #[.slice (some ⟨gC,0,none⟩) 384 cC,.slice (some ⟨gE,0,none⟩) 32 cE,.int .i64 x,.int .i64 y,.slice (some ⟨b,0,none⟩) 1 1] (wc.alloc (.cells #[.int .i64 (Y*24+X)] 3)) (Nv.jV (wc.alloc (.cells #[.int .i64 (Y*24+X)] 3)) c (fun _=>Y*24+X) 1 E 32 x y)):=fun b hb=>by
      subst hb;have hL:=(uh kA).ab.on (uh fM);exact qa (some ⟨gC,0,none⟩) (some ⟨wc.heap.size,0,none⟩) cC gE 32 cE 1 1 c (fun _=>Y*24+X) E x y _ hL.lg (uh fD) hL.own.ai (uh kc) (Nv.mB wc (Y*24+X) 3) (fun _=>by omega)
     have yd:Hid (∀v wx,Nv.aW c (fun _=>Y*24+X) 1 E 32 x y v->w.grownBy wx none->Md.aJ w (Md.aU s c E (k:Int)) (.returned (.int .i64 v)) wx):=fun v wx hv hg=>uh aM v wx (by rw[abO hd];exact hv) hg;obtain⟨M,hM⟩:=abV (Y*24+X);have w1:IntKind.i64.wrap (Y*24)=Y*24:=by rw[abK];omega
     have w3:IntKind.i64.wrap (Y*24+X)=Y*24+X:=by rw[abK];omega
     rw[hM]at fM ct yd;have w4:IntKind.i64.wrap M=M:=by rw[<-hM];exact w3
     clear aM w3;go_wp2_with fail;refine(uh ct _ rfl).mono ?_;rintro e w4 ⟨v,hv,rfl,hg⟩;have ah:=aa (uh yd v w4 hv (gtr (uh kA).grown (gtr (uh fM) hg)));clear hv hg yd ct;go_wp2;go_ret;exact uh ah
