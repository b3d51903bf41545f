import Derived.Test.YtbanjoflgoiegaaGreatPart30
import Derived.Test.YtbanjoflgoiegaaGreatPart32
set_option maxHeartbeats 6400000
set_option maxRecDepth 8000
namespace Go.Proofs.YtbanjoflgoiegaaGreat
open Go.Proofs.Tryz
open Go.RowKit
def Cr.yR(w:World)(gE:Nat)(E:N2)(e:Ending)(w':World):Prop :=
 ∃j aG,e=.returned (.slice (some ⟨j,0,none⟩) 32 aG)/\32<=aG/\(j=gE\/w.heap.size<=j)/\fg w' j 32 E/\w.grownBy w' none
theorem fg.X0{x y:World}{g:Nat}{E:N2}(h:fg x g 32 E)(hg:x.grownBy y none):fg y g 32 E:=by
 obtain⟨hn,m,F,hA,hm,hF⟩:=h;exact⟨hn,m,F,hA.grown hg (by simp),hm,hF⟩
theorem lX(gE cE:Nat)(E:N2)(e:N1)(w:World)(hE:fg w gE 32 E)(jx:32<=cE)(hG:En.sn 32 E)(hk:1<=e 0/\e 0<=4):Calls prog 37 #[.slice (some ⟨gE,0,none⟩) 32 cE,.agg (En.cells e)] w (Cr.yR w gE (Cr.dX E e)):=by
 obtain⟨w0,aD⟩:∃w0,w0=w.alloc (.cells (En.cells e) 54):=⟨_,rfl⟩;have aN:Hid (w.grownBy w0 none):=by rw[aD];exact abE _ _ _
 have hQ:Hid (ay w0 w.heap.size 54 11 (bB e)):=by rw[aD];exact ay.ei _ _ _
 have zq:=aa (hE.X0 (uh aN));have kc:=aa jx;have key:Hid ((En.first (En.gS E) 32=-1/\Cr.dX E e=E/\Calls prog 47 #[.slice (some ⟨gE,0,none⟩) 32 cE,.agg (En.cells e)] w0 (aJ w0 (.tuple #[.slice none 0 0,.int .i64 0,.int .i64 5])))\/∃f:Nat,Calls prog 47 #[.slice (some ⟨gE,0,none⟩) 32 cE,.agg (En.cells e)] w0 (yW w0 32 (Cr.dX E e) f)):=by
  rcases En.aw (En.gS E) 32 with⟨he,hno⟩|⟨f,hf,he,hq,hno⟩
  ·refine .inl ⟨he,?_,xw gE 32 cE E e w0 (uh zq).ai hk hno⟩;unfold Cr.dX;rw[he,abO (by omega)]
  ·refine .inr ⟨f,?_⟩;have hj:Cr.dX E e=En.put E f (En.nN e ((E f 1+1)%256)):=by
    unfold Cr.dX;rw[he,abP (by omega),abG]
   rw[hj];exact xy gE 32 cE f E e w0 (uh zq).ai hk hf (by simpa [En.gS] using hq) hno hG
 clear hE jx hG hk;unfold En.cells at aD key|-;go_enter func37,ntmps37;go_upto_region 1 with fail;rw[<-aD];clear aD;obtain⟨B,hB⟩:=abV w.heap.size;rw[hB]at hQ|-;have eu:=aa hB;clear hB;obtain⟨z0,z1,z2,z3,z4,z5,z6,z7,z8,z9,bO⟩:=(uh hQ).kt;rcases uh key with⟨hn,hj,cs⟩|⟨f,cs⟩
 ·have sB:=aa cs;have zK:=aa hj;clear cs key hj hn;go_wp2_with fail;refine aaR (uh sB) fun w1 hg=>?_;have ah:Hid (Cr.yR w gE (Cr.dX E e) (.returned (.slice (some ⟨gE,0,none⟩) 32 cE)) w1):=⟨gE,cE,rfl,uh kc,.inl rfl,by rw[uh zK];exact(uh zq).X0 hg,gtr (uh aN) hg⟩;clear hg sB z0 z1 z2 z3 z4 z5 z6 z7 z8 z9 bO;go_wp2;go_ret;exact uh ah
 ·have sB:=aa cs;clear cs key;go_wp2_with fail;refine(uh sB).mono ?_;rintro x w1 ⟨j,aG,rfl,iC,jP,tu,aH,hg⟩;have ah:Hid (Cr.yR w gE (Cr.dX E e) (.returned (.slice (some ⟨j,0,none⟩) 32 aG)) w1):=⟨j,aG,rfl,jP,.inr (abM (uh aN).size iC),aH,gtr (uh aN) hg⟩;clear hg sB iC jP tu aH z0 z1 z2 z3 z4 z5 z6 z7 z8 z9 bO;go_wp2;go_ret;exact uh ah
theorem pc(s g c:N1)(E I:N2)(gC gE gI cC cE cI:Nat)(w:World)(hL:Gd.av w gC gE gI c E I):Calls prog 34 #[.agg (Gd.world s gC gE gI cC cE cI g)] w (aJ w (.bool (Cr.bn E))):=by
 obtain⟨w0,aD⟩:∃w0,w0=w.alloc (.cells (Gd.world s gC gE gI cC cE cI g) 30):=⟨_,rfl⟩;have aN:w.grownBy w0 none:=by rw[aD];exact abE _ _ _
 have hO:Hid (Gd.iz w w0 w.heap.size gC gE gI cC cE cI s g c E I):=by
  refine⟨?_,hL.on aN,aN⟩;rw[aD];exact(ax.world (abH w _)).lie
 have gw:Hid (∀t:Nat,t<4->0<=Gd.aV E (t:Int)->Cr.bn E=true):=fun t ht h=>abJ ⟨t,ht,h⟩;have hno:Hid ((∀t:Nat,t<4->Gd.aV E (t:Int)<0)->Cr.bn E=false):=fun h=>abI (fun ⟨t,ht,h0⟩=>by have:=h t ht;omega);obtain⟨b,hb⟩:=abV (Cr.bn E);rw[hb]at gw hno|-;clear hL aN hb;unfold Gd.world at aD|-;go_enter func34,ntmps34;go_upto_region 1 with fail;rw[<-aD];clear aD;obtain⟨B,hB⟩:=abV w.heap.size;rw[hB]at hO|-;clear hB;go_wp2_with fail;go_loopw [3] (fun v3 wr=>∃t:Nat,t<=4/\v3=.int .i64 (t:Int)/\Hid (∀j:Nat,j<t->Gd.aV E (j:Int)<0)/\Hid (Gd.iz w wr B gC gE gI cC cE cI s g c E I)) (fun v3 _=>10-(intOf v3).toNat)
 case atStart=>exact⟨0,by omega,rfl,fun j h=>by omega,hO⟩
 case round =>
  clear hO;obtain⟨t,ht,rfl,hn,hO⟩:=hrel;by_cases hlt:t<4
  ·have hlt':(t:Int)<4:=by omega
   have HL:=aa hlt;have q5:=(uh hO).box.ae.2.2.2.2.2.1;have ch:=aa (dn gE cE E (t:Int) wr (uh hO).ab.own);have hy:=aa (uh gw t hlt);obtain⟨h,hh⟩:=abV (Gd.aV E (t:Int));rw[hh]at ch hy;have ov:=aa hh;clear hh hlt ht;go_wp2_with fail;refine aaR (uh ch) fun w1 hg=>?_;have oe:=aa ((uh hO).on hg);clear hg ch q5 hO;by_cases h0:h<0
   ·have Gz:¬h≥0:=(by omega);have P4:Hid (∀j:Nat,j<t+1->Gd.aV E (j:Int)<0):=fun j hj=>by
     by_cases e:j=t
     ·rw[e,uh ov];exact h0
     ·exact uh hn j (by omega)
    clear hy h0;go_wp2;go_roundw
    case rel=>exact⟨t+1,by have:=uh HL;omega,by go_num,P4,oe⟩
    case measure=>simp[intOf];have:=uh HL;omega
   ·have Gz:h≥0:=(by omega);obtain rfl:=uh hy (by omega);clear hy h0;go_wp2;go_ret;exact⟨rfl,(uh oe).grown⟩
  ·obtain rfl:t=4:=by omega
   have hge:¬((4:Nat):Int)<4:=by omega
   obtain rfl:=uh hno (uh hn);clear hlt ht;go_wp2;go_ret;exact⟨rfl,(uh hO).grown⟩
def Cr.mT(w:World)(c:N1)(E:N2)(e:N1)(x:Ending)(w':World):Prop :=
 (∃v,Nv.dR c E 32 (Gr.an 384 c 3%24) (Gr.an 384 c 3/24) v/\((v<0/\x=.returned (.tuple #[.agg (En.cells e),.bool false]))\/∃q:Nat,v=(q:Int)/\x=.returned (.tuple #[.agg (En.cells (En.dj (En.dj e 3 ((q:Int)%24)) 4 ((q:Int)/24))),.bool true])))/\w.grownBy w' none
theorem pY(s g c:N1)(E I:N2)(e:N1)(gC gE gI cC cE cI:Nat)(w:World)(hL:Gd.av w gC gE gI c E I)(hF:Nv.iy c):Calls prog 36 #[.agg (Gd.world s gC gE gI cC cE cI g),.agg (En.cells e)] w (Cr.mT w c E e):=by
 obtain⟨wz,gW⟩:∃wz,wz=w.alloc (.cells (Gd.world s gC gE gI cC cE cI g) 30):=⟨_,rfl⟩;obtain⟨wy,qL⟩:∃wy,wy=wz.alloc (.cells (En.cells e) 54):=⟨_,rfl⟩;obtain⟨w0,aD⟩:∃w0,w0=wy.alloc (.cells #[.int .i64 0,.int .i64 0,.int .i64 0,.int .i64 0,.int .i64 0,.int .i64 0,.int .i64 0,.int .i64 0,.int .i64 0,.int .i64 0,.int .i64 0] 54):=⟨_,rfl⟩;have fM:w.grownBy wz none:=by rw[gW];exact abE _ _ _
 have qK:wz.grownBy wy none:=by rw[qL];exact abE _ _ _
 have aN:wy.grownBy w0 none:=by rw[aD];exact abE _ _ _
 have hO:Hid (Gd.iz w w0 w.heap.size gC gE gI cC cE cI s g c E I):=by
  refine⟨?_,hL.on (gtr fM (gtr qK aN)),gtr fM (gtr qK aN)⟩;refine ay.on ?_ (gtr qK aN);rw[gW];exact(ax.world (abH w _)).lie
 have hQ:Hid (ay w0 wz.heap.size 54 11 (bB e)):=by
  refine ay.on ?_ aN;rw[qL];exact ay.ei _ _ _
 have hR:Hid (ay w0 wy.heap.size 54 11 (bB (fun _=>0))):=by
  rw[aD];exact ay.ei wy (fun _=>0) _
 have sz:wz.heap.size=w.heap.size+1:=by rw[gW];simp
 have sy:wy.heap.size=w.heap.size+1+1:=by rw[qL,gW];simp
 rw[sz]at hQ;rw[sy]at hR;obtain⟨u,hu,sL,-,-⟩:=Cr.l5 hF;have tX:Hid (∀i,0<=c i/\c i<=255):=fun i=>⟨(hF.ku i).1,by have:=(hF.ku i).2;omega⟩;have Qc:=aa hu;have fq:Hid (∀(v:Int)(x:Ending)(w':World),Nv.dR c E 32 ((u:Int)%24) ((u:Int)/24) v->((v<0/\x=.returned (.tuple #[.agg (En.cells e),.bool false]))\/∃q:Nat,v=(q:Int)/\x=.returned (.tuple #[.agg (En.cells (En.dj (En.dj e 3 ((q:Int)%24)) 4 ((q:Int)/24))),.bool true]))->w.grownBy w' none->Cr.mT w c E e x w'):=fun v x w' h1 h2 h3=>⟨⟨v,by rw[sL];exact h1,h2⟩,h3⟩;have cf:=aa (fun z (hz:Gd.av z gC gE gI c E I)=>mD z.heap.size (some ⟨gC,0,none⟩) 384 cC c 3 z hz.lg (uh tX));rw[sL]at cf;have cs:=aa (fun z (hz:Gd.av z gC gE gI c E I)=>Ij (some ⟨gC,0,none⟩) cC gE 32 cE c E ((u:Int)%24) ((u:Int)/24) z hz.lg (uh tX) hz.own.ai);have t1:IntKind.i64.wrap ((u:Int)/24)=(u:Int)/24:=by rw[abK];omega
 clear hL hF fM qK aN sL sz sy;unfold Gd.world at gW|-;unfold En.cells at qL fq|-;rw[gW]at qL;rw[qL]at aD;clear gW qL;go_enter func36,ntmps36;go_upto_region 1 with fail;rw[<-aD];clear aD;obtain⟨B,hB⟩:=abV w.heap.size;rw[hB]at hO hQ hR|-;have eu:=aa hB;clear hB;have b4:=(uh hO).box.ae.2.2.2.2.1;have Kr:=aa (uh cf w0 (uh hO).ab);go_wp2_with fail;refine abW (uh Kr) ?_;have b5:=(uh hO).box.ae.2.2.2.2.2.1;have YU:¬(u:Int)<0:=by omega
 have sB:=aa (uh cs w0 (uh hO).ab);clear cf Kr cs;go_wp2_with fail;refine(uh sB).mono ?_;rintro x w1 ⟨v,hv,rfl,hg⟩;have pK:=aa hv;have oe:=aa ((uh hO).on hg);have FU:=aa ((uh hQ).on hg);have MU:=aa ((uh hR).on hg);clear hv hg b4 b5 sB hO hQ hR;obtain⟨e0,e1,e2,e3,e4,e5,e6,e7,e8,e9,TH⟩:=(uh FU).kt;obtain⟨z0,z1,z2,z3,z4,z5,z6,z7,z8,z9,bO⟩:=(uh MU).kt;have fQ:=(uh FU).free;have fR:=(uh MU).free;by_cases dH:v<0
 ·have ah:Hid (∀vs,Cr.mT w c E e (.returned (.tuple #[.agg #[.int .i64 (e 0),.int .i64 (e 1),.int .i64 (e 2),.int .i64 (e 3),.int .i64 (e 4),.int .i64 (e 5),.int .i64 (e 6),.int .i64 (e 7),.int .i64 (e 8),.int .i64 (e 9),.int .i64 (e 10)],.bool false])) (w1.setCells (B+1+1) 0 vs)):=fun vs=>uh fq v _ _ (uh pK) (.inl ⟨dH,rfl⟩) (aA (by rw[uh eu];omega) _ 0 w1 (uh oe).grown);clear fq;go_wp2;refine abN (v:=.tuple #[.agg #[.int .i64 (e 0),.int .i64 (e 1),.int .i64 (e 2),.int .i64 (e 3),.int .i64 (e 4),.int .i64 (e 5),.int .i64 (e 6),.int .i64 (e 7),.int .i64 (e 8),.int .i64 (e 9),.int .i64 (e 10)],.bool false]) (by simp[results,results36,go_sem,z0,z1,z2,z3,z4,z5,z6,z7,z8,z9,bO]) rfl ?_;exact uh ah [_,_,_,_,_,_,_,_,_,_,_]
 ·obtain⟨q,rfl⟩:∃q:Nat,v=(q:Int):=⟨v.toNat,by omega⟩;have Xs:=(Cr.nw (uh pK)).1;have t2:IntKind.i64.wrap ((q:Int)/24)=(q:Int)/24:=by rw[abK];omega
  have iu:Hid (En.cells (En.dj (En.dj e 3 ((q:Int)%24)) 4 ((q:Int)/24))=#[.int .i64 (e 0),.int .i64 (e 1),.int .i64 (e 2),.int .i64 ((q:Int)%24),.int .i64 ((q:Int)/24),.int .i64 (e 5),.int .i64 (e 6),.int .i64 (e 7),.int .i64 (e 8),.int .i64 (e 9),.int .i64 (e 10)]):=rfl;have nQR:B+1≠B+1+1:=by omega
  have nRQ:B+1+1≠B+1:=by omega
  have kJ:Hid (∀a b vs,w.grownBy (((w1.setCell ⟨B+1,3,none⟩ a).setCell ⟨B+1,4,none⟩ b).setCells (B+1+1) 0 vs) none):=fun a b vs=>aA (by rw[uh eu];omega) _ 0 _ (gsr (gsr (uh oe).grown ⟨B+1,3,none⟩ (by rw[uh eu];show B<=B+1;omega) a) ⟨B+1,4,none⟩ (by rw[uh eu];show B<=B+1;omega) b);have ah:Hid (∀w',w.grownBy w' none->Cr.mT w c E e (.returned (.tuple #[.agg #[.int .i64 (e 0),.int .i64 (e 1),.int .i64 (e 2),.int .i64 ((q:Int)%24),.int .i64 ((q:Int)/24),.int .i64 (e 5),.int .i64 (e 6),.int .i64 (e 7),.int .i64 (e 8),.int .i64 (e 9),.int .i64 (e 10)],.bool true])) w'):=fun w' hg=>uh fq (q:Int) _ _ (uh pK) (.inr ⟨q,rfl,by first| rfl|rw[uh iu]⟩) hg;have hqn:¬(q:Int)<0:=by omega
  clear fq dH Xs iu;go_wp2;refine abN (v:=.tuple #[.agg #[.int .i64 (e 0),.int .i64 (e 1),.int .i64 (e 2),.int .i64 ((q:Int)%24),.int .i64 ((q:Int)/24),.int .i64 (e 5),.int .i64 (e 6),.int .i64 (e 7),.int .i64 (e 8),.int .i64 (e 9),.int .i64 (e 10)],.bool true]) (by simp[results,results36,go_sem,z0,z1,z2,z3,z4,z5,z6,z7,z8,z9,bO]) rfl ?_;exact uh ah _ (uh kJ _ _ [_,_,_,_,_,_,_,_,_,_,_])
theorem Cr.Hs(w:World)(o:N1)(ho:1<=o 0/\o 0<=4):Cr.F3 (w.alloc (.cells (En.cells o) 54)) (some ⟨w.heap.size,0,none⟩) 1 [o]:=by
 refine⟨rfl,by omega,fun i e he=>?_⟩;have hi:i=0:=by
  have:=(List.getElem?_eq_some_iff.1 he).1;simp at this;omega
 subst hi;obtain rfl:o=e:=by simpa using he
 have hl:=ay.ei w o 54;exact⟨ho,w.heap.size,rfl,hl.lt,fun j hj=>by rw[Nat.zero_mul,Nat.zero_add];exact hl.cell hj⟩
theorem Cr.OI{E:N2}{o:N1}(h:En.first (En.eM E (o 3) (o 4)) 32<0):Cr.db E [o]=Cr.dX E o:=abP h
def Cr.yO(v:World)(P:Nat)(how inp:N1)(sp:Nat->Bool)(bK left:Bool)(s g c:N1)(E I:N2)(t:Nat)(e:Ending)(x:World):Prop :=
 ∃F,Cr.gD c (t:Int) true E F/\Cr.tR v P how inp sp bK left s g c F I e x
theorem IW(v x:World)(P gC gE gI cC cE cI:Nat)(how inp:N1)(sp:Nat->Bool)(bK left:Bool)(s g c:N1)(E I:N2)(t:Nat)(h:Cr.ik v x P gC gE gI cC cE cI how inp sp bK left s g c E I)(hS:Cr.bs c E I)(hF:Nv.iy c)(hno:Gd.aV E (t:Int)<0):Calls prog 69 #[.pointer (some ⟨P,0,none⟩),.int .i64 (t:Int)] x (Cr.yO v P how inp sp bK left s g c E I t):=by
 have hh:=aa h;have yb:=aa hS.kz.rl;have hkeep:Hid (∀z,x.grownBy z none->z.cell? ⟨P,4,none⟩=some (.slice (some ⟨gC,0,none⟩) 384 cC)/\z.cell? ⟨P,5,none⟩=some (.slice (some ⟨gE,0,none⟩) 32 cE)):=fun z hz=>⟨((uh hh).on hz).ae.2.2.2.2.1,((uh hh).on hz).ae.2.2.2.2.2.1⟩;have LO:Hid (∀z,x.grownBy z none->Calls prog 104 #[.slice (some ⟨gC,0,none⟩) 384 cC,.slice (some ⟨gE,0,none⟩) 32 cE] z fun e y=>∃q,e=.returned (.int .i64 q)/\Hid (Nv.dR c E 32 (Gr.an 384 c 3%24) (Gr.an 384 c 3/24) q)/\Hid (x.grownBy y none)):=fun z hz=>(qR (some ⟨gC,0,none⟩) (some ⟨gE,0,none⟩) cC 32 cE c E z ((uh hh).on hz).ab.lg hF h.aG.2 ⟨by omega,h.aG.1,.inr ⟨gE,rfl,((uh hh).on hz).ab.own.ai⟩⟩ hS.kz.l8).mono fun e y ⟨q,h1,h2,h3⟩=>⟨q,h2,h1,gtr hz h3⟩;have fq:Hid (∀q F e w',Nv.dR c E 32 (Gr.an 384 c 3%24) (Gr.an 384 c 3/24) q->((q<0/\F=E)\/∃p:Nat,q=(p:Int)/\F=Cr.dX E (Cr.bo 1 (t:Int) p))->Cr.tR v P how inp sp bK left s g c F I e w'->Cr.yO v P how inp sp bK left s g c E I t e w'):=fun q F e w' h1 h2 h3=>⟨F,(show Cr.gD c (t:Int) true E F by unfold Cr.gD;rw[abP ⟨rfl,hno⟩];exact⟨q,h1,h2⟩),h3⟩;clear h hS hF hno;go_enter func69,ntmps69;go_upto_region 0 with fail;go_cut [4] from 6 (fun v4 wx=>∃q,v4=.int .i64 q/\Hid (Nv.dR c E 32 (Gr.an 384 c 3%24) (Gr.an 384 c 3/24) q)/\Hid (x.grownBy wx none))
 case first =>
  have xm:=aa (gd1 (abF x none));have hS0:=uh hkeep _ (uh xm)
  go_region_held3 (fun z=>z.cell? ⟨P,4,none⟩=some (.slice (some ⟨gC,0,none⟩) 384 cC)/\z.cell? ⟨P,5,none⟩=some (.slice (some ⟨gE,0,none⟩) 32 cE)) (with_reducible (first| exact uh hkeep _ (uh xm)|exact uh hkeep _ (uh hg1))) (first
   | (go_at_call 104;with_reducible refine(uh LO _ (uh xm)).mono ?_;rintro e0 w1 ⟨q,rfl,hq,hg1⟩))
  all_goals (go_wp2_with fail;go_meet)
  exact⟨q,rfl,hq,hg1⟩
 case rest =>
  clear hkeep LO;obtain⟨q,rfl,hq,hg⟩:=hcut;have ka:=aa ((uh hh).on (uh hg));clear hh hg;by_cases dH:q<0
  ·have ah:Hid (Cr.yO v P how inp sp bK left s g c E I t (.returned (.tuple #[])) wc):=uh fq q E _ _ (uh hq) (.inl ⟨dH,rfl⟩) ⟨rfl,gC,gE,gI,cC,cE,cI,uh ka⟩;clear fq;go_wp2
   go_end0
   exact uh ah
  ·obtain⟨p,rfl⟩:∃p:Nat,q=(p:Int):=⟨q.toNat,by omega⟩;have ol:=aa (Cr.nw (uh hq));have hp:=aa (uh ol).1;have SH:Hid (∀e w',Cr.tR v P how inp sp bK left s g c (Cr.dX E (Cr.bo 1 (t:Int) p)) I e w'->Cr.yO v P how inp sp bK left s g c E I t e w'):=fun e w' h=>uh fq (p:Int) _ e w' (uh hq) (.inr ⟨p,rfl,rfl⟩) h;have nj:Hid (Cr.bo 1 (t:Int) p=En.dj (En.dj (En.dj (En.stats 1) 2 (t:Int)) 3 ((p:Int)%24)) 4 ((p:Int)/24)):=rfl;have VL:Hid (1<=Cr.bo 1 (t:Int) p 0/\Cr.bo 1 (t:Int) p 0<=4):=(show 1<=Cr.bo 1 (t:Int) p 0/\Cr.bo 1 (t:Int) p 0<=4 by rw[(Cr.eS 1 (t:Int) p).1 (by omega) (by omega)];omega);have hjo:Hid (Cr.db E [Cr.bo 1 (t:Int) p]=Cr.dX E (Cr.bo 1 (t:Int) p)):=Cr.OI (by rw[(Cr.eS 1 (t:Int) p).2.2.1,(Cr.eS 1 (t:Int) p).2.2.2.1];exact(uh ol).2.2);obtain⟨o,ho⟩:=abV (Cr.bo 1 (t:Int) p);rw[ho]at SH nj VL hjo;have zg:=aa (kL 1 wc);obtain⟨st,aK⟩:=abV (En.stats 1);rw[aK]at zg nj;have KY:¬(p:Int)<0:=by omega
   clear fq hq ol dH ho aK;unfold En.cells at zg;go_wp2_with fail;refine aaR (uh zg) fun w1 hg1=>?_;have eN:=aa ((uh ka).on hg1);obtain⟨w2,ig⟩:∃w2,w2=w1.alloc (.cells (En.cells st) 54):=⟨_,rfl⟩;have hg2:w1.grownBy w2 none:=by rw[ig];exact abE _ _ _
   have hQ:Hid (ay w2 w1.heap.size 54 11 (bB st)):=by rw[ig];exact ay.ei _ _ _
   have kn:=aa ((uh eN).on hg2);have lQ:Hid (v.heap.size<=w1.heap.size):=(uh eN).grown.size;have nQE:Hid (w1.heap.size≠gC/\w1.heap.size≠gE/\w1.heap.size≠gI):=⟨by have:=(uh eN).ab.cells.lt;omega,by have:=(uh eN).ab.ai.lt;omega,by have:=(uh eN).ab.aj.lt;omega⟩;clear hg1 hg2 zg ka eN;unfold En.cells at ig;go_upto_region 3 with fail;rw[<-ig];clear ig;obtain⟨Q,hQe⟩:=abV w1.heap.size;rw[hQe]at hQ lQ nQE|-;clear hQe;have fQ:=(uh hQ).free;have q2:=(uh hQ).kt.2.2.1;have rq:Hid (ay (w2.setCell ⟨Q,2,none⟩ (.int .i64 (t:Int))) Q 54 11 (bB (En.dj st 2 (t:Int)))):=((uh hQ).store 2 (.int .i64 (t:Int))).congr fun j _=>by
    show(if j=2 then Value.int .i64 (t:Int)else .int .i64 (st j))=.int .i64 (if j=2 then(t:Int)else st j);split <;> rfl
   have KI:Hid (Cr.ik v (w2.setCell ⟨Q,2,none⟩ (.int .i64 (t:Int))) P gC gE gI cC cE cI how inp sp bK left s g c E I):=(uh kn).uL (uh lQ) (uh hQ) (by decide) (uh nQE) 2 _;clear kn hQ;go_upto_region 4 with fail;generalize w2.setCell ⟨Q,2,none⟩ (.int .i64 (t:Int))=w3 at rq KI|-;clear fQ q2;have kn:=KI;clear KI;obtain⟨e,he⟩:=abV (En.dj st 2 (t:Int));rw[he]at rq nj;clear he;have hkeep:Hid (∀x,w3.grownBy x none->x.cell? ⟨P,5,none⟩=some (.slice (some ⟨gE,0,none⟩) 32 cE)/\x.cell? ⟨Q,0,none⟩=some (.int .i64 (e 0))/\x.cell? ⟨Q,1,none⟩=some (.int .i64 (e 1))/\x.cell? ⟨Q,2,none⟩=some (.int .i64 (e 2))/\x.cell? ⟨Q,3,none⟩=some (.int .i64 (e 3))/\x.cell? ⟨Q,4,none⟩=some (.int .i64 (e 4))/\x.cell? ⟨Q,5,none⟩=some (.int .i64 (e 5))/\x.cell? ⟨Q,6,none⟩=some (.int .i64 (e 6))/\x.cell? ⟨Q,7,none⟩=some (.int .i64 (e 7))/\x.cell? ⟨Q,8,none⟩=some (.int .i64 (e 8))/\x.cell? ⟨Q,9,none⟩=some (.int .i64 (e 9))/\x.cell? ⟨Q,10,none⟩=some (.int .i64 (e 10))):=fun x hx=>⟨((uh kn).on hx).ae.2.2.2.2.2.1,((uh rq).on hx).kt⟩;have cp:Hid (∀z,w3.grownBy z none->Calls prog 79 #[.agg #[.int .i64 (e 0),.int .i64 (e 1),.int .i64 (e 2),.int .i64 (e 3),.int .i64 (e 4),.int .i64 (e 5),.int .i64 (e 6),.int .i64 (e 7),.int .i64 (e 8),.int .i64 (e 9),.int .i64 (e 10)],.int .i64 (p:Int)] z (aJ z (.agg #[.int .i64 (o 0),.int .i64 (o 1),.int .i64 (o 2),.int .i64 (o 3),.int .i64 (o 4),.int .i64 (o 5),.int .i64 (o 6),.int .i64 (o 7),.int .i64 (o 8),.int .i64 (o 9),.int .i64 (o 10)]))):=fun z _=>(show Calls prog 79 #[.agg (En.cells e),.int .i64 (p:Int)] z (aJ z (.agg (En.cells o))) by rw[uh nj];exact oM e p (uh hp) z);have cj:Hid (∀z,w3.grownBy z none->∀a:Option Addr,Cr.F3 z a 1 [o]->Calls prog 54 #[.slice (some ⟨gE,0,none⟩) 32 cE,.slice a 1 1] z (Cr.pM z gE (Cr.dX E o))):=fun z hz a hM=>(show Calls prog 54 #[.slice (some ⟨gE,0,none⟩) 32 cE,.slice a 1 1] z (Cr.pM z gE (Cr.dX E o)) by rw[<-uh hjo];exact oL gE cE 1 1 a E [o] z ((uh kn).on hz).ab.own (uh kn).aG.1 (uh yb) hM);have VE:=aa (gd1 (abF w3 none));clear nj hjo yb hp;refine bH (h:=14) (S:=fun x=>x.cell? ⟨P,5,none⟩=some (.slice (some ⟨gE,0,none⟩) 32 cE)/\x.cell? ⟨Q,0,none⟩=some (.int .i64 (e 0))/\x.cell? ⟨Q,1,none⟩=some (.int .i64 (e 1))/\x.cell? ⟨Q,2,none⟩=some (.int .i64 (e 2))/\x.cell? ⟨Q,3,none⟩=some (.int .i64 (e 3))/\x.cell? ⟨Q,4,none⟩=some (.int .i64 (e 4))/\x.cell? ⟨Q,5,none⟩=some (.int .i64 (e 5))/\x.cell? ⟨Q,6,none⟩=some (.int .i64 (e 6))/\x.cell? ⟨Q,7,none⟩=some (.int .i64 (e 7))/\x.cell? ⟨Q,8,none⟩=some (.int .i64 (e 8))/\x.cell? ⟨Q,9,none⟩=some (.int .i64 (e 9))/\x.cell? ⟨Q,10,none⟩=some (.int .i64 (e 10))) (by kernel_rfl) ?_;have hS0:=uh hkeep _ (uh VE);refine wtk (i:=0) (v:=?_) [14] rfl (by kernel_rfl) (by kernel_rfl) (by kernel_rfl) (by kernel_rfl) (fun _ _ _ h=>h) hS0 (Or.inl ⟨by rfl,?_⟩) ?_;rotate_left
   ·intro x hSx
    try dsimp only at hSx
    go_simp
    try with_reducible rfl
   simp only[Act.put];refine wtk (i:=1) (v:=?_) [14] rfl (by kernel_rfl) (by kernel_rfl) (by kernel_rfl) (by kernel_rfl) (fun _ _ _ h=>h) hS0 (Or.inl ⟨by rfl,?_⟩) ?_;rotate_left
   ·intro x hSx
    try dsimp only at hSx
    go_simp
    try with_reducible rfl
   simp only[Act.put];refine wtk (i:=2) (v:=?_) [14] rfl (by kernel_rfl) (by kernel_rfl) (by kernel_rfl) (by kernel_rfl) (fun _ _ _ h=>h) hS0 (Or.inl ⟨by rfl,?_⟩) ?_;rotate_left
   ·intro x hSx
    try dsimp only at hSx
    go_simp
    try with_reducible rfl
   simp only[Act.put];refine wtk (i:=3) (v:=?_) [14] rfl (by kernel_rfl) (by kernel_rfl) (by kernel_rfl) (by kernel_rfl) (fun _ _ _ h=>h) hS0 (Or.inl ⟨by rfl,?_⟩) ?_;rotate_left
   ·intro x hSx
    try dsimp only at hSx
    go_simp
    try with_reducible rfl
   simp only[Act.put];refine wtk (i:=4) (v:=?_) [14] rfl (by kernel_rfl) (by kernel_rfl) (by kernel_rfl) (by kernel_rfl) (fun _ _ _ h=>h) hS0 (Or.inl ⟨by rfl,?_⟩) ?_;rotate_left
   ·intro x hSx
    try dsimp only at hSx
    go_simp
    try with_reducible rfl
   simp only[Act.put];refine wtk (i:=5) (v:=?_) [14] rfl (by kernel_rfl) (by kernel_rfl) (by kernel_rfl) (by kernel_rfl) (fun _ _ _ h=>h) hS0 (Or.inl ⟨by rfl,?_⟩) ?_;rotate_left
   ·intro x hSx
    try dsimp only at hSx
    go_simp
    try with_reducible rfl
   simp only[Act.put];refine wtk (i:=6) (v:=?_) [14] rfl (by kernel_rfl) (by kernel_rfl) (by kernel_rfl) (by kernel_rfl) (fun _ _ _ h=>h) hS0 (Or.inl ⟨by rfl,?_⟩) ?_;rotate_left
   ·intro x hSx
    try dsimp only at hSx
    go_simp
    try with_reducible rfl
   simp only[Act.put];refine wtk (i:=7) (v:=?_) [14] rfl (by kernel_rfl) (by kernel_rfl) (by kernel_rfl) (by kernel_rfl) (fun _ _ _ h=>h) hS0 (Or.inl ⟨by rfl,?_⟩) ?_;rotate_left
   ·intro x hSx
    try dsimp only at hSx
    go_simp
    try with_reducible rfl
   simp only[Act.put];refine wto (j:=8) (by kernel_rfl) rfl (fun K hK=>?_);go_simp;refine aaR (uh cp _ (uh VE)) fun w4 hg4=>?_;have hG4:=aa (gtr (uh VE) hg4);have hS4:=uh hkeep _ (uh hG4);clear hg4
   try go_simp
   refine hK.out _ _ (fun _=>uh hkeep _ (uh hG4)) ?_;clear hK K;refine wto (j:=9) (by kernel_rfl) rfl (fun K hK=>?_);go_simp;have hG5:Hid (w3.grownBy (w4.alloc (.cells #[.int .i64 (o 0),.int .i64 (o 1),.int .i64 (o 2),.int .i64 (o 3),.int .i64 (o 4),.int .i64 (o 5),.int .i64 (o 6),.int .i64 (o 7),.int .i64 (o 8),.int .i64 (o 9),.int .i64 (o 10)] 54)) none):=gal (uh hG4) _;have hS5:=uh hkeep _ (uh hG5);have hM:=aa (Cr.Hs w4 o (uh VL));clear hS4
   try go_simp
   refine hK.out _ _ (fun _=>uh hkeep _ (uh hG5)) ?_;clear hK K;refine wto (j:=10) (by kernel_rfl) rfl (fun K hK=>?_);go_simp;refine(uh cj _ (uh hG5) _ (uh hM)).mono ?_;rintro e0 w6 ⟨j6,d6,rfl,QY,W6,oh,qJ⟩;have I8:=aa (gtr (uh hG5) qJ);have VA:=uh hkeep _ (uh I8);have aK:=aa ((uh kn).folk QY (W6.imp id (fun h=>abM (uh hG5).size h)) oh (uh I8));have f5:=((uh kn).on (uh I8)).box.free;clear QY W6 oh qJ hS5
   try go_simp
   refine hK.out _ _ (fun _=>uh hkeep _ (uh I8)) ?_;clear hK K;refine wtk (i:=11) (v:=?_) [12,13,14] rfl (by kernel_rfl) (by kernel_rfl) (by kernel_rfl) (by kernel_rfl) (fun _ _ _ h=>h) VA (Or.inl ⟨by rfl,?_⟩) ?_;rotate_left
   ·intro x hSx
    try dsimp only at hSx
    go_simp
    try with_reducible rfl
   simp only[Act.put];refine wtk (i:=12) (v:=?_) [13,14] rfl (by kernel_rfl) (by kernel_rfl) (by kernel_rfl) (by kernel_rfl) (fun _ _ _ h=>h) VA (Or.inl ⟨by rfl,?_⟩) ?_;rotate_left
   ·intro x hSx
    try dsimp only at hSx
    go_simp
    try with_reducible rfl
   simp only[Act.put];refine wtk (i:=13) (v:=?_) [14] rfl (by kernel_rfl) (by kernel_rfl) (by kernel_rfl) (by kernel_rfl) (fun _ _ _ h=>h) VA (Or.inl ⟨by rfl,?_⟩) ?_;rotate_left
   ·intro x hSx
    try dsimp only at hSx
    go_simp
    try with_reducible rfl
   simp only[Act.put];refine wto (j:=14) (by kernel_rfl) rfl (fun K hK=>?_);go_simp;refine hK.out _ _ (fun hx=>absurd (hx.symm.trans (by kernel_rfl)) abT) ?_;clear hK K;refine cy (by kernel_rfl) ?_ _;clear hkeep cp cj VA hG4 hG5 I8 hM;go_wp2
   go_end0
   exact uh SH _ _ ⟨rfl,gC,j6,gI,cC,d6,cI,uh aK⟩
theorem Cr.RR(how inp:N1)(sp:Nat->Bool){t:Nat}(ht:t<4)(w:World):(Instr.index 36 (.agg #[.int .i64 (how 0),.int .i64 (inp 0),.bool (sp 0),.int .i64 (how 1),.int .i64 (inp 1),.bool (sp 1),.int .i64 (how 2),.int .i64 (inp 2),.bool (sp 2),.int .i64 (how 3),.int .i64 (inp 3),.bool (sp 3)]) (.int .i64 (t:Int))).run prog w=.ok (.agg #[.int .i64 (how t),.int .i64 (inp t),.bool (sp t)]) w:=by
 rcases(show t=0\/t=1\/t=2\/t=3 by omega)with rfl|rfl|rfl|rfl <;> simp[Instr.index,run_underlying underlying36,asIntOf,go_sem]
def Cr.M3(v:World)(P:Nat)(how inp:N1)(sp:Nat->Bool)(left:Bool)(s g c:N1)(E I:N2)(e:Ending)(x:World):Prop :=
 ∃A,Cr.cQ c sp 4 E A/\Cr.tR v P how inp sp (Cr.bn A) left s g c A I e x
theorem Lx(v x:World)(P gC gE gI cC cE cI:Nat)(how inp:N1)(sp:Nat->Bool)(bK left:Bool)(s g c:N1)(E I:N2)(h:Cr.ik v x P gC gE gI cC cE cI how inp sp bK left s g c E I)(hS:Cr.bs c E I)(hF:Nv.iy c):Calls prog 29 #[.pointer (some ⟨P,0,none⟩)] x (Cr.M3 v P how inp sp left s g c E I):=by
 have hh:=aa h;have P9:Hid (∀t A,t<=4->Cr.cQ c sp t E A->Cr.bs c A I):=fun t A ht hA=>hS.ml ht hA;have iU:=aa hF;obtain⟨a0,a1,a2,a3,a4,a5,a6,a7,a8,a9,Sh,Y6⟩:=h.wG;clear h hS hF;go_enter func29,ntmps29;go_wp2_with fail;go_loopw [8] (fun v8 wr=>∃(t gE cE:Nat)(A:N2),t<=4/\v8=.int .i64 (t:Int)/\Hid (Cr.cQ c sp t E A)/\Hid (∃gC gI cC cI,Cr.ik v wr P gC gE gI cC cE cI how inp sp bK left s g c A I)) (fun v8 _=>10-(intOf v8).toNat)
 case atStart=>exact⟨0,gE,cE,E,by omega,rfl,rfl,⟨gC,gI,cC,cI,uh hh⟩⟩
 case round =>
  clear hh a0 a1 a2 a3 a4 a5 a6 a7 a8 a9 Sh Y6;obtain⟨t,gE,cE,A,ht,rfl,hA,hX⟩:=hrel;obtain⟨gC,gI,cC,cI,hh⟩:=uh hX;have ka:=aa hh;clear hX hh;by_cases hlt:t<4
  ·have hlt':(t:Int)<4:=by omega
   have HL:=aa hlt;have hs:=aa (uh P9 t A ht (uh hA));have hix:=Cr.RR how inp sp hlt wr;obtain⟨w0,aD⟩:∃w0,w0=wr.alloc (.cells #[.int .i64 (how t),.int .i64 (inp t),.bool (sp t)] 34):=⟨_,rfl⟩;have aN:wr.grownBy w0 none:=by rw[aD];exact abE _ _ _
   have q2:w0.cell? ⟨wr.heap.size,2,none⟩=some (.bool (sp t)):=by
    rw[aD];exact(ax.lit (abH wr _)).cell (i:=2) (by show 2<3;omega)
   have eN:=aa ((uh ka).on aN);have ch:=nh gE 32 cE A (t:Int) w0 (uh eN).ab.own.ai (uh eN).aG.1;change Calls _ _ _ _ (aJ w0 (.int .i64 (Gd.aV A (t:Int))))at ch;have jB:Hid (¬(sp t=true/\Gd.aV A (t:Int)<0)->Cr.cQ c sp (t+1) E A):=fun hn=>⟨A,uh hA,(show Cr.gD c (t:Int) (sp t) A A by unfold Cr.gD;rw[abO hn])⟩;have pR:Hid (∀F,sp t=true->Cr.gD c (t:Int) true A F->Cr.cQ c sp (t+1) E F):=fun F h1 h2=>⟨A,uh hA,(show Cr.gD c (t:Int) (sp t) A F by rw[h1];exact h2)⟩;obtain⟨z,hz⟩:=abV (Gd.aV A (t:Int));rw[hz]at ch jB;have uj:=aa ch;have kW:=aa hz;clear hlt ht aN ch hz ka;go_upto_region 3 with fail;rw[<-aD];clear aD hix;obtain⟨Q,hQe⟩:=abV wr.heap.size;rw[hQe]at q2|-;clear hQe;obtain⟨b,hb⟩:=abV (sp t);rw[hb]at q2 jB pR|-;clear hb;cases b
   ·have hn:=aa (uh jB (fun h=>abT h.1));clear jB pR uj;go_wp2;go_roundw
    case rel=>exact⟨t+1,gE,cE,A,by have:=uh HL;omega,by go_num,hn,⟨gC,gI,cC,cI,uh eN⟩⟩
    case measure=>simp[intOf];have:=uh HL;omega
   ·have b5:=(uh eN).ae.2.2.2.2.2.1;have Ut:=aa (fun F=>uh pR F rfl);have Jx:Hid (¬z<0->Cr.cQ c sp (t+1) E A):=fun hn=>uh jB (fun h=>hn h.2);clear pR jB;go_wp2_with fail;refine aaR (uh uj) fun w1 hg1=>?_;have kn:=aa ((uh eN).on hg1);clear hg1 uj b5 q2 eN;by_cases h0:z<0
    ·have cb:=aa (IW v w1 P gC gE gI cC cE cI how inp sp bK left s g c A I t (uh kn) (uh hs) (uh iU) (by rw[uh kW];exact h0));clear Jx;go_wp2_with fail;refine(uh cb).mono ?_;rintro e w2 ⟨F,hco,rfl,j1,j2,j3,d1,d2,d3,KI⟩;have hn:=aa (uh Ut F hco);have hF5:=aa KI;clear hco KI cb kn Ut;go_wp2;go_roundw
     case rel=>exact⟨t+1,j2,d2,F,by have:=uh HL;omega,by go_num,hn,⟨j1,j3,d1,d3,uh hF5⟩⟩
     case measure=>simp[intOf];have:=uh HL;omega
    ·have hn:=aa (uh Jx (by omega));clear Jx Ut;go_wp2;go_roundw
     case rel=>exact⟨t+1,gE,cE,A,by have:=uh HL;omega,by go_num,hn,⟨gC,gI,cC,cI,uh kn⟩⟩
     case measure=>simp[intOf];have:=uh HL;omega
  ·obtain rfl:t=4:=by omega
   have hge:¬((4:Nat):Int)<4:=by omega
   have hs:=aa (uh P9 4 A (abL _) (uh hA));have b5:=(uh ka).ae.2.2.2.2.2.1;have cc:=aa (pO gE cE A wr (uh ka).ab.own (uh hs).jR);obtain⟨mm,zN⟩:∃m,Cr.bn A=m:=⟨_,rfl⟩;rw[zN]at cc;have Xh:=aa zN;clear hlt ht zN;go_wp2_with fail;refine aaR (uh cc) fun w1 hg1=>?_;have eN:=aa ((uh ka).on hg1);have aK:=aa ((uh eN).bK mm);have q:=(uh eN).l8.1;have fP:=(uh eN).box.free;have ah:Hid (∀e w',Cr.tR v P how inp sp mm left s g c A I e w'->Cr.M3 v P how inp sp left s g c E I e w'):=fun e w' h=>⟨A,uh hA,(show _ by rw[uh Xh];exact h)⟩;clear hg1 cc b5 ka eN Xh;go_wp2
   go_end0
   exact uh ah _ _ ⟨rfl,gC,gE,gI,cC,cE,cI,uh aK⟩
