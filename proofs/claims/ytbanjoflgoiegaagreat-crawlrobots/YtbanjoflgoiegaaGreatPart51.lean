import Derived.Test.YtbanjoflgoiegaaGreatPart48
import Derived.Test.YtbanjoflgoiegaaGreatPart50
set_option maxHeartbeats 12800000
set_option maxRecDepth 8000
namespace Go.Proofs.YtbanjoflgoiegaaGreat
open Go.Proofs.Tryz
open Go.RowKit
theorem Nv.KD(dx dy:Int):∀(m k:Nat),0<=Nv.besideFrom dx dy m k
 | 0,_=>Int.le_refl _
 | m+1,k=>by
  unfold Nv.besideFrom
  split
  ·omega
  ·exact Nv.KD dx dy m (k+1)
theorem xt(s g c:N1)(E I:N2)(gC gE gI cC cE cI k:Nat)(w:World)(hL:Gd.av w gC gE gI c E I)(hc:∀i,0<=c i/\c i<=255)(jx:32<=cE)(hE:Md.mJ c E I)(hk:k<32)(rJ:E k 0≠0):Calls prog 211 #[.agg #[],.agg (Gd.world s gC gE gI cC cE cI g),.int .i64 (k:Int)] w (Md.aJ w (Md.aU s c E (k:Int))):=by
 obtain⟨wz,gW⟩:∃wz,wz=w.alloc (.cells #[] 134):=⟨_,rfl⟩;obtain⟨w0,aD⟩:∃w0,w0=wz.alloc (.cells (Gd.world s gC gE gI cC cE cI g) 30):=⟨_,rfl⟩;have fM:w.grownBy wz none:=by rw[gW];exact abE _ _ _
 have aN:w.grownBy w0 none:=by rw[aD];exact gtr fM (abE _ _ _)
 have hO:Hid (Gd.iz w w0 wz.heap.size gC gE gI cC cE cI s g c E I):=by
  refine⟨?_,hL.on aN,aN⟩;rw[aD];exact(ax.world (abH wz _)).lie
 have eC:wz.heap.size=w.heap.size+1:=by rw[gW];simp
 have fq:Hid (∀v,Md.aU s c E (k:Int) v↔if E k 0=1 then v=0 else Md.nn s c E k v):=fun v=>by
  unfold Md.aU;rw[abG];by_cases h1:E k 0=1
  ·rw[abP h1,abP (.inr (.inr h1))]
  ·rw[abO h1,abO (by omega)]
 have fD:=aa hc;have kc:=aa jx;have iQ:=aa hE;obtain⟨x0,x9,y0,y9,-,-⟩:=hE.tV k hk rJ;have tB:=aa (show(0<=E k 3/\E k 3<24)/\0<=E k 4/\E k 4<16 from⟨⟨x0,x9⟩,y0,y9⟩);have HK:=aa (And.intro hk rJ);have jy:(k:Int)<32:=by omega
 clear hL hc jx hE aN fM x0 x9 y0 y9;unfold Gd.world at aD|-;rw[gW]at aD;rw[eC]at hO;clear gW eC;go_enter func211,ntmps211;go_upto_region 1 with fail;rw[<-aD];clear aD;obtain⟨B,hB⟩:=abV (w.heap.size+1);rw[hB]at hO|-;clear hB;have q5:=(uh hO).box.ae.2.2.2.2.2.1;obtain⟨u0,u1,u2,u3,u4,u5,u6,u7,u8,u9,iO⟩:=(uh hO).ab.own.ai.row hk;have hQ:=aa (ay.ei w0 (E k) 54);have gK:=aa ((uh hO).on (abE w0 (.cells (En.cells (E k)) 54) none));clear hk rJ;unfold En.cells at hQ gK;go_upto_region 2 with fail;obtain⟨Q,hQe⟩:=abV w0.heap.size;rw[hQe]at hQ|-;generalize w0.alloc (.cells #[.int .i64 (E k 0),.int .i64 (E k 1),.int .i64 (E k 2),.int .i64 (E k 3),.int .i64 (E k 4),.int .i64 (E k 5),.int .i64 (E k 6),.int .i64 (E k 7),.int .i64 (E k 8),.int .i64 (E k 9),.int .i64 (E k 10)] 54)=w2 at hQ gK|-;clear hQe q5 u0 u1 u2 u3 u4 u5 u6 u7 u8 u9 iO hO;obtain⟨z0,z1,z2,z3,z4,z5,z6,z7,z8,z9,bO⟩:=(uh hQ).j9;by_cases h1:E k 0=1
 ·have ah:Hid (Md.aJ w (Md.aU s c E (k:Int)) (.returned (.int .i64 0)) w2):=⟨0,(uh fq 0).2 (by rw[abP h1]),rfl,(uh gK).grown⟩;have ot:(E k 0==1)=true:=by simpa using h1
  clear fq h1;go_wp2;go_ret;exact uh ah
 have ot:(E k 0==1)=false:=by simpa using h1
 have zR:Hid (∀v,(∃b a,Md.mK c E (E k 3) (E k 4) 4 b a/\((a<0/\v=Md.oo s c E k)\/∃h:Nat,a=(h:Int)/\if 0<Nv.ez (E h 3-E k 3) (E h 4-E k 4)then v=Nv.ez (E h 3-E k 3) (E h 4-E k 4)else Nv.aW c (fun _=>E h 4*24+E h 3) 1 E 32 (E k 3) (E k 4) v))->Md.aU s c E (k:Int) v):=fun v hv=>(uh fq v).2 (by rw[abO h1];exact hv);clear h1 fq;obtain⟨b0,b1,b2,b3,b4,b5,b6,b7,b8,b9,b10⟩:=(uh gK).box.ae;have cn:=aa (An s g c E I (E k) gC gE gI cC cE cI w2 (uh gK).ab (uh fD) (uh kc) (uh iQ).tV (uh tB).1.1 (uh tB).1.2 (uh tB).2.1 (uh tB).2.2);unfold Gd.world En.cells at cn;go_wp2_with fail;refine(uh cn).mono ?_;rintro e w3 ⟨b,a,hS,hA,rfl,hg⟩;have je:=aa hS;have IF:=aa hA;have kA:=aa ((uh gK).on hg);have rq:=aa ((uh hQ).on hg);clear b0 b1 b2 b3 b4 b5 b6 b7 b8 b9 b10 z0 z1 z2 z3 z4 z5 z6 z7 z8 z9 bO cn hS hA hg gK hQ;rcases uh IF with rfl|⟨h,hh,rfl,hh1⟩
 ·obtain⟨b0,b1,b2,b3,b4,b5,b6,b7,b8,b9,b10⟩:=(uh kA).box.ae;have cw:=aa (Hp s g c E I gC gE gI cC cE cI k w3 (uh kA).ab (uh fD) (uh kc) (uh iQ).tV (uh HK).1 (uh HK).2);unfold Gd.world at cw;have ah:Hid (Md.aU s c E (k:Int) (Md.oo s c E k)):=uh zR _ ⟨b,-1,uh je,.inl ⟨by omega,rfl⟩⟩;obtain⟨S,hS⟩:=abV (Md.oo s c E k);rw[hS]at cw ah;clear hS zR je IF;go_wp2_with fail;refine aaR (uh cw) fun w4 hg=>?_;have hg4:=aa (gtr (uh kA).grown hg);clear hg cw b0 b1 b2 b3 b4 b5 b6 b7 b8 b9 b10;go_wp2;go_ret;exact⟨S,uh ah,rfl,uh hg4⟩
 have ov:(h:Int)<32:=by omega
 have hhn:¬(h:Int)<0:=by omega
 obtain⟨p0,p9,r0,r9,-,-⟩:=(uh iQ).tV h hh (by omega);have HP:=aa (show(0<=E h 3/\E h 3<24)/\0<=E h 4/\E h 4<16 from⟨⟨p0,p9⟩,r0,r9⟩);have q5:=(uh kA).box.ae.2.2.2.2.2.1;obtain⟨u0,u1,u2,u3,u4,u5,u6,u7,u8,u9,iO⟩:=(uh kA).ab.own.ai.row hh;have hR:=aa (ay.ei w3 (E h) 54);have hgA:=aa (abE w3 (.cells (En.cells (E h)) 54) none);have zu:=aa ((uh kA).on (uh hgA));have Jd:=aa ((uh rq).on (uh hgA));clear hh hh1 IF p0 p9 r0 r9 hgA;unfold En.cells at hR zu Jd;go_upto_region 8 with fail;obtain⟨R,Vz⟩:=abV w3.heap.size;rw[Vz]at hR|-;generalize w3.alloc (.cells #[.int .i64 (E h 0),.int .i64 (E h 1),.int .i64 (E h 2),.int .i64 (E h 3),.int .i64 (E h 4),.int .i64 (E h 5),.int .i64 (E h 6),.int .i64 (E h 7),.int .i64 (E h 8),.int .i64 (E h 9),.int .i64 (E h 10)] 54)=w4 at hR zu Jd|-;clear Vz q5 u0 u1 u2 u3 u4 u5 u6 u7 u8 u9 iO kA rq;have z3:w4.cell? ⟨Q,3,none⟩=some (.int .i64 (E k 3)):=(uh Jd).cell (c:=3) (by omega);have z4:w4.cell? ⟨Q,4,none⟩=some (.int .i64 (E k 4)):=(uh Jd).cell (c:=4) (by omega);have v3:w4.cell? ⟨R,3,none⟩=some (.int .i64 (E h 3)):=(uh hR).cell (c:=3) (by omega);have v4:w4.cell? ⟨R,4,none⟩=some (.int .i64 (E h 4)):=(uh hR).cell (c:=4) (by omega);have cb:Hid (Calls prog 214 #[.int .i64 (E k 3),.int .i64 (E k 4),.int .i64 (E h 3),.int .i64 (E h 4)] w4 fun e w'=>e=.returned (.int .i64 (Nv.ez (E h 3-E k 3) (E h 4-E k 4)))/\w'=w4):=by
  have hb:=IV (E k 3) (E k 4) (E h 3) (E h 4) w4;have k1:=uh tB;have k2:=uh HP;rw[py _ (by omega),py _ (by omega)]at hb;exact hb
 have VC:0<=Nv.ez (E h 3-E k 3) (E h 4-E k 4):=Nv.KD _ _ 4 1;have JA:Hid (∀v,(if 0<Nv.ez (E h 3-E k 3) (E h 4-E k 4)then v=Nv.ez (E h 3-E k 3) (E h 4-E k 4)else Nv.aW c (fun _=>E h 4*24+E h 3) 1 E 32 (E k 3) (E k 4) v)->Md.aU s c E (k:Int) v):=fun v hv=>uh zR v ⟨b,(h:Int),uh je,.inr ⟨h,rfl,hv⟩⟩;obtain⟨D,hD⟩:=abV (Nv.ez (E h 3-E k 3) (E h 4-E k 4));rw[hD]at cb VC JA;clear hD zR je;go_wp2_with fail;refine abW (uh cb) ?_;clear cb;by_cases wO:D=0;rotate_left
 ·have Zu:(D !=0)=true:=by simpa using wO
  have ah:Hid (Md.aJ w (Md.aU s c E (k:Int)) (.returned (.int .i64 D)) w4):=⟨D,uh JA D (by rw[abP (by omega)]),rfl,(uh zu).grown⟩;clear wO VC JA;go_wp2;go_ret;exact uh ah
 have aas:Hid (∀v,Nv.aW c (fun _=>E h 4*24+E h 3) 1 E 32 (E k 3) (E k 4) v->Md.aU s c E (k:Int) v):=fun v hv=>uh JA v (by rw[abO (by omega)];exact hv);subst wO;have hm1:IntKind.i64.wrap (E h 4*24)=E h 4*24:=by have:=uh HP;rw[abK];omega
 have hm2:IntKind.i64.wrap (E h 4*24+E h 3)=E h 4*24+E h 3:=by have:=uh HP;rw[abK];omega
 have fM:=aa (abE w4 (.cells #[.int .i64 (E h 4*24+E h 3)] 3) none);have ct:Hid (∀b,b=w4.heap.size->Calls prog 215 #[.slice (some ⟨gC,0,none⟩) 384 cC,.slice (some ⟨gE,0,none⟩) 32 cE,.int .i64 (E k 3),.int .i64 (E k 4),.slice (some ⟨b,0,none⟩) 1 1] (w4.alloc (.cells #[.int .i64 (E h 4*24+E h 3)] 3)) (Nv.jV (w4.alloc (.cells #[.int .i64 (E h 4*24+E h 3)] 3)) c (fun _=>E h 4*24+E h 3) 1 E 32 (E k 3) (E k 4))):=fun b hb=>by
  subst hb;have hL:=(uh zu).ab.on (uh fM);have k1:=uh tB;have k2:=uh HP;exact pX (some ⟨gC,0,none⟩) (some ⟨gE,0,none⟩) (some ⟨w4.heap.size,0,none⟩) cC 32 cE 1 1 c (fun _=>E h 4*24+E h 3) E (E k 3) (E k 4) _ hL.lg (uh fD) ⟨by omega,uh kc,.inr ⟨gE,rfl,hL.own.ai⟩⟩ (uh iQ).l8 (Nv.mB w4 (E h 4*24+E h 3) 3) (fun _=>by omega) (by omega) (by omega) (by omega) (by omega)
 have q4:=(uh zu).box.ae.2.2.2.2.1;have q5:=(uh zu).box.ae.2.2.2.2.2.1;clear JA VC;go_wp2_with fail;refine(uh ct _ rfl).mono ?_;rintro e w5 ⟨v,hv,rfl,hg⟩;have hg5:=aa (gtr (gtr (uh zu).grown (uh fM)) hg);have ah:Hid (Md.aJ w (Md.aU s c E (k:Int)) (.returned (.int .i64 v)) w5):=⟨v,uh aas v hv,rfl,uh hg5⟩;clear hg hv q4 q5 z3 z4 v3 v4 ct;go_wp2;go_ret;exact uh ah
theorem En.OE{n:Nat}{E:N2}{k:Nat}(hk:k<n)(hf:E k 0≠0)(hG:En.sn n E):0<=En.id n E (k:Int):=by
 rw[En.SZ hk hf];have:=hG k hk;omega
theorem zZ(s g c:N1)(E I:N2)(gC gE gI cC cE cI:Nat)(row:Int)(w:World)(hL:Gd.av w gC gE gI c E I)(hc:∀i,0<=c i/\c i<=255)(jx:32<=cE)(hE:Md.mJ c E I):Calls prog 117 #[.iface 134 (.agg #[]),.agg (Gd.world s gC gE gI cC cE cI g),.int .i64 row] w (Md.aJ w (Md.aU s c E row)):=by
 obtain⟨w0,aD⟩:∃w0,w0=w.alloc (.cells (Gd.world s gC gE gI cC cE cI g) 30):=⟨_,rfl⟩;have aN:w.grownBy w0 none:=by rw[aD];exact abE _ _ _
 have hO:Hid (Gd.iz w w0 w.heap.size gC gE gI cC cE cI s g c E I):=by
  refine⟨?_,hL.on aN,aN⟩;rw[aD];exact(ax.world (abH w _)).lie
 have ci:=aa (OD gE 32 cE E row w0 (uh hO).ab.own.ai jx hE.rl);have fm:Hid (((row<0\/32<=row)\/E row.toNat 0=0)->Md.aU s c E row 0):=fun h=>by
  unfold Md.aU;rw[abP (by omega)]
 have Q8:Hid (((row<0\/32<=row)\/E row.toNat 0=0)/\En.id 32 E row<0\/∃k:Nat,k<32/\row=(k:Int)/\E k 0≠0/\0<=En.id 32 E row):=by
  by_cases h1:row<0\/32<=row
  ·exact .inl ⟨.inl h1,by rw[En.JF (by omega)];omega⟩
  ·obtain⟨k,rfl⟩:∃k:Nat,row=(k:Int):=⟨row.toNat,by omega⟩;by_cases h2:E k 0=0
   ·exact .inl ⟨.inr (by rw[abG];exact h2),by rw[En.K9 h2];omega⟩
   ·exact .inr ⟨k,by omega,rfl,h2,En.OE (by omega) h2 hE.rl⟩
 have cn:=aa (fun (k:Nat) (z:World) (hz:Gd.av z gC gE gI c E I) (h1:k<32) (h2:E k 0≠0)=>xt s g c E I gC gE gI cC cE cI k z hz hc jx hE h1 h2);obtain⟨i,hi⟩:=abV (En.id 32 E row);rw[hi]at ci Q8;clear hL hc jx hE aN hi;unfold Gd.world at aD cn|-;go_enter func117,ntmps117;go_upto_region 1 with fail;rw[<-aD];clear aD;obtain⟨B,hB⟩:=abV w.heap.size;rw[hB]at hO|-;clear hB;have q5:=(uh hO).box.ae.2.2.2.2.2.1;go_wp2_with fail;refine aaR (uh ci) fun w1 hg=>?_;have oe:=aa ((uh hO).on hg);clear q5 ci hg hO;rcases uh Q8 with⟨h1,h2⟩|⟨k,hk,rfl,rJ,h2⟩
 ·have ah:Hid (Md.aJ w (Md.aU s c E row) (.returned (.int .i64 0)) w1):=⟨0,uh fm h1,rfl,(uh oe).grown⟩;clear h1 Q8 fm;go_wp2;go_ret;exact uh ah
 ·have NL:¬i<0:=by omega
  have ck:=aa (uh cn k w1 (uh oe).ab hk rJ);obtain⟨b0,b1,b2,b3,b4,b5,b6,b7,b8,b9,b10⟩:=(uh oe).box.ae;clear Q8 fm cn hk rJ h2;go_wp2_with fail;refine(uh ck).mono ?_;rintro e w2 ⟨v,hv,rfl,hg⟩;have ah:Hid (Md.aJ w (Md.aU s c E (k:Int)) (.returned (.int .i64 v)) w2):=⟨v,hv,rfl,gtr (uh oe).grown hg⟩;clear hv hg b0 b1 b2 b3 b4 b5 b6 b7 b8 b9 b10 ck;go_wp2;go_ret;exact uh ah
theorem JR(s g c:N1)(E I:N2)(gC gE gI cC cE cI:Nat)(row:Int)(w:World)(hL:Gd.av w gC gE gI c E I)(hc:∀i,0<=c i/\c i<=255)(jx:32<=cE)(IJ:384<=cC)(hE:Md.mJ c E I)(hr:row=-1\/∃k:Nat,k<32/\row=(k:Int)/\E k 0≠0):Calls prog 117 #[.iface 158 (.agg #[]),.agg (Gd.world s gC gE gI cC cE cI g),.int .i64 row] w (Md.aJ w fun v=>if row<0 then v=0 else Md.de c E I (E row.toNat 2) row.toNat v):=by
 obtain⟨w0,aD⟩:∃w0,w0=w.alloc (.cells (Gd.world s gC gE gI cC cE cI g) 30):=⟨_,rfl⟩;have aN:w.grownBy w0 none:=by rw[aD];exact abE _ _ _
 have hO:Hid (Gd.iz w w0 w.heap.size gC gE gI cC cE cI s g c E I):=by
  refine⟨?_,hL.on aN,aN⟩;rw[aD];exact(ax.world (abH w _)).lie
 have ci:=aa (OD gE 32 cE E row w0 (uh hO).ab.own.ai jx hE.rl);have Q8:Hid ((row<0/\En.id 32 E row<0)\/∃k:Nat,k<32/\row=(k:Int)/\E k 0≠0/\0<=En.id 32 E row):=by
  rcases hr with rfl|⟨k,hk,rfl,h2⟩
  ·exact .inl ⟨by omega,by rw[En.JF (by omega)];omega⟩
  ·exact .inr ⟨k,by omega,rfl,h2,En.OE (by omega) h2 hE.rl⟩
 have cn:=aa (fun (k:Nat) (z:World) (hz:Gd.av z gC gE gI c E I) (h1:k<32) (h2:E k 0≠0)=>Ho s g c E I gC gE gI cC cE cI k z hz hc jx IJ hE h1 h2);have hP:Hid (∀v,(if row<0 then v=0 else Md.de c E I (E row.toNat 2) row.toNat v)↔(fun v=>if row<0 then v=0 else Md.de c E I (E row.toNat 2) row.toNat v) v):=fun v=>Iff.rfl;obtain⟨P,KO⟩:∃P:Int->Prop,(fun v=>if row<0 then v=0 else Md.de c E I (E row.toNat 2) row.toNat v)=P:=⟨_,rfl⟩;rw[KO]at hP|-;obtain⟨i,hi⟩:=abV (En.id 32 E row);rw[hi]at ci Q8;clear hL hc jx IJ hE aN hi hr KO;unfold Gd.world at aD cn|-;go_enter func117,ntmps117;go_upto_region 1 with fail;rw[<-aD];clear aD;obtain⟨B,hB⟩:=abV w.heap.size;rw[hB]at hO|-;clear hB;have q5:=(uh hO).box.ae.2.2.2.2.2.1;go_wp2_with fail;refine aaR (uh ci) fun w1 hg=>?_;have oe:=aa ((uh hO).on hg);clear q5 ci hg hO;rcases uh Q8 with⟨h1,h2⟩|⟨k,hk,rfl,rJ,h2⟩
 ·have ah:Hid (Md.aJ w P (.returned (.int .i64 0)) w1):=⟨0,(uh hP 0).1 (by rw[abP h1]),rfl,(uh oe).grown⟩;clear h1 Q8 hP;go_wp2;go_ret;exact uh ah
 ·have NL:¬i<0:=by omega
  have ck:=aa (uh cn k w1 (uh oe).ab hk rJ);have zR:Hid (∀v,Md.de c E I (E k 2) k v->P v):=fun v hv=>(uh hP v).1 (by rw[abO (by omega),abG];exact hv);obtain⟨b0,b1,b2,b3,b4,b5,b6,b7,b8,b9,b10⟩:=(uh oe).box.ae;clear Q8 hP cn hk rJ h2;go_wp2_with fail;refine(uh ck).mono ?_;rintro e w2 ⟨v,hv,rfl,hg⟩;have ah:Hid (Md.aJ w P (.returned (.int .i64 v)) w2):=⟨v,uh zR v hv,rfl,gtr (uh oe).grown hg⟩;clear hv hg b0 b1 b2 b3 b4 b5 b6 b7 b8 b9 b10 ck zR;go_wp2;go_ret;exact uh ah
theorem sY(s g c:N1)(E I:N2)(gC gE gI cC cE cI:Nat)(row:Int)(w:World)(hL:Gd.av w gC gE gI c E I)(hc:∀i,0<=c i/\c i<=255)(jx:32<=cE)(hE:Md.mJ c E I):Calls prog 76 #[.agg (Gd.world s gC gE gI cC cE cI g),.int .i64 row] w (Md.aJ w (Md.aU s c E row)):=by
 obtain⟨w0,aD⟩:∃w0,w0=w.alloc (.cells (Gd.world s gC gE gI cC cE cI g) 30):=⟨_,rfl⟩;have aN:w.grownBy w0 none:=by rw[aD];exact abE _ _ _
 have hO:Hid (Gd.iz w w0 w.heap.size gC gE gI cC cE cI s g c E I):=by
  refine⟨?_,hL.on aN,aN⟩;rw[aD];exact(ax.world (abH w _)).lie
 have ca:=aa (zZ s g c E I gC gE gI cC cE cI row w0 (uh hO).ab hc jx hE);clear hL hc jx hE aN;unfold Gd.world at aD ca|-;go_enter func76,ntmps76;go_upto_region 1 with fail;rw[<-aD];clear aD;obtain⟨B,hB⟩:=abV w.heap.size;rw[hB]at hO|-;clear hB;obtain⟨b0,b1,b2,b3,b4,b5,b6,b7,b8,b9,b10⟩:=(uh hO).box.ae;go_wp2_with fail;refine(uh ca).mono ?_;rintro e w1 ⟨v,hv,rfl,hg⟩;have ah:Hid (Md.aJ w (Md.aU s c E row) (.returned (.int .i64 v)) w1):=⟨v,hv,rfl,gtr (uh hO).grown hg⟩;clear hv hg b0 b1 b2 b3 b4 b5 b6 b7 b8 b9 b10 ca;go_wp2;go_ret;exact uh ah
theorem vU(s g c:N1)(E I:N2)(gC gE gI cC cE cI:Nat)(ag:Int)(w:World)(hL:Gd.av w gC gE gI c E I)(hc:∀i,0<=c i/\c i<=255)(jx:32<=cE)(IJ:384<=cC)(hE:Md.mJ c E I):Calls prog 111 #[.agg (Gd.world s gC gE gI cC cE cI g),.int .i64 ag] w (Md.aJ w (Md.cB c E I ag)):=by
 obtain⟨w0,aD⟩:∃w0,w0=w.alloc (.cells (Gd.world s gC gE gI cC cE cI g) 30):=⟨_,rfl⟩;have aN:w.grownBy w0 none:=by rw[aD];exact abE _ _ _
 have hO:Hid (Gd.iz w w0 w.heap.size gC gE gI cC cE cI s g c E I):=by
  refine⟨?_,hL.on aN,aN⟩;rw[aD];exact(ax.world (abH w _)).lie
 have ch:Hid (∀z,Gd.av z gC gE gI c E I->Calls prog 68 #[.slice (some ⟨gE,0,none⟩) 32 cE,.int .i64 ag] z (aJ z (.int .i64 (Gd.aV E ag)))):=fun z hz=>nh gE 32 cE E ag z hz.own.ai jx;have bZ:Gd.aV E ag=-1\/∃k:Nat,k<32/\Gd.aV E ag=(k:Int)/\E k 0≠0:=by
  unfold Gd.aV;rcases En.aw (En.dg E ag) 32 with⟨he,_⟩|⟨k,hk,he,hq,_⟩
  ·exact .inl he
  ·simp only[En.dg,Bool.and_eq_true,decide_eq_true_eq]at hq;exact .inr ⟨k,hk,he,by omega⟩
 have ca:=aa (fun (z:World) (hz:Gd.av z gC gE gI c E I)=>JR s g c E I gC gE gI cC cE cI (Gd.aV E ag) z hz hc jx IJ hE bZ);have zR:Hid (∀v,(if Gd.aV E ag<0 then v=0 else Md.de c E I (E (Gd.aV E ag).toNat 2) (Gd.aV E ag).toNat v)->Md.cB c E I ag v):=fun v hv=>by
  unfold Md.cB;by_cases hn:Gd.aV E ag<0
  ·rw[abP hn]at hv|-;exact hv
  ·rw[abO hn]at hv|-;obtain⟨k,hk,he,-,h2⟩:=Md.lL hn;rw[he,abG]at hv|-;rw[h2]at hv;exact hv
 obtain⟨P,hP⟩:∃P:Int->Prop,(fun v=>if Gd.aV E ag<0 then v=0 else Md.de c E I (E (Gd.aV E ag).toNat 2) (Gd.aV E ag).toNat v)=P:=⟨_,rfl⟩;have JA:Hid (∀v,P v->Md.cB c E I ag v):=fun v hv=>uh zR v (by rw[<-hP]at hv;exact hv);rw[hP]at ca;obtain⟨h,hh⟩:=abV (Gd.aV E ag);rw[hh]at ch ca;clear hL hc jx IJ hE aN bZ zR hP hh;unfold Gd.world at aD ca|-;go_enter func111,ntmps111;go_upto_region 1 with fail;rw[<-aD];clear aD;obtain⟨B,hB⟩:=abV w.heap.size;rw[hB]at hO|-;clear hB;have fC:=aa (gd1 (abF w0 none));have tt:Hid (∀z,w0.grownBy z none->Gd.av z gC gE gI c E I):=fun z hz=>(uh hO).ab.on hz;have hkeep:Hid (∀z,w0.grownBy z none->(z.cell? ⟨B,0,none⟩=some (.int .i64 (s 0))/\z.cell? ⟨B,1,none⟩=some (.int .i64 (s 1))/\z.cell? ⟨B,2,none⟩=some (.int .i64 (s 2))/\z.cell? ⟨B,3,none⟩=some (.int .i64 (s 3))/\z.cell? ⟨B,4,none⟩=some (.slice (some ⟨gC,0,none⟩) 384 cC)/\z.cell? ⟨B,5,none⟩=some (.slice (some ⟨gE,0,none⟩) 32 cE)/\z.cell? ⟨B,6,none⟩=some (.slice (some ⟨gI,0,none⟩) 40 cI)/\z.cell? ⟨B,7,none⟩=some (.int .i64 (g 0))/\z.cell? ⟨B,8,none⟩=some (.int .i64 (g 1))/\z.cell? ⟨B,9,none⟩=some (.int .i64 (g 2))/\z.cell? ⟨B,10,none⟩=some (.int .i64 (g 3)))):=fun z hz=>((uh hO).on hz).box.ae;have hS0:=uh hkeep w0 (abF _ none)
 go_region_held3 (fun z=>z.cell? ⟨B,0,none⟩=some (.int .i64 (s 0))/\z.cell? ⟨B,1,none⟩=some (.int .i64 (s 1))/\z.cell? ⟨B,2,none⟩=some (.int .i64 (s 2))/\z.cell? ⟨B,3,none⟩=some (.int .i64 (s 3))/\z.cell? ⟨B,4,none⟩=some (.slice (some ⟨gC,0,none⟩) 384 cC)/\z.cell? ⟨B,5,none⟩=some (.slice (some ⟨gE,0,none⟩) 32 cE)/\z.cell? ⟨B,6,none⟩=some (.slice (some ⟨gI,0,none⟩) 40 cI)/\z.cell? ⟨B,7,none⟩=some (.int .i64 (g 0))/\z.cell? ⟨B,8,none⟩=some (.int .i64 (g 1))/\z.cell? ⟨B,9,none⟩=some (.int .i64 (g 2))/\z.cell? ⟨B,10,none⟩=some (.int .i64 (g 3))) (go_keep) (first
  | (go_at_call 68;refine(uh ch _ (uh tt _ (uh fC))).mono ?_;rintro e w1 ⟨rfl,hg⟩;have hg1:=aa (gtr (uh fC) hg);have ko:=uh hkeep _ (uh hg1);clear hg)
  | (go_at_call 117;refine(uh ca _ (uh tt _ (uh hg1))).mono ?_;rintro e w2 ⟨v,hv,rfl,hg⟩;have hg2:=aa (gtr (uh hg1) hg);have pK:=aa hv;have LM:=uh hkeep _ (uh hg2);clear hg hv))
 have ah:Hid (Md.aJ w (Md.cB c E I ag) (.returned (.int .i64 v)) w2):=⟨v,uh JA v (uh pK),rfl,gtr (uh hO).grown (uh hg2)⟩;clear hS0 ko LM;go_wp2;go_ret;exact uh ah
