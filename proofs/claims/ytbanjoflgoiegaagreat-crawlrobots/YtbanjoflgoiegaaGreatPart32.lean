import Derived.Test.YtbanjoflgoiegaaGreatPart26
set_option maxHeartbeats 6400000
set_option maxRecDepth 8000
namespace Go.Proofs.YtbanjoflgoiegaaGreat
open Go.Proofs.Tryz
open Go.RowKit
theorem mj(e:N1)(w:World):Calls prog 71 #[.agg (En.cells e)] w (aJ w (.bool (decide (e 0=1)))):=by
 have hg:=aa (abE w (.cells (En.cells e) 54) none);have z0:=(ay.ei w e 54).kt.1;unfold En.cells at hg z0|-;go_enter func71,ntmps71;go_wp2;go_ret;exact⟨rfl,uh hg⟩
theorem oK(e:N1)(w:World):Calls prog 72 #[.agg (En.cells e)] w (aJ w (.bool (decide (0<e 10)))):=by
 have hg:=aa (abE w (.cells (En.cells e) 54) none);have z0:=(ay.ei w e 54).kt.2.2.2.2.2.2.2.2.2.2;unfold En.cells at hg z0|-;go_enter func72,ntmps72;go_wp2;go_ret;exact⟨rfl,uh hg⟩
theorem oJ(e:N1)(w:World):Calls prog 74 #[.agg (En.cells e)] w (aJ w (.bool (decide (e 0≠0/\e 0≠1)))):=by
 obtain⟨w0,aD⟩:∃w0,w0=w.alloc (.cells (En.cells e) 54):=⟨_,rfl⟩;have hg:Hid (w.grownBy w0 none):=by rw[aD];exact abE _ _ _
 have hQ:Hid (ay w0 w.heap.size 54 11 (bB e)):=by rw[aD];exact ay.ei _ _ _
 have ch:=aa (mj e w0);obtain⟨b,hb⟩:∃b,decide (e 0≠0/\e 0≠1)=b:=⟨_,rfl⟩;rw[hb];have pF:=aa hb;clear hb;unfold En.cells at aD ch|-;go_enter func74,ntmps74;go_upto_region 1 with fail;rw[<-aD];clear aD;obtain⟨B,hB⟩:=abV w.heap.size;rw[hB]at hQ|-;clear hB;obtain⟨z0,z1,z2,z3,z4,z5,z6,z7,z8,z9,bO⟩:=(uh hQ).kt;by_cases h0:e 0=0
 ·obtain rfl:b=false:=(uh pF).symm.trans (abI (fun h=>h.1 h0));have hn:(e 0 !=0)=false:=by simp[h0]
  clear h0;go_wp2;go_ret;exact⟨rfl,uh hg⟩
 ·have hn:(e 0 !=0)=true:=by simpa using h0
  have hd:b=!decide (e 0=1):=(uh pF).symm.trans (by by_cases h1:e 0=1 <;> simp[h0,h1]);obtain⟨d,zD⟩:∃d,decide (e 0=1)=d:=⟨_,rfl⟩;rw[zD]at hd ch;subst hd;clear h0 zD pF;go_wp2_with fail;refine aaR (uh ch) fun w1 hg1=>?_;have hg2:=aa (gtr (uh hg) hg1);clear hg1 ch z0 z1 z2 z3 z4 z5 z6 z7 z8 z9 bO;go_wp2;go_ret;exact⟨rfl,uh hg2⟩
theorem oM(e:N1)(q:Nat)(hq:q<384)(w:World):Calls prog 79 #[.agg (En.cells e),.int .i64 (q:Int)] w (aJ w (.agg (En.cells (En.dj (En.dj e 3 ((q:Int)%24)) 4 ((q:Int)/24))))):=by
 obtain⟨wy,qL⟩:∃wy,wy=w.alloc (.cells (En.cells e) 54):=⟨_,rfl⟩;obtain⟨w0,aD⟩:∃w0,w0=wy.alloc (.cells #[.int .i64 0,.int .i64 0,.int .i64 0,.int .i64 0,.int .i64 0,.int .i64 0,.int .i64 0,.int .i64 0,.int .i64 0,.int .i64 0,.int .i64 0] 54):=⟨_,rfl⟩;have qK:w.grownBy wy none:=by rw[qL];exact abE _ _ _
 have aN:wy.grownBy w0 none:=by rw[aD];exact abE _ _ _
 have hG:=aa (gtr qK aN);have hQ:Hid (ay w0 w.heap.size 54 11 (bB e)):=by
  refine ay.on ?_ aN;rw[qL];exact ay.ei _ _ _
 have hR:Hid (ay w0 wy.heap.size 54 11 (bB (fun _=>0))):=by
  rw[aD];exact ay.ei wy (fun _=>0) _
 have sy:wy.heap.size=w.heap.size+1:=by rw[qL];simp
 rw[sy]at hR;have iu:Hid (En.cells (En.dj (En.dj e 3 ((q:Int)%24)) 4 ((q:Int)/24))=#[.int .i64 (e 0),.int .i64 (e 1),.int .i64 (e 2),.int .i64 ((q:Int)%24),.int .i64 ((q:Int)/24),.int .i64 (e 5),.int .i64 (e 6),.int .i64 (e 7),.int .i64 (e 8),.int .i64 (e 9),.int .i64 (e 10)]):=rfl;rw[uh iu];have t2:IntKind.i64.wrap ((q:Int)/24)=(q:Int)/24:=by rw[abK];omega
 clear qK aN sy iu;unfold En.cells at qL|-;rw[qL]at aD;clear qL;go_enter func79,ntmps79;go_upto_region 1 with fail;rw[<-aD];clear aD;obtain⟨B,hB⟩:=abV w.heap.size;rw[hB]at hQ hR|-;have eu:=aa hB;clear hB;obtain⟨e0,e1,e2,e3,e4,e5,e6,e7,e8,e9,TH⟩:=(uh hQ).kt;obtain⟨z0,z1,z2,z3,z4,z5,z6,z7,z8,z9,bO⟩:=(uh hR).kt;have fQ:=(uh hQ).free;have fR:=(uh hR).free;have nQR:B≠B+1:=by omega
 have nRQ:B+1≠B:=by omega
 have kJ:Hid (∀a b vs,w.grownBy (((w0.setCell ⟨B,3,none⟩ a).setCell ⟨B,4,none⟩ b).setCells (B+1) 0 vs) none):=fun a b vs=>aA (by rw[uh eu];omega) _ 0 _ (gsr (gsr (uh hG) ⟨B,3,none⟩ (by rw[uh eu];exact abL _) a) ⟨B,4,none⟩ (by rw[uh eu];exact abL _) b);clear hq hQ hR;go_wp2;refine abN (v:=.agg #[.int .i64 (e 0),.int .i64 (e 1),.int .i64 (e 2),.int .i64 ((q:Int)%24),.int .i64 ((q:Int)/24),.int .i64 (e 5),.int .i64 (e 6),.int .i64 (e 7),.int .i64 (e 8),.int .i64 (e 9),.int .i64 (e 10)]) (by simp[results,results79,go_sem,z0,z1,z2,z3,z4,z5,z6,z7,z8,z9,bO]) rfl ?_;exact⟨rfl,uh kJ _ _ [_,_,_,_,_,_,_,_,_,_,_]⟩
theorem qR(ca a:Option Addr)(cc n k:Nat)(c:N1)(E:N2)(w:World)(hc:il w.heap.size w ca 384 (aZ c))(hF:Nv.iy c)(ya:384<=cc)(hL:Nv.qM w a n k E)(hW:Nv.uJ n E):Calls prog 104 #[.slice ca 384 cc,.slice a n k] w (Nv.qO w c E n (Gr.an 384 c 3%24) (Gr.an 384 c 3/24)):=by
 have tX:∀i,0<=c i/\c i<=255:=fun i=>⟨(hF.ku i).1,by have:=(hF.ku i).2;omega⟩;obtain⟨u,hu,sL,-,-⟩:=Cr.l5 hF;have cf:=qX w.heap.size ca 384 cc c 3 w hc tX ya;rw[sL]at cf|-;have cs:=Ht ca a cc n k c E ((u:Int)%24) ((u:Int)/24) w hc tX hL hW (by omega) (by omega) (by omega) (by omega);have Kr:=aa cf;have sB:=aa cs;have YU:¬(u:Int)<0:=by omega
 have t1:IntKind.i64.wrap ((u:Int)/24)=(u:Int)/24:=by rw[abK];omega
 clear cf cs tX sL hu hc hF hL hW ya;go_enter func104,ntmps104;go_wp2_with fail;refine abW (uh Kr) ?_;go_wp2_with fail;refine(uh sB).mono ?_;rintro e w1 ⟨v,hv,rfl,hg⟩;have ah:Hid (Nv.qO w c E n ((u:Int)%24) ((u:Int)/24) (.returned (.int .i64 v)) w1):=⟨v,hv,rfl,hg⟩;clear hv hg sB Kr;go_wp2;go_ret;exact uh ah
variable{E:N2}
def Cr.pM(w:World)(gE:Nat)(E:N2)(e:Ending)(w':World):Prop :=
 ∃j aG,e=.returned (.slice (some ⟨j,0,none⟩) 32 aG)/\32<=aG/\(j=gE\/w.heap.size<=j)/\fg w' j 32 E/\w.grownBy w' none
def Cr.lS(E:N2):Nat->Bool:=fun i=>decide (E i 0=1)
theorem Cr.Hg(h:Cr.xD E):decide (0<=En.first (Cr.lS E) 32)=Cr.bn E:=by
 unfold Cr.bn;rcases En.aw (Cr.lS E) 32 with⟨he,hno⟩|⟨k,hk,he,hq,_⟩
 ·rw[he];refine(abI (by omega)).trans (abI ?_).symm;rintro⟨t,_,h0⟩;obtain⟨k,hk,_,_,k1⟩:=Gd.gV h0;have:=hno k hk;simp[Cr.lS,k1]at this
 ·rw[he];refine(abJ (by omega)).trans (abJ ?_).symm;have k1:E k 0=1:=by simpa [Cr.lS] using hq
  have hs:=h.ag k hk k1;refine⟨(E k 2).toNat,by omega,?_⟩;unfold Gd.aV;rcases En.aw (En.dg E ((E k 2).toNat:Int)) 32 with⟨_,hno⟩|⟨j,_,hj,_⟩
  ·have:=hno k hk;rw[Int.toNat_of_nonneg hs.1]at this;simp[En.dg,k1]at this
  ·omega
theorem uP(gE cE:Nat)(E:N2)(w:World)(hE:fg w gE 32 E):Calls prog 110 #[.slice (some ⟨gE,0,none⟩) 32 cE,.func (.func 71) #[] #[]] w (aJ w (.int .i64 (En.first (Cr.lS E) 32))):=by
 have IK:Hid (∀k:Nat,(∀j,j<k->Cr.lS E j=false)->Cr.lS E k=true->k<32->En.first (Cr.lS E) 32=(k:Int)):=fun k h1 h2 h3=>En.cG h1 h2 h3;have fm:Hid ((∀j,j<32->Cr.lS E j=false)->En.first (Cr.lS E) 32=-1):=fun h=>En.bt h;obtain⟨r,hr⟩:=abV (En.first (Cr.lS E) 32)
 rw[hr]at IK fm|-;have iQ:=aa hE;clear hr hE;go_enter func110,ntmps110;go_wp2_with fail;go_loopw [8] (fun v8 wr=>∃k:Nat,k<=32/\v8=.int .i64 (k:Int)/\Hid (∀j,j<k->Cr.lS E j=false)/\Hid (w.grownBy wr none)) (fun v8 _=>40-(intOf v8).toNat)
 case atStart=>exact⟨0,by omega,rfl,fun j hj=>by omega,abF _ _⟩
 case round =>
  obtain⟨k,hk,rfl,hno,hg⟩:=hrel;by_cases hlt:k<32
  ·have hlt':(k:Int)<32:=by omega
   have HL:=aa hlt;obtain⟨u0,u1,u2,u3,u4,u5,u6,u7,u8,u9,iO⟩:=((uh iQ).on (uh hg)).ai.row hlt;have ch:=aa (mj (E k) wr);have hq:Hid (Cr.lS E k=decide (E k 0=1)):=rfl;obtain⟨d,hd⟩:∃d,decide (E k 0=1)=d:=⟨_,rfl⟩;rw[hd]at ch hq;unfold En.cells at ch;clear hd hlt hk;go_wp2_with fail;refine aaR (uh ch) fun w1 hg1=>?_;have hg2:=aa (gtr (uh hg) hg1);clear hg1 ch u0 u1 u2 u3 u4 u5 u6 u7 u8 u9 iO;cases d
   ·have oW:Hid (∀j,j<k+1->Cr.lS E j=false):=fun j hj=>by
     by_cases e:j=k
     ·rw[e];exact uh hq
     ·exact uh hno j (by omega)
    go_wp2;go_roundw
    case rel=>exact⟨k+1,by have:=uh HL;omega,by go_num,oW,hg2⟩
    case measure=>simp[intOf];have:=uh HL;omega
   ·obtain rfl:=uh IK k (uh hno) (uh hq) (uh HL);go_wp2;go_ret;exact⟨rfl,uh hg2⟩
  ·obtain rfl:k=32:=by omega
   have hge:¬((32:Nat):Int)<32:=by omega
   obtain rfl:=uh fm (uh hno);clear hlt hk;go_wp2;go_ret;exact⟨rfl,uh hg⟩
theorem pO(gE cE:Nat)(E:N2)(w:World)(hE:fg w gE 32 E)(hs:Cr.xD E):Calls prog 70 #[.slice (some ⟨gE,0,none⟩) 32 cE,.func (.func 71) #[] #[]] w (aJ w (.bool (Cr.bn E))):=by
 have ci:=aa (uP gE cE E w hE);have hm:=Cr.Hg hs;obtain⟨r,hr⟩:=abV (En.first (Cr.lS E) 32)
 rw[hr]at ci hm;rw[<-hm];clear hm hr hE hs;go_enter func70,ntmps70;go_wp2_with fail;refine aaR (uh ci) fun w1 hg=>?_;have nQ:=aa hg;clear hg ci;go_wp2;go_ret;exact⟨rfl,uh nQ⟩
def Cr.F3(w:World)(a:Option Addr)(n:Nat)(es:List (Nat->Int)):Prop:=n=es.length/\n<=40/\∀i e,es[i]?=some e->(1<=e 0/\e 0<=4)/\∃b,a=some ⟨b,0,none⟩/\b<w.heap.size/\∀j,j<11->w.cell? ⟨b,i*11+j,none⟩=some (.int .i64 (e j))
theorem Cr.F3.on{w w':World}{a:Option Addr}{n:Nat}{es:List (Nat->Int)}(h:Cr.F3 w a n es)(hg:w.grownBy w' none):Cr.F3 w' a n es :=
 ⟨h.1,h.2.1,fun i p hp=>by
  obtain⟨hk,b,ha,hb,hc⟩:=h.2.2 i p hp
  exact⟨hk,b,ha,abR hb hg.size,fun j hj=>(gce hg b _ hb (by simp)).trans (hc j hj)⟩⟩
def Cr.db(E:N2)(es:List (Nat->Int)):Nat->Nat->Int:=es.foldl (fun E e=>if En.first (En.eM E (e 3) (e 4)) 32<0 then Cr.dX E e else E) E
theorem Cr.Mf(E:N2){es:List (Nat->Int)}{i:Nat}{p:N1}(h:es[i]?=some p):Cr.db E (es.take (i+1))=if En.first (En.eM (Cr.db E (es.take i)) (p 3) (p 4)) 32<0 then Cr.dX (Cr.db E (es.take i)) p else Cr.db E (es.take i):=by
 unfold Cr.db;rw[List.take_add_one,h,List.foldl_append];rfl
theorem Cr.LG(h:En.sn 32 E)(e:N1):En.sn 32 (Cr.dX E e):=by
 unfold Cr.dX;split
 ·intro i hi;by_cases x:i=(En.first (En.gS E) 32).toNat
  ·rw[x,En.aB];unfold En.nN;rw[abP rfl];omega
  ·rw[En.ak x];exact h i hi
 ·exact h
theorem Cr.Gy:∀(es:List (Nat->Int)) {E:N2},En.sn 32 E->En.sn 32 (Cr.db E es)
 | [],_,h=>h
 | e :: es,E,h=>by
  refine Cr.Gy es (E:=if En.first (En.eM E (e 3) (e 4)) 32<0 then Cr.dX E e else E) ?_
  split
  ·exact Cr.LG h e
  ·exact h
theorem Cr.MF(gE cE:Nat)(E:N2)(e:N1)(w:World)(hE:fg w gE 32 E)(jx:32<=cE)(hG:En.sn 32 E)(hk:1<=e 0/\e 0<=4):(Cr.dX E e=E/\Calls prog 103 #[.slice (some ⟨gE,0,none⟩) 32 cE,.agg (En.cells e)] w (aJ w (.tuple #[.slice none 0 0,.int .i64 0,.int .i64 5])))\/∃f:Nat,Calls prog 103 #[.slice (some ⟨gE,0,none⟩) 32 cE,.agg (En.cells e)] w (yW w 32 (Cr.dX E e) f):=by
 rcases En.aw (En.gS E) 32 with⟨he,_⟩|⟨f,hf,he,_,_⟩
 ·refine .inl ⟨?_,J8 gE 32 cE E e w hE.ai jx hk he⟩;unfold Cr.dX;rw[he,abO (by omega)]
 ·refine .inr ⟨f,?_⟩;have hj:Cr.dX E e=En.put E f (En.nN e ((E f 1+1)%256)):=by
   unfold Cr.dX;rw[he,abP (by omega),abG]
  rw[hj];exact J9 gE 32 cE f E e w hE.ai jx hk he hf hG
theorem oL(gE cE n k:Nat)(a:Option Addr)(E:N2)(es:List (Nat->Int))(w:World)(hE:fg w gE 32 E)(jx:32<=cE)(hG:En.sn 32 E)(hM:Cr.F3 w a n es):Calls prog 54 #[.slice (some ⟨gE,0,none⟩) 32 cE,.slice a n k] w (Cr.pM w gE (Cr.db E es)):=by
 have FT:=aa hM;have kw:=aa hG;have hH:Hid (fg w gE 32 (Cr.db E (es.take 0))):=hE;have kc:=aa jx;have ju:=aa hM.1;have aam:=hM.2.1;clear hE jx hG hM;go_enter func54,ntmps54;go_wp2_with fail;go_loopw [0,12] (fun v0 Tp wr=>∃(i j d:Nat),i<=n/\Tp=.int .i64 (i:Int)/\v0=.slice (some ⟨j,0,none⟩) 32 d/\Hid (32<=d)/\Hid (j=gE\/w.heap.size<=j)/\Hid (fg wr j 32 (Cr.db E (es.take i)))/\Hid (w.grownBy wr none)) (fun _ Tp _=>50-(intOf Tp).toNat)
 case atStart=>exact⟨0,gE,cE,by omega,rfl,rfl,kc,.inl rfl,hH,abF _ _⟩
 case round =>
  clear hH kc;obtain⟨i,j,d,hi,rfl,rfl,hd,hj,hH,hg⟩:=hrel;by_cases hlt:i<n
  ·have hlt':(i:Int)<(n:Int):=by omega
   have HL:=aa hlt;obtain⟨p,hp⟩:∃p,es[i]?=some p:=⟨es[i]'(by have:=uh ju;omega),abQ _⟩;obtain⟨hk,b,rfl,hb,iu⟩:=((uh FT).on (uh hg)).2.2 i p hp;have jA:=aa (Cr.Mf E hp);have MZ:=aa (Cr.Gy (es.take i) (uh kw));obtain⟨F,hF⟩:=abV (Cr.db E (es.take i));rw[hF]at hH jA MZ;have HK:=aa hk;have r0:=iu 0 (by omega);have r1:=iu 1 (by omega);have r2:=iu 2 (by omega);have r3:=iu 3 (by omega);have r4:=iu 4 (by omega);have r5:=iu 5 (by omega);have r6:=iu 6 (by omega);have r7:=iu 7 (by omega);have r8:=iu 8 (by omega);have r9:=iu 9 (by omega);have pb:=iu 10 (by omega);rw[Nat.add_zero]at r0;obtain⟨w0,aD⟩:∃w0,w0=wr.alloc (.cells (En.cells p) 54):=⟨_,rfl⟩;have aN:Hid (wr.grownBy w0 none):=by rw[aD];exact abE _ _ _
   have hQ:Hid (ay w0 wr.heap.size 54 11 (bB p)):=by rw[aD];exact ay.ei _ _ _
   have tp:=aa ((uh hH).on (uh aN));have ca:=aa (mW j 32 d F (p 3) (p 4) w0 (uh tp).ai (uh hd));unfold En.cells at aD;clear hlt hi hk hb iu hp hF hH;go_upto_region 4 with fail;rw[<-aD];clear aD r0 r1 r2 r3 r4 r5 r6 r7 r8 r9 pb;obtain⟨B,hB⟩:=abV wr.heap.size;rw[hB]at hQ|-;clear hB;obtain⟨z,hz⟩:=abV (En.first (En.eM F (p 3) (p 4)) 32)
   rw[hz]at ca jA;clear hz;have e3:=(uh hQ).kt.2.2.2.1;have e4:=(uh hQ).kt.2.2.2.2.1;go_wp2_with fail;refine aaR (uh ca) fun w1 hg1=>?_;have dp:=aa ((uh tp).on hg1);have FU:=aa ((uh hQ).on hg1);have hg2:=aa (gtr (uh hg) (gtr (uh aN) hg1));clear hg1 ca e3 e4 tp hQ aN hg;by_cases dH:z<0
   ·have aan:¬z≥0:=(by omega);have gM:Hid (Cr.db E (es.take (i+1))=Cr.dX F p):=(uh jA).trans (abP dH);obtain⟨e0,e1,e2,e3,e4,e5,e6,e7,e8,e9,TH⟩:=(uh FU).kt;have key:=aa (Cr.MF j d F p w1 (uh dp) (uh hd) (uh MZ) (uh HK));clear dH jA;unfold En.cells at key;rcases uh key with⟨vJ,cs⟩|⟨f,cs⟩
    ·have sB:=aa cs;have kN:Hid (fg w1 j 32 (Cr.db E (es.take (i+1)))):=by
      show fg w1 j 32 (Cr.db E (es.take (i+1)));rw[uh gM,vJ];exact uh dp
     clear cs key vJ;go_wp2_with fail;refine aaR (uh sB) fun w2 dl=>?_;have eV:=aa ((uh kN).on dl);have hg4:=aa (gtr (uh hg2) dl);clear dl sB e0 e1 e2 e3 e4 e5 e6 e7 e8 e9 TH;go_wp2;go_roundw
     case rel=>exact⟨i+1,j,d,by have:=uh HL;omega,by go_num,rfl,hd,hj,eV,hg4⟩
     case measure=>simp[intOf];have:=uh HL;omega
    ·have sB:=aa cs;clear cs key;go_wp2_with fail;refine(uh sB).mono ?_;rintro e w2 ⟨j2,d2,rfl,iC,jP,tu,aH,dl⟩;have eV:Hid (fg w2 j2 32 (Cr.db E (es.take (i+1)))):=by
      show fg w2 j2 32 (Cr.db E (es.take (i+1)));rw[uh gM];exact aH
     have hg4:=aa (gtr (uh hg2) dl);have R7:=aa jP;have sN:Hid (j2=gE\/w.heap.size<=j2):=.inr (abM (uh hg2).size iC);clear iC jP tu aH dl sB e0 e1 e2 e3 e4 e5 e6 e7 e8 e9 TH;go_wp2;go_roundw
     case rel=>exact⟨i+1,j2,d2,by have:=uh HL;omega,by go_num,rfl,R7,sN,eV,hg4⟩
     case measure=>simp[intOf];have:=uh HL;omega
   ·have hge:z≥0:=(by omega);have kN:Hid (fg w1 j 32 (Cr.db E (es.take (i+1)))):=by
     show fg w1 j 32 (Cr.db E (es.take (i+1)));rw[uh jA,abO dH];exact uh dp
    clear dH jA;go_wp2;go_roundw
    case rel=>exact⟨i+1,j,d,by have:=uh HL;omega,by go_num,rfl,hd,hj,kN,hg2⟩
    case measure=>simp[intOf];have:=uh HL;omega
  ·obtain rfl:i=n:=by omega
   have hge:¬(i:Int)<(i:Int):=by omega
   have ah:Hid (Cr.pM w gE (Cr.db E es) (.returned (.slice (some ⟨j,0,none⟩) 32 d)) wr):=by
    refine⟨j,d,rfl,uh hd,uh hj,?_,uh hg⟩;have h:=uh hH
    rwa [List.take_of_length_le (by have:=uh ju;omega)]at h
   clear hlt hi;go_wp2;go_ret;exact uh ah
def Cr.cx(E:N2)(k:Nat):Nat->Nat->Int:=fun i=>if i<k/\E i 0≠0/\E i 0≠1 then En.mP (E i 1)else E i
theorem Cr.Mg{k:Nat}(h:E k 0≠0/\E k 0≠1):En.put (Cr.cx E k) k (En.mP (Cr.cx E k k 1))=Cr.cx E (k+1):=by
 have hk:Cr.cx E k k=E k:=abO (by omega);funext i;by_cases e:i=k
 ·rw[e,En.aB,hk];exact(abP ⟨by omega,h⟩).symm
 ·rw[En.ak e];unfold Cr.cx;by_cases c:E i 0≠0/\E i 0≠1
  ·by_cases l:i<k
   ·rw[abP ⟨l,c⟩,abP ⟨by omega,c⟩]
   ·rw[abO (by omega),abO (by omega)]
  ·rw[abO (fun h=>c h.2),abO (fun h=>c h.2)]
theorem Cr.ON{k:Nat}(h:¬(E k 0≠0/\E k 0≠1)):Cr.cx E k=Cr.cx E (k+1):=by
 funext i;unfold Cr.cx;by_cases c:E i 0≠0/\E i 0≠1
 ·by_cases l:i<k
  ·rw[abP ⟨l,c⟩,abP ⟨by omega,c⟩]
  ·have:i≠k:=fun e=>h (e▸c);rw[abO (by omega),abO (by omega)]
 ·rw[abO (fun h=>c h.2),abO (fun h=>c h.2)]
theorem tT(gE cE:Nat)(E:N2)(w:World)(hE:fg w gE 32 E)(jx:32<=cE):Calls prog 56 #[.slice (some ⟨gE,0,none⟩) 32 cE] w (Cr.pM w gE (Cr.cx E 32)):=by
 have iQ:=aa hE;have kc:=aa jx;have hH:Hid (fg w gE 32 (Cr.cx E 0)):=hE.congr fun i j _ _=>by unfold Cr.cx;rw[abO (by omega)]
 clear hE jx;go_enter func56,ntmps56;go_wp2_with fail;go_loopw [0,7] (fun v0 v7 wr=>∃(i j d:Nat),i<=32/\v7=.int .i64 (i:Int)/\v0=.slice (some ⟨j,0,none⟩) 32 d/\Hid (32<=d)/\Hid (j=gE\/w.heap.size<=j)/\Hid (fg wr j 32 (Cr.cx E i))/\Hid (w.grownBy wr none)) (fun _ v7 _=>50-(intOf v7).toNat)
 case atStart=>exact⟨0,gE,cE,by omega,rfl,rfl,kc,.inl rfl,hH,abF _ _⟩
 case round =>
  clear hH kc;obtain⟨i,j,d,hi,rfl,rfl,hd,hj,hH,hg⟩:=hrel;by_cases hlt:i<32
  ·have hlt':(i:Int)<32:=by omega
   have HL:=aa hlt;obtain⟨r0,r1,r2,r3,r4,r5,r6,r7,r8,r9,pb⟩:=((uh iQ).on (uh hg)).ai.row hlt;obtain⟨w0,aD⟩:∃w0,w0=wr.alloc (.cells (En.cells (E i)) 54):=⟨_,rfl⟩;have aN:Hid (wr.grownBy w0 none):=by rw[aD];exact abE _ _ _
   have hQ:Hid (ay w0 wr.heap.size 54 11 (bB (E i))):=by rw[aD];exact ay.ei _ _ _
   have tp:=aa ((uh hH).on (uh aN));have cm:=aa (oJ (E i) w0);have gw:=aa (Cr.Mg (E:=E) (k:=i));have hno:=aa (Cr.ON (E:=E) (k:=i));unfold En.cells at aD cm;clear hlt hi hH;go_upto_region 4 with fail;rw[<-aD];clear aD r0 r1 r2 r3 r4 r5 r6 r7 r8 r9 pb;obtain⟨B,hB⟩:=abV wr.heap.size;rw[hB]at hQ|-;clear hB;obtain⟨e0,e1,e2,e3,e4,e5,e6,e7,e8,e9,TH⟩:=(uh hQ).kt;by_cases hc:E i 0≠0/\E i 0≠1
   ·have hb:decide (E i 0≠0/\E i 0≠1)=true:=abJ hc;rw[hb]at cm;have he:=aa (uh gw hc);clear hc hb gw hno;go_wp2_with fail;refine aaR (uh cm) fun w1 hg1=>?_;have cf:=aa (zn j 32 d i (Cr.cx E i) w1 ((uh tp).on hg1).ai (uh hd) (uh HL));have hg2:=aa (gtr (uh hg) (gtr (uh aN) hg1));rw[uh he]at cf;clear hg1 cm e0 e1 e2 e3 e4 e5 e6 e7 e8 e9 TH tp hQ aN hg he;go_wp2_with fail;refine(uh cf).mono ?_;rintro e w2 ⟨j2,d2,rfl,iC,jP,tu,aH,dl⟩;have eV:=aa aH;have hg4:=aa (gtr (uh hg2) dl);have R7:=aa jP;have sN:Hid (j2=gE\/w.heap.size<=j2):=.inr (abM (uh hg2).size iC);clear iC jP tu aH dl cf;go_wp2;go_roundw
    case rel=>exact⟨i+1,j2,d2,by have:=uh HL;omega,by go_num,rfl,R7,sN,eV,hg4⟩
    case measure=>simp[intOf];have:=uh HL;omega
   ·have hb:decide (E i 0≠0/\E i 0≠1)=false:=abI hc;rw[hb]at cm;have he:=aa (uh hno hc);clear hc hb gw hno;go_wp2_with fail;refine aaR (uh cm) fun w1 hg1=>?_;have hg2:=aa (gtr (uh hg) (gtr (uh aN) hg1));have kN:Hid (fg w1 j 32 (Cr.cx E (i+1))):=by
     show fg w1 j 32 (Cr.cx E (i+1));rw[<-uh he];exact(uh tp).on hg1
    clear hg1 cm e0 e1 e2 e3 e4 e5 e6 e7 e8 e9 TH tp hQ aN hg he;go_wp2;go_roundw
    case rel=>exact⟨i+1,j,d,by have:=uh HL;omega,by go_num,rfl,hd,hj,kN,hg2⟩
    case measure=>simp[intOf];have:=uh HL;omega
  ·obtain rfl:i=32:=by omega
   have hge:¬((32:Nat):Int)<32:=by omega
   have ah:Hid (Cr.pM w gE (Cr.cx E 32) (.returned (.slice (some ⟨j,0,none⟩) 32 d)) wr):=⟨j,d,rfl,uh hd,uh hj,uh hH,uh hg⟩;clear hlt hi;go_wp2;go_ret;exact uh ah
