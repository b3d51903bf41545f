import Derived.Test.YtbanjoflgoiegaaGreatPart26
set_option maxHeartbeats 12800000
set_option maxRecDepth 8000
namespace Go.Proofs.YtbanjoflgoiegaaGreat
open Go.Proofs.Tryz
open Go.RowKit
structure Cr.W where
 s:Nat->Int
 g:Nat->Int
 c:Nat->Int
 E:Nat->Nat->Int
 I:Nat->Nat->Int
def Cr.bw(s:N1)(k:Nat)(v:Int):Nat->Int:=fun j=>if j=k then v else s j
def Cr.Below(s g:N1)(E I:N2)(T:Cr.W):Prop :=
 ∃(c:N1) (es:List (Int × Nat)) (is:List Gn.li) (F:N2),Cr.xC (s 0) (s 2+1) c es is/\Cr.fe c E 4 (Cr.jq E) F/\T=⟨Cr.bw s 2 (s 2+1),g,c,Cr.cZ F es,Cr.fU (Cr.kept I) is⟩
theorem Cr.Below.bo{s g:N1}{E I:N2}{T U:Cr.W}(h:Cr.Below s g E I T)(h':Cr.Below s g E I U):U=T:=by
 obtain⟨c,es,is,F,hl,hF,rfl⟩:=h;obtain⟨c',Yi,YV,F',sO,iU,rfl⟩:=h';obtain⟨rfl,rfl,rfl⟩:=hl.bo sO;obtain rfl:=hF.bo iU;rfl
def Cr.ft(s g c:N1)(E I:N2)(tW left:Bool)(T:Cr.W):Prop :=
 if Cr.bn E=false then T=⟨if tW=true then Cr.bw s 3 2 else s,g,c,E,I⟩
 else if left=true then(if s 2=3 then T=⟨Cr.bw s 3 1,g,c,E,I⟩else Cr.Below s g E I T)else T=⟨s,g,c,E,I⟩
theorem Cr.ft.bo{s g c:N1}{E I:N2}{tW left:Bool}{T U:Cr.W}(h:Cr.ft s g c E I tW left T)(h':Cr.ft s g c E I tW left U):U=T:=by
 unfold Cr.ft at h h';split at h
 ·rename_i hc;rw[abP hc]at h';rw[h,h']
 ·rename_i hc;rw[abO hc]at h';split at h
  ·rename_i hl;rw[abP hl]at h';split at h
   ·rename_i h3;rw[abP h3]at h';rw[h,h']
   ·rename_i h3;rw[abO h3]at h';exact h.bo h'
  ·rename_i hl;rw[abO hl]at h';rw[h,h']
def Cr.dS(how input:N1)(sp:Nat->Bool)(S T:Cr.W):Prop :=
 if S.s 3≠0 then T=⟨Cr.bw S.s 1 (S.s 1+1),S.g,S.c,S.E,S.I⟩
 else∃(A:N2)(m:Cr.M)(F J:N2),Cr.cQ S.c sp 4 S.E A/\Cr.br (Cr.bw S.s 1 (S.s 1+1)) S.c how input 4 ⟨S.g,A,S.I,false⟩ m/\Cr.cS (Cr.bw S.s 1 (S.s 1+1)) S.c 32 m.E m.I F J /\
  Cr.ft (Cr.bw S.s 1 (S.s 1+1)) m.g S.c (Cr.iw (Cr.bw S.s 1 (S.s 1+1)) S.c (Ft.ailE F J 32).1) (Ft.ailE F J 32).2 (Cr.bn S.E||Cr.bn A) m.left T
theorem Cr.dS.bo{how input:N1}{sp:Nat->Bool}{S T U:Cr.W}(h:Cr.dS how input sp S T)(h':Cr.dS how input sp S U):U=T:=by
 unfold Cr.dS at h h';split at h
 ·rename_i hc;rw[abP hc]at h';rw[h,h']
 ·rename_i hc;rw[abO hc]at h';obtain⟨A,m,F,J,hA,hm,hF,hE⟩:=h;obtain⟨A',m',F',J',jr,mf,iU,iQ⟩:=h';obtain rfl:=hA.bo jr;obtain rfl:=hm.bo mf;obtain⟨rfl,rfl⟩:=hF.bo iU;exact hE.bo iQ
structure Cr.mJ(S:Cr.W):Prop where
 wj:Cr.bs S.c S.E S.I
 ec:Nv.iy S.c
 ir:Cr.uG S.g
 f1:1<=S.s 2
 f3:S.s 2<=3
 s0:0<=S.s 3
 s2:S.s 3<=2
theorem Cr.lV(s:N1)(k:Nat)(v:Int):Cr.bw s k v k=v:=abP rfl
theorem Cr.iM(s:N1){k j:Nat}(v:Int)(h:j≠k):Cr.bw s k v j=s j:=abO h
theorem Cr.dS.kz{how input:N1}{sp:Nat->Bool}{S T:Cr.W}(h:Cr.dS how input sp S T)(hS:Cr.mJ S):Cr.mJ T/\T.s 0=S.s 0/\T.s 1=S.s 1+1/\(T.s 2=S.s 2\/T.s 2=S.s 2+1)/\(S.s 3≠0->T=⟨Cr.bw S.s 1 (S.s 1+1),S.g,S.c,S.E,S.I⟩):=by
 unfold Cr.dS at h;have n0:Cr.bw S.s 1 (S.s 1+1) 0=S.s 0:=Cr.iM _ _ (by omega);have n1:Cr.bw S.s 1 (S.s 1+1) 1=S.s 1+1:=Cr.lV _ _ _;have n2:Cr.bw S.s 1 (S.s 1+1) 2=S.s 2:=Cr.iM _ _ (by omega);have n3:Cr.bw S.s 1 (S.s 1+1) 3=S.s 3:=Cr.iM _ _ (by omega);split at h
 ·rename_i hc;rw[h];exact⟨⟨hS.wj,hS.ec,hS.ir,by show 1<=Cr.bw S.s 1 (S.s 1+1) 2;rw[n2];exact hS.f1,by show Cr.bw S.s 1 (S.s 1+1) 2<=3;rw[n2];exact hS.f3,by show 0<=Cr.bw S.s 1 (S.s 1+1) 3;rw[n3];exact hS.s0,by show Cr.bw S.s 1 (S.s 1+1) 3<=2;rw[n3];exact hS.s2⟩,n0,n1,.inl n2,fun _=>rfl⟩
 rename_i hc;obtain⟨A,m,F,J,hA,hm,hF,hE⟩:=h;have sA:=hS.wj.ml (by omega) hA;have sm:Cr.lj S.c m:=Cr.lj.nW (m:=⟨S.g,A,S.I,false⟩) ⟨sA,hS.ir⟩ hm;have sF:=sm.1.pt (by omega) hF;have sR:=(sF.IT).iw (s:=Cr.bw S.s 1 (S.s 1+1)) hS.ec;generalize Cr.iw (Cr.bw S.s 1 (S.s 1+1)) S.c (Ft.ailE F J 32).1=E2 at hE sR;generalize (Ft.ailE F J 32).2=I2 at hE sR;generalize Cr.bw S.s 1 (S.s 1+1)=s1 at *;have hz:S.s 3=0:=by
  by_cases e:S.s 3=0
  ·exact e
  ·exact absurd e hc
 have d0:∀v,Cr.bw s1 3 v 0=s1 0:=fun v=>Cr.iM _ _ (by omega);have d1:∀v,Cr.bw s1 3 v 1=s1 1:=fun v=>Cr.iM _ _ (by omega);have d2:∀v,Cr.bw s1 3 v 2=s1 2:=fun v=>Cr.iM _ _ (by omega);have d3:∀v,Cr.bw s1 3 v 3=v:=fun v=>Cr.lV _ _ _;have f1:=hS.f1;have f3:=hS.f3;unfold Cr.ft at hE;split at hE
 ·rw[hE];cases Cr.bn S.E||Cr.bn A
  ·exact⟨⟨sR,hS.ec,sm.2,by show 1<=s1 2;omega,by show s1 2<=3;omega,by show 0<=s1 3;omega,by show s1 3<=2;omega⟩,n0,n1,.inl n2,fun h=>absurd hz h⟩
  ·exact⟨⟨sR,hS.ec,sm.2,by show 1<=Cr.bw s1 3 2 2;rw[d2];omega,by show Cr.bw s1 3 2 2<=3;rw[d2];omega,by show 0<=Cr.bw s1 3 2 3;rw[d3];omega,by show Cr.bw s1 3 2 3<=2;rw[d3];omega⟩,by show Cr.bw s1 3 2 0=_;rw[d0];exact n0,by show Cr.bw s1 3 2 1=_;rw[d1];exact n1,.inl (by show Cr.bw s1 3 2 2=_;rw[d2];exact n2),fun h=>absurd hz h⟩
 ·split at hE
  ·split at hE
   ·rw[hE];exact⟨⟨sR,hS.ec,sm.2,by show 1<=Cr.bw s1 3 1 2;rw[d2];omega,by show Cr.bw s1 3 1 2<=3;rw[d2];omega,by show 0<=Cr.bw s1 3 1 3;rw[d3];omega,by show Cr.bw s1 3 1 3<=2;rw[d3];omega⟩,by show Cr.bw s1 3 1 0=_;rw[d0];exact n0,by show Cr.bw s1 3 1 1=_;rw[d1];exact n1,.inl (by show Cr.bw s1 3 1 2=_;rw[d2];exact n2),fun h=>absurd hz h⟩
   ·rename_i h3;obtain⟨c,es,is,G,hl,hG,rfl⟩:=hE;have tX:∀i,0<=c i/\c i<=255:=fun i=>⟨(hl.ec.ku i).1,by have:=(hl.ec.ku i).2;omega⟩;obtain⟨hk,gv⟩:=Cr.zW (c':=c) sR.ly.ok;have hI:=hl.lay hk gv;have hb:=Cr.pf (c:=c) (E:=E2) tX hI sR.kz.rl;have yc:=(Cr.pp sR hl.ec hl.Gs (by omega) hb (fun k _ k0=>absurd rfl k0) hG).1;have aK:=yc.cZ es (hl.mons (by omega));have e0:Cr.bw s1 2 (s1 2+1) 0=s1 0:=Cr.iM _ _ (by omega);have e1:Cr.bw s1 2 (s1 2+1) 1=s1 1:=Cr.iM _ _ (by omega);have e2:Cr.bw s1 2 (s1 2+1) 2=s1 2+1:=Cr.lV _ _ _;have e3:Cr.bw s1 2 (s1 2+1) 3=s1 3:=Cr.iM _ _ (by omega);exact⟨⟨aK,hl.ec,sm.2,by show 1<=Cr.bw s1 2 (s1 2+1) 2;rw[e2];omega,by show Cr.bw s1 2 (s1 2+1) 2<=3;rw[e2];omega,by show 0<=Cr.bw s1 2 (s1 2+1) 3;rw[e3];omega,by show Cr.bw s1 2 (s1 2+1) 3<=2;rw[e3];omega⟩,by show Cr.bw s1 2 (s1 2+1) 0=_;rw[e0];exact n0,by show Cr.bw s1 2 (s1 2+1) 1=_;rw[e1];exact n1,.inr (by show Cr.bw s1 2 (s1 2+1) 2=_;rw[e2];omega),fun h=>absurd hz h⟩
  ·rw[hE];exact⟨⟨sR,hS.ec,sm.2,by show 1<=s1 2;omega,by show s1 2<=3;omega,by show 0<=s1 3;omega,by show s1 3<=2;omega⟩,n0,n1,.inl n2,fun h=>absurd hz h⟩
def Cr.first(seed:Int):Nat->Int
 | 0=>seed
 | 2=>1
 | _=>0
def Cr.oG(seed:Int)(T:Cr.W):Prop :=
 ∃(c:N1) (es:List (Int × Nat)) (is:List Gn.li),Cr.xC seed 1 c es is/\T=⟨Cr.first seed,fun _=>0,c,Cr.cZ (fun _ _=>0) es,Cr.fU (fun _ _=>0) is⟩
theorem Cr.oG.bo{seed:Int}{T U:Cr.W}(h:Cr.oG seed T)(h':Cr.oG seed U):U=T:=by
 obtain⟨c,es,is,hl,rfl⟩:=h;obtain⟨c',Yi,YV,sO,rfl⟩:=h';obtain⟨rfl,rfl,rfl⟩:=hl.bo sO;rfl
theorem Cr.oG.kz{seed:Int}{T:Cr.W}(h:Cr.oG seed T):Cr.mJ T:=by
 obtain⟨c,es,is,hl,rfl⟩:=h;have tX:∀i,0<=c i/\c i<=255:=fun i=>⟨(hl.ec.ku i).1,by have:=(hl.ec.ku i).2;omega⟩;have hI:=hl.lay (Md.uA c) (fun k _=>⟨by show¬(0:Int)=1;omega,by show¬(0:Int)=4;omega⟩);have hb:Cr.bs c (fun _ _=>0) (Cr.fU (fun _ _=>0) is):=by
  refine⟨⟨tX,hI,fun k _=>⟨by show(0:Int)<=0;omega,by show(0:Int)<=255;omega,.inl fun _ _ _=>rfl⟩⟩,⟨fun k _ k0=>absurd rfl k0,⟨fun k _ k0=>absurd rfl k0,fun j k _ _ j0=>absurd rfl j0⟩⟩,⟨fun k _ k1=>?_,fun j k _ _ j1=>?_,fun k _ k0=>absurd rfl k0⟩⟩
  ·exact absurd k1 (by show¬(0:Int)=1;omega)
  ·exact absurd j1 (by show¬(0:Int)=1;omega)
 exact⟨hb.cZ es (hl.mons (by omega)),hl.ec,fun t _=>⟨by show(0:Int)<=0;omega,by show(0:Int)<=999;omega⟩,by show(1:Int)<=1;omega,by show(1:Int)<=3;omega,by show(0:Int)<=0;omega,by show(0:Int)<=2;omega⟩
variable{b lo n:Nat}{w x y:World}
theorem Cr.LC{p:Int × Nat}(h1:2<=p.1)(h4:p.1<=4):Gn.kt p.1 ((p.2:Int)%24) ((p.2:Int)/24)=En.cells (Cr.bo p.1 0 p.2):=by
 obtain⟨k,q⟩:=p;rcases(show k=2\/k=3\/k=4 by have ot:2<=k:=h1;have I7:k<=4:=h4;omega)with rfl|rfl|rfl <;> rfl
def Cr.tS(w:World)(a:Option Addr)(n:Nat)(es:List (Int × Nat)):Prop:=n=es.length/\n<=40/\∀i p,es[i]?=some p->(2<=p.1/\p.1<=4/\p.2<384)/\∃b,a=some ⟨b,0,none⟩/\b<w.heap.size/\∀j,j<11->w.cell? ⟨b,i*11+j,none⟩=some (.int .i64 (Cr.bo p.1 0 p.2 j))
theorem Cr.tS.on{w':World}{a:Option Addr}{es:List (Int × Nat)}(h:Cr.tS w a n es)(hg:w.grownBy w' none):Cr.tS w' a n es :=
 ⟨h.1,h.2.1,fun i p hp=>by
  obtain⟨hk,b,ha,hb,hc⟩:=h.2.2 i p hp
  exact⟨hk,b,ha,abR hb hg.size,fun j hj=>(gce hg b _ hb (by simp)).trans (hc j hj)⟩⟩
theorem Cr.uz{nE cE:Nat}{aE:Option Addr}{es:List (Int × Nat)}(h:w.ownsRow b 54 11 (.slice aE nE cE) nE (Gn.aL es))(hn:nE=es.length)(Zo:nE<=40)(hk:∀p,p∈es->2<=p.1/\p.1<=4/\p.2<384):Cr.tS w aE nE es :=
 ⟨hn,Zo,fun i p hp=>by
  have hlt:i<nE:=by
   rw[hn];exact(List.getElem?_eq_some_iff.1 hp).1
  obtain⟨g,ha,hg,hc⟩:=I4 h hp hlt;have jy:=hk p (List.mem_of_getElem? hp);refine⟨jy,g,ha,hg,fun j hj=>?_⟩;rw[hc j hj];have e:Gn.eF p=(En.cells (Cr.bo p.1 0 p.2)).toList:=by
   rw[<-Cr.LC jy.1 jy.2.1];rfl
  rw[e]
  rcases(show j=0\/j=1\/j=2\/j=3\/j=4\/j=5\/j=6\/j=7\/j=8\/j=9\/j=10 by omega)with rfl|rfl|rfl|rfl|rfl|rfl|rfl|rfl|rfl|rfl|rfl <;> rfl⟩
theorem Cr.rm{nI cI:Nat}{aI:Option Addr}{is:List Gn.li}(h:w.ownsRow b 62 4 (.slice aI nI cI) nI (Gn.jc is))(hn:nI=is.length)(Wd:nI<=100):Gd.qP w aI nI (Cr.fN is):=by
 refine⟨Wd,?_⟩;by_cases h0:nI=0
 ·exact .inl h0
 ·have iG:∀i,i<nI->∃p,is[i]?=some p:=fun i hi=>⟨is[i]'(by omega),abQ _⟩;obtain⟨p0,ub⟩:=iG 0 (by omega);obtain⟨g,ha,hg,-⟩:=tD h ub (by omega);refine .inr ⟨g,0,ha,Wd,hg,fun i j hi hj=>?_⟩;obtain⟨p,hp⟩:=iG i hi;obtain⟨g',SA,_,hc⟩:=tD h hp hi;obtain rfl:g=g':=by
   rw[ha]at SA
   simpa using SA
  rw[Nat.zero_add,hc j hj];obtain⟨e0,e1,e2,e3⟩:=Cr.rM hp;rcases(show j=0\/j=1\/j=2\/j=3 by omega)with rfl|rfl|rfl|rfl
  ·rw[e0];rfl
  ·rw[e1];rfl
  ·rw[e2];rfl
  ·rw[e3];rfl
def Cr.ll(lo:Nat)(x y:World):Prop:=x.heap.size<=y.heap.size/\∀k,lo<=k->k<x.heap.size->y.heap[k]?=x.heap[k]?
theorem Cr.ll.on{z:World}(h:Cr.ll lo x y)(hg:y.grownBy z none):Cr.ll lo x z :=
 ⟨abM h.1 hg.size,fun k h1 h2=>(hg.block k (abR h2 h.1) (by simp)).trans (h.2 k h1 h2)⟩
theorem Cr.ll.Pw(hb:b<lo\/x.heap.size<=b):∀(vs:List Value) (o:Nat) {y:World},Cr.ll lo x y->Cr.ll lo x (y.setCells b o vs):=fun vs o y h=>by
 have r:=gss (g:=b) vs o y (abF _ _)
 exact⟨abM h.1 r.size,fun k h1 h2=>(r.block k (abR h2 h.1) (by simp;omega)).trans (h.2 k h1 h2)⟩
theorem Cr.ll.set(hb:b<lo\/x.heap.size<=b)(h:Cr.ll lo x y)(o:Nat)(u:Value):Cr.ll lo x (y.setCell ⟨b,o,none⟩ u):=by
 have r:=gs0 y b o u;exact⟨abM h.1 r.size,fun k h1 h2=>(r.block k (abR h2 h.1) (by simp;omega)).trans (h.2 k h1 h2)⟩
theorem Cr.ll.Mt{e:TypeId}{z:Nat}{v:Value}{xs:List Value}(h:Cr.ll lo x y)(ho:x.ownsRow lo e z v n xs):y.ownsRow lo e z v n xs:=by
 obtain⟨h1,h2|⟨g,aG,cD,h3,h4,h5,h6⟩⟩:=ho
 ·exact⟨h1,.inl h2⟩
 ·exact⟨h1,.inr ⟨g,aG,cD,h3,h4,(h.2 g h4 (lt_of_block h5)).trans h5,h6⟩⟩
def Cr.Made(seed f:Int)(w:World)(e:Ending)(w':World):Prop :=
 ∃(c:N1) (es:List (Int × Nat)) (is:List Gn.li) (G nE nI kE kI:Nat) (aE aI:Option Addr),Cr.xC seed f c es is/\e=.returned (.agg #[.slice (some ⟨G,0,none⟩) 384 384,.slice aE nE kE,.slice aI nI kI])/\w.heap.size<=G/\ay w' G 5 384 (aZ c)/\Cr.tS w' aE nE es/\Gd.qP w' aI nI (Cr.fN is)/\nI=is.length/\w.grownBy w' none/\∀z,Cr.ll w.heap.size w' z->Cr.tS z aE nE es/\Gd.qP z aI nI (Cr.fN is)
def Cr.eR(I:N2)(n:Nat):Nat->Nat->Int:=fun k=>if k<n then Cr.kept I k else I k
theorem Cr.tF(I:N2):Cr.eR I 0=I:=by funext k;unfold Cr.eR;rw[abO (by omega)]
theorem Cr.yl(I:N2)(n:Nat):Cr.eR I n n=I n:=by unfold Cr.eR;rw[abO (by omega)]
theorem Cr.sW{I:N2}(h:I n 1=1\/I n 1=4):En.put (Cr.eR I n) n (fun _=>0)=Cr.eR I (n+1):=by
 funext k;by_cases e:k=n
 ·subst e;rw[En.aB];unfold Cr.eR Cr.kept;rw[abP (by omega),abP h]
 ·rw[En.ak e];unfold Cr.eR;by_cases hk:k<n
  ·rw[abP hk,abP (by omega)]
  ·rw[abO hk,abO (by omega)]
theorem Cr.tE{I:N2}(h:¬(I n 1=1\/I n 1=4)):Cr.eR I n=Cr.eR I (n+1):=by
 funext k;unfold Cr.eR;by_cases e:k=n
 ·subst e;rw[abO (by omega),abP (by omega)];unfold Cr.kept;rw[abO h]
 ·by_cases hk:k<n
  ·rw[abP hk,abP (by omega)]
  ·rw[abO hk,abO (by omega)]
variable{A:Nat}{T:TypeId}{b:Nat->Bool}{h i:N1}{x:World}
theorem fY(a n:Int)(w:World)(hn:0<n)(P4:n<=4611686018427387904):Calls prog 14 #[.int .i64 a,.int .i64 n] w fun e w'=>e=.returned (.int .i64 (a%n))/\w'=w:=by
 have t1:=Int.tmod_lt_of_pos a (b:=n) hn;have t2:=Int.lt_tmod_of_pos a (b:=n) hn;have hn0:(n==0)=false:=by simp;omega
 by_cases h:a.tmod n<0
 ·have ha:¬0<=a:=by
   intro h0;have:=Int.tmod_nonneg n h0;omega
  have hd:=aa (Gr.Ki a n hn h);go_enter func14,ntmps14;go_wp2;go_ret;exact⟨rti (uh hd),rfl⟩
 ·have hd:=aa (Gr.Kj a n hn h);by_cases ha:0<=a
  ·have e:a.tmod n=a%n:=abS ha;have h':¬a%n<0:=by rw[<-e];exact h
   clear h t1 t2 e;go_enter func14,ntmps14;go_wp2;go_ret;exact⟨rfl,rfl⟩
  ·go_enter func14,ntmps14;go_wp2;go_ret;exact⟨rti (uh hd),rfl⟩
def Cr.d7(h i:N1)(b:Nat->Bool):Array Value:=#[.int .i64 (h 0),.int .i64 (i 0),.bool (b 0),.int .i64 (h 1),.int .i64 (i 1),.bool (b 1),.int .i64 (h 2),.int .i64 (i 2),.bool (b 2),.int .i64 (h 3),.int .i64 (i 3),.bool (b 3)]
def Cr.iD(h i:N1)(b:Nat->Bool)(j:Nat):Value:=if j%3=0 then .int .i64 (h (j/3))else if j%3=1 then .int .i64 (i (j/3))else .bool (b (j/3))
theorem Cr.lq(hA:x.heap[A]?=some (.cells (Cr.d7 h i b) T (0,0))):ay x A T 12 (Cr.iD h i b) :=
 ay.congr (m:=12) (ax.lit hA).lie fun j hj=>by
  rcases(show j=0\/j=1\/j=2\/j=3\/j=4\/j=5\/j=6\/j=7\/j=8\/j=9\/j=10\/j=11 by omega)with rfl|rfl|rfl|rfl|rfl|rfl|rfl|rfl|rfl|rfl|rfl|rfl <;> rfl
theorem Cr.F7{t:Nat}(hA:ay x A T 12 (Cr.iD h i b))(u v:Int)(c:Bool):ay (((x.setCell ⟨A,t*3,none⟩ (.int .i64 u)).setCell ⟨A,t*3+1,none⟩ (.int .i64 v)).setCell ⟨A,t*3+2,none⟩ (.bool c)) A T 12 (Cr.iD (fun k=>if k=t then u else h k) (fun k=>if k=t then v else i k) (fun k=>if k=t then c else b k)):=by
 refine(((hA.store _ _).store _ _).store _ _).congr fun j _=>?_;unfold Cr.iD;by_cases e:j/3=t
 ·rcases(show j=t*3\/j=t*3+1\/j=t*3+2 by omega)with hj|hj|hj
  ·have h0:j%3=0:=by omega
   rw[abO (by omega),abO (by omega),abP hj,abP h0];simp only[e,if_true]
  ·have h0:j%3=1:=by omega
   rw[abO (by omega),abP hj,abO (by omega),abP h0];simp only[e,if_true]
  ·have h0:j%3=2:=by omega
   rw[abP hj,abO (by omega),abO (by omega)];simp only[e,if_true]
 ·rw[abO (by omega),abO (by omega),abO (by omega)];simp only[e,if_false]
def Cr.vF(z:Int):Int:=z%4
def Cr.JG (z:Int):Int:=z.tdiv 4%12-1
def Cr.J7 (z:Int):Bool:=z.tdiv 48%5==0
def Cr.F5(w:World)(a:Option Addr)(n:Nat)(z:N1):Prop:=∀i,i<n->∃b o,a=some ⟨b,o,none⟩/\b<w.heap.size/\w.cell? ⟨b,o+i,none⟩=some (.int .i64 (z i))/\-9223372036854775808<=z i/\z i<=9223372036854775807
theorem Cr.F5.on{w w':World}{a:Option Addr}{n:Nat}{z:N1}(h:Cr.F5 w a n z)(hg:w.grownBy w' none):Cr.F5 w' a n z:=fun i hi=>by
 obtain⟨b,o,ha,hb,hc,h1,h2⟩:=h i hi
 exact⟨b,o,ha,abR hb hg.size,(gce hg b _ hb (by simp)).trans hc,h1,h2⟩
theorem Cr.H6{u n:Int}(h1:-9223372036854775808<=u)(h2:u<=9223372036854775807)(hn:2<=n):IntKind.i64.wrap (u.tdiv n)=u.tdiv n:=by
 have key:∀v:Int,0<=v->0<=v.tdiv n/\v.tdiv n*2<=v:=fun v hv=>by
  rw[Int.tdiv_eq_ediv_of_nonneg hv];have a1:=Int.ediv_nonneg hv (show 0<=n by omega);have a2:=Int.ediv_mul_le v (show n≠0 by omega);refine⟨a1,Int.le_trans ?_ a2⟩;exact Int.mul_le_mul_of_nonneg_left hn a1
 rw[abK];by_cases h0:0<=u
 ·have:=key u h0;omega
 ·have h3:=key (-u) (by omega);rw[Int.neg_tdiv]at h3;omega
theorem Cr.jW(hA:ay x A T 12 (Cr.iD h i b)):x.cell? ⟨A,0,none⟩=some (.int .i64 (h 0))/\x.cell? ⟨A,1,none⟩=some (.int .i64 (i 0))/\x.cell? ⟨A,2,none⟩=some (.bool (b 0))/\x.cell? ⟨A,3,none⟩=some (.int .i64 (h 1))/\x.cell? ⟨A,4,none⟩=some (.int .i64 (i 1))/\x.cell? ⟨A,5,none⟩=some (.bool (b 1))/\x.cell? ⟨A,6,none⟩=some (.int .i64 (h 2))/\x.cell? ⟨A,7,none⟩=some (.int .i64 (i 2))/\x.cell? ⟨A,8,none⟩=some (.bool (b 2))/\x.cell? ⟨A,9,none⟩=some (.int .i64 (h 3))/\x.cell? ⟨A,10,none⟩=some (.int .i64 (i 3))/\x.cell? ⟨A,11,none⟩=some (.bool (b 3)) :=
 ⟨hA.cell (c:=0) (by omega),hA.cell (c:=1) (by omega),hA.cell (c:=2) (by omega),hA.cell (c:=3) (by omega),hA.cell (c:=4) (by omega),hA.cell (c:=5) (by omega),hA.cell (c:=6) (by omega),hA.cell (c:=7) (by omega),hA.cell (c:=8) (by omega),hA.cell (c:=9) (by omega),hA.cell (c:=10) (by omega),hA.cell (c:=11) (by omega)⟩
theorem Cr.Ls{t:Nat}{z:N1}{f g:Int->Int}{b:Int->Bool}(hA:ay x A T 12 (Cr.iD (fun k=>if k<t then f (z k)else 0) (fun k=>if k<t then g (z k)else 0) (fun k=>if k<t then b (z k)else false))):ay (((x.setCell ⟨A,t*3,none⟩ (.int .i64 (f (z t)))).setCell ⟨A,t*3+1,none⟩ (.int .i64 (g (z t)))).setCell ⟨A,t*3+2,none⟩ (.bool (b (z t)))) A T 12 (Cr.iD (fun k=>if k<t+1 then f (z k)else 0) (fun k=>if k<t+1 then g (z k)else 0) (fun k=>if k<t+1 then b (z k)else false)):=by
 refine(Cr.F7 hA (f (z t)) (g (z t)) (b (z t))).congr fun j _=>?_;have key:∀{α:Type} (d:α) (q:Int->α),(fun k=>if k=t then q (z t)else if k<t then q (z k)else d)=fun k=>if k<t+1 then q (z k)else d:=fun d q=>by
  funext k;by_cases e:k=t
  ·rw[abP e,abP (by omega),e]
  ·rw[abO e];by_cases h:k<t
   ·rw[abP h,abP (by omega)]
   ·rw[abO h,abO (by omega)]
 rw[key 0 f,key 0 g,key false b]
def Cr.LV(n:Nat)(z:N1)(j:Nat):Int:=if j<min 4 n then Cr.vF (z j)else 0
def Cr.VO (n:Nat) (z:N1) (j:Nat):Int:=if j<min 4 n then Cr.JG (z j)else 0
def Cr.VP (n:Nat) (z:N1) (j:Nat):Bool:=if j<min 4 n then Cr.J7 (z j)else false
theorem IS(a:Option Addr)(n k:Nat)(z:N1)(w:World)(hz:Cr.F5 w a n z):Calls prog 13 #[.slice a n k] w (aJ w (.agg (Cr.d7 (Cr.LV n z) (Cr.VO n z) (Cr.VP n z)))):=by
 obtain⟨wz,gW⟩:∃wz,wz=w.alloc (.cells (Cr.d7 (fun _=>0) (fun _=>0) (fun _=>false)) 36):=⟨_,rfl⟩;obtain⟨w0,aD⟩:∃w0,w0=wz.alloc (.cells (Cr.d7 (fun _=>0) (fun _=>0) (fun _=>false)) 36):=⟨_,rfl⟩;have fM:w.grownBy wz none:=by rw[gW];exact abE _ _ _
 have aN:wz.grownBy w0 none:=by rw[aD];exact abE _ _ _
 have sz:wz.heap.size=w.heap.size+1:=by rw[gW];simp
 obtain⟨B,hB⟩:=abV w.heap.size;rw[hB]at sz;have aM:Hid (ay w0 B 36 12 (Cr.iD (fun _=>0) (fun _=>0) (fun _=>false))):=by
  refine ay.on ?_ aN;rw[gW,<-hB];exact Cr.lq (abH w _)
 have qq:Hid (ay w0 (B+1) 36 12 (Cr.iD (fun j=>if j<0 then Cr.vF (z j)else 0) (fun j=>if j<0 then Cr.JG (z j)else 0) (fun j=>if j<0 then Cr.J7 (z j)else false))):=by
  rw[aD,<-sz];exact(Cr.lq (abH wz _)).congr fun j _=>rfl
 have hg1:=aa (gtr fM aN);have kW:=aa hz;have eu:=aa hB;clear hz fM aN sz;unfold Cr.d7 at gW aD;rw[gW]at aD;clear gW;go_enter func13,ntmps13;go_upto_region 2 with fail;dsimp only at aD;rw[<-aD];clear aD hB;go_wp2_with fail;go_loopw [4] (fun v4 wr=>∃t:Nat,t<=4/\t<=n/\v4=.int .i64 (t:Int)/\Hid (ay wr B 36 12 (Cr.iD (fun _=>0) (fun _=>0) (fun _=>false)))/\Hid (ay wr (B+1) 36 12 (Cr.iD (fun j=>if j<t then Cr.vF (z j)else 0) (fun j=>if j<t then Cr.JG (z j)else 0) (fun j=>if j<t then Cr.J7 (z j)else false)))/\Hid (w.grownBy wr none)) (fun v4 _=>10-(intOf v4).toNat)
 case atStart=>exact⟨0,by omega,by omega,rfl,aM,qq,hg1⟩
 case round =>
  clear aM qq hg1;obtain⟨t,ht4,htn,rfl,aM,qq,hg1⟩:=hrel;by_cases h4:t<4
  ·have I7:(t:Int)<4:=by omega
   by_cases hn:t<n
   ·have ju:(t:Int)<(n:Int):=(by omega);obtain⟨b,o,rfl,hb,hc,y1,y2⟩:=((uh kW).on (uh hg1)) t hn;have gM:=aa (fun x (hx:wr.grownBy x none)=>Cr.Ls (f:=Cr.vF) (g:=Cr.JG) (b:=Cr.J7) ((uh qq).on hx));have hkeep:Hid (∀x,wr.grownBy x none->x.cell? ⟨b,o+t,none⟩=some (.int .i64 (z t))):=fun x hx=>(gce hx b _ hb (by simp)).trans hc;have HL:=aa (And.intro h4 hn);obtain⟨u,hu⟩:=abV (z t);rw[hu]at gM hkeep y1 y2;have q4:IntKind.i64.wrap (u.tdiv 4)=u.tdiv 4:=Cr.H6 y1 y2 (by omega);have q48:IntKind.i64.wrap (u.tdiv 48)=u.tdiv 48:=Cr.H6 y1 y2 (by omega);have c4:=aa (fun x=>fY u 4 x (by omega) (by omega));have c12:=aa (fun x=>fY (u.tdiv 4) 12 x (by omega) (by omega));have c5:=aa (fun x=>fY (u.tdiv 48) 5 x (by omega) (by omega));have e1:Hid (Cr.vF u=u%4):=rfl;have e2:Hid (Cr.JG u=u.tdiv 4%12-1):=rfl;have e3:Hid (Cr.J7 u=(u.tdiv 48%5==0)):=rfl;have r12:Hid (0<=u.tdiv 4%12/\u.tdiv 4%12<12):=⟨Int.emod_nonneg _ (by omega),Int.emod_lt_of_pos _ (by omega)⟩;rw[uh e1,uh e2,uh e3]at gM;obtain⟨a4,ha4⟩:=abV (u%4);obtain⟨Ya,WE⟩:=abV (u.tdiv 4%12);obtain⟨a5,ha5⟩:=abV (u.tdiv 48%5);rw[ha4]at c4 gM;rw[WE]at c12 gM r12;rw[ha5]at c5 gM;have w12:IntKind.i64.wrap (Ya-1)=Ya-1:=by have:=uh r12;rw[abK];omega
    clear hu e1 e2 e3 ha4 WE ha5 hb hc y1 y2 h4 hn ht4 htn;go_upto_region 5 with fail;have fC:=aa (gd1 (abF wr none));have aK:=aa (uh gM _ (uh fC));have Re:=aa ((uh aM).on (uh fC));have hg2:=aa (gtr (uh hg1) (uh fC));have fA:=((uh qq).on (uh fC)).free;obtain⟨o0,k0⟩:∃v,wr.drew.cell? ⟨B+1,t*3,none⟩=some v:=⟨_,((uh qq).on (uh fC)).cell (by have:=uh HL;omega)⟩;obtain⟨o1,k1⟩:∃v,wr.drew.cell? ⟨B+1,t*3+1,none⟩=some v:=⟨_,((uh qq).on (uh fC)).cell (by have:=uh HL;omega)⟩;obtain⟨o2,k2⟩:∃v,wr.drew.cell? ⟨B+1,t*3+2,none⟩=some v:=⟨_,((uh qq).on (uh fC)).cell (by have:=uh HL;omega)⟩;refine bH (h:=22) (S:=fun x=>x.cell? ⟨b,o+t,none⟩=some (.int .i64 u)) (by kernel_rfl) ?_;have hS0:=uh hkeep _ (uh fC);clear gM aM qq hg1 hkeep fC;generalize wr.drew=wd at aK Re hg2 fA hS0 k0 k1 k2|-;refine wtk (i:=0) (v:=?_) [21,22] rfl (by kernel_rfl) (by kernel_rfl) (by kernel_rfl) (by kernel_rfl) (fun _ _ _ h=>h) hS0 (Or.inl ⟨by rfl,?_⟩) ?_;rotate_left
    ·intro x hSx
     try dsimp only at hSx
     go_simp
     try with_reducible rfl
    simp only[Act.put];refine wtk (i:=1) (v:=?_) [3,4,5,20,22] rfl (by kernel_rfl) (by kernel_rfl) (by kernel_rfl) (by kernel_rfl) (fun _ _ _ h=>h) hS0 (Or.inl ⟨by rfl,?_⟩) ?_;rotate_left
    ·intro x hSx
     try dsimp only at hSx
     go_simp
     try with_reducible rfl
    simp only[Act.put];refine wtk (i:=2) (v:=?_) [3,4,5,20,22] rfl (by kernel_rfl) (by kernel_rfl) (by kernel_rfl) (by kernel_rfl) (fun _ _ _ h=>h) hS0 (Or.inl ⟨by rfl,?_⟩) ?_;rotate_left
    ·intro x hSx
     try dsimp only at hSx
     go_simp
     try with_reducible rfl
    simp only[Act.put];refine wtk (i:=3) (v:=?_) [4,5,20,22] rfl (by kernel_rfl) (by kernel_rfl) (by kernel_rfl) (by kernel_rfl) (fun _ _ _ h=>h) hS0 (Or.inl ⟨by rfl,?_⟩) ?_;rotate_left
    ·intro x hSx
     try dsimp only at hSx
     go_simp
     try with_reducible rfl
    simp only[Act.put];refine wtk (i:=4) (v:=?_) [5,20,22] rfl (by kernel_rfl) (by kernel_rfl) (by kernel_rfl) (by kernel_rfl) (fun _ _ _ h=>h) hS0 (Or.inl ⟨by rfl,?_⟩) ?_;rotate_left
    ·intro x hSx
     try dsimp only at hSx
     go_simp
     try with_reducible rfl
    simp only[Act.put];refine wtk (i:=6) (v:=?_) [8,9,10,11,12,20,22] rfl (by kernel_rfl) (by kernel_rfl) (by kernel_rfl) (by kernel_rfl) (fun _ _ _ h=>h) hS0 (Or.inl ⟨by rfl,?_⟩) ?_;rotate_left
    ·intro x hSx
     try dsimp only at hSx
     go_simp
     try with_reducible rfl
    simp only[Act.put];refine wtk (i:=7) (v:=?_) [8,9,10,11,12,20,22] rfl (by kernel_rfl) (by kernel_rfl) (by kernel_rfl) (by kernel_rfl) (fun _ _ _ h=>h) hS0 (Or.inl ⟨by rfl,?_⟩) ?_;rotate_left
    ·intro x hSx
     try dsimp only at hSx
     go_simp
     try with_reducible rfl
    simp only[Act.put];refine wtk (i:=8) (v:=?_) [9,10,11,12,20,22] rfl (by kernel_rfl) (by kernel_rfl) (by kernel_rfl) (by kernel_rfl) (fun _ _ _ h=>h) hS0 (Or.inl ⟨by rfl,?_⟩) ?_;rotate_left
    ·intro x hSx
     try dsimp only at hSx
     go_simp
     try with_reducible rfl
    simp only[Act.put];refine wtk (i:=9) (v:=?_) [10,11,12,20,22] rfl (by kernel_rfl) (by kernel_rfl) (by kernel_rfl) (by kernel_rfl) (fun _ _ _ h=>h) hS0 (Or.inl ⟨by rfl,?_⟩) ?_;rotate_left
    ·intro x hSx
     try dsimp only at hSx
     go_simp
     try with_reducible rfl
    simp only[Act.put];refine wtk (i:=10) (v:=?_) [11,12,20,22] rfl (by kernel_rfl) (by kernel_rfl) (by kernel_rfl) (by kernel_rfl) (fun _ _ _ h=>h) hS0 (Or.inl ⟨by rfl,?_⟩) ?_;rotate_left
    ·intro x hSx
     try dsimp only at hSx
     go_simp
     try with_reducible rfl
    simp only[Act.put];refine wtk (i:=13) (v:=?_) [15,16,17,18,19,20,22] rfl (by kernel_rfl) (by kernel_rfl) (by kernel_rfl) (by kernel_rfl) (fun _ _ _ h=>h) hS0 (Or.inl ⟨by rfl,?_⟩) ?_;rotate_left
    ·intro x hSx
     try dsimp only at hSx
     go_simp
     try with_reducible rfl
    simp only[Act.put];refine wtk (i:=14) (v:=?_) [15,16,17,18,19,20,22] rfl (by kernel_rfl) (by kernel_rfl) (by kernel_rfl) (by kernel_rfl) (fun _ _ _ h=>h) hS0 (Or.inl ⟨by rfl,?_⟩) ?_;rotate_left
    ·intro x hSx
     try dsimp only at hSx
     go_simp
     try with_reducible rfl
    simp only[Act.put];refine wtk (i:=15) (v:=?_) [16,17,18,19,20,22] rfl (by kernel_rfl) (by kernel_rfl) (by kernel_rfl) (by kernel_rfl) (fun _ _ _ h=>h) hS0 (Or.inl ⟨by rfl,?_⟩) ?_;rotate_left
    ·intro x hSx
     try dsimp only at hSx
     go_simp
     try with_reducible rfl
    simp only[Act.put];refine wtk (i:=16) (v:=?_) [17,18,19,20,22] rfl (by kernel_rfl) (by kernel_rfl) (by kernel_rfl) (by kernel_rfl) (fun _ _ _ h=>h) hS0 (Or.inl ⟨by rfl,?_⟩) ?_;rotate_left
    ·intro x hSx
     try dsimp only at hSx
     go_simp
     try with_reducible rfl
    simp only[Act.put];refine wtk (i:=17) (v:=?_) [18,19,20,22] rfl (by kernel_rfl) (by kernel_rfl) (by kernel_rfl) (by kernel_rfl) (fun _ _ _ h=>h) hS0 (Or.inl ⟨by rfl,?_⟩) ?_;rotate_left
    ·intro x hSx
     try dsimp only at hSx
     go_simp
     try with_reducible rfl
    simp only[Act.put];refine wto (j:=5) (by kernel_rfl) rfl (fun K hK=>?_);go_simp;refine abW (uh c4 _) ?_
    try go_simp
    refine hK.out _ _ (fun _=>hS0) ?_;clear hK K;refine wto (j:=11) (by kernel_rfl) rfl (fun K hK=>?_);go_simp;refine abW (uh c12 _) ?_
    try go_simp
    refine hK.out _ _ (fun _=>hS0) ?_;clear hK K;refine wtk (i:=12) (v:=?_) [20,22] rfl (by kernel_rfl) (by kernel_rfl) (by kernel_rfl) (by kernel_rfl) (fun _ _ _ h=>h) hS0 (Or.inl ⟨by rfl,?_⟩) ?_;rotate_left
    ·intro x hSx
     try dsimp only at hSx
     go_simp
     try with_reducible rfl
    simp only[Act.put];refine wto (j:=18) (by kernel_rfl) rfl (fun K hK=>?_);go_simp;refine abW (uh c5 _) ?_
    try go_simp
    refine hK.out _ _ (fun _=>hS0) ?_;clear hK K;refine wtk (i:=19) (v:=?_) [20,22] rfl (by kernel_rfl) (by kernel_rfl) (by kernel_rfl) (by kernel_rfl) (fun _ _ _ h=>h) hS0 (Or.inl ⟨by rfl,?_⟩) ?_;rotate_left
    ·intro x hSx
     try dsimp only at hSx
     go_simp
     try with_reducible rfl
    simp only[Act.put];refine wtk (i:=20) (v:=?_) [22] rfl (by kernel_rfl) (by kernel_rfl) (by kernel_rfl) (by kernel_rfl) (fun _ _ _ h=>h) hS0 (Or.inl ⟨by rfl,?_⟩) ?_;rotate_left
    ·intro x hSx
     try dsimp only at hSx
     go_simp
     try with_reducible rfl
    simp only[Act.put];refine wtk (i:=21) (v:=?_) [22] rfl (by kernel_rfl) (by kernel_rfl) (by kernel_rfl) (by kernel_rfl) (fun _ _ _ h=>h) hS0 (Or.inl ⟨by rfl,?_⟩) ?_;rotate_left
    ·intro x hSx
     try dsimp only at hSx
     go_simp
     try with_reducible rfl
    simp only[Act.put];refine wto (j:=22) (by kernel_rfl) rfl (fun K hK=>?_);go_simp;refine hK.out _ _ (fun hx=>absurd (hx.symm.trans (by kernel_rfl)) abT) ?_;clear hK K;refine cy (by kernel_rfl) ?_ _;have pk:Hid (∀v0 v1 v2,ay (((wd.setCell ⟨B+1,t*3,none⟩ v0).setCell ⟨B+1,t*3+1,none⟩ v1).setCell ⟨B+1,t*3+2,none⟩ v2) B 36 12 (Cr.iD (fun _=>0) (fun _=>0) (fun _=>false))):=fun v0 v1 v2=>(((uh Re).aP (by omega) _ v0).aP (by omega) _ v1).aP (by omega) _ v2;have dl:Hid (∀v0 v1 v2,w.grownBy (((wd.setCell ⟨B+1,t*3,none⟩ v0).setCell ⟨B+1,t*3+1,none⟩ v1).setCell ⟨B+1,t*3+2,none⟩ v2) none):=fun v0 v1 v2=>gsr (gsr (gsr (uh hg2) ⟨B+1,t*3,none⟩ (by rw[uh eu];show B<=B+1;omega) v0) ⟨B+1,t*3+1,none⟩ (by rw[uh eu];show B<=B+1;omega) v1) ⟨B+1,t*3+2,none⟩ (by rw[uh eu];show B<=B+1;omega) v2;go_wp2;go_roundw
    case rel=>exact⟨t+1,by have:=uh HL;omega,by have:=uh HL;omega,by go_num,uh pk _ _ _,aK,uh dl _ _ _⟩
    case measure=>simp[intOf];have:=uh HL;omega
   ·have ju:¬(t:Int)<(n:Int):=(by omega);have XJ:t=min 4 n:=(by omega);rw[XJ]at qq;clear XJ ht4 htn h4 hn;obtain⟨hf,Uv⟩:∃hf,(fun j=>if j<min 4 n then Cr.vF (z j)else 0)=hf:=⟨_,rfl⟩;obtain⟨nf,UI⟩:∃nf,(fun j=>if j<min 4 n then Cr.JG (z j)else 0)=nf:=⟨_,rfl⟩;obtain⟨bf,Uf⟩:∃bf,(fun j=>if j<min 4 n then Cr.J7 (z j)else false)=bf:=⟨_,rfl⟩;rw[Uv,UI,Uf]at qq;obtain⟨y0,y1,y2,y3,y4,y5,y6,y7,y8,y9,y10,y11⟩:=Cr.jW (uh qq);obtain⟨z0,z1,z2,z3,z4,z5,z6,z7,z8,z9,bO,z11⟩:=Cr.jW (uh aM);have fz:=(uh aM).free;have ma:Hid (∀vs,aJ w (.agg (Cr.d7 hf nf bf)) (.returned (.agg (Cr.d7 hf nf bf))) (wr.setCells B 0 vs)):=fun vs=>⟨rfl,aA (by rw[uh eu];omega) _ 0 wr (uh hg1)⟩;have hP:Hid (∀e x,aJ w (.agg (Cr.d7 hf nf bf)) e x->aJ w (.agg (Cr.d7 (Cr.LV n z) (Cr.VO n z) (Cr.VP n z))) e x):=fun e x h=>by
     have a1:Cr.LV n z=hf:=Uv;have a2:Cr.VO n z=nf:=UI;have a3:Cr.VP n z=bf:=Uf;rw[a1,a2,a3];exact h
    clear Uv UI Uf;go_wp2;refine abN (v:=.agg (Cr.d7 hf nf bf)) (by simp[results,results13,go_sem,Cr.d7,z0,z1,z2,z3,z4,z5,z6,z7,z8,z9,bO,z11]) rfl ?_;exact uh hP _ _ (uh ma [_,_,_,_,_,_,_,_,_,_,_,_])
  ·have I7:¬(t:Int)<4:=by omega
   have XJ:t=min 4 n:=by omega
   rw[XJ]at qq;clear XJ ht4 htn h4;obtain⟨hf,Uv⟩:∃hf,(fun j=>if j<min 4 n then Cr.vF (z j)else 0)=hf:=⟨_,rfl⟩;obtain⟨nf,UI⟩:∃nf,(fun j=>if j<min 4 n then Cr.JG (z j)else 0)=nf:=⟨_,rfl⟩;obtain⟨bf,Uf⟩:∃bf,(fun j=>if j<min 4 n then Cr.J7 (z j)else false)=bf:=⟨_,rfl⟩;rw[Uv,UI,Uf]at qq;obtain⟨y0,y1,y2,y3,y4,y5,y6,y7,y8,y9,y10,y11⟩:=Cr.jW (uh qq);obtain⟨z0,z1,z2,z3,z4,z5,z6,z7,z8,z9,bO,z11⟩:=Cr.jW (uh aM);have fz:=(uh aM).free;have ma:Hid (∀vs,aJ w (.agg (Cr.d7 hf nf bf)) (.returned (.agg (Cr.d7 hf nf bf))) (wr.setCells B 0 vs)):=fun vs=>⟨rfl,aA (by rw[uh eu];omega) _ 0 wr (uh hg1)⟩;have hP:Hid (∀e x,aJ w (.agg (Cr.d7 hf nf bf)) e x->aJ w (.agg (Cr.d7 (Cr.LV n z) (Cr.VO n z) (Cr.VP n z))) e x):=fun e x h=>by
    have a1:Cr.LV n z=hf:=Uv;have a2:Cr.VO n z=nf:=UI;have a3:Cr.VP n z=bf:=Uf;rw[a1,a2,a3];exact h
   clear Uv UI Uf;go_wp2;refine abN (v:=.agg (Cr.d7 hf nf bf)) (by simp[results,results13,go_sem,Cr.d7,z0,z1,z2,z3,z4,z5,z6,z7,z8,z9,bO,z11]) rfl ?_;exact uh hP _ _ (uh ma [_,_,_,_,_,_,_,_,_,_,_,_])
variable{E I:N2}{P cC cE cI gC gE gI:Nat}{c g g' how inp s s':N1}{sp:Nat->Bool}{v x:World}
def Cr.Gv(s:N1)(gC gE gI cC cE cI:Nat)(g how inp:N1)(sp:Nat->Bool)(bK left:Bool)(j:Nat):Value :=
 if j<11 then Gd.box s gC gE gI cC cE cI g j else if j<23 then Cr.iD how inp sp (j-11)else if j=23 then .bool bK else .bool left
structure Cr.ik(v x:World)(P gC gE gI cC cE cI:Nat)(how inp:N1)(sp:Nat->Bool)(bK left:Bool)(s g c:N1)(E I:N2):Prop where
 box:ay x P 64 25 (Cr.Gv s gC gE gI cC cE cI g how inp sp bK left)
 ab:Gd.av x gC gE gI c E I
 aG:32<=cE/\384<=cC
 lP:v.heap.size<=P
 lC:v.heap.size<=gC
 lE:v.heap.size<=gE
 lI:v.heap.size<=gI
 cE:gC≠gE
 cI:gC≠gI
 eI:gE≠gI
 grown:v.grownBy x none
theorem Cr.ik.on{y:World}{bK left:Bool}(h:Cr.ik v x P gC gE gI cC cE cI how inp sp bK left s g c E I)(hg:x.grownBy y none):Cr.ik v y P gC gE gI cC cE cI how inp sp bK left s g c E I :=
 { h with box:=h.box.on hg,ab:=h.ab.on hg,grown:=gtr h.grown hg }
theorem Cr.ik.apart{bK left:Bool}(h:Cr.ik v x P gC gE gI cC cE cI how inp sp bK left s g c E I):P≠gC/\P≠gE/\P≠gI :=
 ⟨h.box.ao h.ab.cells (by decide),h.box.ao h.ab.ai (by decide),h.box.ao h.ab.aj (by decide)⟩
theorem Cr.zo{bK left:Bool}{j:Nat}(hj:j<11):Cr.Gv s gC gE gI cC cE cI g how inp sp bK left j=Gd.box s gC gE gI cC cE cI g j:=abP hj
theorem Cr.QK{bK left:Bool}{j:Nat}(hj:j<12):Cr.Gv s gC gE gI cC cE cI g how inp sp bK left (11+j)=Cr.iD how inp sp j:=by
 unfold Cr.Gv;rw[abO (by omega),abP (by omega),show 11+j-11=j by omega]
theorem Cr.ik.ae{bK left:Bool}(h:Cr.ik v x P gC gE gI cC cE cI how inp sp bK left s g c E I):x.cell? ⟨P,0,none⟩=some (.int .i64 (s 0))/\x.cell? ⟨P,1,none⟩=some (.int .i64 (s 1))/\x.cell? ⟨P,2,none⟩=some (.int .i64 (s 2))/\x.cell? ⟨P,3,none⟩=some (.int .i64 (s 3))/\x.cell? ⟨P,4,none⟩=some (.slice (some ⟨gC,0,none⟩) 384 cC)/\x.cell? ⟨P,5,none⟩=some (.slice (some ⟨gE,0,none⟩) 32 cE)/\x.cell? ⟨P,6,none⟩=some (.slice (some ⟨gI,0,none⟩) 40 cI)/\x.cell? ⟨P,7,none⟩=some (.int .i64 (g 0))/\x.cell? ⟨P,8,none⟩=some (.int .i64 (g 1))/\x.cell? ⟨P,9,none⟩=some (.int .i64 (g 2))/\x.cell? ⟨P,10,none⟩=some (.int .i64 (g 3)):=by
 have hc:∀j,j<11->x.cell? ⟨P,j,none⟩=some (Gd.box s gC gE gI cC cE cI g j):=fun j hj=>(h.box.cell (c:=j) (by omega)).trans (by rw[Cr.zo hj]);exact⟨hc 0 (by omega),hc 1 (by omega),hc 2 (by omega),hc 3 (by omega),hc 4 (by omega),hc 5 (by omega),hc 6 (by omega),hc 7 (by omega),hc 8 (by omega),hc 9 (by omega),hc 10 (by omega)⟩
theorem Cr.ik.l8{bK left:Bool}(h:Cr.ik v x P gC gE gI cC cE cI how inp sp bK left s g c E I):x.cell? ⟨P,23,none⟩=some (.bool bK)/\x.cell? ⟨P,24,none⟩=some (.bool left) :=
 ⟨h.box.cell (c:=23) (by omega),h.box.cell (c:=24) (by omega)⟩
theorem Cr.ik.dQ{bK left:Bool}(h:Cr.ik v x P gC gE gI cC cE cI how inp sp bK left s g c E I){t:Nat}(ht:t<4):x.cell? ⟨P,11+t*3,none⟩=some (.int .i64 (how t))/\x.cell? ⟨P,11+t*3+1,none⟩=some (.int .i64 (inp t))/\x.cell? ⟨P,11+t*3+2,none⟩=some (.bool (sp t)):=by
 have hc:∀j,j<12->x.cell? ⟨P,11+j,none⟩=some (Cr.iD how inp sp j):=fun j hj=>(h.box.cell (c:=11+j) (by omega)).trans (by rw[Cr.QK hj]);refine⟨(hc (t*3) (by omega)).trans ?_,(hc (t*3+1) (by omega)).trans ?_,(hc (t*3+2) (by omega)).trans ?_⟩ <;> unfold Cr.iD
 ·rw[abP (by omega),show t*3/3=t by omega]
 ·rw[abO (by omega),abP (by omega),show(t*3+1)/3=t by omega]
 ·rw[abO (by omega),abO (by omega),show(t*3+2)/3=t by omega]
theorem Cr.ik.wG{bK left:Bool}(h:Cr.ik v x P gC gE gI cC cE cI how inp sp bK left s g c E I):x.cell? ⟨P,11,none⟩=some (.int .i64 (how 0))/\x.cell? ⟨P,12,none⟩=some (.int .i64 (inp 0))/\x.cell? ⟨P,13,none⟩=some (.bool (sp 0))/\x.cell? ⟨P,14,none⟩=some (.int .i64 (how 1))/\x.cell? ⟨P,15,none⟩=some (.int .i64 (inp 1))/\x.cell? ⟨P,16,none⟩=some (.bool (sp 1))/\x.cell? ⟨P,17,none⟩=some (.int .i64 (how 2))/\x.cell? ⟨P,18,none⟩=some (.int .i64 (inp 2))/\x.cell? ⟨P,19,none⟩=some (.bool (sp 2))/\x.cell? ⟨P,20,none⟩=some (.int .i64 (how 3))/\x.cell? ⟨P,21,none⟩=some (.int .i64 (inp 3))/\x.cell? ⟨P,22,none⟩=some (.bool (sp 3)) :=
 ⟨(h.dQ (t:=0) (by omega)).1,(h.dQ (t:=0) (by omega)).2.1,(h.dQ (t:=0) (by omega)).2.2,(h.dQ (t:=1) (by omega)).1,(h.dQ (t:=1) (by omega)).2.1,(h.dQ (t:=1) (by omega)).2.2,(h.dQ (t:=2) (by omega)).1,(h.dQ (t:=2) (by omega)).2.1,(h.dQ (t:=2) (by omega)).2.2,(h.dQ (t:=3) (by omega)).1,(h.dQ (t:=3) (by omega)).2.1,(h.dQ (t:=3) (by omega)).2.2⟩
theorem Cr.ik.set{gC' gE' gI' cC' cE' cI':Nat}{bK left met' left':Bool}(h:Cr.ik v x P gC gE gI cC cE cI how inp sp bK left s g c E I)(k:Nat)(u:Value)(he:∀j,j<25->(if j=k then u else Cr.Gv s gC gE gI cC cE cI g how inp sp bK left j)=Cr.Gv s' gC' gE' gI' cC' cE' cI' g' how inp sp met' left' j):ay (x.setCell ⟨P,k,none⟩ u) P 64 25 (Cr.Gv s' gC' gE' gI' cC' cE' cI' g' how inp sp met' left')/\Gd.av (x.setCell ⟨P,k,none⟩ u) gC gE gI c E I/\v.grownBy (x.setCell ⟨P,k,none⟩ u) none:=by
 obtain⟨n1,n2,n3⟩:=h.apart;exact⟨(h.box.store k u).congr he,⟨h.ab.cells.aP n1 _ _,h.ab.ai.aP n2 _ _,h.ab.aj.aP n3 _ _⟩,gsr h.grown ⟨P,k,none⟩ h.lP _⟩
theorem Cr.ik.bK{bK left:Bool}(h:Cr.ik v x P gC gE gI cC cE cI how inp sp bK left s g c E I)(b:Bool):Cr.ik v (x.setCell ⟨P,23,none⟩ (.bool b)) P gC gE gI cC cE cI how inp sp b left s g c E I:=by
 obtain⟨h1,h2,h3⟩:=h.set 23 (.bool b) (s':=s) (gC':=gC) (gE':=gE) (gI':=gI) (cC':=cC) (cE':=cE) (cI':=cI) (g':=g) (met':=b) (left':=left) fun j _=>by
  unfold Cr.Gv;by_cases e:j=23
  ·rw[abP e,abO (by omega),abO (by omega),abP e]
  ·rw[abO e,abO e,abO e]
 exact { h with box:=h1,ab:=h2,grown:=h3 }
theorem Cr.ik.left{bK left:Bool}(h:Cr.ik v x P gC gE gI cC cE cI how inp sp bK left s g c E I)(b:Bool):Cr.ik v (x.setCell ⟨P,24,none⟩ (.bool b)) P gC gE gI cC cE cI how inp sp bK b s g c E I:=by
 obtain⟨h1,h2,h3⟩:=h.set 24 (.bool b) (s':=s) (gC':=gC) (gE':=gE) (gI':=gI) (cC':=cC) (cE':=cE) (cI':=cI) (g':=g) (met':=bK) (left':=b) fun j hj=>by
  unfold Cr.Gv;by_cases e:j=24
  ·rw[abP e,abO (by omega),abO (by omega),abO (by omega)]
  ·rw[abO e];by_cases e1:j<11
   ·rw[abP e1,abP e1]
   ·by_cases e2:j<23
    ·rw[abO e1,abO e1,abP e2,abP e2]
    ·rw[abO e1,abO e1,abO e2,abO e2,abP (show j=23 by omega),abP (show j=23 by omega)]
 exact { h with box:=h1,ab:=h2,grown:=h3 }
theorem Cr.Gw{gC' gE' gI' cC' cE' cI' k:Nat}{bK left:Bool}{u:Value}(he:∀j,j<11->(if j=k then u else Gd.box s gC gE gI cC cE cI g j)=Gd.box s' gC' gE' gI' cC' cE' cI' g' j)(hk:k<11):∀j,j<25->(if j=k then u else Cr.Gv s gC gE gI cC cE cI g how inp sp bK left j)=Cr.Gv s' gC' gE' gI' cC' cE' cI' g' how inp sp bK left j:=fun j _=>by
 by_cases e:j<11
 ·rw[Cr.zo e,Cr.zo e,he j e]
 ·rw[abO (by omega)]
  unfold Cr.Gv
  rw[abO e,abO e]
theorem Cr.ik.bw{bK left:Bool}(h:Cr.ik v x P gC gE gI cC cE cI how inp sp bK left s g c E I)(k:Nat)(hk:k<4)(u:Int):Cr.ik v (x.setCell ⟨P,k,none⟩ (.int .i64 u)) P gC gE gI cC cE cI how inp sp bK left (Cr.bw s k u) g c E I:=by
 obtain⟨h1,h2,h3⟩:=h.set k (.int .i64 u) (Cr.Gw (s':=Cr.bw s k u) (gC':=gC) (gE':=gE) (gI':=gI) (cC':=cC) (cE':=cE) (cI':=cI) (g':=g) (fun j hj=>by
  rcases(show k=0\/k=1\/k=2\/k=3 by omega)with rfl|rfl|rfl|rfl <;> rcases(show j=0\/j=1\/j=2\/j=3\/j=4\/j=5\/j=6\/j=7\/j=8\/j=9\/j=10 by omega)with rfl|rfl|rfl|rfl|rfl|rfl|rfl|rfl|rfl|rfl|rfl <;> rfl) (by omega))
 exact { h with box:=h1,ab:=h2,grown:=h3 }
theorem Cr.ik.folk{x':World}{jE dE:Nat}{bK left:Bool}{F:N2}(h:Cr.ik v x P gC gE gI cC cE cI how inp sp bK left s g c E I)(ap:32<=dE)(hj:jE=gE\/x.heap.size<=jE)(hO:fg x' jE 32 F)(hg:x.grownBy x' none):Cr.ik v (x'.setCell ⟨P,5,none⟩ (.slice (some ⟨jE,0,none⟩) 32 dE)) P gC jE gI cC dE cI how inp sp bK left s g c F I:=by
 have h':=h.on hg;have q1:=h.ab.cells.lt;have q2:=h.ab.aj.lt;have q3:=h.cE;have q4:=h.eI;have q5:=h.lE;have q6:=h.grown.size;have hE:=hO.lie (m:=352) (by omega);have nE:P≠jE:=h'.box.ao hE (by decide);obtain⟨h1,h2,h3⟩:=h'.set 5 (.slice (some ⟨jE,0,none⟩) 32 dE) (Cr.Gw (s':=s) (gC':=gC) (gE':=jE) (gI':=gI) (cC':=cC) (cE':=dE) (cI':=cI) (g':=g) (Gd.Ge s g gC gE gI cC cE cI jE dE) (by omega));exact⟨h1,⟨h2.cells,hE.aP nE _ _,h2.aj⟩,⟨ap,h.aG.2⟩,h.lP,h.lC,by omega,h.lI,by omega,h.cI,by omega,h3⟩
theorem Cr.ik.gN{bK left:Bool}(h:Cr.ik v x P gC gE gI cC cE cI how inp sp bK left s g c E I)(k j:Nat)(hj:j<11)(u:Int):Cr.ik v (x.setCell ⟨gE,k*11+j,none⟩ (.int .i64 u)) P gC gE gI cC cE cI how inp sp bK left s g c (Gd.set E k j u) I:=by
 obtain⟨n1,n2,n3⟩:=h.apart;exact { h with box:=h.box.aP n2.symm _ _,ab:=⟨h.ab.cells.aP h.cE.symm _ _,h.ab.ai.gN k j hj u,h.ab.aj.aP h.eI _ _⟩,grown:=gsr h.grown ⟨gE,k*11+j,none⟩ h.lE _ }
theorem Cr.ik.uL{Q m:Nat}{T:TypeId}{H:Nat->Value}{bK left:Bool}(h:Cr.ik v x P gC gE gI cC cE cI how inp sp bK left s g c E I)(lQ:v.heap.size<=Q)(hQ:ay x Q T m H)(hT:64≠T)(nE:Q≠gC/\Q≠gE/\Q≠gI)(k:Nat)(u:Value):Cr.ik v (x.setCell ⟨Q,k,none⟩ u) P gC gE gI cC cE cI how inp sp bK left s g c E I :=
 { h with box:=h.box.aP (h.box.ao hQ hT).symm _ _,ab:=⟨h.ab.cells.aP nE.1 _ _,h.ab.ai.aP nE.2.1 _ _,h.ab.aj.aP nE.2.2 _ _⟩,grown:=gsr h.grown ⟨Q,k,none⟩ lQ _ }
theorem Cr.ik.over{x':World}{jC jE jI dC dE dI:Nat}{bK left:Bool}{c':N1}{F J:N2}(h:Cr.ik v x P gC gE gI cC cE cI how inp sp bK left s g c E I)(ap:32<=dE/\384<=dC)(l1:x.heap.size<=jC)(l2:x.heap.size<=jE)(l3:x.heap.size<=jI)(n1:jC≠jE)(n2:jC≠jI)(n3:jE≠jI)(hL:Gd.av x' jC jE jI c' F J)(hg:x.grownBy x' none):Cr.ik v (x'.setCells P 0 (Gd.world s' jC jE jI dC dE dI g').toList) P jC jE jI dC dE dI how inp sp bK left s' g' c' F J:=by
 have h':=h.on hg;have q:=h.grown.size;have m1:P≠jC:=h'.box.ao hL.cells (by decide);have m2:P≠jE:=h'.box.ao hL.ai (by decide);have m3:P≠jI:=h'.box.ao hL.aj (by decide);refine⟨(h'.box.kl 0 _).congr fun j hj=>?_,⟨hL.cells.aQ m1 _ _,hL.ai.aQ m2 _ _,hL.aj.aQ m3 _ _⟩,ap,h.lP,by omega,by omega,by omega,n1,n2,n3,aA h.lP _ 0 x' h'.grown⟩;show(if 0<=j/\j<0+11 then(Gd.world s' jC jE jI dC dE dI g').toList[j-0]?.getD undef else Cr.Gv s gC gE gI cC cE cI g how inp sp bK left j)=_;by_cases e:j<11
 ·rw[abP (by omega),Nat.sub_zero,Array.getElem?_toList,Gd.wK s' jC jE jI dC dE dI g' j e,Cr.zo e];rfl
 ·rw[abO (by omega)];unfold Cr.Gv;rw[abO e,abO e]
def Cr.tR(v:World)(P:Nat)(how inp:N1)(sp:Nat->Bool)(bK left:Bool)(s g c:N1)(E I:N2)(e:Ending)(x:World):Prop :=
 e=.returned (.tuple #[])/\∃gC gE gI cC cE cI,Cr.ik v x P gC gE gI cC cE cI how inp sp bK left s g c E I
variable{E:N2}{bK left:Bool}{how inp:N1}{sp:Nat->Bool}
theorem Cr.JO{e:N1}{k:Nat}(k0:E k 0≠0):Cr.dX E e k=E k:=by
 rcases Cr.nV E e with h|⟨f,_,f0,_,h⟩
 ·rw[h]
 ·rw[h,En.ak (fun x=>k0 (by rw[x];exact f0))]
theorem Cr.yq{t k:Nat}(ht:t<4)(hk:k<32)(k1:E k 0=1)(k2:E k 2=(t:Int)):Cr.bn E=true:=by
 refine abJ ⟨t,ht,?_⟩;unfold Gd.aV;rcases En.aw (En.dg E (t:Int)) 32 with⟨_,hno⟩|⟨j,_,hj,_⟩
 ·have:=hno k hk;simp[En.dg,k1,k2]at this
 ·omega
theorem Cr.gD.bn{c:N1}{t:Int}{sp:Bool}{F:N2}(h:Cr.gD c t sp E F)(hm:Cr.bn E=true):Cr.bn F=true:=by
 unfold Cr.gD at h;split at h
 ·obtain⟨v,_,⟨_,rfl⟩|⟨q,_,rfl⟩⟩:=h
  ·exact hm
  ·obtain⟨t',ht,h0⟩:=of_decide_eq_true hm;obtain⟨k,hk,_,k2,k1⟩:=Gd.gV h0;have e:=Cr.JO (e:=Cr.bo 1 t q) (E:=E) (k:=k) (by omega);exact Cr.yq ht hk (by rw[e];exact k1) (by rw[e];exact k2)
 ·rw[h];exact hm
theorem Cr.cQ.bn{c:N1}{sp:Nat->Bool}:∀{t:Nat} {E F:N2},Cr.cQ c sp t E F->Cr.bn E=true->Cr.bn F=true
 | 0,_,_,h,hm=>by rw[h];exact hm
 | _+1,_,_,⟨_,hG,hF⟩,hm=>hF.bn (hG.bn hm)
def Cr.jb(how inp:N1)(sp:Nat->Bool)(S:Cr.W)(n:Nat)(bK left:Bool)(T:Cr.W):Prop :=
 if n=0 then left=false/\T=⟨Cr.bw S.s 1 (S.s 1+1),S.g,S.c,S.E,S.I⟩
 else if n=1 then∃A,Cr.cQ S.c sp 4 S.E A/\bK=Cr.bn A/\left=false/\T=⟨Cr.bw S.s 1 (S.s 1+1),S.g,S.c,A,S.I⟩
 else if n=2 then∃A m,Cr.cQ S.c sp 4 S.E A/\Cr.br (Cr.bw S.s 1 (S.s 1+1)) S.c how inp 4 ⟨S.g,A,S.I,false⟩ m/\bK=Cr.bn A/\left=m.left/\T=⟨Cr.bw S.s 1 (S.s 1+1),m.g,S.c,m.E,m.I⟩
 else if n=3 then∃A m F J,Cr.cQ S.c sp 4 S.E A/\Cr.br (Cr.bw S.s 1 (S.s 1+1)) S.c how inp 4 ⟨S.g,A,S.I,false⟩ m/\Cr.cS (Cr.bw S.s 1 (S.s 1+1)) S.c 32 m.E m.I F J/\bK=Cr.bn A/\left=m.left/\T=⟨Cr.bw S.s 1 (S.s 1+1),m.g,S.c,F,J⟩
 else if n=4 then∃A m F J,Cr.cQ S.c sp 4 S.E A/\Cr.br (Cr.bw S.s 1 (S.s 1+1)) S.c how inp 4 ⟨S.g,A,S.I,false⟩ m/\Cr.cS (Cr.bw S.s 1 (S.s 1+1)) S.c 32 m.E m.I F J/\bK=Cr.bn A/\left=m.left/\T=⟨Cr.bw S.s 1 (S.s 1+1),m.g,S.c,Cr.iw (Cr.bw S.s 1 (S.s 1+1)) S.c (Ft.ailE F J 32).1,(Ft.ailE F J 32).2⟩
 else Cr.dS how inp sp S T
theorem Cr.jb.ly{S T:Cr.W}{n:Nat}(h:Cr.jb how inp sp S n bK left T)(hS:Cr.mJ S)(hn:n<=4):Cr.bs T.c T.E T.I/\Cr.uG T.g/\Nv.iy T.c/\1<=T.s 2/\T.s 2<=3:=by
 have n2:Cr.bw S.s 1 (S.s 1+1) 2=S.s 2:=Cr.iM _ _ (by omega);have f1:=hS.f1;have f3:=hS.f3;unfold Cr.jb at h;split at h
 ·obtain⟨_,rfl⟩:=h;exact⟨hS.wj,hS.ir,hS.ec,by show 1<=Cr.bw S.s 1 (S.s 1+1) 2;omega,by show Cr.bw S.s 1 (S.s 1+1) 2<=3;omega⟩
 split at h
 ·obtain⟨A,hA,_,_,rfl⟩:=h;exact⟨hS.wj.ml (by omega) hA,hS.ir,hS.ec,by show 1<=Cr.bw S.s 1 (S.s 1+1) 2;omega,by show Cr.bw S.s 1 (S.s 1+1) 2<=3;omega⟩
 split at h
 ·obtain⟨A,m,hA,hm,_,_,rfl⟩:=h;have sm:Cr.lj S.c m:=Cr.lj.nW (m:=⟨S.g,A,S.I,false⟩) ⟨hS.wj.ml (by omega) hA,hS.ir⟩ hm;exact⟨sm.1,sm.2,hS.ec,by show 1<=Cr.bw S.s 1 (S.s 1+1) 2;omega,by show Cr.bw S.s 1 (S.s 1+1) 2<=3;omega⟩
 split at h
 ·obtain⟨A,m,F,J,hA,hm,hF,_,_,rfl⟩:=h;have sm:Cr.lj S.c m:=Cr.lj.nW (m:=⟨S.g,A,S.I,false⟩) ⟨hS.wj.ml (by omega) hA,hS.ir⟩ hm;exact⟨sm.1.pt (by omega) hF,sm.2,hS.ec,by show 1<=Cr.bw S.s 1 (S.s 1+1) 2;omega,by show Cr.bw S.s 1 (S.s 1+1) 2<=3;omega⟩
 split at h
 ·obtain⟨A,m,F,J,hA,hm,hF,_,_,rfl⟩:=h;have sm:Cr.lj S.c m:=Cr.lj.nW (m:=⟨S.g,A,S.I,false⟩) ⟨hS.wj.ml (by omega) hA,hS.ir⟩ hm;exact⟨((sm.1.pt (by omega) hF).IT).iw hS.ec,sm.2,hS.ec,by show 1<=Cr.bw S.s 1 (S.s 1+1) 2;omega,by show Cr.bw S.s 1 (S.s 1+1) 2<=3;omega⟩
 ·omega
theorem Cr.jb.V6{S T:Cr.W}(h:Cr.jb how inp sp S 0 bK left T){A:N2}(hA:Cr.cQ T.c sp 4 T.E A):Cr.jb how inp sp S 1 (Cr.bn A) left ⟨T.s,T.g,T.c,A,T.I⟩:=by
 obtain⟨h1,rfl⟩:=h;exact⟨A,hA,rfl,h1,rfl⟩
theorem Cr.jb.dQ{S T:Cr.W}(h:Cr.jb how inp sp S 1 bK left T){m:Cr.M}(hm:Cr.br T.s T.c how inp 4 ⟨T.g,T.E,T.I,left⟩ m):Cr.jb how inp sp S 2 bK m.left ⟨T.s,m.g,T.c,m.E,m.I⟩:=by
 obtain⟨A,hA,h1,rfl,rfl⟩:=h;exact⟨A,m,hA,hm,h1,rfl,rfl⟩
theorem Cr.jb.aav{S T:Cr.W}(h:Cr.jb how inp sp S 2 bK left T){F J:N2}(hF:Cr.cS T.s T.c 32 T.E T.I F J):Cr.jb how inp sp S 3 bK left ⟨T.s,T.g,T.c,F,J⟩:=by
 obtain⟨A,m,hA,hm,h1,h2,rfl⟩:=h;exact⟨A,m,F,J,hA,hm,hF,h1,h2,rfl⟩
theorem Cr.jb.IT{S T:Cr.W}(h:Cr.jb how inp sp S 3 bK left T):Cr.jb how inp sp S 4 bK left ⟨T.s,T.g,T.c,Cr.iw T.s T.c (Ft.ailE T.E T.I 32).1,(Ft.ailE T.E T.I 32).2⟩:=by
 obtain⟨A,m,F,J,hA,hm,hF,h1,h2,rfl⟩:=h;exact⟨A,m,F,J,hA,hm,hF,h1,h2,rfl⟩
theorem Cr.jb.Zm{S T U:Cr.W}(h:Cr.jb how inp sp S 4 bK left T)(h0:S.s 3=0)(hU:Cr.ft T.s T.g T.c T.E T.I bK left U):Cr.jb how inp sp S 5 bK left U:=by
 obtain⟨A,m,F,J,hA,hm,hF,h1,h2,rfl⟩:=h;show Cr.dS how inp sp S U;unfold Cr.dS;rw[abO (fun hh=>hh h0)];refine⟨A,m,F,J,hA,hm,hF,?_⟩;have e:(Cr.bn S.E||Cr.bn A)=bK:=by
  rw[h1];cases hm:Cr.bn S.E
  ·rfl
  ·rw[hA.bn hm];rfl
 rw[e,<-h2];exact hU
theorem ay.j9{x:World}{B:Nat}{T:TypeId}{e:N1}(h:ay x B T 11 (bB e)):x.cell? ⟨B,0,none⟩=some (.int .i64 (e 0))/\x.cell? ⟨B,1,none⟩=some (.int .i64 (e 1))/\x.cell? ⟨B,2,none⟩=some (.int .i64 (e 2))/\x.cell? ⟨B,3,none⟩=some (.int .i64 (e 3))/\x.cell? ⟨B,4,none⟩=some (.int .i64 (e 4))/\x.cell? ⟨B,5,none⟩=some (.int .i64 (e 5))/\x.cell? ⟨B,6,none⟩=some (.int .i64 (e 6))/\x.cell? ⟨B,7,none⟩=some (.int .i64 (e 7))/\x.cell? ⟨B,8,none⟩=some (.int .i64 (e 8))/\x.cell? ⟨B,9,none⟩=some (.int .i64 (e 9))/\x.cell? ⟨B,10,none⟩=some (.int .i64 (e 10)) :=
 ⟨h.cell (c:=0) (by omega),h.cell (c:=1) (by omega),h.cell (c:=2) (by omega),h.cell (c:=3) (by omega),h.cell (c:=4) (by omega),h.cell (c:=5) (by omega),h.cell (c:=6) (by omega),h.cell (c:=7) (by omega),h.cell (c:=8) (by omega),h.cell (c:=9) (by omega),h.cell (c:=10) (by omega)⟩
theorem OR(E:N2)(e:N1)(gE cE:Nat)(w:World)(hE:fg w gE 32 E)(jx:32<=cE)(x0:0<=e 3)(x9:e 3<24)(y0:0<=e 4)(y9:e 4<16):Calls prog 228 #[.slice (some ⟨gE,0,none⟩) 32 cE,.agg (En.cells e)] w (aJ w (.int .i64 (Nv.wayFrom (Md.lz E (e 3) (e 4)) 4 1))):=by
 obtain⟨w0,aD⟩:∃w0,w0=w.alloc (.cells (En.cells e) 54):=⟨_,rfl⟩;have aN:Hid (w.grownBy w0 none):=by rw[aD];exact abE _ _ _
 have hQ:Hid (ay w0 w.heap.size 54 11 (bB e)):=by rw[aD];exact ay.ei _ _ _
 have zq:=aa (hE.ai.on (uh aN));have ca:Hid (∀(d:Nat)(wq:World),Calls prog 220 #[.agg (En.cells e),.int .i64 (d:Int)] wq fun x w'=>(∃a b,x=.returned (.complex .f64 a b)/\Fl.mR a (e 3+(Fx.bh (d:Int)).1)/\Fl.mR b (e 4+(Fx.bh (d:Int)).2))/\wq.grownBy w' none):=fun d wq=>vR e d wq x0 x9 y0 y9;have kc:=aa jx;obtain⟨x,hx⟩:=abV (e 3);obtain⟨y,hy⟩:=abV (e 4);have hK:Hid (∀z,w0.grownBy z none->z.cell? ⟨w.heap.size,0,none⟩=some (.int .i64 (e 0))/\z.cell? ⟨w.heap.size,1,none⟩=some (.int .i64 (e 1))/\z.cell? ⟨w.heap.size,2,none⟩=some (.int .i64 (e 2))/\z.cell? ⟨w.heap.size,3,none⟩=some (.int .i64 x)/\z.cell? ⟨w.heap.size,4,none⟩=some (.int .i64 y)/\z.cell? ⟨w.heap.size,5,none⟩=some (.int .i64 (e 5))/\z.cell? ⟨w.heap.size,6,none⟩=some (.int .i64 (e 6))/\z.cell? ⟨w.heap.size,7,none⟩=some (.int .i64 (e 7))/\z.cell? ⟨w.heap.size,8,none⟩=some (.int .i64 (e 8))/\z.cell? ⟨w.heap.size,9,none⟩=some (.int .i64 (e 9))/\z.cell? ⟨w.heap.size,10,none⟩=some (.int .i64 (e 10))):=fun z hz=>by
  rw[<-hx,<-hy];exact((uh hQ).on hz).j9
 unfold En.cells at aD ca|-;rw[hx,hy]at ca;rw[hx]at x0 x9;rw[hy]at y0 y9;rw[hx,hy]at aD|-;clear hQ hE jx hx hy;go_enter func228,ntmps228;go_upto_region 1 with fail;rw[<-aD];clear aD;obtain⟨B,hB⟩:=abV w.heap.size;rw[hB]at hK|-;clear hB;go_wp2_with fail;go_loopw [5,6,7,8] (fun v5 v6 v7 v8 wr=>∃d:Nat,1<=d/\d<=5/\v5=.int .i64 (d:Int)/\Hid (w0.grownBy wr none)/\Hid (∀j,1<=j->j<d->Md.lz E x y j=false)) (fun v5 _ _ _ _=>10-(intOf v5).toNat)
 case atStart=>exact⟨1,by omega,by omega,rfl,abF _ _,fun j h1 h2=>by omega⟩
 case round =>
  obtain⟨d,zD,SG,rfl,hgr,hno⟩:=hrel;by_cases hlt:d<=4
  ·have hlt':(d:Int)<=4:=by omega
   have HD:=aa (show 1<=d/\d<=4 from⟨zD,hlt⟩);obtain⟨s1,s2,s3,s4⟩:=Md.te d;have cat:Hid (∀z,w0.grownBy z none->Calls prog 102 #[.slice (some ⟨gE,0,none⟩) 32 cE,.int .i64 (x+(Fx.bh (d:Int)).1),.int .i64 (y+(Fx.bh (d:Int)).2)] z (aJ z (.int .i64 (Md.oB E x y d)))):=fun z hz=>mW gE 32 cE E _ _ z ((uh zq).on hz) (uh kc);have mQ:=aa (@Md.Lo E x y d);have xo:Hid (Md.lz E x y d=(decide (0<=Md.oB E x y d)&&!(decide (E (Md.oB E x y d).toNat 0=1)))):=rfl;have Zc:=aa (fun wq=>uh ca d wq);obtain⟨X,hX⟩:=abV (x+(Fx.bh (d:Int)).1);obtain⟨Y,hY⟩:=abV (y+(Fx.bh (d:Int)).2);obtain⟨h,hh⟩:∃z,Md.oB E x y d=z:=⟨_,rfl⟩;have bX:-1<=X/\X<=24:=by omega
   have bY:-1<=Y/\Y<=16:=by omega
   rw[hX,hY]at Zc cat;rw[hh]at cat mQ xo;clear hX hY hh s1 s2 s3 s4 zD SG hlt x0 x9 y0 y9;obtain⟨k0,k1,k2,k3,k4,k5,k6,k7,k8,k9,YW⟩:=uh hK _ (uh hgr);go_wp2_with fail;refine(uh Zc _).mono ?_;rintro xx w1 ⟨⟨a,b,rfl,Ra,Rb⟩,hg⟩;have hg1:=aa (gtr (uh hgr) hg);have cp:=aa (fun wq=>qz a b X Y wq Ra Rb (by omega) (by omega) (by omega) (by omega));clear hg Ra Rb k0 k1 k2 k3 k4 k5 k6 k7 k8 k9 YW bX bY;go_wp2_with fail;refine abW (uh cp _) ?_;clear cp;go_wp2_with fail;refine aaR (uh cat _ (uh hg1)) fun w2 hg=>?_;have hg2:=aa (gtr (uh hg1) hg);clear hg cat Zc;rcases uh mQ with rfl|⟨j,hj,rfl⟩
   ·have hf:Hid (Md.lz E x y d=false):=(show Md.lz E x y d=false by rw[uh xo];rfl);clear xo mQ;go_wp2;go_roundw
    case rel=>exact⟨d+1,by omega,by have:=uh HD;omega,by go_num,hg2,fun j h1 h2=>by
     by_cases e:j=d
     ·rw[e];exact uh hf
     ·exact uh hno j h1 (by omega)⟩
    case measure=>simp[intOf];have:=uh HD;omega
   ·have u0:=(((uh zq).on (uh hg2)).row hj).1;have zK:(j:Int)<32:=(by omega);rw[abG]at xo;by_cases h1:E j 0=1
    ·have hf:Hid (Md.lz E x y d=false):=(show Md.lz E x y d=false by rw[uh xo,h1];simp);rw[h1]at u0;clear xo mQ h1 hj;go_wp2;go_roundw
     case rel=>exact⟨d+1,by omega,by have:=uh HD;omega,by go_num,hg2,fun j h1 h2=>by
      by_cases e:j=d
      ·rw[e];exact uh hf
      ·exact uh hno j h1 (by omega)⟩
     case measure=>simp[intOf];have:=uh HD;omega
    ·have hf:Hid (Md.lz E x y d=true):=(show Md.lz E x y d=true by rw[uh xo];simp[h1]);have ot:(E j 0==1)=false:=by simpa using h1
     have hw:Hid (Nv.wayFrom (Md.lz E x y) 4 1=(d:Int)):=Nv.sd 4 d 1 (uh hno) (uh hf) (uh HD).1 (by have:=(uh HD).2;omega);have ah:Hid (aJ w (.int .i64 (Nv.wayFrom (Md.lz E x y) 4 1)) (.returned (.int .i64 (d:Int))) w2):=⟨by rw[uh hw],gtr (uh aN) (uh hg2)⟩;clear xo mQ h1 hj hw hf;go_wp2;go_ret;exact uh ah
  ·obtain rfl:d=5:=by omega
   have hge:¬((5:Nat):Int)<=4:=by omega
   have hw:Hid (Nv.wayFrom (Md.lz E x y) 4 1=0):=Nv.ie 4 1 fun j h1 h2=>uh hno j h1 (by omega);have ah:Hid (aJ w (.int .i64 (Nv.wayFrom (Md.lz E x y) 4 1)) (.returned (.int .i64 0)) wr):=⟨by rw[uh hw],gtr (uh aN) (uh hgr)⟩;clear hlt zD SG hno hw;go_wp2;go_ret;exact uh ah
