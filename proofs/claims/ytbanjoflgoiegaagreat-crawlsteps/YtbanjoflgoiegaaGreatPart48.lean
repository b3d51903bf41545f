import Derived.Test.YtbanjoflgoiegaaGreatPart30
set_option maxHeartbeats 12800000
set_option maxRecDepth 8000
namespace Go.Proofs.YtbanjoflgoiegaaGreat
open Go.Proofs.Tryz
open Go.RowKit
theorem Cr.Ga{F:N1}{st:Nat->Bool}:∀n,(∀q,q<n->0<=F q->st q=false->0<=Nv.best F st n/\F (Nv.best F st n).toNat<=F q)/\(∀p:Nat,Nv.best F st n=(p:Int)->p<n/\0<=F p/\st p=false)
 | 0=>⟨fun q hq=>by omega,fun p hp=>by unfold Nv.best at hp;omega⟩
 | n+1=>by
  obtain⟨h1,h2⟩:=Cr.Ga (F:=F) (st:=st) n
  unfold Nv.best
  split
  ·rename_i hc
   refine⟨fun q hq q0 qs=>⟨by omega,?_⟩,fun p hp=>?_⟩
   ·rw[abG]
    by_cases e:q=n
    ·rw[e];exact Int.le_refl _
    ·obtain⟨b0,b1⟩:=h1 q (by omega) q0 qs
     rcases hc.2.2 with h|h
     ·omega
     ·omega
   ·obtain rfl:p=n:=by omega
    exact⟨by omega,hc.1,hc.2.1⟩
  ·rename_i hc;refine⟨fun q hq q0 qs=>?_,fun p hp=>?_⟩
   ·by_cases e:q=n
    ·subst e;rcases Nv.jY F st q with hb|⟨p,hp,hb⟩
     ·exact absurd ⟨q0,qs,.inl (by omega)⟩ hc
     ·refine⟨by omega,?_⟩;by_cases hl:F q<F (Nv.best F st q).toNat
      ·exact absurd ⟨q0,qs,.inr hl⟩ hc
      ·omega
    ·exact h1 q (by omega) q0 qs
   ·obtain⟨a,b⟩:=h2 p hp;exact⟨by omega,b⟩
theorem Cr.RX{c:N1}{E:N2}{v:Int}{u:Nat}(hu:u<384)(aK:Nv.st E 32 u=false)(h:Nv.dR c E 32 ((u:Int)%24) ((u:Int)/24) v)(hc:c u≠0)(hF:Nv.iy c):v=(u:Int):=by
 obtain⟨F,tY,rfl⟩:=h;rw[Md.Hx hu]at tY;have h0:F u=0:=(tY.zero u hu).2 ⟨(Gn.kT (hF.ku u)).2 hc,0,by omega,rfl⟩;obtain⟨h1,h2⟩:=Cr.Ga (F:=F) (st:=Nv.st E 32) 384;obtain⟨b0,b1⟩:=h1 u hu (by omega) aK;obtain⟨p,hp⟩:∃p:Nat,Nv.best F (Nv.st E 32) 384=(p:Int):=⟨_,(Int.toNat_of_nonneg b0).symm⟩;obtain⟨p1,p2,_⟩:=h2 p hp;rw[hp,abG]at b1;obtain⟨_,j,hj,he⟩:=(tY.zero p p1).1 (by omega);rw[hp];exact he.symm
theorem Cr.tN{s c:N1}{E I:N2}{f:Nat}(Q4:E f 0=1)(nj:∀k,k<32->k≠f->E k 0≠1)(oU:∀k,k<32->E k 0≠0->k≠f->∀v,1<=v->v<=4->¬(E k 3+(Fx.bh v).1=E f 3/\E k 4+(Fx.bh v).2=E f 4)):∀{i:Nat} {F J:N2},i<=32->Cr.cS s c i E I F J->J=I/\F f=E f/\(∀k,F k 0=E k 0)/\∀k,i<=k->F k=E k
 | 0,_,_,_,h=>by rw[h.1,h.2];exact⟨rfl,rfl,fun _=>rfl,fun _ _=>rfl⟩
 | i+1,F,J,hi,h=>by
  obtain⟨G,K,hG,hP⟩:=h
  obtain⟨rfl,gf,gk,gi⟩:=Cr.tN Q4 nj oU (by omega) hG
  unfold Cr.fu at hP
  split at hP
  ·rw[hP.1,hP.2]
   exact⟨rfl,gf,gk,fun k hk=>gi k (by omega)⟩
  ·rename_i hc
   obtain⟨v,_,rfl,rfl⟩:=hP
   have hif:i≠f:=fun e=>hc (.inr (.inl (by rw[gk,e];exact Q4)))
   have key:(Cr.dQ s c G K i v true=(G,K))\/∃x y,Cr.dQ s c G K i v true=(Cr.go G i x y,K):=by
    unfold Cr.dQ;split
    ·exact .inl rfl
    ·rename_i hv;split
     ·rename_i hw;rw[abO]
      ·exact .inl rfl
      ·intro hd;have jL:=of_decide_eq_true hd;unfold Cr.oB at jL hw;rcases En.aw (En.eM G (G i 3+(Fx.bh v).1) (G i 4+(Fx.bh v).2)) 32 with⟨he,_⟩|⟨j,hj,he,hq,_⟩
       ·omega
       ·rw[he,abG,gk]at jL;have hjf:j=f:=by
         by_cases e:j=f
         ·exact e
         ·exact absurd jL (nj j hj e)
        have kp:G j 0≠0/\G j 3=G i 3+(Fx.bh v).1/\G j 4=G i 4+(Fx.bh v).2:=by simpa [En.eM] using hq
        rw[hjf,gf,gi i (abL _)]at kp;have h0:E i 0≠0:=fun e=>hc (.inl (by rw[gk];exact e));exact oU i (by omega) h0 hif v (by omega) (by omega) ⟨kp.2.1.symm,kp.2.2.symm⟩
     ·split
      ·exact .inr ⟨_,_,rfl⟩
      ·exact .inl rfl
   rcases key with e|⟨x,y,e⟩
   ·rw[e];exact⟨rfl,gf,gk,fun k hk=>gi k (by omega)⟩
   ·rw[e];refine⟨rfl,by show Cr.go G i x y f=_;rw[Cr.gq G x y hif.symm];exact gf,fun k=>?_,fun k hk=>by show Cr.go G i x y k=_;rw[Cr.gq G x y (by omega)];exact gi k (by omega)⟩;by_cases e2:k=i
    ·rw[e2];show Cr.go G i x y i 0=_;rw[Cr.KE,abO (by omega),abO (by omega)];exact gk i
    ·show Cr.go G i x y k 0=_;rw[Cr.gq G x y e2];exact gk k
theorem Cr.Pb{E:N2}{k f:Nat}(h:f≠k):Ft.np E k f=E f:=by
 have hs:Ft.bT E k f=E f:=by
  unfold Ft.bT;split
  ·exact Ft.kS _ _ _ _ _ h
  ·rfl
 unfold Ft.np;split
 ·have hp:Ft.ef (Ft.bT E k) k f=E f:=by
   unfold Ft.ef;rw[Ft.kS _ _ _ _ _ h];exact hs
  unfold Ft.cW;split
  ·rw[Ft.kS _ _ _ _ _ h];exact hp
  ·rw[En.ak h];exact hp
 ·exact hs
theorem Cr.Kl{E I:N2}{f:Nat}(h9:¬0<E f 9)(sH:¬0<E f 10):∀n,(Ft.ailE E I n).1 f=E f
 | 0=>rfl
 | n+1=>by
  have ih:=Cr.Kl (I:=I) h9 sH n
  unfold Ft.ailE
  split
  ·show Ft.np (Ft.ailE E I n).1 n f=E f
   by_cases e:f=n
   ·subst e
    unfold Ft.np
    rw[abO (by rw[ih];exact h9)]
    unfold Ft.bT
    rw[abO (by rw[ih];exact sH)]
    exact ih
   ·rw[Cr.Pb e]
    exact ih
  ·exact ih
theorem Cr.wC:∀(es:List (Int × Nat)) {E:N2} {n:Nat},(∀k,k<32->E k 0≠0->k<n)->n+es.length<=32->(∀k,k<32->Cr.cZ E es k 0≠0->k<n+es.length)/\∀k,k<32->Cr.cZ E es k=E k\/∃p γ,p∈es/\Cr.cZ E es k=En.nN (Cr.bo p.1 0 p.2) γ
 | [],_,n,h,_=>⟨fun k hk k0=>by have:=h k hk k0;simpa using this,fun k _=>.inl rfl⟩
 | p :: es,E,n,h,hn=>by
  have ju:n+1+es.length<=32:=by simp at hn;omega
  obtain⟨E',iQ⟩:∃E',E'=if En.first (En.eM E ((p.2:Int)%24) ((p.2:Int)/24)) 32<0 then Cr.dX E (Cr.bo p.1 0 p.2)else E:=⟨_,rfl⟩
  have aK:Cr.cZ E (p :: es)=Cr.cZ E' es:=by rw[iQ];rfl
  have hj:∀k,k<32->E' k=E k\/(k<=n/\∃γ,E' k=En.nN (Cr.bo p.1 0 p.2) γ):=fun k hk=>by
   rw[iQ];split
   ·rcases Cr.nV E (Cr.bo p.1 0 p.2)with he|⟨f,hf,f0,hno,he⟩
    ·rw[he];exact .inl rfl
    ·rw[he];by_cases e:k=f
     ·rw[e,En.aB];refine .inr ⟨?_,_,rfl⟩;by_cases hfn:f<=n
      ·exact hfn
      ·have:=h n (by omega) (hno n (by omega));omega
     ·rw[En.ak e];exact .inl rfl
   ·exact .inl rfl
  obtain⟨h1,h2⟩:=Cr.wC es (E:=E') (n:=n+1) (fun k hk k0=>by
   rcases hj k hk with e|⟨KU,_⟩
   ·rw[e]at k0;have:=h k hk k0;omega
   ·omega) ju
  rw[aK];refine⟨fun k hk k0=>by have:=h1 k hk k0;simp;omega,fun k hk=>?_⟩;rcases h2 k hk with e|⟨q,γ,hq,e⟩
  ·rcases hj k hk with e2|⟨_,γ,e2⟩
   ·exact .inl (e.trans e2)
   ·exact .inr ⟨p,γ,List.mem_cons_self ..,e.trans e2⟩
  ·exact .inr ⟨q,γ,List.mem_cons_of_mem _ hq,e⟩
theorem Cr.eB{d:Gn.aY}{c F:N1}{far p:Nat}(hf:Gn.uE d c F far)(hp:p<384)(hc:c p≠0)(h4:4<=F p){v:Int}(v1:1<=v)(v4:v<=4):¬((p:Int)%24+(Fx.bh v).1=((Gn.up d:Nat):Int)%24/\(p:Int)/24+(Fx.bh v).2=((Gn.up d:Nat):Int)/24):=by
 intro h;have hu:=hf.Y0;have h0:F (Gn.up d)=0:=(hf.qZ.zero _ hu).2 rfl;have hw:=(Gn.kT (hf.ku p)).2 hc;have key:∃e,e<4/\Gr.iK (Gn.up d) e/\Gr.gA (Gn.up d) e=p:=by
  have fin:∀e,e<4->((Gn.up d%24:Nat):Int)+Gr.dxOf e=(p:Int)%24->((Gn.up d/24:Nat):Int)+Gr.dyOf e=(p:Int)/24->∃e,e<4/\Gr.iK (Gn.up d) e/\Gr.gA (Gn.up d) e=p:=fun e he hx hy=>by
   have cU:Gr.iK (Gn.up d) e:=by
    unfold Gr.iK;rw[hx,hy];omega
   refine⟨e,he,cU,?_⟩;have:=Gr.tI cU;rw[hx,hy]at this;omega
  rcases(show v=1\/v=2\/v=3\/v=4 by omega)with rfl|rfl|rfl|rfl
  ·have e1:Fx.bh 1=(0,-1):=rfl;rw[e1]at h;exact fin 2 (by omega) (by show _+(0:Int)=_;omega) (by show _+(1:Int)=_;omega)
  ·have e1:Fx.bh 2=(1,0):=rfl;rw[e1]at h;exact fin 3 (by omega) (by show _+(-1:Int)=_;omega) (by show _+(0:Int)=_;omega)
  ·have e1:Fx.bh 3=(0,1):=rfl;rw[e1]at h;exact fin 0 (by omega) (by show _+(0:Int)=_;omega) (by show _+(-1:Int)=_;omega)
  ·have e1:Fx.bh 4=(-1,0):=rfl;rw[e1]at h;exact fin 1 (by omega) (by show _+(1:Int)=_;omega) (by show _+(0:Int)=_;omega)
 obtain⟨e,he,cU,UG⟩:=key;have:=(hf.qZ.TK (Gn.up d) hu (by omega) e he cU (by rw[UG];exact hw)).2;rw[UG]at this;omega
theorem Cr.vV{s c how inp:N1}:∀{t:Nat} {m n:Cr.M},(∀j,j<t->how j≠1/\how j≠2)->Cr.br s c how inp t m n->n=m
 | 0,_,_,_,h=>h
 | t+1,m,n,hh,h=>by
  obtain⟨o,ho,hn⟩:=h
  have e:=Cr.vV (fun j hj=>hh j (by omega)) ho
  unfold Cr.gG at hn
  rw[abP (.inr (.inr (hh t (by omega))))]at hn
  rw[hn,e]
theorem Cr.Gq{seed:Int}{how inp:N1}{sp:Nat->Bool}{S T:Cr.W}(hN:Cr.oG seed S)(hT:Cr.dS how inp sp S T)(hh:∀j,j<4->how j≠1/\how j≠2)(h0:sp 0=true)(h1:sp 1=false)(h2:sp 2=false)(h3:sp 3=false):T.c=S.c/\T.s 0=seed/\T.s 1=1/\T.s 2=1/\T.s 3=0/\∃(f u:Nat)(γ:Int),f<32/\u<384/\Gr.an 384 S.c 3=(u:Int)/\T.E f=En.nN (Cr.bo 1 0 u) γ:=by
 have hG:=hN.kz;obtain⟨c,es,is,hl,rfl⟩:=hN;obtain⟨u,hu,sL,MX,hu1⟩:=Cr.l5 hl.ec;have iW:=hl;obtain⟨d,F0,_,Ss,hL,hes,_⟩:=iW;obtain⟨far,VG⟩:=hL.Kz Ss;have hud:Gn.up d=u:=hu1 _ ((VG.is3 _).2 rfl);have hlen:es.length<=3:=by
  rw[hes];exact Gn.nm d 1 ((1:Int)+2).toNat 0 _
 obtain⟨bZ,mQ⟩:=Cr.wC es (E:=fun _ _=>0) (n:=0) (fun k _ k0=>absurd rfl k0) (by omega);obtain⟨E,hE⟩:∃E,Cr.cZ (fun _ _=>0) es=E:=⟨_,rfl⟩;rw[hE]at hG hT bZ mQ;obtain⟨I,hI⟩:∃I,Cr.fU (fun _ _=>0) is=I:=⟨_,rfl⟩;rw[hI]at hG hT;have vC:∀k,k<32->E k 0≠0->E k 0≠1/\∃p:Nat,p<384/\c p≠0/\4<=F0 p/\E k 3=(p:Int)%24/\E k 4=(p:Int)/24:=fun k hk k0=>by
  rcases mQ k hk with e|⟨p,γ,hp,e⟩
  ·rw[e]at k0;exact absurd rfl k0
  ·obtain⟨i,hi⟩:=List.mem_iff_getElem?.1 hp;rw[hes]at hi;obtain⟨k2,k4,hq,kx,KI⟩:=Gn.Ky Ss (by omega) hi;obtain⟨o0,_,o3,o4,_⟩:=Cr.eS p.1 0 p.2;have g:∀j,j≠1->En.nN (Cr.bo p.1 0 p.2) γ j=Cr.bo p.1 0 p.2 j:=fun j hj=>abO hj;rw[e,g 0 (by omega),g 3 (by omega),g 4 (by omega),o0 (by omega) (by omega),o3,o4];exact⟨by omega,p.2,hq,by omega,KI,rfl,rfl⟩
 have aao:∀t:Int,Gd.aV E t<0:=fun t=>by
  unfold Gd.aV;rw[En.bt (fun k hk=>?_)]
  ·omega
  ·unfold En.dg;by_cases k0:E k 0=0
   ·simp[k0]
   ·simp[(vC k hk k0).1]
 have aK:Nv.st E 32 u=false:=by
  unfold Nv.st;refine abI ?_;rw[En.bt (fun k hk=>?_)]
  ·omega
  ·by_cases k0:E k 0=0
   ·simp[En.eM,k0]
   ·obtain⟨_,p,hp,_,h4,h3,I7⟩:=vC k hk k0;have hz:F0 u=0:=by rw[<-hud];exact(VG.qZ.zero _ VG.Y0).2 rfl
    have ow:p≠u:=fun e=>by rw[e]at h4;omega
    unfold En.eM;rw[h3,I7];by_cases e1:(p:Int)%24=((u%24:Nat):Int)
    ·by_cases e2:(p:Int)/24=((u/24:Nat):Int)
     ·exact absurd (by omega) ow
     ·rw[abI e2,Bool.and_false,Bool.and_false]
    ·rw[abI e1,Bool.false_and,Bool.and_false]
 unfold Cr.dS at hT;have wT:¬(Cr.first seed 3≠0):=fun h=>h rfl;rw[abO wT]at hT;obtain⟨A,m,F,J,hA,hm,hF,Vv⟩:=hT
 obtain⟨f,hf,f0,-,-⟩:∃f,f<32/\E f 0=0/\True/\True:=⟨31,by omega,by
  by_cases k0:E 31 0=0
  ·exact k0
  ·have:=bZ 31 (by omega) k0
   omega,trivial,trivial⟩
 -- oB Gi
 have hAe:A=Cr.dX E (Cr.bo 1 0 u):=by
  obtain⟨A3,⟨A2,⟨A1,⟨A0,hA0,c0⟩,c1⟩,c2⟩,c3⟩:=hA;have e0:A0=E:=hA0;rw[e0]at c0;unfold Cr.gD at c0 c1 c2 c3;rw[abP ⟨h0,aao _⟩]at c0;rw[abO (by rw[h1];simp)]at c1;rw[abO (by rw[h2];simp)]at c2;rw[abO (by rw[h3];simp)]at c3;obtain⟨v,hv,qu⟩:=c0;have pK:Nv.dR c E 32 (Gr.an 384 c 3%24) (Gr.an 384 c 3/24) v:=hv;rw[sL]at pK;have hvu:=Cr.RX hu aK pK (by rw[MX];omega) hl.ec;rcases qu with⟨dH,_⟩|⟨q,hq,dP⟩
  ·omega
  ·obtain rfl:q=u:=by omega
   rw[c3,c2,c1,dP];rfl
 obtain⟨r,hr,r0,-,hj⟩:∃r,r<32/\E r 0=0/\True/\Cr.dX E (Cr.bo 1 0 u)=En.put E r (En.nN (Cr.bo 1 0 u) ((E r 1+1)%256)):=by
  rcases Cr.nV E (Cr.bo 1 0 u)with he|⟨r,hr,r0,_,he⟩
  ·exfalso;unfold Cr.dX at he;rcases En.aw (En.gS E) 32 with⟨_,hno⟩|⟨k,hk,hke,hq,_⟩
   ·have:=hno f hf;simp[En.gS,f0]at this
   ·rw[hke,abP (by omega),abG]at he;have h2:=congrFun (congrFun he k) 0;rw[En.aB]at h2;have h3:En.nN (Cr.bo 1 0 u) ((E k 1+1)%256) 0=1:=rfl;have h4:E k 0=0:=by simpa [En.gS] using hq
    omega
  ·exact⟨r,hr,r0,trivial,he⟩
 rw[hj]at hAe;have zM:=Cr.vV (fun j hj=>hh j hj) hm;have o:=Cr.eS 1 0 u;have nN:∀γ j,j≠1->En.nN (Cr.bo 1 0 u) γ j=Cr.bo 1 0 u j:=fun γ j hj=>abO hj;have MS:A r=En.nN (Cr.bo 1 0 u) ((E r 1+1)%256):=by rw[hAe,En.aB]
 have hAo:∀k,k≠r->A k=E k:=fun k hk=>by rw[hAe,En.ak hk]
 rw[zM]at hF Vv;have hq:=Cr.tN (s:=Cr.bw (Cr.first seed) 1 (Cr.first seed 1+1)) (c:=c) (E:=A) (I:=I) (f:=r) (by rw[MS,nN _ 0 (by omega)];exact o.1 (by omega) (by omega))
  (fun k hk Og=>by rw[hAo k Og];by_cases k0:E k 0=0;omega;exact(vC k hk k0).1)
  (fun k hk k0 Og v v1 v4=>by
   rw[hAo k Og]at k0|-;obtain⟨_,p,hp,Yy,h4,e3,e4⟩:=vC k hk k0;rw[e3,e4,MS,nN _ 3 (by omega),nN _ 4 (by omega),o.2.2.1,o.2.2.2.1,<-hud]
   exact Cr.eB VG hp Yy h4 v1 v4) (i:=32) (abL _) hF
 obtain⟨_,qn,_,_⟩:=hq;have hr9:F r 9=0/\F r 10=0:=by
  rw[qn,MS,nN _ 9 (by omega),nN _ 10 (by omega)];exact⟨rfl,rfl⟩
 have Z0:=Cr.Kl (E:=F) (I:=J) (f:=r) (by omega) (by omega) 32;have aap:Cr.iw (Cr.bw (Cr.first seed) 1 (Cr.first seed 1+1)) c (Ft.ailE F J 32).1=(Ft.ailE F J 32).1:=by
  unfold Cr.iw;rw[abO (fun h=>by have:(0:Int)+1=1:=rfl;exact absurd h.1 (by show¬((0:Int)+1)%16=0;decide))]
 have Zx:(Ft.ailE F J 32).1 r=En.nN (Cr.bo 1 0 u) ((E r 1+1)%256):=by rw[Z0,qn,MS]
 have aaj:Cr.bn (Ft.ailE F J 32).1=true:=Cr.yq (t:=0) (k:=r) (by omega) hr (by rw[Zx,nN _ 0 (by omega)];exact o.1 (by omega) (by omega)) (by rw[Zx,nN _ 2 (by omega)];exact o.2.1);change Cr.ft _ _ c (Cr.iw _ c (Ft.ailE F J 32).1) _ _ false T at Vv;rw[aap]at Vv;unfold Cr.ft at Vv;rw[abO (by rw[aaj];exact Bool.false_ne_true.symm),abO abT]at Vv;subst Vv;exact⟨rfl,rfl,rfl,rfl,rfl,r,u,_,hr,hu,sL,Zx⟩
theorem Fx.Ip:∀n:Nat,∃r:Nat,r*r<=n/\n<(r+1)*(r+1)
 | 0=>⟨0,by omega,by omega⟩
 | n+1=>by
  obtain⟨r,h1,h2⟩:=Fx.Ip n
  by_cases h:n+1<(r+1)*(r+1)
  ·exact⟨r,by omega,h⟩
  ·refine⟨r+1,by omega,?_⟩
   have h3:(r+1+1)*(r+1+1)=(r+1)*(r+1)+(2*r+3):=by
    simp only[Nat.add_mul,Nat.mul_add,Nat.one_mul,Nat.mul_one];omega
   omega
theorem Fx.RQ(n:Int)(h:0<=n):∃r,Fx.lO n r:=by
 obtain⟨r,h1,h2⟩:=Fx.Ip n.toNat;refine⟨(r:Int),by omega,?_,?_⟩
 ·have:((r*r:Nat):Int)<=n:=by omega
  rwa [Int.natCast_mul]at this
 ·have:n<(((r+1)*(r+1):Nat):Int):=by omega
  rw[Int.natCast_mul]at this;exact this
theorem Md.Ka(a b:Int):0<=(a*a+b*b)*65536:=by
 have sq:∀z:Int,0<=z*z:=fun z=>by
  rcases Int.le_total 0 z with h|h
  ·exact Int.mul_nonneg h h
  ·rw[<-Int.neg_mul_neg];exact Int.mul_nonneg (by omega) (by omega)
 have h1:=sq a;have h2:=sq b;omega
def Md.F4(w:World)(c:N1)(E:N2)(x y:Int)(e:Ending)(w':World):Prop:=∃b a,Md.mK c E x y 4 b a/\(a=-1\/∃h:Nat,h<32/\a=(h:Int)/\E h 0=1)/\e=.returned (.int .i64 a)/\w.grownBy w' none
def Md.Se(a b L:Int):Prop:=(a=-1/\L=1537)\/(0<=a/\L=b/\b<=1536)
theorem An(s g c:N1)(E I:N2)(e:N1)(gC gE gI cC cE cI:Nat)(w:World)(hL:Gd.av w gC gE gI c E I)(hc:∀i,0<=c i/\c i<=255)(jx:32<=cE)(hE:Md.oF E)(x0:0<=e 3)(x9:e 3<24)(y0:0<=e 4)(y9:e 4<16):Calls prog 212 #[.agg (Gd.world s gC gE gI cC cE cI g),.agg (En.cells e)] w (Md.F4 w c E (e 3) (e 4)):=by
 obtain⟨wz,gW⟩:∃wz,wz=w.alloc (.cells (Gd.world s gC gE gI cC cE cI g) 30):=⟨_,rfl⟩;obtain⟨w0,aD⟩:∃w0,w0=wz.alloc (.cells (En.cells e) 54):=⟨_,rfl⟩;have fM:w.grownBy wz none:=by rw[gW];exact abE _ _ _
 have aN:wz.grownBy w0 none:=by rw[aD];exact abE _ _ _
 have hO:Hid (Gd.iz w w0 w.heap.size gC gE gI cC cE cI s g c E I):=by
  refine⟨?_,hL.on (gtr fM aN),gtr fM aN⟩;refine ay.on ?_ aN;rw[gW];exact(ax.world (abH w _)).lie
 have hQ:Hid (ay w0 wz.heap.size 54 11 (bB e)):=by rw[aD];exact ay.ei _ _ _
 have eC:wz.heap.size=w.heap.size+1:=by rw[gW];simp
 have fD:=aa hc;have kc:=aa jx;have iQ:=aa hE;have tB:=aa (show(0<=e 3/\e 3<24)/\0<=e 4/\e 4<16 from⟨⟨x0,x9⟩,y0,y9⟩);rw[eC]at hQ;clear hL hc jx hE aN fM x0 x9 y0 y9 eC;unfold Gd.world at gW|-;unfold En.cells at aD|-;rw[gW]at aD;clear gW;go_enter func212,ntmps212;go_upto_region 1 with fail;rw[<-aD];clear aD;obtain⟨B,hB⟩:=abV w.heap.size;rw[hB]at hO hQ|-;clear hB;obtain⟨Q,hQe⟩:=abV (B+1);rw[hQe]at hQ|-;clear hQe;go_wp2_with fail;go_loopw [5,6,7,8,9,10] (fun v5 v6 _ _ _ v10 wr=>∃(t:Nat)(b a L:Int),t<=4/\v5=.int .i64 a/\v6=.int .i64 L/\v10=.int .i64 (t:Int)/\Hid (Md.mK c E (e 3) (e 4) t b a)/\Hid (Md.Se a b L)/\Hid (a=-1\/∃h:Nat,h<32/\a=(h:Int)/\E h 0=1)/\Hid (Gd.iz w wr B gC gE gI cC cE cI s g c E I)/\Hid (ay wr Q 54 11 (bB e))) (fun _ _ _ _ _ v10 _=>10-(intOf v10).toNat)
 case atStart=>exact⟨0,0,-1,1537,by omega,rfl,rfl,rfl,⟨rfl,rfl⟩,.inl ⟨rfl,rfl⟩,.inl rfl,hO,hQ⟩
 case round =>
  clear hO hQ;obtain⟨t,b,a,L,ht,rfl,rfl,rfl,je,Jb,IF,hO,hQ⟩:=hrel;by_cases hlt:t<4
  ·have hlt':(t:Int)<4:=by omega
   have HT:=aa hlt;have q5:=(uh hO).box.ae.2.2.2.2.2.1;have ch:Hid (Calls prog 68 #[.slice (some ⟨gE,0,none⟩) 32 cE,.int .i64 (t:Int)] wr (aJ wr (.int .i64 (Gd.aV E (t:Int))))):=nh gE 32 cE E (t:Int) wr (uh hO).ab.own.ai (uh kc);have bZ:=aa (@Md.lL E (t:Int));obtain⟨h0,hh⟩:∃h,Gd.aV E (t:Int)=h:=⟨_,rfl⟩;have ov:=aa hh;rw[hh]at ch;clear hh hlt ht;go_wp2_with fail;refine aaR (uh ch) fun w3 hg=>?_;have kA:=aa ((uh hO).on hg);have rq:=aa ((uh hQ).on hg);clear hg ch q5 hO hQ;by_cases dH:h0<0
   ·have Jv:Hid (Md.mK c E (e 3) (e 4) (t+1) b a):=⟨b,a,uh je,.inl ⟨by rw[uh ov];exact dH,rfl,rfl⟩⟩;clear bZ ov;go_wp2_with fail;go_quiet (fail);go_wp2;go_roundw
    case rel=>exact⟨t+1,b,a,L,by have:=uh HT;omega,rfl,rfl,by go_num,Jv,Jb,IF,(uh kA).on (gdw (abF _ none) _),(uh rq).on (gdw (abF _ none) _)⟩
    case measure=>simp[intOf];have:=uh HT;omega
   obtain⟨h,qx,W5,gv,-⟩:=uh bZ (by rw[uh ov];omega);obtain rfl:h0=(h:Int):=by rw[<-uh ov];exact W5
   obtain⟨p0,p9,r0,r9,-,-⟩:=uh iQ h qx (by omega);have HH:=aa (show h<32/\E h 0=1 from⟨qx,gv⟩);have hh3:(h:Int)<32:=by omega
   have aaW:¬(h:Int)<0:=by omega
   have HP:=aa (show(0<=E h 3/\E h 3<24)/\0<=E h 4/\E h 4<16 from⟨⟨p0,p9⟩,r0,r9⟩);clear bZ W5 gv dH qx p0 p9 r0 r9;have cs:=aa (fun z (hz:w3.grownBy z none)=>Pu (some ⟨gC,0,none⟩) 384 cC c (e 3) (e 4) (E h 3) (E h 4) z ((uh kA).ab.on hz).lg (uh fD));have fC:=aa (gd1 (abF w3 none));have hkeep:Hid (∀z,w3.grownBy z none->(z.cell? ⟨B,4,none⟩=some (.slice (some ⟨gC,0,none⟩) 384 cC)/\z.cell? ⟨B,5,none⟩=some (.slice (some ⟨gE,0,none⟩) 32 cE)/\z.cell? ⟨Q,3,none⟩=some (.int .i64 (e 3))/\z.cell? ⟨Q,4,none⟩=some (.int .i64 (e 4))/\z.cell? ⟨gE,h*11+3,none⟩=some (.int .i64 (E h 3))/\z.cell? ⟨gE,h*11+4,none⟩=some (.int .i64 (E h 4)))):=fun z hz=>by
    have wP:=(uh kA).on hz;have NT:=((uh rq).on hz).j9;have hr:=wP.ab.own.ai.row (uh HH).1;exact⟨wP.box.ae.2.2.2.2.1,wP.box.ae.2.2.2.2.2.1,NT.2.2.2.1,NT.2.2.2.2.1,hr.2.2.2.1,hr.2.2.2.2.1⟩
   have hS0:=uh hkeep w3 (abF _ none);go_upto_region 6 with fail
   go_region_held3 (fun z=>z.cell? ⟨B,4,none⟩=some (.slice (some ⟨gC,0,none⟩) 384 cC)/\z.cell? ⟨B,5,none⟩=some (.slice (some ⟨gE,0,none⟩) 32 cE)/\z.cell? ⟨Q,3,none⟩=some (.int .i64 (e 3))/\z.cell? ⟨Q,4,none⟩=some (.int .i64 (e 4))/\z.cell? ⟨gE,h*11+3,none⟩=some (.int .i64 (E h 3))/\z.cell? ⟨gE,h*11+4,none⟩=some (.int .i64 (E h 4))) (go_keep) (first
    | (go_at_call 216;refine(uh cs _ (uh fC)).mono ?_;rintro x w5 ⟨sb,rfl,hsb,hg⟩;have hg5:=aa (gtr (uh fC) (dV hg));have Jw:=aa hsb;have ko:=uh hkeep _ (uh hg5);clear hg hsb))
   have wP:=aa ((uh kA).on (uh hg5));have NT:=aa ((uh rq).on (uh hg5));clear hS0 ko hkeep fC cs kA rq hg5;rw[abI (show¬(h:Int)<0 by omega),Bool.false_or];cases sb
   ·have Jv:Hid (Md.mK c E (e 3) (e 4) (t+1) b a):=by
     obtain⟨r,hr⟩:=Fx.RQ _ (Md.Ka (E h 3-e 3) (E h 4-e 4));exact⟨b,a,uh je,.inr ⟨h,r,uh ov,hr,.inr ⟨fun hT=>absurd ((uh Jw).2 hT.2.1) (by simp),rfl,rfl⟩⟩⟩
    clear ov Jw;go_wp2;go_roundw
    case rel=>exact⟨t+1,b,a,L,by have:=uh HT;omega,rfl,rfl,by go_num,Jv,Jb,IF,wP,NT⟩
    case measure=>simp[intOf];have:=uh HT;omega
   ·obtain⟨r1,r2,aar,R1,R2⟩:=XW e (E h) (uh tB).1.1 (uh tB).1.2 (uh tB).2.1 (uh tB).2.2 (uh HP).1.1 (uh HP).1.2 (uh HP).2.1 (uh HP).2.2;have cq:Hid (∀wq,Calls prog 218 #[.complex .f64 r1 r2] wq fun x w'=>x=.returned (.tuple #[.int .i64 (E h 3-e 3),.int .i64 (E h 4-e 4)])/\w'=wq):=fun wq=>by
     have h1:=uh tB;have h2:=uh HP;exact qz r1 r2 _ _ wq R1 R2 (by omega) (by omega) (by omega) (by omega)
    have cd:Hid (∀wq,Calls prog 217 #[.int .i64 (E h 3-e 3),.int .i64 (E h 4-e 4)] wq fun x w'=>∃r,x=.returned (.int .i64 r)/\Fx.lO (((E h 3-e 3)*(E h 3-e 3)+(E h 4-e 4)*(E h 4-e 4))*65536) r/\w'=wq):=fun wq=>by
     have h1:=uh tB;have h2:=uh HP;exact NC _ _ wq (by omega) (by omega) (by omega) (by omega)
    have cp:=aa yp;have fC:=aa (gd1 (abF w5 none));have hkeep:Hid (∀z,w5.grownBy z none->(z.cell? ⟨B,5,none⟩=some (.slice (some ⟨gE,0,none⟩) 32 cE)/\z.cell? ⟨gE,h*11,none⟩=some (.int .i64 (E h 0))/\z.cell? ⟨gE,h*11+1,none⟩=some (.int .i64 (E h 1))/\z.cell? ⟨gE,h*11+2,none⟩=some (.int .i64 (E h 2))/\z.cell? ⟨gE,h*11+3,none⟩=some (.int .i64 (E h 3))/\z.cell? ⟨gE,h*11+4,none⟩=some (.int .i64 (E h 4))/\z.cell? ⟨gE,h*11+5,none⟩=some (.int .i64 (E h 5))/\z.cell? ⟨gE,h*11+6,none⟩=some (.int .i64 (E h 6))/\z.cell? ⟨gE,h*11+7,none⟩=some (.int .i64 (E h 7))/\z.cell? ⟨gE,h*11+8,none⟩=some (.int .i64 (E h 8))/\z.cell? ⟨gE,h*11+9,none⟩=some (.int .i64 (E h 9))/\z.cell? ⟨gE,h*11+10,none⟩=some (.int .i64 (E h 10))/\z.cell? ⟨Q,0,none⟩=some (.int .i64 (e 0))/\z.cell? ⟨Q,1,none⟩=some (.int .i64 (e 1))/\z.cell? ⟨Q,2,none⟩=some (.int .i64 (e 2))/\z.cell? ⟨Q,3,none⟩=some (.int .i64 (e 3))/\z.cell? ⟨Q,4,none⟩=some (.int .i64 (e 4))/\z.cell? ⟨Q,5,none⟩=some (.int .i64 (e 5))/\z.cell? ⟨Q,6,none⟩=some (.int .i64 (e 6))/\z.cell? ⟨Q,7,none⟩=some (.int .i64 (e 7))/\z.cell? ⟨Q,8,none⟩=some (.int .i64 (e 8))/\z.cell? ⟨Q,9,none⟩=some (.int .i64 (e 9))/\z.cell? ⟨Q,10,none⟩=some (.int .i64 (e 10)))):=fun z hz=>by
     have Wz:=(uh wP).on hz;have Sy:=((uh NT).on hz).j9;have hr:=Wz.ab.own.ai.row (uh HH).1;obtain⟨u0,u1,u2,u3,u4,u5,u6,u7,u8,u9,iO⟩:=hr;exact⟨Wz.box.ae.2.2.2.2.2.1,u0,u1,u2,u3,u4,u5,u6,u7,u8,u9,iO,Sy⟩
    have hS0:=uh hkeep w5 (abF _ none);clear R1 R2;go_upto_region 7 with fail
    go_region_held3 (fun z=>z.cell? ⟨B,5,none⟩=some (.slice (some ⟨gE,0,none⟩) 32 cE)/\z.cell? ⟨gE,h*11,none⟩=some (.int .i64 (E h 0))/\z.cell? ⟨gE,h*11+1,none⟩=some (.int .i64 (E h 1))/\z.cell? ⟨gE,h*11+2,none⟩=some (.int .i64 (E h 2))/\z.cell? ⟨gE,h*11+3,none⟩=some (.int .i64 (E h 3))/\z.cell? ⟨gE,h*11+4,none⟩=some (.int .i64 (E h 4))/\z.cell? ⟨gE,h*11+5,none⟩=some (.int .i64 (E h 5))/\z.cell? ⟨gE,h*11+6,none⟩=some (.int .i64 (E h 6))/\z.cell? ⟨gE,h*11+7,none⟩=some (.int .i64 (E h 7))/\z.cell? ⟨gE,h*11+8,none⟩=some (.int .i64 (E h 8))/\z.cell? ⟨gE,h*11+9,none⟩=some (.int .i64 (E h 9))/\z.cell? ⟨gE,h*11+10,none⟩=some (.int .i64 (E h 10))/\z.cell? ⟨Q,0,none⟩=some (.int .i64 (e 0))/\z.cell? ⟨Q,1,none⟩=some (.int .i64 (e 1))/\z.cell? ⟨Q,2,none⟩=some (.int .i64 (e 2))/\z.cell? ⟨Q,3,none⟩=some (.int .i64 (e 3))/\z.cell? ⟨Q,4,none⟩=some (.int .i64 (e 4))/\z.cell? ⟨Q,5,none⟩=some (.int .i64 (e 5))/\z.cell? ⟨Q,6,none⟩=some (.int .i64 (e 6))/\z.cell? ⟨Q,7,none⟩=some (.int .i64 (e 7))/\z.cell? ⟨Q,8,none⟩=some (.int .i64 (e 8))/\z.cell? ⟨Q,9,none⟩=some (.int .i64 (e 9))/\z.cell? ⟨Q,10,none⟩=some (.int .i64 (e 10))) (go_keep) (first
     | (go_at_call 219;refine aaR (uh cp _ _ _ _ _ _ _ _ _ _ _ _) fun w7 hg=>?_;have N8:=aa (gtr (uh fC) hg);have IH:=uh hkeep _ (uh N8);clear hg)
     | (go_at_call 219;refine aaR (uh cp _ _ _ _ _ _ _ _ _ _ _ _) fun w8 hg=>?_;have YD:=aa (gtr (uh N8) hg);have hS8:=uh hkeep _ (uh YD);clear hg)
     | (go_at_call 218;refine abW (uh cq _) ?_)
     | (go_at_call 217;refine(uh cd _).mono ?_;rintro x wy ⟨r,rfl,hr,hw⟩;subst wy;have hr':=aa hr;clear hr))
    have Wz:=aa ((uh wP).on (uh YD));have Sy:=aa ((uh NT).on (uh YD));clear hS0 IH hS8 hkeep fC cq cd cp aar wP NT N8 YD;by_cases UP:r<L
    ·have Jv:Hid (Md.mK c E (e 3) (e 4) (t+1) r (h:Int)):=⟨b,a,uh je,.inr ⟨h,r,uh ov,uh hr',.inl ⟨⟨by have h1:(a=-1/\L=1537)\/(0<=a/\L=b/\b<=1536):=uh Jb;omega,(by first| exact(uh Jw).1 rfl|exact(uh Jw).1 trivial|exact uh Jw),by have h1:(a=-1/\L=1537)\/(0<=a/\L=b/\b<=1536):=uh Jb;omega⟩,rfl,rfl⟩⟩⟩;have hL2:Hid (Md.Se (h:Int) r r):=.inr ⟨by omega,rfl,by have h1:(a=-1/\L=1537)\/(0<=a/\L=b/\b<=1536):=uh Jb;omega⟩;have dF:Hid ((h:Int)=-1\/∃h':Nat,h'<32/\(h:Int)=(h':Int)/\E h' 0=1):=.inr ⟨h,(uh HH).1,rfl,(uh HH).2⟩;clear ov Jw hr';go_wp2;go_roundw
     case rel=>exact⟨t+1,r,(h:Int),r,by have:=uh HT;omega,rfl,rfl,by go_num,Jv,hL2,dF,Wz,Sy⟩
     case measure=>simp[intOf];have:=uh HT;omega
    ·have Jv:Hid (Md.mK c E (e 3) (e 4) (t+1) b a):=⟨b,a,uh je,.inr ⟨h,r,uh ov,uh hr',.inr ⟨fun hT=>by
      have h1:(a=-1/\L=1537)\/(0<=a/\L=b/\b<=1536):=uh Jb;have h2:=hT.1;have h3:=hT.2.2
      omega,rfl,rfl⟩⟩⟩
     clear ov Jw hr';go_wp2;go_roundw
     case rel=>exact⟨t+1,b,a,L,by have:=uh HT;omega,rfl,rfl,by go_num,Jv,Jb,IF,Wz,Sy⟩
     case measure=>simp[intOf];have:=uh HT;omega
  ·obtain rfl:t=4:=by omega
   have hge:¬((4:Nat):Int)<4:=by omega
   have ah:Hid (Md.F4 w c E (e 3) (e 4) (.returned (.int .i64 a)) wr):=⟨b,a,uh je,uh IF,rfl,(uh hO).grown⟩;clear hlt ht;go_wp2;go_ret;exact uh ah
theorem Hp(s g c:N1)(E I:N2)(gC gE gI cC cE cI k:Nat)(w:World)(hL:Gd.av w gC gE gI c E I)(hc:∀i,0<=c i/\c i<=255)(jx:32<=cE)(hE:Md.oF E)(hk:k<32)(rJ:E k 0≠0):Calls prog 213 #[.agg (Gd.world s gC gE gI cC cE cI g),.int .i64 (k:Int)] w (aJ w (.int .i64 (Md.oo s c E k))):=by
 obtain⟨w0,aD⟩:∃w0,w0=w.alloc (.cells (Gd.world s gC gE gI cC cE cI g) 30):=⟨_,rfl⟩;have aN:w.grownBy w0 none:=by rw[aD];exact abE _ _ _
 have hO:Hid (Gd.iz w w0 w.heap.size gC gE gI cC cE cI s g c E I):=by
  refine⟨?_,hL.on aN,aN⟩;rw[aD];exact(ax.world (abH w _)).lie
 obtain⟨x0,x9,y0,y9,-,-⟩:=hE k hk rJ;have fD:=aa hc;have kc:=aa jx;have HK:=aa hk;have jy:(k:Int)<32:=by omega
 have aK:Hid (Md.oo s c E k=if (1<=Dc.kK 8 (s 0) [s 1,(k:Int),90]/\Dc.kK 8 (s 0) [s 1,(k:Int),90]<=4)/\Gr.aS (Gr.at 384 c (E k 3+(Fx.bh (Dc.kK 8 (s 0) [s 1,(k:Int),90])).1) (E k 4+(Fx.bh (Dc.kK 8 (s 0) [s 1,(k:Int),90])).2))=true/\En.first (En.eM E (E k 3+(Fx.bh (Dc.kK 8 (s 0) [s 1,(k:Int),90])).1) (E k 4+(Fx.bh (Dc.kK 8 (s 0) [s 1,(k:Int),90])).2)) 32<0 then Dc.kK 8 (s 0) [s 1,(k:Int),90]else 0):=rfl;have cd:Hid (Calls prog 160 #[.int .i64 8,.int .i64 (s 0),.slice (some ⟨w0.heap.size,0,none⟩) 3 3] (w0.alloc (.cells #[.int .i64 (s 1),.int .i64 (k:Int),.int .i64 90] 3)) fun e w'=>e=.returned (.int .i64 (Dc.kK 8 (s 0) [s 1,(k:Int),90]))/\w'=w0.alloc (.cells #[.int .i64 (s 1),.int .i64 (k:Int),.int .i64 90] 3)):=zh 8 (s 0) _ 3 3 _ _ (qf.fF w0 (s 1) (k:Int) 90 3) (by omega);have Sw:=aa ((uh hO).on (abE w0 (.cells #[.int .i64 (s 1),.int .i64 (k:Int),.int .i64 90] 3) none));obtain⟨d,hd⟩:=abV (Dc.kK 8 (s 0) [s 1,(k:Int),90]);rw[hd]at aK cd;obtain⟨S,hS⟩:=abV (Md.oo s c E k);rw[hS]at aK|-;clear hL hc jx hE aN hk rJ hd hS;unfold Gd.world at aD|-;go_enter func213,ntmps213;go_upto_region 1 with fail;rw[<-aD];clear aD;obtain⟨B,hB⟩:=abV w.heap.size;rw[hB]at hO Sw|-;clear hB;have q0:=(uh hO).box.ae.1;have q1:=(uh hO).box.ae.2.1;go_wp2_with fail;refine aaR (uh cd) fun wy hw=>?_;subst hw;clear cd q0 q1 hO;generalize w0.alloc (.cells #[.int .i64 (s 1),.int .i64 (k:Int),.int .i64 90] 3)=w1 at Sw|-;by_cases h1:d<1
 ·have hS0:Hid (S=0):=(show S=0 by rw[uh aK,abO (by omega)]);clear aK;go_wp2;go_ret;exact⟨rti (uh hS0).symm,(uh Sw).grown⟩
 by_cases h4:d>4
 ·have hS0:Hid (S=0):=(show S=0 by rw[uh aK,abO (by omega)]);clear aK;go_wp2;go_ret;exact⟨rti (uh hS0).symm,(uh Sw).grown⟩
 have aae:=aa (show 1<=d/\d<=4 by omega);have wb:=Fx.oa d;have ca:=aa (fun wq=>vR (E k) d wq x0 x9 y0 y9);unfold En.cells at ca;obtain⟨X,hX⟩:=abV (E k 3+(Fx.bh d).1);obtain⟨Y,hY⟩:=abV (E k 4+(Fx.bh d).2);have hb:(-1<=X/\X<=24)/\-1<=Y/\Y<=16:=by omega
 rw[hX,hY]at ca aK;have pF:=aa hb;clear hX hY wb x0 x9 y0 y9 hb;have q5:=(uh Sw).box.ae.2.2.2.2.2.1;obtain⟨u0,u1,u2,u3,u4,u5,u6,u7,u8,u9,iO⟩:=(uh Sw).ab.own.ai.row (uh HK);go_wp2_with fail;refine(uh ca _).mono ?_;rintro x w2 ⟨⟨a,b,rfl,Ra,Rb⟩,hg⟩;have gK:=aa ((uh Sw).on hg);have cp:Hid (∀wq,Calls prog 218 #[.complex .f64 a b] wq fun e w'=>e=.returned (.tuple #[.int .i64 X,.int .i64 Y])/\w'=wq):=fun wq=>qz a b X Y wq Ra Rb (by have:=uh pF;omega) (by have:=uh pF;omega) (by have:=uh pF;omega) (by have:=uh pF;omega);clear Ra Rb hg q5 u0 u1 u2 u3 u4 u5 u6 u7 u8 u9 iO ca Sw;go_wp2_with fail;refine abW (uh cp _) ?_;clear cp;have q4:=(uh gK).box.ae.2.2.2.2.1;have q5:=(uh gK).box.ae.2.2.2.2.2.1;have cg:=aa (nJ w2.heap.size (some ⟨gC,0,none⟩) 384 cC c X Y w2 (uh gK).ab.lg (uh fD));have ce:=aa (mW gE 32 cE E X Y w2 (uh gK).ab.own.ai (uh kc));obtain⟨A,hA⟩:=abV (Gr.at 384 c X Y);obtain⟨z,hz⟩:=abV (En.first (En.eM E X Y) 32)
 have ck:=aa (fun wq=>gm A wq);obtain⟨wk,sk⟩:=abV (Gr.aS A);rw[hA]at cg aK;rw[hz]at ce aK;rw[sk]at ck aK;clear hA hz sk;go_wp2_with fail;refine abW (uh cg) ?_;go_wp2_with fail;refine abW (uh ck _) ?_;clear cg ck;cases wk
 ·have hS0:Hid (S=0):=(show S=0 by rw[uh aK,abO (by simp)]);clear aK;go_wp2;go_ret;exact⟨rti (uh hS0).symm,(uh gK).grown⟩
 go_wp2_with fail;refine aaR (uh ce) fun w3 hg=>?_;have dl:=aa (gtr (uh gK).grown hg);clear hg ce q4 q5;by_cases dJ:z<0
 ·have hS0:Hid (S=d):=(show S=d by rw[uh aK,abP ⟨uh aae,by first| rfl|trivial,dJ⟩]);have dz:¬z≥0:=by omega
  clear aK;go_wp2;go_ret;exact⟨rti (uh hS0).symm,uh dl⟩
 ·have hS0:Hid (S=0):=(show S=0 by rw[uh aK,abO (by omega)]);have dz:z≥0:=by omega
  clear aK;go_wp2;go_ret;exact⟨rti (uh hS0).symm,uh dl⟩
