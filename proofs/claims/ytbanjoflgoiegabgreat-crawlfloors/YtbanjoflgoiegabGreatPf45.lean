import Derived.Test.YtbanjoflgoiegabGreatPf44
namespace Go.Proofs.YtbanjoflgoiegabGreat
open Go.RowKit

theorem Cr.best_min {F:Nat→Int} {st:Nat→Bool}:∀n,(∀q,q<n→0≤F q→st q=false→0≤Nv.best F st n∧F (Nv.best F st n).toNat≤F q)∧(∀p:Nat,Nv.best F st n=(p:Int)→p<n∧0≤F p∧st p=false)
 | 0=>⟨fun q hq=>by omega,fun p hp=>by unfold Nv.best at hp;omega⟩
 | n+1=>by
  obtain ⟨h1,h2⟩:=Cr.best_min (F:=F) (st:=st) n
  unfold Nv.best
  split
  ·rename_i hc
   refine ⟨fun q hq q0 qs=>⟨by omega,?_⟩,fun p hp=>?_⟩
   ·rw [Int.toNat_natCast]
    by_cases e:q=n
    ·rw [e];exact Int.le_refl _
    ·obtain ⟨b0,b1⟩:=h1 q (by omega) q0 qs
     rcases hc.2.2 with h | h
     ·omega
     ·omega
   ·obtain rfl:p=n:=by omega
    exact ⟨by omega,hc.1,hc.2.1⟩
  ·rename_i hc
   refine ⟨fun q hq q0 qs=>?_,fun p hp=>?_⟩
   ·by_cases e:q=n
    ·subst e
     rcases Nv.best_cases F st q with hb | ⟨p,hp,hb⟩
     ·exact absurd ⟨q0,qs,.inl (by omega)⟩ hc
     ·refine ⟨by omega,?_⟩
      by_cases hl:F q<F (Nv.best F st q).toNat
      ·exact absurd ⟨q0,qs,.inr hl⟩ hc
      ·omega
    ·exact h1 q (by omega) q0 qs
   ·obtain ⟨a,b⟩:=h2 p hp
    exact ⟨by omega,b⟩

theorem Cr.spot_up {c:Nat→Int} {E:Nat→Nat→Int} {v:Int} {u:Nat} (hu:u<384) (hst:Nv.st E 32 u=false) (h:Nv.IsSpot c E 32 ((u:Int) % 24) ((u:Int) / 24) v) (hc:c u≠0) (hF:Nv.Floor c):v=(u:Int):=by
 obtain ⟨F,hfld,rfl⟩:=h
 rw [Md.num_cell hu] at hfld
 have h0:F u=0:=(hfld.zero u hu).2 ⟨(Gn.walk_nz (hF.five u)).2 hc,0,by omega,rfl⟩
 obtain ⟨h1,h2⟩:=Cr.best_min (F:=F) (st:=Nv.st E 32) 384
 obtain ⟨b0,b1⟩:=h1 u hu (by omega) hst
 obtain ⟨p,hp⟩:∃p:Nat,Nv.best F (Nv.st E 32) 384=(p:Int):=⟨_,(Int.toNat_of_nonneg b0).symm⟩
 obtain ⟨p1,p2,_⟩:=h2 p hp
 rw [hp,Int.toNat_natCast] at b1
 obtain ⟨_,j,hj,he⟩:=(hfld.zero p p1).1 (by omega)
 rw [hp]
 exact he.symm

theorem Cr.prowl_quiet {s c:Nat→Int} {E I:Nat→Nat→Int} {f:Nat} (hf1:E f 0=1) (hone:∀k,k<32→k≠f→E k 0≠1) (hfar:∀k,k<32→E k 0≠0→k≠f→∀v,1≤v→v≤4→¬(E k 3+(Fx.way v).1=E f 3∧E k 4+(Fx.way v).2=E f 4)) :
  ∀{i:Nat} {F J:Nat→Nat→Int},i≤32→Cr.ProwlTo s c i E I F J→J=I∧F f=E f∧(∀k,F k 0=E k 0)∧∀k,i≤k→F k=E k
 | 0,_,_,_,h=>by rw [h.1,h.2];exact ⟨rfl,rfl,fun _=>rfl,fun _ _=>rfl⟩
 | i+1,F,J,hi,h=>by
  obtain ⟨G,K,hG,hP⟩:=h
  obtain ⟨rfl,gf,gk,gi⟩:=Cr.prowl_quiet hf1 hone hfar (by omega) hG
  unfold Cr.Prowls at hP
  split at hP
  ·rw [hP.1,hP.2]
   exact ⟨rfl,gf,gk,fun k hk=>gi k (by omega)⟩
  ·rename_i hc
   obtain ⟨v,_,rfl,rfl⟩:=hP
   have hif:i≠f:=fun e=>hc (.inr (.inl (by rw [gk,e];exact hf1)))
   have key:(Cr.act s c G K i v true=(G,K))∨∃x y,Cr.act s c G K i v true=(Cr.go G i x y,K):=by
    unfold Cr.act
    split
    ·exact .inl rfl
    ·rename_i hv
     split
     ·rename_i hw
      rw [if_neg]
      ·exact .inl rfl
      ·intro hd
       have hd':=of_decide_eq_true hd
       unfold Cr.who at hd' hw
       rcases En.first_cases (En.atQ G (G i 3+(Fx.way v).1) (G i 4+(Fx.way v).2)) 32 with ⟨he,_⟩ | ⟨j,hj,he,hq,_⟩
       ·omega
       ·rw [he,Int.toNat_natCast,gk] at hd'
        have hjf:j=f:=by
         by_cases e:j=f
         ·exact e
         ·exact absurd hd' (hone j hj e)
        have hq':G j 0≠0∧G j 3=G i 3+(Fx.way v).1∧G j 4=G i 4+(Fx.way v).2:=by simpa [En.atQ] using hq
        rw [hjf,gf,gi i (Nat.le_refl _)] at hq'
        have h0:E i 0≠0:=fun e=>hc (.inl (by rw [gk];exact e))
        exact hfar i (by omega) h0 hif v (by omega) (by omega) ⟨hq'.2.1.symm,hq'.2.2.symm⟩
     ·split
      ·exact .inr ⟨_,_,rfl⟩
      ·exact .inl rfl
   rcases key with e | ⟨x,y,e⟩
   ·rw [e]
    exact ⟨rfl,gf,gk,fun k hk=>gi k (by omega)⟩
   ·rw [e]
    refine ⟨rfl,by show Cr.go G i x y f=_;rw [Cr.go_row G x y hif.symm];exact gf,fun k=>?_,fun k hk=>by show Cr.go G i x y k=_;rw [Cr.go_row G x y (by omega)];exact gi k (by omega)⟩
    by_cases e2:k=i
    ·rw [e2]
     show Cr.go G i x y i 0=_
     rw [Cr.go_at,if_neg (by omega),if_neg (by omega)]
     exact gk i
    ·show Cr.go G i x y k 0=_
     rw [Cr.go_row G x y e2]
     exact gk k

theorem Cr.one_else {E:Nat→Nat→Int} {k f:Nat} (h:f≠k):Ft.oneE E k f=E f:=by
 have hs:Ft.stunE E k f=E f:=by
  unfold Ft.stunE
  split
  ·exact Ft.set_row _ _ _ _ _ h
  ·rfl
 unfold Ft.oneE
 split
 ·have hp:Ft.poisE (Ft.stunE E k) k f=E f:=by
   unfold Ft.poisE
   rw [Ft.set_row _ _ _ _ _ h]
   exact hs
  unfold Ft.hurtE
  split
  ·rw [Ft.set_row _ _ _ _ _ h];exact hp
  ·rw [En.put_other h];exact hp
 ·exact hs

theorem Cr.ail_row {E I:Nat→Nat→Int} {f:Nat} (h9:¬0<E f 9) (h10:¬0<E f 10):∀n,(Ft.ailE E I n).1 f=E f
 | 0=>rfl
 | n+1=>by
  have ih:=Cr.ail_row (I:=I) h9 h10 n
  unfold Ft.ailE
  split
  ·show Ft.oneE (Ft.ailE E I n).1 n f=E f
   by_cases e:f=n
   ·subst e
    unfold Ft.oneE
    rw [if_neg (by rw [ih];exact h9)]
    unfold Ft.stunE
    rw [if_neg (by rw [ih];exact h10)]
    exact ih
   ·rw [Cr.one_else e]
    exact ih
  ·exact ih

theorem Cr.stock_rows:∀(es:List (Int × Nat)) {E:Nat→Nat→Int} {n:Nat},(∀k,k<32→E k 0≠0→k<n)→n+es.length≤32→(∀k,k<32→Cr.stockE E es k 0≠0→k<n+es.length)∧∀k,k<32→Cr.stockE E es k=E k∨∃p γ,p∈es∧Cr.stockE E es k=En.gen (Cr.one p.1 0 p.2) γ
 | [],_,n,h,_=>⟨fun k hk k0=>by have:=h k hk k0;simpa using this,fun k _=>.inl rfl⟩
 | p :: es,E,n,h,hn=>by
  have hn':n+1+es.length≤32:=by simp at hn;omega
  obtain ⟨E',hE'⟩:∃E',E'=if En.first (En.atQ E ((p.2:Int) % 24) ((p.2:Int) / 24)) 32<0 then Cr.join E (Cr.one p.1 0 p.2) else E:=⟨_,rfl⟩
  have hst:Cr.stockE E (p :: es)=Cr.stockE E' es:=by rw [hE'];rfl
  have hj:∀k,k<32→E' k=E k∨(k≤n∧∃γ,E' k=En.gen (Cr.one p.1 0 p.2) γ):=fun k hk=>by
   rw [hE']
   split
   ·rcases Cr.join_cases E (Cr.one p.1 0 p.2) with he | ⟨f,hf,f0,hno,he⟩
    ·rw [he];exact .inl rfl
    ·rw [he]
     by_cases e:k=f
     ·rw [e,En.put_same]
      refine .inr ⟨?_,_,rfl⟩
      by_cases hfn:f≤n
      ·exact hfn
      ·have:=h n (by omega) (hno n (by omega))
       omega
     ·rw [En.put_other e];exact .inl rfl
   ·exact .inl rfl
  obtain ⟨h1,h2⟩:=Cr.stock_rows es (E:=E') (n:=n+1) (fun k hk k0=>by
   rcases hj k hk with e | ⟨hkn,_⟩
   ·rw [e] at k0
    have:=h k hk k0
    omega
   ·omega) hn'
  rw [hst]
  refine ⟨fun k hk k0=>by have:=h1 k hk k0;simp;omega,fun k hk=>?_⟩
  rcases h2 k hk with e | ⟨q,γ,hq,e⟩
  ·rcases hj k hk with e2 | ⟨_,γ,e2⟩
   ·exact .inl (e.trans e2)
   ·exact .inr ⟨p,γ,List.mem_cons_self ..,e.trans e2⟩
  ·exact .inr ⟨q,γ,List.mem_cons_of_mem _ hq,e⟩

theorem Cr.afar {d:Gn.Dice} {c F:Nat→Int} {far p:Nat} (hf:Gn.Facts d c F far) (hp:p<384) (hc:c p≠0) (h4:4≤F p) {v:Int} (v1:1≤v) (v4:v≤4):¬((p:Int) % 24+(Fx.way v).1=((Gn.up d:Nat):Int) % 24∧(p:Int) / 24+(Fx.way v).2=((Gn.up d:Nat):Int) / 24):=by
 intro h
 have hu:=hf.upl
 have h0:F (Gn.up d)=0:=(hf.fld.zero _ hu).2 rfl
 have hw:=(Gn.walk_nz (hf.five p)).2 hc
 have key:∃e,e<4∧Gr.nbIn (Gn.up d) e∧Gr.nbOf (Gn.up d) e=p:=by
  have fin:∀e,e<4→((Gn.up d % 24:Nat):Int)+Gr.dxOf e=(p:Int) % 24→((Gn.up d / 24:Nat):Int)+Gr.dyOf e=(p:Int) / 24→∃e,e<4∧Gr.nbIn (Gn.up d) e∧Gr.nbOf (Gn.up d) e=p:=fun e he hx hy=>by
   have hin:Gr.nbIn (Gn.up d) e:=by
    unfold Gr.nbIn
    rw [hx,hy]
    omega
   refine ⟨e,he,hin,?_⟩
   have:=Gr.nb_eq hin
   rw [hx,hy] at this
   omega
  rcases (show v=1∨v=2∨v=3∨v=4 by omega) with rfl | rfl | rfl | rfl
  ·have e1:Fx.way 1=(0,-1):=rfl
   rw [e1] at h
   exact fin 2 (by omega) (by show _+(0:Int)=_;omega) (by show _+(1:Int)=_;omega)
  ·have e1:Fx.way 2=(1,0):=rfl
   rw [e1] at h
   exact fin 3 (by omega) (by show _+(-1:Int)=_;omega) (by show _+(0:Int)=_;omega)
  ·have e1:Fx.way 3=(0,1):=rfl
   rw [e1] at h
   exact fin 0 (by omega) (by show _+(0:Int)=_;omega) (by show _+(-1:Int)=_;omega)
  ·have e1:Fx.way 4=(-1,0):=rfl
   rw [e1] at h
   exact fin 1 (by omega) (by show _+(1:Int)=_;omega) (by show _+(0:Int)=_;omega)
 obtain ⟨e,he,hin,hnb⟩:=key
 have:=(hf.fld.fwd (Gn.up d) hu (by omega) e he hin (by rw [hnb];exact hw)).2
 rw [hnb] at this
 omega

theorem Cr.moved_none {s c how inp:Nat→Int}:∀{t:Nat} {m n:Cr.M},(∀j,j<t→how j≠1∧how j≠2)→Cr.MovedTo s c how inp t m n→n=m
 | 0,_,_,_,h=>h
 | t+1,m,n,hh,h=>by
  obtain ⟨o,ho,hn⟩:=h
  have e:=Cr.moved_none (fun j hj=>hh j (by omega)) ho
  unfold Cr.Moved at hn
  rw [if_pos (.inr (.inr (hh t (by omega))))] at hn
  rw [hn,e]

theorem Cr.first_frame {seed:Int} {how inp:Nat→Int} {sp:Nat→Bool} {S T:Cr.W} (hN:Cr.IsNew seed S) (hT:Cr.IsStep how inp sp S T) (hh:∀j,j<4→how j≠1∧how j≠2) (h0:sp 0=true) (h1:sp 1=false) (h2:sp 2=false) (h3:sp 3=false) :
  T.c=S.c∧T.s 0=seed∧T.s 1=1∧T.s 2=1∧T.s 3=0∧∃(f u:Nat) (γ:Int),f<32∧u<384∧Gr.find 384 S.c 3=(u:Int)∧T.E f=En.gen (Cr.one 1 0 u) γ:=by
 have hG:=hN.good
 obtain ⟨c,es,is,hl,rfl⟩:=hN
 obtain ⟨u,hu,hfu,hcu,hu1⟩:=Cr.up_stair hl.floor
 have hlev:=hl
 obtain ⟨d,F0,_,hFair,hL,hes,_⟩:=hlev
 obtain ⟨far,hfa⟩:=hL.facts hFair
 have hud:Gn.up d=u:=hu1 _ ((hfa.is3 _).2 rfl)
 have hlen:es.length≤3:=by
  rw [hes]
  exact Gn.mons_len d 1 ((1:Int)+2).toNat 0 _
 obtain ⟨hrow,hwho⟩:=Cr.stock_rows es (E:=fun _ _=>0) (n:=0) (fun k _ k0=>absurd rfl k0) (by omega)
 obtain ⟨E,hE⟩:∃E,Cr.stockE (fun _ _=>0) es=E:=⟨_,rfl⟩
 rw [hE] at hG hT hrow hwho
 obtain ⟨I,hI⟩:∃I,Cr.stockI (fun _ _=>0) is=I:=⟨_,rfl⟩
 rw [hI] at hG hT
 have hmon:∀k,k<32→E k 0≠0→E k 0≠1∧∃p:Nat,p<384∧c p≠0∧4≤F0 p∧E k 3=(p:Int) % 24∧E k 4=(p:Int) / 24:=fun k hk k0=>by
  rcases hwho k hk with e | ⟨p,γ,hp,e⟩
  ·rw [e] at k0;exact absurd rfl k0
  ·obtain ⟨i,hi⟩:=List.mem_iff_getElem?.1 hp
   rw [hes] at hi
   obtain ⟨k2,k4,hq,hc1,hF4⟩:=Gn.ents_at hFair (by omega) hi
   obtain ⟨o0,_,o3,o4,_⟩:=Cr.one_at p.1 0 p.2
   have g:∀j,j≠1→En.gen (Cr.one p.1 0 p.2) γ j=Cr.one p.1 0 p.2 j:=fun j hj=>if_neg hj
   rw [e,g 0 (by omega),g 3 (by omega),g 4 (by omega),o0 (by omega) (by omega),o3,o4]
   exact ⟨by omega,p.2,hq,by omega,hF4,rfl,rfl⟩
 have hnoh:∀t:Int,Gd.hero E t<0:=fun t=>by
  unfold Gd.hero
  rw [En.first_none (fun k hk=>?_)]
  ·omega
  ·unfold En.heroQ
   by_cases k0:E k 0=0
   ·simp [k0]
   ·simp [(hmon k hk k0).1]
 have hst:Nv.st E 32 u=false:=by
  unfold Nv.st
  refine decide_eq_false ?_
  rw [En.first_none (fun k hk=>?_)]
  ·omega
  ·by_cases k0:E k 0=0
   ·simp [En.atQ,k0]
   ·obtain ⟨_,p,hp,_,h4,h3,h4'⟩:=hmon k hk k0
    have hz:F0 u=0:=by rw [←hud];exact (hfa.fld.zero _ hfa.upl).2 rfl
    have hne:p≠u:=fun e=>by rw [e] at h4;omega
    unfold En.atQ
    rw [h3,h4']
    by_cases e1:(p:Int) % 24=((u % 24:Nat):Int)
    ·by_cases e2:(p:Int) / 24=((u / 24:Nat):Int)
     ·exact absurd (by omega) hne
     ·rw [decide_eq_false e2,Bool.and_false,Bool.and_false]
    ·rw [decide_eq_false e1,Bool.false_and,Bool.and_false]
 unfold Cr.IsStep at hT
 have hs0:¬(Cr.first seed 3≠0):=fun h=>h rfl
 rw [if_neg hs0] at hT
 obtain ⟨A,m,F,J,hA,hm,hF,hEn⟩:=hT
 obtain ⟨f,hf,f0,-,-⟩:∃f,f<32∧E f 0=0∧True∧True:=⟨31,by omega,by
  by_cases k0:E 31 0=0
  ·exact k0
  ·have:=hrow 31 (by omega) k0
   omega,trivial,trivial⟩
 -- who comes
 have hAe:A=Cr.join E (Cr.one 1 0 u):=by
  obtain ⟨A3,⟨A2,⟨A1,⟨A0,hA0,c0⟩,c1⟩,c2⟩,c3⟩:=hA
  have e0:A0=E:=hA0
  rw [e0] at c0
  unfold Cr.Comes at c0 c1 c2 c3
  rw [if_pos ⟨h0,hnoh _⟩] at c0
  rw [if_neg (by rw [h1];simp)] at c1
  rw [if_neg (by rw [h2];simp)] at c2
  rw [if_neg (by rw [h3];simp)] at c3
  obtain ⟨v,hv,hc0⟩:=c0
  have hv':Nv.IsSpot c E 32 (Gr.find 384 c 3 % 24) (Gr.find 384 c 3 / 24) v:=hv
  rw [hfu] at hv'
  have hvu:=Cr.spot_up hu hst hv' (by rw [hcu];omega) hl.floor
  rcases hc0 with ⟨hneg,_⟩ | ⟨q,hq,hA1⟩
  ·omega
  ·obtain rfl:q=u:=by omega
   rw [c3,c2,c1,hA1]
   rfl
 obtain ⟨r,hr,r0,-,hj⟩:∃r,r<32∧E r 0=0∧True∧Cr.join E (Cr.one 1 0 u)=En.put E r (En.gen (Cr.one 1 0 u) ((E r 1+1) % 256)):=by
  rcases Cr.join_cases E (Cr.one 1 0 u) with he | ⟨r,hr,r0,_,he⟩
  ·exfalso
   unfold Cr.join at he
   rcases En.first_cases (En.freeQ E) 32 with ⟨_,hno⟩ | ⟨k,hk,hke,hq,_⟩
   ·have:=hno f hf
    simp [En.freeQ,f0] at this
   ·rw [hke,if_pos (by omega),Int.toNat_natCast] at he
    have h2:=congrFun (congrFun he k) 0
    rw [En.put_same] at h2
    have h3:En.gen (Cr.one 1 0 u) ((E k 1+1) % 256) 0=1:=rfl
    have h4:E k 0=0:=by simpa [En.freeQ] using hq
    omega
  ·exact ⟨r,hr,r0,trivial,he⟩
 rw [hj] at hAe
 have hme:=Cr.moved_none (fun j hj=>hh j hj) hm
 have o:=Cr.one_at 1 0 u
 have gen:∀γ j,j≠1→En.gen (Cr.one 1 0 u) γ j=Cr.one 1 0 u j:=fun γ j hj=>if_neg hj
 have hAr:A r=En.gen (Cr.one 1 0 u) ((E r 1+1) % 256):=by rw [hAe,En.put_same]
 have hAo:∀k,k≠r→A k=E k:=fun k hk=>by rw [hAe,En.put_other hk]
 rw [hme] at hF hEn
 have hq:=Cr.prowl_quiet (s:=Cr.num (Cr.first seed) 1 (Cr.first seed 1+1)) (c:=c) (E:=A) (I:=I) (f:=r) (by rw [hAr,gen _ 0 (by omega)];exact o.1 (by omega) (by omega))
  (fun k hk hkr=>by rw [hAo k hkr];by_cases k0:E k 0=0;omega;exact (hmon k hk k0).1)
  (fun k hk k0 hkr v v1 v4=>by
   rw [hAo k hkr] at k0 ⊢
   obtain ⟨_,p,hp,hcp,h4,e3,e4⟩:=hmon k hk k0
   rw [e3,e4,hAr,gen _ 3 (by omega),gen _ 4 (by omega),o.2.2.1,o.2.2.2.1,←hud]
   exact Cr.afar hfa hp hcp h4 v1 v4) (i:=32) (Nat.le_refl _) hF
 obtain ⟨_,hFr,_,_⟩:=hq
 have hr9:F r 9=0∧F r 10=0:=by
  rw [hFr,hAr,gen _ 9 (by omega),gen _ 10 (by omega)]
  exact ⟨rfl,rfl⟩
 have hail:=Cr.ail_row (E:=F) (I:=J) (f:=r) (by omega) (by omega) 32
 have hrat:Cr.rats (Cr.num (Cr.first seed) 1 (Cr.first seed 1+1)) c (Ft.ailE F J 32).1=(Ft.ailE F J 32).1:=by
  unfold Cr.rats
  rw [if_neg (fun h=>by have:(0:Int)+1=1:=rfl;exact absurd h.1 (by show ¬((0:Int)+1) % 16=0;decide))]
 have hEr:(Ft.ailE F J 32).1 r=En.gen (Cr.one 1 0 u) ((E r 1+1) % 256):=by rw [hail,hFr,hAr]
 have hman:Cr.manned (Ft.ailE F J 32).1=true:=Cr.manned_of (t:=0) (k:=r) (by omega) hr (by rw [hEr,gen _ 0 (by omega)];exact o.1 (by omega) (by omega)) (by rw [hEr,gen _ 2 (by omega)];exact o.2.1)
 change Cr.Ends _ _ c (Cr.rats _ c (Ft.ailE F J 32).1) _ _ false T at hEn
 rw [hrat] at hEn
 unfold Cr.Ends at hEn
 rw [if_neg (by rw [hman];exact Bool.false_ne_true.symm),if_neg Bool.false_ne_true] at hEn
 subst hEn
 exact ⟨rfl,rfl,rfl,rfl,rfl,r,u,_,hr,hu,hfu,hEr⟩


open Go.RowKit

structure Cr.Sole (E:Nat→Nat→Int) (f:Nat) (t:Int):Prop where
 lt:f<32
 one:E f 0=1
 seat:E f 2=t
 free:∀k,k<32→k≠f→E k 0=0

theorem Cr.Sole.hero {E:Nat→Nat→Int} {f:Nat} {t:Int} (h:Cr.Sole E f t):Gd.hero E t=(f:Int):=by
 unfold Gd.hero
 refine En.first_hit (fun j hj=>?_) (by simp [En.heroQ,h.one,h.seat]) h.lt
 have hl:=h.lt
 simp [En.heroQ,h.free j (by omega) (by omega)]

theorem Cr.Sole.none {E:Nat→Nat→Int} {f:Nat} {t u:Int} (h:Cr.Sole E f t) (hu:u≠t):Gd.hero E u<0:=by
 unfold Gd.hero
 rw [En.first_none (fun j hj=>?_)]
 ·omega
 ·by_cases e:j=f
  ·have hs:=h.seat
   have:¬E f 2=u:=by omega
   rw [e]
   simp [En.heroQ,this]
  ·simp [En.heroQ,h.free j hj e]

theorem Cr.prowl_none {s c:Nat→Int} {E I:Nat→Nat→Int} (h:∀k,k<32→E k 0=0∨E k 0=1):∀{i:Nat} {F J:Nat→Nat→Int},i≤32→Cr.ProwlTo s c i E I F J→F=E∧J=I
 | 0,_,_,_,hp=>hp
 | i+1,F,J,hi,hp=>by
  obtain ⟨G,K,hG,hP⟩:=hp
  obtain ⟨rfl,rfl⟩:=Cr.prowl_none h (by omega) hG
  unfold Cr.Prowls at hP
  rw [if_pos (by rcases h i (by omega) with e | e;exact .inl e;exact .inr (.inl e))] at hP
  exact hP


open Go.RowKit

theorem Cr.void_sane {c:Nat→Int} {I:Nat→Nat→Int} (hc:∀i,0≤c i∧c i≤255) (hI:Gd.Ok c 40 I):Cr.Sane c (fun _ _=>0) I :=
 ⟨⟨hc,hI,fun k _=>⟨(by show (0:Int)≤0;omega),(by show (0:Int)≤255;omega),.inl fun _ _ _=>rfl⟩⟩,⟨fun k _ k0=>absurd rfl k0,⟨fun k _ k0=>absurd rfl k0,fun j k _ _ j0=>absurd rfl j0⟩⟩,⟨fun k _ k1=>by have k1':(0:Int)=1:=k1;omega,fun j k _ _ j1=>by have j1':(0:Int)=1:=j1;omega,fun k _ k0=>absurd rfl k0⟩⟩

theorem world_lone (seed floor at_ gold:Int) (w:World) :
  Calls Tryz.prog 22 #[.int .i64 seed,.int .i64 floor,.int .i64 0,.int .i64 at_,.slice none 0 0,.int .i64 gold] w fun e w'=>∃(c:Nat→Int) (kc:Nat),kc<384∧Gr.walkB (c kc)=true∧Cr.Good ⟨Gd.head seed (1+floor % 3),Gd.give (fun _=>0) 0 (gold % 1000),c,En.put (fun _ _=>0) (at_ % 32).toNat (Gd.folk 0 kc (at_ % 20)),fun _ _=>0⟩∧Cr.Sole (En.put (fun _ _=>0) (at_ % 32).toNat (Gd.folk 0 kc (at_ % 20))) (at_ % 32).toNat 0∧Gd.WorldsW w (Gd.head seed (1+floor % 3)) (Gd.give (fun _=>0) 0 (gold % 1000)) c (En.put (fun _ _=>0) (at_ % 32).toNat (Gd.folk 0 kc (at_ % 20))) (fun _ _=>0) e w':=by
 refine (world_any seed floor 0 at_ gold none 0 0 (fun _ _=>0) w ⟨by omega,.inl rfl⟩).mono ?_
 rintro e w' ⟨c,kc,hF,hkc,hkw,hshop,I,hW,hOk,hKn⟩
 have hI:=hKn.1.1 rfl
 subst hI
 have hr:(at_ % 32).toNat<32:=by omega
 generalize (at_ % 32).toNat=r at hW hr ⊢
 have h0:0≤at_ % 20:=by omega
 have h20:at_ % 20<20:=by omega
 generalize at_ % 20=h at hW h0 h20 ⊢
 have hc:∀i,0≤c i∧c i≤255:=fun i=>⟨(hF.five i).1,by have:=(hF.five i).2;omega⟩
 obtain ⟨gC,gE,gI,cC,cE,cI,he,hcE,rest⟩:=hW
 have hcC:384≤cC:=by rw [he] at hKn;exact Md.snug_cap hKn.2
 refine ⟨c,kc,hkc,hkw,⟨(Cr.void_sane hc hOk).put hkc ?_ ?_ rfl rfl rfl ⟨rfl,rfl,rfl⟩ (by show (0:Int)≤0;omega) (by show (0:Int)<4;omega) (fun j _ j1=>by have j1':(0:Int)=1:=j1;omega),hF,?_,?_,?_,?_,?_⟩,⟨hr,by rw [En.put_same];rfl,by rw [En.put_same];rfl,fun k _ hk=>by rw [En.put_other hk]⟩,⟨gC,gE,gI,cC,cE,cI,he,⟨hcE,hcC⟩,rest⟩⟩
 ·refine ⟨hkw,?_⟩
  rw [En.first_none (fun k _=>by simp [En.atQ])]
  omega
 ·refine ⟨by show (0:Int)≤0;omega,by show (0:Int)≤255;omega,.inr ?_⟩
  show 1≤(1:Int)∧(1:Int)≤4∧1≤1+h∧1+h≤20∧(20:Int)≤20∧0≤(5:Int)∧(5:Int)≤5∧0≤(1:Int)∧(1:Int)≤1∧0≤(0:Int)∧(0:Int)≤9∧0≤(0:Int)∧(0:Int)≤9
  omega
 ·intro t ht
  show 0≤Gd.give (fun _=>0) 0 (gold % 1000) t∧Gd.give (fun _=>0) 0 (gold % 1000) t≤999
  unfold Gd.give
  split
  ·omega
  ·show (0:Int)≤0∧(0:Int)≤999
   omega
 ·show 1≤1+floor % 3
  omega
 ·show 1+floor % 3≤3
  omega
 ·show (0:Int)≤0
  omega
 ·show (0:Int)≤2
  omega


open Go.RowKit

theorem Cr.stock_keeps:∀(es:List (Int × Nat)) {E:Nat→Nat→Int} {k:Nat},E k 0≠0→Cr.stockE E es k=E k
 | [],_,_,_=>rfl
 | p :: es,E,k,h=>by
  have h1:(if En.first (En.atQ E ((p.2:Int) % 24) ((p.2:Int) / 24)) 32<0 then Cr.join E (Cr.one p.1 0 p.2) else E) k=E k:=by
   split
   ·exact Cr.join_keeps h
   ·rfl
  exact (Cr.stock_keeps es (show (if En.first (En.atQ E ((p.2:Int) % 24) ((p.2:Int) / 24)) 32<0 then Cr.join E (Cr.one p.1 0 p.2) else E) k 0≠0 by rw [h1];exact h)).trans h1


open Go.RowKit

theorem Cr.down_stair {c:Nat→Int} (hF:Nv.Floor c):∃u:Nat,u<384∧Gr.find 384 c 4=(u:Int)∧c u=4:=by
 obtain ⟨_,u,_,hu,_,h4⟩:=hF.stairs
 refine ⟨u,hu,?_,(h4 u).2 rfl⟩
 have key:∀n k:Nat,k≤u→u<k+n→Gr.findFrom c 4 n k=(u:Int):=by
  intro n
  induction n with
  | zero=>intro k h1 h2;omega
  | succ n ih =>
   intro k h1 h2
   unfold Gr.findFrom
   by_cases e:c k=4
   ·rw [if_pos e,(h4 k).1 e]
   ·rw [if_neg e]
    refine ih (k+1) ?_ (by omega)
    by_cases ek:k=u
    ·exact absurd ((h4 k).2 ek) e
    ·omega
 exact key 384 0 (by omega) (by omega)


open Go.RowKit

theorem Gd.find_self {I:Nat→Nat→Int} {k:Nat} (hk:k<40):Gd.find I 40 (I k 1) (I k 2) (I k 3)=(k:Int)↔∀j,j<k→¬(I j 1=I k 1∧I j 2=I k 2∧I j 3=I k 3):=by
 rcases Gd.find_cases I 40 (I k 1) (I k 2) (I k 3) with ⟨_,hno⟩ | ⟨m,hm,e,h1,h2,h3,hlow⟩
 ·exact absurd ⟨rfl,rfl,rfl⟩ (hno k hk)
 ·rw [e]
  constructor
  ·intro h j hj
   exact hlow j (by omega)
  ·intro h
   by_cases lt:m<k
   ·exact absurd ⟨h1,h2,h3⟩ (h m lt)
   ·by_cases gt:k<m
    ·exact absurd ⟨rfl,rfl,rfl⟩ (hlow k gt)
    ·have:m=k:=by omega
     rw [this]

theorem Gd.fits_where {c:Nat→Int} {k p a b:Int} (h:Gd.fitsB c k p a b=true):p≠0∧1≤k∧k≤4:=by
 have:=(Gd.fits_iff c (Gd.row k p a b)).1 h
 exact ⟨this.where_ne,this.1,this.2.1⟩

set_option maxHeartbeats 6400000 in
theorem refCheck_any (s g c:Nat→Int) (E I:Nat→Nat→Int) (gC gE gI cC cE cI:Nat) (w:World) (hL:Gd.Lists w gC gE gI c E I) (hc:∀i,0≤c i∧c i≤255) :
  Calls Tryz.prog 19 #[.agg (Gd.world s gC gE gI cC cE cI g)] w (Tells7 w (Gd.Ok c 40 I)):=by
 obtain ⟨w0,hw0⟩:∃w0,w0=w.alloc (.cells (Gd.world s gC gE gI cC cE cI g) 28):=⟨_,rfl⟩
 have hbox:Lie w0 w.heap.size 28 11 (Gd.box s gC gE gI cC cE cI g):=by rw [hw0];exact (Arr.world (heap_alloc_new w _)).lie
 have hg0:w.grownBy w0 none:=by rw [hw0];exact World.grownBy_alloc _ _ _
 have hL0:=hide (hL.on hg0)
 obtain ⟨B,hB⟩:∃B,w.heap.size=B:=⟨_,rfl⟩
 rw [hB] at hbox
 have hbox':=hide hbox
 have hg0':=hide hg0
 have hc':=hide hc
 obtain ⟨_,_,_,_,_,_,b6,_⟩:=hbox.eleven
 clear hL hc hbox hg0
 unfold Gd.world at hw0 ⊢
 go_enter Tryz.func19,Tryz.ntmps19
 go_upto_region 1 with fail
 rw [←hw0]
 clear hw0 hB
 go_wp2_with fail
 go_loopw [3] (fun i wr=>∃k:Nat,k≤40∧i=.int .i64 (k:Int)∧(∀j,j<k→Gd.good c I j)∧w0.grownBy wr none) (fun i _=>200 - (intOf i).toNat)
 case atStart=>exact ⟨0,by omega,rfl,fun j hj=>by omega,World.grownBy.refl _ _⟩
 case round =>
  obtain ⟨k,hk,rfl,hno,hgr⟩:=hrel
  have hno':=hide hno
  have hgr':=hide hgr
  clear hno hgr b6
  obtain ⟨b0,b1,b2,b3,b4,b5,b6,b7,b8,b9,b10⟩:=((uh hbox').on (uh hgr')).eleven
  by_cases hlt:k<40
  ·obtain ⟨u0,u1,u2,u3⟩:=((uh hL0).on (uh hgr')).its.row hlt
   have hlt':(k:Int)<40:=by omega
   have HL:=hide hlt
   have lB:=((uh hbox').on (uh hgr')).lt
   clear hlt
   have hnx:=hide (fun (o:Obj)=>gal (uh hgr') o)
   by_cases hz:Gd.zeroB (I k 0) (I k 1) (I k 2) (I k 3)=true
   ·have hq:Hid (Gd.good c I k):=.inl hz
    obtain ⟨e0,e1,e2,e3⟩:I k 0=0∧I k 1=0∧I k 2=0∧I k 3=0:=of_decide_eq_true hz
    rw [e0] at u0
    rw [e1] at u1
    rw [e2] at u2
    rw [e3] at u3
    clear hz e0 e1 e2 e3
    go_wp2
    go_roundw
    case rel=>exact ⟨k+1,by have:=uh HL;omega,by go_num,fun j hj=>by
     by_cases e:j=k
     ·rw [e];exact uh hq
     ·exact uh hno' j (by omega),uh hnx _⟩
    case measure=>simp [intOf];omega
   ·have hz':Gd.zeroB (I k 0) (I k 1) (I k 2) (I k 3)=false:=by simpa using hz
    have hcmp:∀wx:World,(binOp .eql 47 (.agg #[.int .i64 (I k 0),.int .i64 (I k 1),.int .i64 (I k 2),.int .i64 (I k 3)]) (.agg #[.int .i64 0,.int .i64 0,.int .i64 0,.int .i64 0])).run Tryz.prog wx=.ok (.bool false) wx:=fun wx=>by
     rw [run_eq_item]
     refine congrArg (fun z=>Result.ok (Value.bool z) wx) ?_
     have h:=of_decide_eq_false hz'
     rw [←Bool.not_eq_true]
     simp only [Bool.and_eq_true,decide_eq_true_eq]
     exact h
    have nz:=hide hz'
    clear hz hz'
    by_cases k1:1≤I k 0
    ·by_cases k4:I k 0≤4
     ·have nk1:¬I k 0<1:=by omega
      have nk4:¬I k 0 > 4:=by omega
      have cpl0:=fun (o:Obj)=>refPlaced_any s g c gC gE gI cC cE cI (I k 0) (I k 1) (I k 2) (I k 3) (wr.alloc o) ((uh hL0).on (uh hnx o)).vec (uh hc') k1 k4
      unfold Gd.world at cpl0
      obtain ⟨V,hV⟩:∃V,Gd.fitsB c (I k 0) (I k 1) (I k 2) (I k 3)=V:=⟨_,rfl⟩
      rw [hV] at cpl0
      have hV':=hide hV
      have cpl:=hide cpl0
      clear cpl0 hV k1 k4
      have hnew:=hide (Arr.lit (heap_alloc_new wr (.cells #[.int .i64 (I k 0),.int .i64 (I k 1),.int .i64 (I k 2),.int .i64 (I k 3)] 47))).lie
      have hgb:=hide (uh hnx (.cells #[.int .i64 (I k 0),.int .i64 (I k 1),.int .i64 (I k 2),.int .i64 (I k 3)] 47))
      go_wp2_with fail
      refine (uh cpl _).mono ?_
      rintro e w1 ⟨rfl,hg1⟩
      have hn1:=hide ((uh hnew).on hg1)
      have hg1':=hide (gtr (uh hgb) hg1)
      obtain ⟨P,hP⟩:∃P,wr.heap.size=P:=⟨_,rfl⟩
      rw [hP] at hn1 ⊢
      clear hP hnew hgb hg1 cpl hcmp u0 u1 u2 u3 b0 b1 b2 b3 b4 b5 b6 b7 b8 b9 b10 lB
      cases V with
      | false =>
       have hnok:=hide (show ¬Gd.Ok c 40 I from fun h=>by
        rcases Gd.ok_good h (uh HL) with h1 | ⟨h1,_⟩
        ·rw [uh nz] at h1;cases h1
        ·rw [uh hV'] at h1;cases h1)
       have hfin:=hide (gtr (uh hg0') (uh hg1'))
       go_wp2
       go_ret
       exact ⟨false,rfl,⟨(fun h=>absurd h (by simp)),(fun h=>absurd h (uh hnok))⟩,uh hfin⟩
      | true =>
       have hwh:=hide (Gd.fits_where (uh hV')).1
       go_wp2_with fail
       go_loopw [5] (fun i wz=>∃j:Nat,j≤k∧i=.int .i64 (j:Int)∧(∀q,q<j→¬(I q 1=I k 1∧I q 2=I k 2∧I q 3=I k 3))∧w1.grownBy wz none) (fun i _=>200 - (intOf i).toNat)
       case atStart=>exact ⟨0,by omega,rfl,fun j hj=>by omega,World.grownBy.refl _ _⟩
       case round =>
        obtain ⟨j,hj,rfl,hlow,hgz⟩:=hrel
        have hlow':=hide hlow
        have hgz':=hide hgz
        clear hlow hgz
        have x1:wr.cell? ⟨P,1,none⟩=some (.int .i64 (I k 1)):=((uh hn1).on (uh hgz')).cell (c:=1) (by simp)
        have x2:wr.cell? ⟨P,2,none⟩=some (.int .i64 (I k 2)):=((uh hn1).on (uh hgz')).cell (c:=2) (by simp)
        have x3:wr.cell? ⟨P,3,none⟩=some (.int .i64 (I k 3)):=((uh hn1).on (uh hgz')).cell (c:=3) (by simp)
        have lP:=((uh hn1).on (uh hgz')).lt
        have hgt:=hide (gtr (uh hg1') (uh hgz'))
        have b6:=((uh hbox').on (uh hgt)).eleven.2.2.2.2.2.2.1
        by_cases hjk:j<k
        ·have hj40:j<40:=by have:=uh HL;omega
         obtain ⟨v0,v1,v2,v3⟩:=((uh hL0).on (uh hgt)).its.row hj40
         have hj40':(j:Int)<40:=by omega
         have hjk':(j:Int)<(k:Int):=by omega
         have hnz:=hide (fun (o:Obj)=>gal (uh hgz') o)
         have hft:=hide (fun (o:Obj)=>gtr (uh hg0') (gal (uh hgt) o))
         have HJ:=hide hjk
         clear hjk hj40
         by_cases c1:I j 1=I k 1
         ·by_cases c2:I j 2=I k 2
          ·by_cases c3:I j 3=I k 3
           ·have hnok:=hide (show ¬Gd.Ok c 40 I from fun h=>by
             rcases Gd.ok_good h (uh HL) with h1 | ⟨_,h1⟩
             ·rw [uh nz] at h1;cases h1
             ·exact (Gd.find_self (uh HL)).1 h1 j (uh HJ) ⟨c1,c2,c3⟩)
            have hne:¬I k 1=0:=uh hwh
            have hne':(I k 1 == 0)=false:=by simp [hne]
            rw [c1] at v1
            rw [c2] at v2
            rw [c3] at v3
            clear c1 c2 c3
            go_wp2
            go_ret
            exact ⟨false,rfl,⟨(fun h=>absurd h (by simp)),(fun h=>absurd h (uh hnok))⟩,uh hft _⟩
           ·have c3':(I j 3 == I k 3)=false:=by simp [c3]
            rw [c1] at v1
            rw [c2] at v2
            have hq:=hide (show ¬(I j 1=I k 1∧I j 2=I k 2∧I j 3=I k 3) from fun h=>c3 h.2.2)
            clear c1 c2
            go_wp2
            go_roundw
            case rel=>exact ⟨j+1,by have:=uh HJ;omega,by go_num,fun q hq1=>by
             by_cases e:q=j
             ·rw [e];exact uh hq
             ·exact uh hlow' q (by omega),uh hnz _⟩
            case measure=>simp [intOf];omega
          ·have c2':(I j 2 == I k 2)=false:=by simp [c2]
           rw [c1] at v1
           have hq:=hide (show ¬(I j 1=I k 1∧I j 2=I k 2∧I j 3=I k 3) from fun h=>c2 h.2.1)
           clear c1
           go_wp2
           go_roundw
           case rel=>exact ⟨j+1,by have:=uh HJ;omega,by go_num,fun q hq1=>by
            by_cases e:q=j
            ·rw [e];exact uh hq
            ·exact uh hlow' q (by omega),uh hnz _⟩
           case measure=>simp [intOf];omega
         ·have c1':(I j 1 == I k 1)=false:=by simp [c1]
          have hq:=hide (show ¬(I j 1=I k 1∧I j 2=I k 2∧I j 3=I k 3) from fun h=>c1 h.1)
          go_wp2
          go_roundw
          case rel=>exact ⟨j+1,by have:=uh HJ;omega,by go_num,fun q hq1=>by
           by_cases e:q=j
           ·rw [e];exact uh hq
           ·exact uh hlow' q (by omega),uh hnz _⟩
          case measure=>simp [intOf];omega
        ·have hge:¬(j:Int)<(k:Int):=by omega
         have hq:Hid (Gd.good c I k):=.inr ⟨uh hV',(Gd.find_self (uh HL)).2 (fun q hq1=>uh hlow' q (by omega))⟩
         go_wp2
         go_roundw
         case rel=>exact ⟨k+1,by have:=uh HL;omega,by go_num,fun q hq1=>by
          by_cases e:q=k
          ·rw [e];exact uh hq
          ·exact uh hno' q (by omega),uh hgt⟩
         case measure=>simp [intOf];omega
     ·have nk1:¬I k 0<1:=by omega
      have nk4:I k 0 > 4:=by omega
      have hnok:=hide (show ¬Gd.Ok c 40 I from fun h=>by
       rcases Gd.ok_good h (uh HL) with h1 | ⟨h1,_⟩
       ·rw [uh nz] at h1;cases h1
       ·have:=(Gd.fits_where h1).2
        omega)
      have hfin:=hide (fun (o:Obj)=>gtr (uh hg0') (uh hnx o))
      go_wp2
      go_ret
      exact ⟨false,rfl,⟨(fun h=>absurd h (by simp)),(fun h=>absurd h (uh hnok))⟩,uh hfin _⟩
    ·have nk1:I k 0<1:=by omega
     have hnok:=hide (show ¬Gd.Ok c 40 I from fun h=>by
      rcases Gd.ok_good h (uh HL) with h1 | ⟨h1,_⟩
      ·rw [uh nz] at h1;cases h1
      ·have:=(Gd.fits_where h1).2
       omega)
     have hfin:=hide (fun (o:Obj)=>gtr (uh hg0') (uh hnx o))
     go_wp2
     go_ret
     exact ⟨false,rfl,⟨(fun h=>absurd h (by simp)),(fun h=>absurd h (uh hnok))⟩,uh hfin _⟩
  ·have hge:¬(k:Int)<40:=by omega
   have he:=hide (Gd.good_ok (fun j hj=>uh hno' j (by omega)))
   have hfin:=hide (gtr (uh hg0') (uh hgr'))
   go_wp2
   go_ret
   exact ⟨true,rfl,⟨fun _=>uh he,fun _=>rfl⟩,uh hfin⟩

end Go.Proofs.YtbanjoflgoiegabGreat
