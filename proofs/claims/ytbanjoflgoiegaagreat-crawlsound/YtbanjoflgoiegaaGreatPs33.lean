import Derived.Test.YtbanjoflgoiegaaGreatPs31
import Derived.Test.YtbanjoflgoiegaaGreatPs32
namespace Go.Proofs.YtbanjoflgoiegaaGreat
open Go.RowKit

theorem Cr.join_keeps {E:Nat→Nat→Int} {e:Nat→Int} {k:Nat} (k0:E k 0≠0):Cr.join E e k=E k:=by
 rcases Cr.join_cases E e with h | ⟨f,_,f0,_,h⟩
 ·rw [h]
 ·rw [h,En.put_other (fun x=>k0 (by rw [x];exact f0))]

theorem Cr.manned_of {E:Nat→Nat→Int} {t k:Nat} (ht:t<4) (hk:k<32) (k1:E k 0=1) (k2:E k 2=(t:Int)):Cr.manned E=true:=by
 refine decide_eq_true ⟨t,ht,?_⟩
 unfold Gd.hero
 rcases En.first_cases (En.heroQ E (t:Int)) 32 with ⟨_,hno⟩ | ⟨j,_,hj,_⟩
 ·have:=hno k hk
  simp [En.heroQ,k1,k2] at this
 ·omega

theorem Cr.Comes.manned {c:Nat→Int} {t:Int} {sp:Bool} {E F:Nat→Nat→Int} (h:Cr.Comes c t sp E F) (hm:Cr.manned E=true):Cr.manned F=true:=by
 unfold Cr.Comes at h
 split at h
 ·obtain ⟨v,_,⟨_,rfl⟩ | ⟨q,_,rfl⟩⟩:=h
  ·exact hm
  ·obtain ⟨t',ht,h0⟩:=of_decide_eq_true hm
   obtain ⟨k,hk,_,k2,k1⟩:=Gd.hero_pos h0
   have e:=Cr.join_keeps (e:=Cr.one 1 t q) (E:=E) (k:=k) (by omega)
   exact Cr.manned_of ht hk (by rw [e];exact k1) (by rw [e];exact k2)
 ·rw [h];exact hm

theorem Cr.ComesTo.manned {c:Nat→Int} {sp:Nat→Bool}:∀{t:Nat} {E F:Nat→Nat→Int},Cr.ComesTo c sp t E F→Cr.manned E=true→Cr.manned F=true
 | 0,_,_,h,hm=>by rw [h];exact hm
 | _+1,_,_,⟨_,hG,hF⟩,hm=>hF.manned (hG.manned hm)

def Cr.Stage (how inp:Nat→Int) (sp:Nat→Bool) (S:Cr.W) (n:Nat) (met left:Bool) (T:Cr.W):Prop :=
 if n=0 then left=false∧T=⟨Cr.num S.s 1 (S.s 1+1),S.g,S.c,S.E,S.I⟩
 else if n=1 then ∃A,Cr.ComesTo S.c sp 4 S.E A∧met=Cr.manned A∧left=false∧T=⟨Cr.num S.s 1 (S.s 1+1),S.g,S.c,A,S.I⟩
 else if n=2 then ∃A m,Cr.ComesTo S.c sp 4 S.E A∧Cr.MovedTo (Cr.num S.s 1 (S.s 1+1)) S.c how inp 4 ⟨S.g,A,S.I,false⟩ m∧met=Cr.manned A∧left=m.left∧T=⟨Cr.num S.s 1 (S.s 1+1),m.g,S.c,m.E,m.I⟩
 else if n=3 then ∃A m F J,Cr.ComesTo S.c sp 4 S.E A∧Cr.MovedTo (Cr.num S.s 1 (S.s 1+1)) S.c how inp 4 ⟨S.g,A,S.I,false⟩ m∧Cr.ProwlTo (Cr.num S.s 1 (S.s 1+1)) S.c 32 m.E m.I F J∧met=Cr.manned A∧left=m.left∧T=⟨Cr.num S.s 1 (S.s 1+1),m.g,S.c,F,J⟩
 else if n=4 then ∃A m F J,Cr.ComesTo S.c sp 4 S.E A∧Cr.MovedTo (Cr.num S.s 1 (S.s 1+1)) S.c how inp 4 ⟨S.g,A,S.I,false⟩ m∧Cr.ProwlTo (Cr.num S.s 1 (S.s 1+1)) S.c 32 m.E m.I F J∧met=Cr.manned A∧left=m.left∧T=⟨Cr.num S.s 1 (S.s 1+1),m.g,S.c,Cr.rats (Cr.num S.s 1 (S.s 1+1)) S.c (Ft.ailE F J 32).1,(Ft.ailE F J 32).2⟩
 else Cr.IsStep how inp sp S T

theorem Cr.Stage.fit {how inp:Nat→Int} {sp:Nat→Bool} {S T:Cr.W} {n:Nat} {met left:Bool} (h:Cr.Stage how inp sp S n met left T) (hS:Cr.Good S) (hn:n≤4):Cr.Sane T.c T.E T.I∧Cr.Gold T.g∧Nv.Floor T.c∧1≤T.s 2∧T.s 2≤3:=by
 have n2:Cr.num S.s 1 (S.s 1+1) 2=S.s 2:=Cr.num_else _ _ (by omega)
 have f1:=hS.f1
 have f3:=hS.f3
 unfold Cr.Stage at h
 split at h
 ·obtain ⟨_,rfl⟩:=h
  exact ⟨hS.sane,hS.gold,hS.floor,by show 1≤Cr.num S.s 1 (S.s 1+1) 2;omega,by show Cr.num S.s 1 (S.s 1+1) 2≤3;omega⟩
 split at h
 ·obtain ⟨A,hA,_,_,rfl⟩:=h
  exact ⟨hS.sane.comesTo (by omega) hA,hS.gold,hS.floor,by show 1≤Cr.num S.s 1 (S.s 1+1) 2;omega,by show Cr.num S.s 1 (S.s 1+1) 2≤3;omega⟩
 split at h
 ·obtain ⟨A,m,hA,hm,_,_,rfl⟩:=h
  have sm:Cr.MFit S.c m:=Cr.MFit.movedTo (m:=⟨S.g,A,S.I,false⟩) ⟨hS.sane.comesTo (by omega) hA,hS.gold⟩ hm
  exact ⟨sm.1,sm.2,hS.floor,by show 1≤Cr.num S.s 1 (S.s 1+1) 2;omega,by show Cr.num S.s 1 (S.s 1+1) 2≤3;omega⟩
 split at h
 ·obtain ⟨A,m,F,J,hA,hm,hF,_,_,rfl⟩:=h
  have sm:Cr.MFit S.c m:=Cr.MFit.movedTo (m:=⟨S.g,A,S.I,false⟩) ⟨hS.sane.comesTo (by omega) hA,hS.gold⟩ hm
  exact ⟨sm.1.prowlTo (by omega) hF,sm.2,hS.floor,by show 1≤Cr.num S.s 1 (S.s 1+1) 2;omega,by show Cr.num S.s 1 (S.s 1+1) 2≤3;omega⟩
 split at h
 ·obtain ⟨A,m,F,J,hA,hm,hF,_,_,rfl⟩:=h
  have sm:Cr.MFit S.c m:=Cr.MFit.movedTo (m:=⟨S.g,A,S.I,false⟩) ⟨hS.sane.comesTo (by omega) hA,hS.gold⟩ hm
  exact ⟨((sm.1.prowlTo (by omega) hF).ail).rats hS.floor,sm.2,hS.floor,by show 1≤Cr.num S.s 1 (S.s 1+1) 2;omega,by show Cr.num S.s 1 (S.s 1+1) 2≤3;omega⟩
 ·omega

theorem Cr.Stage.come {how inp:Nat→Int} {sp:Nat→Bool} {S T:Cr.W} {met left:Bool} (h:Cr.Stage how inp sp S 0 met left T) {A:Nat→Nat→Int} (hA:Cr.ComesTo T.c sp 4 T.E A):Cr.Stage how inp sp S 1 (Cr.manned A) left ⟨T.s,T.g,T.c,A,T.I⟩:=by
 obtain ⟨h1,rfl⟩:=h
 exact ⟨A,hA,rfl,h1,rfl⟩

theorem Cr.Stage.act {how inp:Nat→Int} {sp:Nat→Bool} {S T:Cr.W} {met left:Bool} (h:Cr.Stage how inp sp S 1 met left T) {m:Cr.M} (hm:Cr.MovedTo T.s T.c how inp 4 ⟨T.g,T.E,T.I,left⟩ m):Cr.Stage how inp sp S 2 met m.left ⟨T.s,m.g,T.c,m.E,m.I⟩:=by
 obtain ⟨A,hA,h1,rfl,rfl⟩:=h
 exact ⟨A,m,hA,hm,h1,rfl,rfl⟩

theorem Cr.Stage.hunt {how inp:Nat→Int} {sp:Nat→Bool} {S T:Cr.W} {met left:Bool} (h:Cr.Stage how inp sp S 2 met left T) {F J:Nat→Nat→Int} (hF:Cr.ProwlTo T.s T.c 32 T.E T.I F J):Cr.Stage how inp sp S 3 met left ⟨T.s,T.g,T.c,F,J⟩:=by
 obtain ⟨A,m,hA,hm,h1,h2,rfl⟩:=h
 exact ⟨A,m,F,J,hA,hm,hF,h1,h2,rfl⟩

theorem Cr.Stage.ail {how inp:Nat→Int} {sp:Nat→Bool} {S T:Cr.W} {met left:Bool} (h:Cr.Stage how inp sp S 3 met left T):Cr.Stage how inp sp S 4 met left ⟨T.s,T.g,T.c,Cr.rats T.s T.c (Ft.ailE T.E T.I 32).1,(Ft.ailE T.E T.I 32).2⟩:=by
 obtain ⟨A,m,F,J,hA,hm,hF,h1,h2,rfl⟩:=h
 exact ⟨A,m,F,J,hA,hm,hF,h1,h2,rfl⟩

theorem Cr.Stage.ends {how inp:Nat→Int} {sp:Nat→Bool} {S T U:Cr.W} {met left:Bool} (h:Cr.Stage how inp sp S 4 met left T) (h0:S.s 3=0) (hU:Cr.Ends T.s T.g T.c T.E T.I met left U):Cr.Stage how inp sp S 5 met left U:=by
 obtain ⟨A,m,F,J,hA,hm,hF,h1,h2,rfl⟩:=h
 show Cr.IsStep how inp sp S U
 unfold Cr.IsStep
 rw [if_neg (fun hh=>hh h0)]
 refine ⟨A,m,F,J,hA,hm,hF,?_⟩
 have e:(Cr.manned S.E || Cr.manned A)=met:=by
  rw [h1]
  cases hm:Cr.manned S.E
  ·rfl
  ·rw [hA.manned hm];rfl
 rw [e,←h2]
 exact hU


open Go.RowKit

theorem Cr.best_min {F:Nat→Int} {st:Nat→Bool}:∀n,(∀q,q<n→0≤F q→st q=false→0≤Nv.best F st n∧F (Nv.best F st n).toNat≤F q)∧(∀p:Nat,Nv.best F st n=(p:Int)→p<n∧0≤F p∧st p=false)
 | 0=>⟨fun q hq=>by omega,fun p hp=>by unfold Nv.best at hp;omega⟩
 | n+1=>by
  obtain ⟨h1,h2⟩:=Cr.best_min (F:=F) (st:=st) n
  unfold Nv.best
  split
  ·rename_i hc
   refine ⟨fun q hq q0 qs=>⟨by omega,?_⟩,fun p hp=>?_⟩
   ·rw [Int.toNat_natCast]
    by_cases e:q=n
    ·rw [e];exact Int.le_refl _
    ·obtain ⟨b0,b1⟩:=h1 q (by omega) q0 qs
     rcases hc.2.2 with h | h
     ·omega
     ·omega
   ·obtain rfl:p=n:=by omega
    exact ⟨by omega,hc.1,hc.2.1⟩
  ·rename_i hc
   refine ⟨fun q hq q0 qs=>?_,fun p hp=>?_⟩
   ·by_cases e:q=n
    ·subst e
     rcases Nv.best_cases F st q with hb | ⟨p,hp,hb⟩
     ·exact absurd ⟨q0,qs,.inl (by omega)⟩ hc
     ·refine ⟨by omega,?_⟩
      by_cases hl:F q<F (Nv.best F st q).toNat
      ·exact absurd ⟨q0,qs,.inr hl⟩ hc
      ·omega
    ·exact h1 q (by omega) q0 qs
   ·obtain ⟨a,b⟩:=h2 p hp
    exact ⟨by omega,b⟩

theorem Cr.spot_up {c:Nat→Int} {E:Nat→Nat→Int} {v:Int} {u:Nat} (hu:u<384) (hst:Nv.st E 32 u=false) (h:Nv.IsSpot c E 32 ((u:Int) % 24) ((u:Int) / 24) v) (hc:c u≠0) (hF:Nv.Floor c):v=(u:Int):=by
 obtain ⟨F,hfld,rfl⟩:=h
 rw [Md.num_cell hu] at hfld
 have h0:F u=0:=(hfld.zero u hu).2 ⟨(Gn.walk_nz (hF.five u)).2 hc,0,by omega,rfl⟩
 obtain ⟨h1,h2⟩:=Cr.best_min (F:=F) (st:=Nv.st E 32) 384
 obtain ⟨b0,b1⟩:=h1 u hu (by omega) hst
 obtain ⟨p,hp⟩:∃p:Nat,Nv.best F (Nv.st E 32) 384=(p:Int):=⟨_,(Int.toNat_of_nonneg b0).symm⟩
 obtain ⟨p1,p2,_⟩:=h2 p hp
 rw [hp,Int.toNat_natCast] at b1
 obtain ⟨_,j,hj,he⟩:=(hfld.zero p p1).1 (by omega)
 rw [hp]
 exact he.symm

theorem Cr.prowl_quiet {s c:Nat→Int} {E I:Nat→Nat→Int} {f:Nat} (hf1:E f 0=1) (hone:∀k,k<32→k≠f→E k 0≠1) (hfar:∀k,k<32→E k 0≠0→k≠f→∀v,1≤v→v≤4→¬(E k 3+(Fx.way v).1=E f 3∧E k 4+(Fx.way v).2=E f 4)) :
  ∀{i:Nat} {F J:Nat→Nat→Int},i≤32→Cr.ProwlTo s c i E I F J→J=I∧F f=E f∧(∀k,F k 0=E k 0)∧∀k,i≤k→F k=E k
 | 0,_,_,_,h=>by rw [h.1,h.2];exact ⟨rfl,rfl,fun _=>rfl,fun _ _=>rfl⟩
 | i+1,F,J,hi,h=>by
  obtain ⟨G,K,hG,hP⟩:=h
  obtain ⟨rfl,gf,gk,gi⟩:=Cr.prowl_quiet hf1 hone hfar (by omega) hG
  unfold Cr.Prowls at hP
  split at hP
  ·rw [hP.1,hP.2]
   exact ⟨rfl,gf,gk,fun k hk=>gi k (by omega)⟩
  ·rename_i hc
   obtain ⟨v,_,rfl,rfl⟩:=hP
   have hif:i≠f:=fun e=>hc (.inr (.inl (by rw [gk,e];exact hf1)))
   have key:(Cr.act s c G K i v true=(G,K))∨∃x y,Cr.act s c G K i v true=(Cr.go G i x y,K):=by
    unfold Cr.act
    split
    ·exact .inl rfl
    ·rename_i hv
     split
     ·rename_i hw
      rw [if_neg]
      ·exact .inl rfl
      ·intro hd
       have hd':=of_decide_eq_true hd
       unfold Cr.who at hd' hw
       rcases En.first_cases (En.atQ G (G i 3+(Fx.way v).1) (G i 4+(Fx.way v).2)) 32 with ⟨he,_⟩ | ⟨j,hj,he,hq,_⟩
       ·omega
       ·rw [he,Int.toNat_natCast,gk] at hd'
        have hjf:j=f:=by
         by_cases e:j=f
         ·exact e
         ·exact absurd hd' (hone j hj e)
        have hq':G j 0≠0∧G j 3=G i 3+(Fx.way v).1∧G j 4=G i 4+(Fx.way v).2:=by simpa [En.atQ] using hq
        rw [hjf,gf,gi i (Nat.le_refl _)] at hq'
        have h0:E i 0≠0:=fun e=>hc (.inl (by rw [gk];exact e))
        exact hfar i (by omega) h0 hif v (by omega) (by omega) ⟨hq'.2.1.symm,hq'.2.2.symm⟩
     ·split
      ·exact .inr ⟨_,_,rfl⟩
      ·exact .inl rfl
   rcases key with e | ⟨x,y,e⟩
   ·rw [e]
    exact ⟨rfl,gf,gk,fun k hk=>gi k (by omega)⟩
   ·rw [e]
    refine ⟨rfl,by show Cr.go G i x y f=_;rw [Cr.go_row G x y hif.symm];exact gf,fun k=>?_,fun k hk=>by show Cr.go G i x y k=_;rw [Cr.go_row G x y (by omega)];exact gi k (by omega)⟩
    by_cases e2:k=i
    ·rw [e2]
     show Cr.go G i x y i 0=_
     rw [Cr.go_at,if_neg (by omega),if_neg (by omega)]
     exact gk i
    ·show Cr.go G i x y k 0=_
     rw [Cr.go_row G x y e2]
     exact gk k

theorem Cr.one_else {E:Nat→Nat→Int} {k f:Nat} (h:f≠k):Ft.oneE E k f=E f:=by
 have hs:Ft.stunE E k f=E f:=by
  unfold Ft.stunE
  split
  ·exact Ft.set_row _ _ _ _ _ h
  ·rfl
 unfold Ft.oneE
 split
 ·have hp:Ft.poisE (Ft.stunE E k) k f=E f:=by
   unfold Ft.poisE
   rw [Ft.set_row _ _ _ _ _ h]
   exact hs
  unfold Ft.hurtE
  split
  ·rw [Ft.set_row _ _ _ _ _ h];exact hp
  ·rw [En.put_other h];exact hp
 ·exact hs

theorem Cr.ail_row {E I:Nat→Nat→Int} {f:Nat} (h9:¬0<E f 9) (h10:¬0<E f 10):∀n,(Ft.ailE E I n).1 f=E f
 | 0=>rfl
 | n+1=>by
  have ih:=Cr.ail_row (I:=I) h9 h10 n
  unfold Ft.ailE
  split
  ·show Ft.oneE (Ft.ailE E I n).1 n f=E f
   by_cases e:f=n
   ·subst e
    unfold Ft.oneE
    rw [if_neg (by rw [ih];exact h9)]
    unfold Ft.stunE
    rw [if_neg (by rw [ih];exact h10)]
    exact ih
   ·rw [Cr.one_else e]
    exact ih
  ·exact ih

theorem Cr.stock_rows:∀(es:List (Int × Nat)) {E:Nat→Nat→Int} {n:Nat},(∀k,k<32→E k 0≠0→k<n)→n+es.length≤32→(∀k,k<32→Cr.stockE E es k 0≠0→k<n+es.length)∧∀k,k<32→Cr.stockE E es k=E k∨∃p γ,p∈es∧Cr.stockE E es k=En.gen (Cr.one p.1 0 p.2) γ
 | [],_,n,h,_=>⟨fun k hk k0=>by have:=h k hk k0;simpa using this,fun k _=>.inl rfl⟩
 | p :: es,E,n,h,hn=>by
  have hn':n+1+es.length≤32:=by simp at hn;omega
  obtain ⟨E',hE'⟩:∃E',E'=if En.first (En.atQ E ((p.2:Int) % 24) ((p.2:Int) / 24)) 32<0 then Cr.join E (Cr.one p.1 0 p.2) else E:=⟨_,rfl⟩
  have hst:Cr.stockE E (p :: es)=Cr.stockE E' es:=by rw [hE'];rfl
  have hj:∀k,k<32→E' k=E k∨(k≤n∧∃γ,E' k=En.gen (Cr.one p.1 0 p.2) γ):=fun k hk=>by
   rw [hE']
   split
   ·rcases Cr.join_cases E (Cr.one p.1 0 p.2) with he | ⟨f,hf,f0,hno,he⟩
    ·rw [he];exact .inl rfl
    ·rw [he]
     by_cases e:k=f
     ·rw [e,En.put_same]
      refine .inr ⟨?_,_,rfl⟩
      by_cases hfn:f≤n
      ·exact hfn
      ·have:=h n (by omega) (hno n (by omega))
       omega
     ·rw [En.put_other e];exact .inl rfl
   ·exact .inl rfl
  obtain ⟨h1,h2⟩:=Cr.stock_rows es (E:=E') (n:=n+1) (fun k hk k0=>by
   rcases hj k hk with e | ⟨hkn,_⟩
   ·rw [e] at k0
    have:=h k hk k0
    omega
   ·omega) hn'
  rw [hst]
  refine ⟨fun k hk k0=>by have:=h1 k hk k0;simp;omega,fun k hk=>?_⟩
  rcases h2 k hk with e | ⟨q,γ,hq,e⟩
  ·rcases hj k hk with e2 | ⟨_,γ,e2⟩
   ·exact .inl (e.trans e2)
   ·exact .inr ⟨p,γ,List.mem_cons_self ..,e.trans e2⟩
  ·exact .inr ⟨q,γ,List.mem_cons_of_mem _ hq,e⟩

theorem Cr.afar {d:Gn.Dice} {c F:Nat→Int} {far p:Nat} (hf:Gn.Facts d c F far) (hp:p<384) (hc:c p≠0) (h4:4≤F p) {v:Int} (v1:1≤v) (v4:v≤4):¬((p:Int) % 24+(Fx.way v).1=((Gn.up d:Nat):Int) % 24∧(p:Int) / 24+(Fx.way v).2=((Gn.up d:Nat):Int) / 24):=by
 intro h
 have hu:=hf.upl
 have h0:F (Gn.up d)=0:=(hf.fld.zero _ hu).2 rfl
 have hw:=(Gn.walk_nz (hf.five p)).2 hc
 have key:∃e,e<4∧Gr.nbIn (Gn.up d) e∧Gr.nbOf (Gn.up d) e=p:=by
  have fin:∀e,e<4→((Gn.up d % 24:Nat):Int)+Gr.dxOf e=(p:Int) % 24→((Gn.up d / 24:Nat):Int)+Gr.dyOf e=(p:Int) / 24→∃e,e<4∧Gr.nbIn (Gn.up d) e∧Gr.nbOf (Gn.up d) e=p:=fun e he hx hy=>by
   have hin:Gr.nbIn (Gn.up d) e:=by
    unfold Gr.nbIn
    rw [hx,hy]
    omega
   refine ⟨e,he,hin,?_⟩
   have:=Gr.nb_eq hin
   rw [hx,hy] at this
   omega
  rcases (show v=1∨v=2∨v=3∨v=4 by omega) with rfl | rfl | rfl | rfl
  ·have e1:Fx.way 1=(0,-1):=rfl
   rw [e1] at h
   exact fin 2 (by omega) (by show _+(0:Int)=_;omega) (by show _+(1:Int)=_;omega)
  ·have e1:Fx.way 2=(1,0):=rfl
   rw [e1] at h
   exact fin 3 (by omega) (by show _+(-1:Int)=_;omega) (by show _+(0:Int)=_;omega)
  ·have e1:Fx.way 3=(0,1):=rfl
   rw [e1] at h
   exact fin 0 (by omega) (by show _+(0:Int)=_;omega) (by show _+(-1:Int)=_;omega)
  ·have e1:Fx.way 4=(-1,0):=rfl
   rw [e1] at h
   exact fin 1 (by omega) (by show _+(1:Int)=_;omega) (by show _+(0:Int)=_;omega)
 obtain ⟨e,he,hin,hnb⟩:=key
 have:=(hf.fld.fwd (Gn.up d) hu (by omega) e he hin (by rw [hnb];exact hw)).2
 rw [hnb] at this
 omega

theorem Cr.moved_none {s c how inp:Nat→Int}:∀{t:Nat} {m n:Cr.M},(∀j,j<t→how j≠1∧how j≠2)→Cr.MovedTo s c how inp t m n→n=m
 | 0,_,_,_,h=>h
 | t+1,m,n,hh,h=>by
  obtain ⟨o,ho,hn⟩:=h
  have e:=Cr.moved_none (fun j hj=>hh j (by omega)) ho
  unfold Cr.Moved at hn
  rw [if_pos (.inr (.inr (hh t (by omega))))] at hn
  rw [hn,e]

theorem Cr.first_frame {seed:Int} {how inp:Nat→Int} {sp:Nat→Bool} {S T:Cr.W} (hN:Cr.IsNew seed S) (hT:Cr.IsStep how inp sp S T) (hh:∀j,j<4→how j≠1∧how j≠2) (h0:sp 0=true) (h1:sp 1=false) (h2:sp 2=false) (h3:sp 3=false) :
  T.c=S.c∧T.s 0=seed∧T.s 1=1∧T.s 2=1∧T.s 3=0∧∃(f u:Nat) (γ:Int),f<32∧u<384∧Gr.find 384 S.c 3=(u:Int)∧T.E f=En.gen (Cr.one 1 0 u) γ:=by
 have hG:=hN.good
 obtain ⟨c,es,is,hl,rfl⟩:=hN
 obtain ⟨u,hu,hfu,hcu,hu1⟩:=Cr.up_stair hl.floor
 have hlev:=hl
 obtain ⟨d,F0,_,hFair,hL,hes,_⟩:=hlev
 obtain ⟨far,hfa⟩:=hL.facts hFair
 have hud:Gn.up d=u:=hu1 _ ((hfa.is3 _).2 rfl)
 have hlen:es.length≤3:=by
  rw [hes]
  exact Gn.mons_len d 1 ((1:Int)+2).toNat 0 _
 obtain ⟨hrow,hwho⟩:=Cr.stock_rows es (E:=fun _ _=>0) (n:=0) (fun k _ k0=>absurd rfl k0) (by omega)
 obtain ⟨E,hE⟩:∃E,Cr.stockE (fun _ _=>0) es=E:=⟨_,rfl⟩
 rw [hE] at hG hT hrow hwho
 obtain ⟨I,hI⟩:∃I,Cr.stockI (fun _ _=>0) is=I:=⟨_,rfl⟩
 rw [hI] at hG hT
 have hmon:∀k,k<32→E k 0≠0→E k 0≠1∧∃p:Nat,p<384∧c p≠0∧4≤F0 p∧E k 3=(p:Int) % 24∧E k 4=(p:Int) / 24:=fun k hk k0=>by
  rcases hwho k hk with e | ⟨p,γ,hp,e⟩
  ·rw [e] at k0;exact absurd rfl k0
  ·obtain ⟨i,hi⟩:=List.mem_iff_getElem?.1 hp
   rw [hes] at hi
   obtain ⟨k2,k4,hq,hc1,hF4⟩:=Gn.ents_at hFair (by omega) hi
   obtain ⟨o0,_,o3,o4,_⟩:=Cr.one_at p.1 0 p.2
   have g:∀j,j≠1→En.gen (Cr.one p.1 0 p.2) γ j=Cr.one p.1 0 p.2 j:=fun j hj=>if_neg hj
   rw [e,g 0 (by omega),g 3 (by omega),g 4 (by omega),o0 (by omega) (by omega),o3,o4]
   exact ⟨by omega,p.2,hq,by omega,hF4,rfl,rfl⟩
 have hnoh:∀t:Int,Gd.hero E t<0:=fun t=>by
  unfold Gd.hero
  rw [En.first_none (fun k hk=>?_)]
  ·omega
  ·unfold En.heroQ
   by_cases k0:E k 0=0
   ·simp [k0]
   ·simp [(hmon k hk k0).1]
 have hst:Nv.st E 32 u=false:=by
  unfold Nv.st
  refine decide_eq_false ?_
  rw [En.first_none (fun k hk=>?_)]
  ·omega
  ·by_cases k0:E k 0=0
   ·simp [En.atQ,k0]
   ·obtain ⟨_,p,hp,_,h4,h3,h4'⟩:=hmon k hk k0
    have hz:F0 u=0:=by rw [←hud];exact (hfa.fld.zero _ hfa.upl).2 rfl
    have hne:p≠u:=fun e=>by rw [e] at h4;omega
    unfold En.atQ
    rw [h3,h4']
    by_cases e1:(p:Int) % 24=((u % 24:Nat):Int)
    ·by_cases e2:(p:Int) / 24=((u / 24:Nat):Int)
     ·exact absurd (by omega) hne
     ·rw [decide_eq_false e2,Bool.and_false,Bool.and_false]
    ·rw [decide_eq_false e1,Bool.false_and,Bool.and_false]
 unfold Cr.IsStep at hT
 have hs0:¬(Cr.first seed 3≠0):=fun h=>h rfl
 rw [if_neg hs0] at hT
 obtain ⟨A,m,F,J,hA,hm,hF,hEn⟩:=hT
 obtain ⟨f,hf,f0,-,-⟩:∃f,f<32∧E f 0=0∧True∧True:=⟨31,by omega,by
  by_cases k0:E 31 0=0
  ·exact k0
  ·have:=hrow 31 (by omega) k0
   omega,trivial,trivial⟩
 -- who comes
 have hAe:A=Cr.join E (Cr.one 1 0 u):=by
  obtain ⟨A3,⟨A2,⟨A1,⟨A0,hA0,c0⟩,c1⟩,c2⟩,c3⟩:=hA
  have e0:A0=E:=hA0
  rw [e0] at c0
  unfold Cr.Comes at c0 c1 c2 c3
  rw [if_pos ⟨h0,hnoh _⟩] at c0
  rw [if_neg (by rw [h1];simp)] at c1
  rw [if_neg (by rw [h2];simp)] at c2
  rw [if_neg (by rw [h3];simp)] at c3
  obtain ⟨v,hv,hc0⟩:=c0
  have hv':Nv.IsSpot c E 32 (Gr.find 384 c 3 % 24) (Gr.find 384 c 3 / 24) v:=hv
  rw [hfu] at hv'
  have hvu:=Cr.spot_up hu hst hv' (by rw [hcu];omega) hl.floor
  rcases hc0 with ⟨hneg,_⟩ | ⟨q,hq,hA1⟩
  ·omega
  ·obtain rfl:q=u:=by omega
   rw [c3,c2,c1,hA1]
   rfl
 obtain ⟨r,hr,r0,-,hj⟩:∃r,r<32∧E r 0=0∧True∧Cr.join E (Cr.one 1 0 u)=En.put E r (En.gen (Cr.one 1 0 u) ((E r 1+1) % 256)):=by
  rcases Cr.join_cases E (Cr.one 1 0 u) with he | ⟨r,hr,r0,_,he⟩
  ·exfalso
   unfold Cr.join at he
   rcases En.first_cases (En.freeQ E) 32 with ⟨_,hno⟩ | ⟨k,hk,hke,hq,_⟩
   ·have:=hno f hf
    simp [En.freeQ,f0] at this
   ·rw [hke,if_pos (by omega),Int.toNat_natCast] at he
    have h2:=congrFun (congrFun he k) 0
    rw [En.put_same] at h2
    have h3:En.gen (Cr.one 1 0 u) ((E k 1+1) % 256) 0=1:=rfl
    have h4:E k 0=0:=by simpa [En.freeQ] using hq
    omega
  ·exact ⟨r,hr,r0,trivial,he⟩
 rw [hj] at hAe
 have hme:=Cr.moved_none (fun j hj=>hh j hj) hm
 have o:=Cr.one_at 1 0 u
 have gen:∀γ j,j≠1→En.gen (Cr.one 1 0 u) γ j=Cr.one 1 0 u j:=fun γ j hj=>if_neg hj
 have hAr:A r=En.gen (Cr.one 1 0 u) ((E r 1+1) % 256):=by rw [hAe,En.put_same]
 have hAo:∀k,k≠r→A k=E k:=fun k hk=>by rw [hAe,En.put_other hk]
 rw [hme] at hF hEn
 have hq:=Cr.prowl_quiet (s:=Cr.num (Cr.first seed) 1 (Cr.first seed 1+1)) (c:=c) (E:=A) (I:=I) (f:=r) (by rw [hAr,gen _ 0 (by omega)];exact o.1 (by omega) (by omega))
  (fun k hk hkr=>by rw [hAo k hkr];by_cases k0:E k 0=0;omega;exact (hmon k hk k0).1)
  (fun k hk k0 hkr v v1 v4=>by
   rw [hAo k hkr] at k0 ⊢
   obtain ⟨_,p,hp,hcp,h4,e3,e4⟩:=hmon k hk k0
   rw [e3,e4,hAr,gen _ 3 (by omega),gen _ 4 (by omega),o.2.2.1,o.2.2.2.1,←hud]
   exact Cr.afar hfa hp hcp h4 v1 v4) (i:=32) (Nat.le_refl _) hF
 obtain ⟨_,hFr,_,_⟩:=hq
 have hr9:F r 9=0∧F r 10=0:=by
  rw [hFr,hAr,gen _ 9 (by omega),gen _ 10 (by omega)]
  exact ⟨rfl,rfl⟩
 have hail:=Cr.ail_row (E:=F) (I:=J) (f:=r) (by omega) (by omega) 32
 have hrat:Cr.rats (Cr.num (Cr.first seed) 1 (Cr.first seed 1+1)) c (Ft.ailE F J 32).1=(Ft.ailE F J 32).1:=by
  unfold Cr.rats
  rw [if_neg (fun h=>by have:(0:Int)+1=1:=rfl;exact absurd h.1 (by show ¬((0:Int)+1) % 16=0;decide))]
 have hEr:(Ft.ailE F J 32).1 r=En.gen (Cr.one 1 0 u) ((E r 1+1) % 256):=by rw [hail,hFr,hAr]
 have hman:Cr.manned (Ft.ailE F J 32).1=true:=Cr.manned_of (t:=0) (k:=r) (by omega) hr (by rw [hEr,gen _ 0 (by omega)];exact o.1 (by omega) (by omega)) (by rw [hEr,gen _ 2 (by omega)];exact o.2.1)
 change Cr.Ends _ _ c (Cr.rats _ c (Ft.ailE F J 32).1) _ _ false T at hEn
 rw [hrat] at hEn
 unfold Cr.Ends at hEn
 rw [if_neg (by rw [hman];exact Bool.false_ne_true.symm),if_neg Bool.false_ne_true] at hEn
 subst hEn
 exact ⟨rfl,rfl,rfl,rfl,rfl,r,u,_,hr,hu,hfu,hEr⟩


open Go.RowKit

theorem Lie.elevenInts {x:World} {B:Nat} {T:TypeId} {e:Nat→Int} (h:Lie x B T 11 (Ints e)) :
  x.cell? ⟨B,0,none⟩=some (.int .i64 (e 0))∧x.cell? ⟨B,1,none⟩=some (.int .i64 (e 1))∧x.cell? ⟨B,2,none⟩=some (.int .i64 (e 2))∧x.cell? ⟨B,3,none⟩=some (.int .i64 (e 3))∧x.cell? ⟨B,4,none⟩=some (.int .i64 (e 4))∧x.cell? ⟨B,5,none⟩=some (.int .i64 (e 5))∧x.cell? ⟨B,6,none⟩=some (.int .i64 (e 6))∧x.cell? ⟨B,7,none⟩=some (.int .i64 (e 7))∧x.cell? ⟨B,8,none⟩=some (.int .i64 (e 8))∧x.cell? ⟨B,9,none⟩=some (.int .i64 (e 9))∧x.cell? ⟨B,10,none⟩=some (.int .i64 (e 10)) :=
 ⟨h.cell (c:=0) (by omega),h.cell (c:=1) (by omega),h.cell (c:=2) (by omega),h.cell (c:=3) (by omega),h.cell (c:=4) (by omega),h.cell (c:=5) (by omega),h.cell (c:=6) (by omega),h.cell (c:=7) (by omega),h.cell (c:=8) (by omega),h.cell (c:=9) (by omega),h.cell (c:=10) (by omega)⟩

set_option maxRecDepth 8000 in
set_option maxHeartbeats 3200000 in
theorem mFoe_any (E:Nat→Nat→Int) (e:Nat→Int) (gE cE:Nat) (w:World) (hE:Own w gE 32 E) (hcE:32≤cE) (x0:0≤e 3) (x9:e 3<24) (y0:0≤e 4) (y9:e 4<16) :
  Calls Tryz.prog 228 #[.slice (some ⟨gE,0,none⟩) 32 cE,.agg (En.cells e)] w (Says w (.int .i64 (Nv.wayFrom (Md.foe E (e 3) (e 4)) 4 1))):=by
 obtain ⟨w0,hw0⟩:∃w0,w0=w.alloc (.cells (En.cells e) 54):=⟨_,rfl⟩
 have hg0:Hid (w.grownBy w0 none):=by rw [hw0];exact World.grownBy_alloc _ _ _
 have hQ:Hid (Lie w0 w.heap.size 54 11 (Ints e)):=by rw [hw0];exact Lie.copied _ _ _
 have hE0:=hide (hE.ents.on (uh hg0))
 have ca:Hid (∀(d:Nat) (wq:World),Calls Tryz.prog 220 #[.agg (En.cells e),.int .i64 (d:Int)] wq fun x w'=>(∃a b,x=.returned (.complex .f64 a b)∧Fl.Rep a (e 3+(Fx.way (d:Int)).1)∧Fl.Rep b (e 4+(Fx.way (d:Int)).2))∧wq.grownBy w' none):=fun d wq=>mAhead_any e d wq x0 x9 y0 y9
 have hcE':=hide hcE
 obtain ⟨x,hx⟩:∃x,e 3=x:=⟨_,rfl⟩
 obtain ⟨y,hy⟩:∃y,e 4=y:=⟨_,rfl⟩
 have hK:Hid (∀z,w0.grownBy z none→z.cell? ⟨w.heap.size,0,none⟩=some (.int .i64 (e 0))∧z.cell? ⟨w.heap.size,1,none⟩=some (.int .i64 (e 1))∧z.cell? ⟨w.heap.size,2,none⟩=some (.int .i64 (e 2))∧z.cell? ⟨w.heap.size,3,none⟩=some (.int .i64 x)∧z.cell? ⟨w.heap.size,4,none⟩=some (.int .i64 y)∧z.cell? ⟨w.heap.size,5,none⟩=some (.int .i64 (e 5))∧z.cell? ⟨w.heap.size,6,none⟩=some (.int .i64 (e 6))∧z.cell? ⟨w.heap.size,7,none⟩=some (.int .i64 (e 7))∧z.cell? ⟨w.heap.size,8,none⟩=some (.int .i64 (e 8))∧z.cell? ⟨w.heap.size,9,none⟩=some (.int .i64 (e 9))∧z.cell? ⟨w.heap.size,10,none⟩=some (.int .i64 (e 10))):=fun z hz=>by
  rw [←hx,←hy]
  exact ((uh hQ).on hz).elevenInts
 unfold En.cells at hw0 ca ⊢
 rw [hx,hy] at ca
 rw [hx] at x0 x9
 rw [hy] at y0 y9
 rw [hx,hy] at hw0 ⊢
 clear hQ hE hcE hx hy
 go_enter Tryz.func228,Tryz.ntmps228
 go_upto_region 1 with fail
 rw [←hw0]
 clear hw0
 obtain ⟨B,hB⟩:∃B,w.heap.size=B:=⟨_,rfl⟩
 rw [hB] at hK ⊢
 clear hB
 go_wp2_with fail
 go_loopw [5,6,7,8] (fun v5 v6 v7 v8 wr=>∃d:Nat,1≤d∧d≤5∧v5=.int .i64 (d:Int)∧Hid (w0.grownBy wr none)∧Hid (∀j,1≤j→j<d→Md.foe E x y j=false)) (fun v5 _ _ _ _=>10 - (intOf v5).toNat)
 case atStart=>exact ⟨1,by omega,by omega,rfl,World.grownBy.refl _ _,fun j h1 h2=>by omega⟩
 case round =>
  obtain ⟨d,hd1,hd5,rfl,hgr,hno⟩:=hrel
  by_cases hlt:d≤4
  ·have hlt':(d:Int)≤4:=by omega
   have HD:=hide (show 1≤d∧d≤4 from ⟨hd1,hlt⟩)
   obtain ⟨s1,s2,s3,s4⟩:=Md.way_small d
   have cat:Hid (∀z,w0.grownBy z none→Calls Tryz.prog 102 #[.slice (some ⟨gE,0,none⟩) 32 cE,.int .i64 (x+(Fx.way (d:Int)).1),.int .i64 (y+(Fx.way (d:Int)).2)] z (Says z (.int .i64 (Md.who E x y d)))):=fun z hz=>entAt_any gE 32 cE E _ _ z ((uh hE0).on hz) (uh hcE')
   have hwho:=hide (@Md.who_row E x y d)
   have hfd:Hid (Md.foe E x y d=(decide (0≤Md.who E x y d) && !(decide (E (Md.who E x y d).toNat 0=1)))):=rfl
   have cad:=hide (fun wq=>uh ca d wq)
   obtain ⟨X,hX⟩:∃X,x+(Fx.way (d:Int)).1=X:=⟨_,rfl⟩
   obtain ⟨Y,hY⟩:∃Y,y+(Fx.way (d:Int)).2=Y:=⟨_,rfl⟩
   obtain ⟨h,hh⟩:∃z,Md.who E x y d=z:=⟨_,rfl⟩
   have bX:-1≤X∧X≤24:=by omega
   have bY:-1≤Y∧Y≤16:=by omega
   rw [hX,hY] at cad cat
   rw [hh] at cat hwho hfd
   clear hX hY hh s1 s2 s3 s4 hd1 hd5 hlt x0 x9 y0 y9
   obtain ⟨k0,k1,k2,k3,k4,k5,k6,k7,k8,k9,k10⟩:=uh hK _ (uh hgr)
   go_wp2_with fail
   refine (uh cad _).mono ?_
   rintro xx w1 ⟨⟨a,b,rfl,Ra,Rb⟩,hg⟩
   have hg1:=hide (gtr (uh hgr) hg)
   have cp:=hide (fun wq=>mParts_any a b X Y wq Ra Rb (by omega) (by omega) (by omega) (by omega))
   clear hg Ra Rb k0 k1 k2 k3 k4 k5 k6 k7 k8 k9 k10 bX bY
   go_wp2_with fail
   refine (uh cp _).mono ?_
   rintro xx wy ⟨rfl,hw⟩
   subst wy
   clear cp
   go_wp2_with fail
   refine (uh cat _ (uh hg1)).mono ?_
   rintro xx w2 ⟨rfl,hg⟩
   have hg2:=hide (gtr (uh hg1) hg)
   clear hg cat cad
   rcases uh hwho with rfl | ⟨j,hj,rfl⟩
   ·have hf:Hid (Md.foe E x y d=false):=(show Md.foe E x y d=false by rw [uh hfd];rfl)
    clear hfd hwho
    go_wp2
    go_roundw
    case rel=>exact ⟨d+1,by omega,by have:=uh HD;omega,by go_num,hg2,fun j h1 h2=>by
     by_cases e:j=d
     ·rw [e];exact uh hf
     ·exact uh hno j h1 (by omega)⟩
    case measure=>simp [intOf];have:=uh HD;omega
   ·have u0:=(((uh hE0).on (uh hg2)).row hj).1
    have hj':(j:Int)<32:=by omega
    rw [Int.toNat_natCast] at hfd
    by_cases h1:E j 0=1
    ·have hf:Hid (Md.foe E x y d=false):=(show Md.foe E x y d=false by rw [uh hfd,h1];simp)
     rw [h1] at u0
     clear hfd hwho h1 hj
     go_wp2
     go_roundw
     case rel=>exact ⟨d+1,by omega,by have:=uh HD;omega,by go_num,hg2,fun j h1 h2=>by
      by_cases e:j=d
      ·rw [e];exact uh hf
      ·exact uh hno j h1 (by omega)⟩
     case measure=>simp [intOf];have:=uh HD;omega
    ·have hf:Hid (Md.foe E x y d=true):=(show Md.foe E x y d=true by rw [uh hfd];simp [h1])
     have h1':(E j 0 == 1)=false:=by simpa using h1
     have hw:Hid (Nv.wayFrom (Md.foe E x y) 4 1=(d:Int)):=Nv.way_hit 4 d 1 (uh hno) (uh hf) (uh HD).1 (by have:=(uh HD).2;omega)
     have hfin:Hid (Says w (.int .i64 (Nv.wayFrom (Md.foe E x y) 4 1)) (.returned (.int .i64 (d:Int))) w2):=⟨by rw [uh hw],gtr (uh hg0) (uh hg2)⟩
     clear hfd hwho h1 hj hw hf
     go_wp2
     go_ret
     exact uh hfin
  ·obtain rfl:d=5:=by omega
   have hge:¬((5:Nat):Int)≤4:=by omega
   have hw:Hid (Nv.wayFrom (Md.foe E x y) 4 1=0):=Nv.way_none 4 1 fun j h1 h2=>uh hno j h1 (by omega)
   have hfin:Hid (Says w (.int .i64 (Nv.wayFrom (Md.foe E x y) 4 1)) (.returned (.int .i64 0)) wr):=⟨by rw [uh hw],gtr (uh hg0) (uh hgr)⟩
   clear hlt hd1 hd5 hno hw
   go_wp2
   go_ret
   exact uh hfin


open Go.RowKit

structure Cr.Hand (w x:World) (B gC gE gI cC cE cI:Nat) (s g c:Nat→Int) (E I:Nat→Nat→Int):Prop where
 hold:Gd.Hold x B gC gE gI cC cE cI s g c E I
 lB:w.heap.size≤B
 cap:32≤cE
 grown:w.grownBy x none

theorem Cr.Hand.on {w x y:World} {B gC gE gI cC cE cI:Nat} {s g c:Nat→Int} {E I:Nat→Nat→Int} (h:Cr.Hand w x B gC gE gI cC cE cI s g c E I) (hg:x.grownBy y none):Cr.Hand w y B gC gE gI cC cE cI s g c E I :=
 ⟨h.hold.on hg,h.lB,h.cap,gtr h.grown hg⟩

theorem Cr.Hand.folk {w x x':World} {B gC gE gI cC cE cI jE dE:Nat} {s g c:Nat→Int} {E I F:Nat→Nat→Int} (h:Cr.Hand w x B gC gE gI cC cE cI s g c E I) (hcap:32≤dE) (hj:jE=gE∨x.heap.size≤jE) (hO:Own x' jE 32 F) (hg:x.grownBy x' none) :
  Cr.Hand w (x'.setCell ⟨B,5,none⟩ (.slice (some ⟨jE,0,none⟩) 32 dE)) B gC jE gI cC dE cI s g c F I:=by
 have h1:=h.hold.box.lt
 have h2:=h.hold.lists.cells.lt
 have h3:=h.hold.lists.items.lt
 have h5:=h.hold.bE
 have h6:=h.hold.cE
 have h7:=h.hold.eI
 have nB:B≠jE:=by omega
 have nC:gC≠jE:=by omega
 have nI:jE≠gI:=by omega
 have r:=gs0 x' B 5 (.slice (some ⟨jE,0,none⟩) 32 dE)
 have hb:=((h.hold.box.on hg).store 5 (.slice (some ⟨jE,0,none⟩) 32 dE)).congr (Gd.box_5 s g gC gE gI cC cE cI jE dE)
 exact ⟨⟨hb,⟨(h.hold.lists.cells.on hg).grown r (by simpa using h.hold.bC),(hO.lie (m:=352) (by omega)).grown r (by simpa using nB),(h.hold.lists.items.on hg).grown r (by simpa using h.hold.bI)⟩,h.hold.bC,nB,h.hold.bI,nC,h.hold.cI,nI⟩,h.lB,hcap,gsr (gtr h.grown hg) ⟨B,5,none⟩ h.lB _⟩

theorem Cr.box_6 (s g:Nat→Int) (gC gE gI cC cE cI jI dI:Nat):∀c,c<11→(if c=6 then Value.slice (some ⟨jI,0,none⟩) 40 dI else Gd.box s gC gE gI cC cE cI g c)=Gd.box s gC gE jI cC cE dI g c:=fun c hc=>by
 rcases (show c=0∨c=1∨c=2∨c=3∨c=4∨c=5∨c=6∨c=7∨c=8∨c=9∨c=10 by omega) with rfl | rfl | rfl | rfl | rfl | rfl | rfl | rfl | rfl | rfl | rfl <;> rfl

theorem Cr.Hand.goods {w x x':World} {B gC gE gI cC cE cI jI dI:Nat} {s g c:Nat→Int} {E I J:Nat→Nat→Int} (h:Cr.Hand w x B gC gE gI cC cE cI s g c E I) (hj:x.heap.size≤jI) (hJ:Lie x' jI 62 160 (Gd.flat J)) (hg:x.grownBy x' none) :
  Cr.Hand w (x'.setCell ⟨B,6,none⟩ (.slice (some ⟨jI,0,none⟩) 40 dI)) B gC gE jI cC cE dI s g c E J:=by
 have h1:=h.hold.box.lt
 have h2:=h.hold.lists.cells.lt
 have h3:=h.hold.lists.ents.lt
 have nB:B≠jI:=by omega
 have r:=gs0 x' B 6 (.slice (some ⟨jI,0,none⟩) 40 dI)
 have hb:=((h.hold.box.on hg).store 6 (.slice (some ⟨jI,0,none⟩) 40 dI)).congr (Cr.box_6 s g gC gE gI cC cE cI jI dI)
 exact ⟨⟨hb,⟨(h.hold.lists.cells.on hg).grown r (by simpa using h.hold.bC),(h.hold.lists.ents.on hg).grown r (by simpa using h.hold.bE),hJ.grown r (by simpa using nB)⟩,h.hold.bC,h.hold.bE,nB,h.hold.cE,by omega,by omega⟩,h.lB,h.cap,gsr (gtr h.grown hg) ⟨B,6,none⟩ h.lB _⟩

end Go.Proofs.YtbanjoflgoiegaaGreat
