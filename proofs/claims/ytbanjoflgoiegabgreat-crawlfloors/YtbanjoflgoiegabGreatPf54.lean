import Derived.Test.YtbanjoflgoiegabGreatPf52
namespace Go.Proofs.YtbanjoflgoiegabGreat
open Go.RowKit

theorem Cr.ail_calm {E I:Nat→Nat→Int} (h:∀k,k<32→E k 0≠0→E k 9=0∧E k 10=0):∀n,n≤32→Ft.ailE E I n=(E,I)
 | 0,_=>rfl
 | n+1,hn=>by
  have ih:=Cr.ail_calm (I:=I) h n (by omega)
  unfold Ft.ailE
  rw [ih]
  split
  ·rename_i h0
   obtain ⟨h9,h10⟩:=h n (by omega) h0
   show (Ft.oneE E n,Ft.oneI E I n)=(E,I)
   have k1:Ft.oneE E n=E:=by unfold Ft.oneE;rw [if_neg (by omega)];unfold Ft.stunE;rw [if_neg (by omega)]
   have k2:Ft.oneI E I n=I:=by unfold Ft.oneI;rw [if_neg (by omega)]
   rw [k1,k2]
  ·rfl

theorem Cr.descends {how inp:Nat→Int} {sp:Nat→Bool} {S T:Cr.W} {f:Nat} (hT:Cr.IsStep how inp sp S T) (h3:S.s 3=0) (h1:S.s 1=1) (h2:S.s 2≠3) (hf:Gd.hero S.E 0=(f:Int)) (f32:f<32) (f1:S.E f 0=1) (f2:S.E f 2=0) (hk:∀k,k<32→S.E k 0=0∨S.E k 0=1) (hq:∀k,k<32→S.E k 0≠0→S.E k 9=0∧S.E k 10=0) (hh:how 0=1) (hi:inp 0=9) (hh':∀t,t<4→t≠0→how t=0) (hsp:∀t,t<4→sp t=false) (hat:Gr.at 384 S.c (S.E f 3) (S.E f 4)=4) :
  Cr.Below (Cr.num S.s 1 2) S.g S.E S.I T:=by
 unfold Cr.IsStep at hT
 rw [if_neg (fun h=>h h3)] at hT
 obtain ⟨A,m,F,J,hA,hm,hF,hE⟩:=hT
 have hA':∀{n:Nat} {A:Nat→Nat→Int},n≤4→Cr.ComesTo S.c sp n S.E A→A=S.E:=by
  intro n
  induction n with
  | zero=>intro A _ h;exact h
  | succ n ih =>
   rintro A hn ⟨G,hG,hC⟩
   rw [ih (by omega) hG] at hC
   unfold Cr.Comes at hC
   rw [if_neg (fun h=>by rw [hsp n (by omega)] at h;cases h.1)] at hC
   exact hC
 rw [hA' (Nat.le_refl _) hA] at hm hE
 obtain ⟨m3,⟨m2,⟨m1,⟨m0,e0,M0⟩,M1⟩,M2⟩,M3⟩:=hm
 have e0':m0=⟨S.g,S.E,S.I,false⟩:=e0
 subst e0'
 have s1:m1=⟨S.g,S.E,S.I,true⟩:=by
  unfold Cr.Moved at M0
  have eh:Gd.hero S.E ((0:Nat):Int)=(f:Int):=hf
  rw [if_neg (by show ¬(Gd.hero S.E ((0:Nat):Int)<0∨0<S.E (Gd.hero S.E ((0:Nat):Int)).toNat 10∨(how 0≠1∧how 0≠2));rw [eh,Int.toNat_natCast,(hq f f32 (by omega)).2,hh];omega)] at M0
  obtain ⟨v,hv,rfl⟩:=M0
  rw [hh,if_neg (by omega),hi] at hv
  subst hv
  unfold Cr.does
  rw [if_neg (by omega),if_pos rfl]
  show Cr.M.mk S.g S.E S.I (false || decide (Gr.at 384 S.c (S.E (Gd.hero S.E ((0:Nat):Int)).toNat 3) (S.E (Gd.hero S.E ((0:Nat):Int)).toNat 4)=4))=_
  rw [eh,Int.toNat_natCast,hat]
  rfl
 subst s1
 have stay:∀{t:Nat} {m n:Cr.M},t<4→t≠0→Cr.Moved (Cr.num S.s 1 (S.s 1+1)) S.c (t:Int) (how t) (inp t) m n→n=m:=fun {t m n} ht t0 h=>by
  unfold Cr.Moved at h
  rw [if_pos (.inr (.inr (by rw [hh' t ht t0];omega)))] at h
  exact h
 have s2:=stay (t:=1) (by omega) (by omega) M1
 subst s2
 have s3:=stay (t:=2) (by omega) (by omega) M2
 subst s3
 have s4:=stay (t:=3) (by omega) (by omega) M3
 subst s4
 obtain ⟨rfl,rfl⟩:=Cr.prowl_none hk (Nat.le_refl 32) hF
 have hE':Cr.Ends (Cr.num S.s 1 (S.s 1+1)) S.g S.c (Cr.rats (Cr.num S.s 1 (S.s 1+1)) S.c (Ft.ailE S.E S.I 32).1) (Ft.ailE S.E S.I 32).2 (Cr.manned S.E || Cr.manned S.E) true T:=hE
 rw [Cr.ail_calm hq 32 (Nat.le_refl _)] at hE'
 have hr:Cr.rats (Cr.num S.s 1 (S.s 1+1)) S.c S.E=S.E:=by
  unfold Cr.rats
  rw [if_neg (fun h=>by
   have h':=h.1
   rw [Cr.num_at,h1] at h'
   omega)]
 rw [hr] at hE'
 unfold Cr.Ends at hE'
 have e2:Cr.num S.s 1 (S.s 1+1) 2=S.s 2:=if_neg (by omega)
 rw [if_neg (by rw [Cr.manned_of (t:=0) (k:=f) (by omega) f32 f1 f2];exact fun h=>by cases h),if_pos rfl,if_neg (by rw [e2];exact h2),h1] at hE'
 exact hE'

theorem Cr.lands_keeps {c:Nat→Int} {old E F:Nat→Nat→Int} {t:Int} {f:Nat} (h:Cr.Lands c old t E F) (hne:Gd.hero old t≠(f:Int)):F f=E f:=by
 unfold Cr.Lands at h
 split at h
 ·rw [h]
 ·obtain ⟨v,_,rfl⟩:=h
  rw [En.put_other (by omega)]

theorem Cr.lands_row {c:Nat→Int} {old E F:Nat→Nat→Int} {t:Int} {f:Nat} (h:Cr.Lands c old t E F) (he:Gd.hero old t=(f:Int)):∀j,j≠3→j≠4→F f j=old f j:=by
 unfold Cr.Lands at h
 rw [if_neg (by omega),he,Int.toNat_natCast] at h
 obtain ⟨v,_,rfl⟩:=h
 intro j j3 j4
 rw [En.put_same]
 split
 ·rfl
 ·rw [En.upd_other j4,En.upd_other j3]

theorem Cr.land_kinds {c:Nat→Int} {old:Nat→Nat→Int}:∀{t:Nat} {E F:Nat→Nat→Int},(∀k,E k 0=0∨E k 0=1)→Cr.LandTo c old t E F→∀k,F k 0=0∨F k 0=1
 | 0,_,_,hE,h=>by rw [h];exact hE
 | t+1,E,F,hE,h=>by
  obtain ⟨G,hG,hL⟩:=h
  have ih:=Cr.land_kinds hE hG
  intro k
  by_cases e:Gd.hero old (t:Int)=(k:Int)
  ·rw [Cr.lands_row hL e 0 (by omega) (by omega)]
   obtain ⟨k',_,he,_,h1⟩:=Gd.hero_pos (E:=old) (seat:=(t:Int)) (by omega)
   obtain rfl:k'=k:=by omega
   exact .inr h1
  ·rw [Cr.lands_keeps hL e]
   exact ih k

theorem Cr.stock_kinds:∀(es:List (Int × Nat)) {E:Nat→Nat→Int},(∀p,p∈es→2≤p.1∧p.1≤4)→∀k,Cr.stockE E es k=E k∨2≤Cr.stockE E es k 0
 | [],_,_,_=>.inl rfl
 | p :: es,E,hp,k=>by
  obtain ⟨p2,p4⟩:=hp p (List.mem_cons_self ..)
  obtain ⟨G,hG⟩:∃G,(if En.first (En.atQ E ((p.2:Int) % 24) ((p.2:Int) / 24)) 32<0 then Cr.join E (Cr.one p.1 0 p.2) else E)=G:=⟨_,rfl⟩
  have e:Cr.stockE E (p :: es)=Cr.stockE G es:=by rw [←hG];rfl
  rw [e]
  have hg:G k=E k∨2≤G k 0:=by
   rw [←hG]
   split
   ·rcases Cr.join_cases E (Cr.one p.1 0 p.2) with h | ⟨f,_,_,_,h⟩
    ·rw [h];exact .inl rfl
    ·rw [h]
     by_cases x:k=f
     ·rw [x,En.put_same]
      exact .inr (by rw [show En.gen (Cr.one p.1 0 p.2) ((E f 1+1) % 256) 0=Cr.one p.1 0 p.2 0 from if_neg (by omega),(Cr.one_at p.1 0 p.2).1 (by omega) p4];exact p2)
     ·rw [En.put_other x];exact .inl rfl
   ·exact .inl rfl
  rcases Cr.stock_kinds es (E:=G) (fun q hq=>hp q (List.mem_cons_of_mem _ hq)) k with h | h
  ·rw [h];exact hg
  ·exact .inr h

def Cr.foes (E:Nat→Nat→Int):Nat→Nat
 | 0=>0
 | n+1=>Cr.foes E n+if 1<E n 0 then 1 else 0

theorem Cr.foes_none {E:Nat→Nat→Int} (h:∀k,E k 0=0∨E k 0=1):∀n,Cr.foes E n=0
 | 0=>rfl
 | n+1=>by
  unfold Cr.foes
  rw [Cr.foes_none h n,if_neg (by have:=h n;omega)]

theorem Cr.foes_put (E:Nat→Nat→Int) (f:Nat) (e:Nat→Int):∀n,Cr.foes (En.put E f e) n≤Cr.foes E n+if f<n then 1 else 0
 | 0=>Nat.zero_le _
 | n+1=>by
  have ih:=Cr.foes_put E f e n
  unfold Cr.foes
  by_cases x:n=f
  ·rw [if_neg (by omega)] at ih
   rw [if_pos (show f<n+1 by omega)]
   have:(if 1<En.put E f e n 0 then 1 else 0)≤1:=by split <;> omega
   omega
  ·rw [En.put_other x]
   have:(if f<n then 1 else 0)≤if f<n+1 then 1 else 0:=by
    split
    ·rw [if_pos (by omega)];omega
    ·omega
   omega

theorem Cr.foes_stock:∀(es:List (Int × Nat)) (E:Nat→Nat→Int) (n:Nat),Cr.foes (Cr.stockE E es) n≤Cr.foes E n+es.length
 | [],_,_=>Nat.le_refl _
 | p :: es,E,n=>by
  obtain ⟨G,hG⟩:∃G,(if En.first (En.atQ E ((p.2:Int) % 24) ((p.2:Int) / 24)) 32<0 then Cr.join E (Cr.one p.1 0 p.2) else E)=G:=⟨_,rfl⟩
  have e:Cr.stockE E (p :: es)=Cr.stockE G es:=by rw [←hG];rfl
  rw [e]
  have h1:=Cr.foes_stock es G n
  have h2:Cr.foes G n≤Cr.foes E n+1:=by
   rw [←hG]
   split
   ·rcases Cr.join_cases E (Cr.one p.1 0 p.2) with h | ⟨f,_,_,_,h⟩
    ·rw [h];omega
    ·rw [h]
     have:=Cr.foes_put E f (En.gen (Cr.one p.1 0 p.2) ((E f 1+1) % 256)) n
     have:(if f<n then 1 else 0)≤1:=by split <;> omega
     omega
   ·omega
  rw [List.length_cons]
  omega

theorem Gd.lay_keeps {I M:Nat→Nat→Int} {k:Nat} (h:Gd.goneQ I k=false):∀m,Gd.lay I M m k=I k
 | 0=>rfl
 | m+1=>by
  have ih:=Gd.lay_keeps (M:=M) h m
  have hg:Gd.goneQ (Gd.lay I M m) k=false:=by
   unfold Gd.goneQ at h ⊢
   rw [ih]
   exact h
  rcases En.first_cases (Gd.goneQ (Gd.lay I M m)) 40 with ⟨_,hno⟩ | ⟨r,hr,_,hq,hno⟩
  ·rw [Gd.lay_none hno];exact ih
  ·rw [Gd.lay_some hno hq hr,En.put_other (fun e=>by rw [e,hq] at hg;cases hg)]
   exact ih

theorem Gd.lay_beyond {I M:Nat→Nat→Int} {a:Nat}:∀m,(∀k,a≤k→k<a+m→Gd.goneQ I k=true)→a+m≤40→∀k,a+m≤k→Gd.lay I M m k=I k
 | 0,_,_,_,_=>rfl
 | m+1,hg,h40,k,hk=>by
  have ih:=Gd.lay_beyond (M:=M) m (fun k h1 h2=>hg k h1 (by omega)) (by omega)
  have hgm:Gd.goneQ (Gd.lay I M m) (a+m)=true:=by
   have:=hg (a+m) (by omega) (by omega)
   unfold Gd.goneQ at this ⊢
   rw [ih (a+m) (Nat.le_refl _)]
   exact this
  rcases En.first_cases (Gd.goneQ (Gd.lay I M m)) 40 with ⟨_,hno⟩ | ⟨r,hr,_,hq,hno⟩
  ·rw [Gd.lay_none hno];exact ih k (by omega)
  ·have hrm:r≤a+m:=Nat.le_of_not_lt fun hlt=>by
    rw [hno (a+m) hlt] at hgm
    cases hgm
   rw [Gd.lay_some hno hq hr,En.put_other (by omega)]
   exact ih k (by omega)

theorem Cr.Below.told {s g:Nat→Int} {E I:Nat→Nat→Int} {T:Cr.W} {c0:Nat→Int} (h:Cr.Below s g E I T) (hE:Cr.Sane c0 E I) (hT:Cr.Sane T.c T.E T.I) (h2:1≤s 2+1) {f:Nat} (hf:Gd.hero E 0=(f:Int)) :
  T.s=Cr.num s 2 (s 2+1)∧T.g=g∧Gd.hero T.E 0=(f:Int)∧(∃u:Nat,u<384∧Gr.find 384 T.c 3=(u:Int)∧T.E f 3=(u:Int) % 24∧T.E f 4=(u:Int) / 24)∧(0≤Gd.hero T.E 3↔0≤Gd.hero E 3)∧(Cr.foes T.E 32:Int)≤s 2+3∧∃(is:List Gn.Itm),is.length≤7∧T.I=Cr.stockI (Cr.kept I) is:=by
 obtain ⟨c,es,is,F,hl,hF,rfl⟩:=h
 have hFl:=hl.floor
 have h4:=hl.four
 obtain ⟨k,hk,he,k2,k1⟩:=Gd.hero_pos (E:=E) (seat:=0) (by omega)
 obtain rfl:k=f:=by omega
 have hsb:=Cr.bare_sane (c:=c) (I:=fun _ _=>0) (fun i=>⟨(hFl.five i).1,by have:=(hFl.five i).2;omega⟩) ⟨fun _ _=>.inl ⟨rfl,rfl,rfl,rfl⟩,fun _ _ _ _ _ h0=>absurd rfl h0⟩ hE.good.gens
 obtain ⟨_,hLd⟩:=Cr.landing hE hFl h4 (Nat.le_refl 4) hsb (fun k _ k0=>absurd rfl k0) hF
 have hkinds:=Cr.land_kinds (E:=Cr.bare E) (fun k=>.inl rfl) hF
 obtain ⟨G3,⟨G2,⟨G1,⟨G0,e0,l0⟩,l1⟩,l2⟩,l3⟩:=hF
 have e0':G0=Cr.bare E:=e0
 subst e0'
 obtain ⟨u,hu,hfu,hcu,_⟩:=Cr.up_stair hFl
 have other:∀t:Int,t≠0→Gd.hero E t≠(k:Int):=fun t t0 e=>by
  obtain ⟨k',_,he',h2',_⟩:=Gd.hero_pos (E:=E) (seat:=t) (by omega)
  obtain rfl:k'=k:=by omega
  omega
 have hFk:F k=En.upd (En.upd (E k) 3 ((u:Int) % 24)) 4 ((u:Int) / 24):=by
  rw [Cr.lands_keeps l3 (other ((3:Nat):Int) (by omega)),Cr.lands_keeps l2 (other ((2:Nat):Int) (by omega)),Cr.lands_keeps l1 (other ((1:Nat):Int) (by omega))]
  unfold Cr.Lands at l0
  have he':Gd.hero E ((0:Nat):Int)=(k:Int):=he
  rw [if_neg (by rw [he'];omega),he',Int.toNat_natCast] at l0
  obtain ⟨v,hv,rfl⟩:=l0
  rw [hfu] at hv
  have hvu:=Cr.spot_up hu (by
   unfold Nv.st
   rw [En.first_none (fun j _=>by simp [En.atQ,Cr.bare,En.hole])]
   rfl) hv (by rw [hcu];omega) hFl
  rw [En.put_same,if_neg (by omega),hvu]
 have hFk0:F k 0=1:=by rw [hFk,En.upd_other (by omega),En.upd_other (by omega)];exact k1
 have hTk:Cr.stockE F es k=F k:=Cr.stock_keeps es (by omega)
 have hmons:=fun p hp=>(hl.mons h2 p hp)
 refine ⟨rfl,rfl,?_,⟨u,hu,hfu,?_,?_⟩,⟨fun h=>?_,fun h=>?_⟩,?_,is,?_,rfl⟩
 ·unfold Gd.hero
  have t1:Cr.stockE F es k 0=1:=by rw [hTk];exact hFk0
  have t2:Cr.stockE F es k 2=0:=by rw [hTk,hFk,En.upd_other (by omega),En.upd_other (by omega)];exact k2
  show En.first (En.heroQ (Cr.stockE F es) 0) 32=(k:Int)
  rcases En.first_cases (En.heroQ (Cr.stockE F es) 0) 32 with ⟨_,hno⟩ | ⟨j,hj,he,hq,_⟩
  ·have:=hno k hk
   simp [En.heroQ,t1,t2] at this
  ·have hq':Cr.stockE F es j 0=1∧Cr.stockE F es j 2=0:=by simpa [En.heroQ] using hq
   rw [he,hT.seats.one j k hj hk hq'.1 t1 (hq'.2.trans t2.symm)]
 ·show Cr.stockE F es k 3=_
  rw [hTk,hFk,En.upd_other (by omega),En.upd_same]
 ·show Cr.stockE F es k 4=_
  rw [hTk,hFk,En.upd_same]
 ·obtain ⟨j,hj,_,j2,j1⟩:=Gd.hero_pos h
  have j1':Cr.stockE F es j 0=1:=j1
  have j2':Cr.stockE F es j 2=3:=j2
  rcases Cr.stock_kinds es (E:=F) (fun p hp=>⟨(hmons p hp).1,(hmons p hp).2.1⟩) j with e | e
  ·rw [e] at j1' j2'
   obtain ⟨t,ht,hth,ht2⟩:=hLd j hj (by omega)
   obtain rfl:t=3:=by omega
   have:Gd.hero E 3=(j:Int):=hth
   omega
  ·omega
 ·obtain ⟨j,hj,he3,j2,j1⟩:=Gd.hero_pos h
  have r:=Cr.lands_row l3 (f:=j) he3
  have r0:=r 0 (by omega) (by omega)
  have r2:=r 2 (by omega) (by omega)
  have hj0:Cr.stockE F es j=F j:=Cr.stock_keeps es (by omega)
  show 0≤En.first (En.heroQ (Cr.stockE F es) 3) 32
  rcases En.first_cases (En.heroQ (Cr.stockE F es) 3) 32 with ⟨_,hno⟩ | ⟨i,_,hi,_⟩
  ·have:=hno j hj
   simp [En.heroQ,hj0,r0,r2,j1,j2] at this
  ·omega
 ·show (Cr.foes (Cr.stockE F es) 32:Int)≤_
  have h1:=Cr.foes_stock es F 32
  rw [Cr.foes_none hkinds 32] at h1
  obtain ⟨d,F0,_,_,_,hes,_⟩:=hl
  have h3:es.length≤((s 2+1)+2).toNat:=by
   rw [hes]
   exact Gn.mons_len d (s 2+1) ((s 2+1)+2).toNat 0 _
  omega
 ·obtain ⟨d,F0,_,_,_,_,his⟩:=hl
  rw [his]
  have h5:=Gn.items_len d c
  rw [h5.1]
  have h6:=h5.2
  split <;> omega

def Cr.pack (d:Nat):Nat→Nat→Int:=En.put (En.put (En.put (fun _ _=>0) 3 (Gd.row 2 3 0 0)) 4 (Gd.row 1 2 0 2)) 30 (Gd.row 3 1 ((d:Int) % 24) ((d:Int) / 24))

theorem Cr.pack_ok {c:Nat→Int} {d:Nat} (hd:d<384) (hw:Gr.walkB (c d)=true):Gd.Ok c 40 (Cr.pack d):=by
 have h0:Gd.Ok c 40 (fun _ _=>0):=⟨fun _ _=>.inl ⟨rfl,rfl,rfl,rfl⟩,fun _ _ _ _ _ h=>absurd rfl h⟩
 refine Gd.Ok.put (Gd.Ok.put (Gd.Ok.put h0 (.inr ⟨?_,?_⟩)) (.inr ⟨?_,?_⟩)) (.inr ⟨?_,?_⟩)
 ·exact ⟨by show 1≤(2:Int);omega,by show (2:Int)≤4;omega,.inr (.inr (.inl ⟨rfl,by show (0:Int)≤0;omega,by show (0:Int)<4;omega,.inl ⟨rfl,rfl⟩⟩))⟩
 ·intro k _ _ h
  have:(0:Int)=3:=h.1
  omega
 ·exact ⟨by show 1≤(1:Int);omega,by show (1:Int)≤4;omega,.inr (.inl ⟨rfl,by show (0:Int)≤0;omega,by show (0:Int)<4;omega,by show (0:Int)≤2;omega,by show (2:Int)<4;omega,by show ¬(1:Int)=4;omega⟩)⟩
 ·intro k _ _ h
  have h1:=h.1
  by_cases e:k=3
  ·rw [e,En.put_same] at h1
   have:(3:Int)=2:=h1
   omega
  ·rw [En.put_other e] at h1
   have:(0:Int)=2:=h1
   omega
 ·obtain ⟨m1,m2,m3,m4,m5⟩:=Ft.cell_num hd
  have hin:Gr.inB ((d:Int) % 24) ((d:Int) / 24)=true:=(Gr.inB_iff _ _).2 (by omega)
  exact ⟨by show 1≤(3:Int);omega,by show (3:Int)≤4;omega,.inl ⟨rfl,hin,by show Gr.walkB (Gr.at 384 c ((d:Int) % 24) ((d:Int) / 24))=true;rw [Gr.at_in (k:=d) hin (by omega)];exact hw⟩⟩
 ·intro k _ _ h
  have h1:=h.1
  by_cases e4:k=4
  ·rw [e4,En.put_same] at h1
   have:(2:Int)=1:=h1
   omega
  ·rw [En.put_other e4] at h1
   by_cases e:k=3
   ·rw [e,En.put_same] at h1
    have:(3:Int)=1:=h1
    omega
   ·rw [En.put_other e] at h1
    have:(0:Int)=1:=h1
    omega

theorem Cr.pack_left (d:Nat) {is:List Gn.Itm} (hi:is.length≤7):Cr.stockI (Cr.kept (Cr.pack d)) is 3=Gd.row 2 3 0 0∧Cr.stockI (Cr.kept (Cr.pack d)) is 4=Gd.row 1 2 0 2∧Cr.stockI (Cr.kept (Cr.pack d)) is 30=fun _=>0:=by
 have k3:Cr.kept (Cr.pack d) 3=Gd.row 2 3 0 0:=by
  unfold Cr.kept
  rw [if_neg (show ¬(Cr.pack d 3 1=1∨Cr.pack d 3 1=4) from fun h=>by rcases h with h | h <;> cases h)]
  rfl
 have k4:Cr.kept (Cr.pack d) 4=Gd.row 1 2 0 2:=by
  unfold Cr.kept
  rw [if_neg (show ¬(Cr.pack d 4 1=1∨Cr.pack d 4 1=4) from fun h=>by rcases h with h | h <;> cases h)]
  rfl
 have kz:∀k,5≤k→Cr.kept (Cr.pack d) k=fun _=>0:=fun k hk=>by
  by_cases e:k=30
  ·unfold Cr.kept
   rw [e,if_pos (show (Cr.pack d 30 1=1∨Cr.pack d 30 1=4) from .inl rfl)]
  ·have hp:Cr.pack d k=fun _=>0:=by
    unfold Cr.pack
    rw [En.put_other e,En.put_other (by omega),En.put_other (by omega)]
   unfold Cr.kept
   rw [hp]
   split <;> rfl
 unfold Cr.stockI
 refine ⟨?_,?_,?_⟩
 ·rw [Gd.lay_keeps (by unfold Gd.goneQ;rw [k3];decide)];exact k3
 ·rw [Gd.lay_keeps (by unfold Gd.goneQ;rw [k4];decide)];exact k4
 ·rw [Gd.lay_beyond (a:=5) is.length (fun k h1 _=>by unfold Gd.goneQ;rw [kz k h1];decide) (by omega) 30 (by omega)]
  exact kz 30 (by omega)

end Go.Proofs.YtbanjoflgoiegabGreat
