import Derived.Test.YtepppmepilffcaaGreatPart23
namespace Go.Proofs.YtepppmepilffcaaGreat
open Go.RowKit

theorem Cr.one_row {kd st:Int} {q:Nat} {gn:Int} (h1:1≤kd) (h4:kd≤4) (g0:0≤gn) (g9:gn≤255):Ft.Row (En.gen (Cr.one kd st q) gn):=by
 have e:∀j,j≠1→j≠2→j≠3→j≠4→En.gen (Cr.one kd st q) gn j=En.stats kd j:=fun j j1 j2 j3 j4=>by
  show (if j=1 then gn else Cr.one kd st q j)=_
  rw [if_neg j1]
  unfold Cr.one
  rw [En.upd_other j4,En.upd_other j3,En.upd_other j2]
 refine ⟨g0,g9,.inr ?_⟩
 rw [e 0 (by omega) (by omega) (by omega) (by omega),e 5 (by omega) (by omega) (by omega) (by omega),e 6 (by omega) (by omega) (by omega) (by omega),e 7 (by omega) (by omega) (by omega) (by omega),e 8 (by omega) (by omega) (by omega) (by omega),e 9 (by omega) (by omega) (by omega) (by omega),e 10 (by omega) (by omega) (by omega) (by omega)]
 rcases (show kd=1∨kd=2∨kd=3∨kd=4 by omega) with rfl | rfl | rfl | rfl <;> decide

theorem Cr.one_at (kd st:Int) (q:Nat):(1≤kd→kd≤4→Cr.one kd st q 0=kd)∧Cr.one kd st q 2=st∧Cr.one kd st q 3=(q:Int) % 24∧Cr.one kd st q 4=(q:Int) / 24∧Cr.one kd st q 6=En.stats kd 6∧Cr.one kd st q 7=En.stats kd 7∧Cr.one kd st q 8=En.stats kd 8:=by
 unfold Cr.one
 refine ⟨fun h1 h4=>?_,?_,?_,?_,?_,?_,?_⟩
 ·rw [En.upd_other (by omega),En.upd_other (by omega),En.upd_other (by omega)]
  rcases (show kd=1∨kd=2∨kd=3∨kd=4 by omega) with rfl | rfl | rfl | rfl <;> decide
 ·rw [En.upd_other (by omega),En.upd_other (by omega),En.upd_same]
 ·rw [En.upd_other (by omega),En.upd_same]
 ·rw [En.upd_same]
 ·rw [En.upd_other (by omega),En.upd_other (by omega),En.upd_other (by omega)]
 ·rw [En.upd_other (by omega),En.upd_other (by omega),En.upd_other (by omega)]
 ·rw [En.upd_other (by omega),En.upd_other (by omega),En.upd_other (by omega)]

theorem Cr.Sane.join {c:Nat→Int} {E I:Nat→Nat→Int} (h:Cr.Sane c E I) {kd st:Int} {q:Nat} (h1:1≤kd) (h4:kd≤4) (hq:q<384) (hr:Ft.Room c E q) (hs:(kd=1∧0≤st∧st<4∧Gd.hero E st<0)∨(kd≠1∧st=0)):Cr.Sane c (Cr.join E (Cr.one kd st q)) I:=by
 obtain ⟨o0,o2,o3,o4,o6,o7,o8⟩:=Cr.one_at kd st q
 rcases Cr.join_cases E (Cr.one kd st q) with he | ⟨f,hf,hf0,_,he⟩
 ·rw [he];exact h
 rw [he]
 have hg:0≤(E f 1+1) % 256∧(E f 1+1) % 256≤255:=by omega
 generalize (E f 1+1) % 256=gn at hg
 have k0:En.gen (Cr.one kd st q) gn 0=kd:=o0 h1 h4
 have k2:En.gen (Cr.one kd st q) gn 2=st:=o2
 have hset:=h.set.put (e:=Cr.one kd st q) (gn:=gn) hf0 hq hr o3 o4 (by rw [o0 h1 h4];exact ⟨o6,o7,o8⟩)
 have nohero:∀j,j<32→E j 0=1→kd=1→E j 2≠st:=fun j hj j1 hk e=>by
  rcases hs with ⟨_,_,_,hno⟩ | ⟨hn,_⟩
  ·unfold Gd.hero at hno
   rcases En.first_cases (En.heroQ E st) 32 with ⟨_,hn⟩ | ⟨i,_,hi,_⟩
   ·have:=hn j hj
    simp [En.heroQ,j1,e] at this
   ·omega
  ·exact hn hk
 refine ⟨h.fit.put (Cr.one_row h1 h4 hg.1 hg.2),hset,⟨fun j hj j1=>?_,fun i j hi hj i1 j1 hij=>?_,fun j hj j0 j1=>?_⟩⟩
 ·by_cases x:j=f
  ·rw [x,En.put_same,k0] at j1
   rw [x,En.put_same,k2]
   rcases hs with ⟨_,a,b,_⟩ | ⟨hn,_⟩
   ·exact ⟨a,b⟩
   ·exact absurd j1 hn
  ·rw [En.put_other x] at j1 ⊢;exact h.seats.seat j hj j1
 ·by_cases xi:i=f
  ·by_cases xj:j=f
   ·omega
   ·rw [xi,En.put_same,k0] at i1
    rw [xi,En.put_same,k2,En.put_other xj] at hij
    rw [En.put_other xj] at j1
    exact absurd hij.symm (nohero j hj j1 i1)
  ·by_cases xj:j=f
   ·rw [xj,En.put_same,k0] at j1
    rw [xj,En.put_same,k2,En.put_other xi] at hij
    rw [En.put_other xi] at i1
    exact absurd hij (nohero i hi i1 j1)
   ·rw [En.put_other xi] at i1 hij
    rw [En.put_other xj] at j1 hij
    exact h.seats.one i j hi hj i1 j1 hij
 ·by_cases x:j=f
  ·rw [x,En.put_same,k0] at j1
   rw [x,En.put_same,k2]
   rcases hs with ⟨hk,_⟩ | ⟨_,hst⟩
   ·exact absurd hk j1
   ·exact hst
  ·rw [En.put_other x] at j0 j1 ⊢;exact h.seats.none j hj j0 j1

theorem Cr.spot_room {c:Nat→Int} {E:Nat→Nat→Int} {x y:Int} {q:Nat} (h:Nv.IsSpot c E 32 x y (q:Int)):q<384∧Ft.Room c E q:=by
 obtain ⟨F,hF,hq⟩:=h
 have key:∀n,Nv.best F (Nv.st E 32) n=-1∨∃p:Nat,p<n∧Nv.best F (Nv.st E 32) n=(p:Int)∧0≤F p∧Nv.st E 32 p=false:=by
  intro n
  induction n with
  | zero=>exact .inl rfl
  | succ n ih =>
   unfold Nv.best
   split
   ·rename_i hc
    exact .inr ⟨n,by omega,rfl,hc.1,hc.2.1⟩
   ·rcases ih with h0 | ⟨p,hp,he,h1,h2⟩
    ·exact .inl h0
    ·exact .inr ⟨p,by omega,he,h1,h2⟩
 rcases key 384 with h0 | ⟨p,hp,he,h1,h2⟩
 ·omega
 ·obtain rfl:q=p:=by omega
  refine ⟨hp,Nv.reach_walk hF hp h1,?_⟩
  unfold Nv.st at h2
  simp only [decide_eq_false_iff_not] at h2
  have e1:((q % 24:Nat):Int)=(q:Int) % 24:=by omega
  have e2:((q / 24:Nat):Int)=(q:Int) / 24:=by omega
  rw [e1,e2] at h2
  omega

def Cr.Comes (c:Nat→Int) (t:Int) (sp:Bool) (E F:Nat→Nat→Int):Prop :=
 if sp=true∧Gd.hero E t<0 then ∃v,Nv.IsSpot c E 32 (Gr.find 384 c 3 % 24) (Gr.find 384 c 3 / 24) v∧((v<0∧F=E)∨∃q:Nat,v=(q:Int)∧F=Cr.join E (Cr.one 1 t q)) else F=E

theorem Cr.Sane.comes {c:Nat→Int} {t:Int} {sp:Bool} {E F I:Nat→Nat→Int} (h:Cr.Sane c E I) (t0:0≤t) (t4:t<4) (hc:Cr.Comes c t sp E F):Cr.Sane c F I:=by
 unfold Cr.Comes at hc
 split at hc
 ·rename_i hcond
  obtain ⟨v,hv,⟨_,rfl⟩ | ⟨q,rfl,rfl⟩⟩:=hc
  ·exact h
  ·obtain ⟨hq,hr⟩:=Cr.spot_room hv
   exact h.join (by omega) (by omega) hq hr (.inl ⟨rfl,t0,t4,hcond.2⟩)
 ·rw [hc];exact h

def Cr.ComesTo (c:Nat→Int) (sp:Nat→Bool):Nat→(Nat→Nat→Int)→(Nat→Nat→Int)→Prop
 | 0,E,F=>F=E
 | t+1,E,F=>∃G,Cr.ComesTo c sp t E G∧Cr.Comes c (t:Int) (sp t) G F

theorem Cr.Sane.comesTo {c:Nat→Int} {sp:Nat→Bool} {I:Nat→Nat→Int}:∀{t:Nat} {E F:Nat→Nat→Int},Cr.Sane c E I→t≤4→Cr.ComesTo c sp t E F→Cr.Sane c F I
 | 0,_,_,h,_,hc=>by rw [hc];exact h
 | t+1,_,_,h,ht,hc=>by
  obtain ⟨G,hG,hF⟩:=hc
  exact (Cr.Sane.comesTo h (by omega) hG).comes (by omega) (by omega) hF

structure Cr.M where
 g:Nat→Int
 E:Nat→Nat→Int
 I:Nat→Nat→Int
 left:Bool

def Cr.does (s c:Nat→Int) (m:Cr.M) (t:Int) (k:Nat) (v:Int):Cr.M :=
 if 1≤v∧v≤4 then ⟨m.g,(Cr.act s c m.E m.I k v false).1,(Cr.act s c m.E m.I k v false).2,m.left⟩
 else if v=9 then ⟨m.g,m.E,m.I,m.left || decide (Gr.at 384 c (m.E k 3) (m.E k 4)=4)⟩
 else ⟨Gd.nextG c m.g m.E m.I t v,Gd.nextE m.E m.I t v,Gd.nextI c m.g m.E m.I t v,m.left⟩

def Cr.Moved (s c:Nat→Int) (t how input:Int) (m n:Cr.M):Prop :=
 if Gd.hero m.E t<0∨0<m.E (Gd.hero m.E t).toNat 10∨(how≠1∧how≠2) then n=m
 else ∃v,(if how=2 then Md.IsRobot c m.E m.I t v else v=input)∧n=Cr.does s c m t (Gd.hero m.E t).toNat v

def Cr.MFit (c:Nat→Int) (m:Cr.M):Prop:=Cr.Sane c m.E m.I∧Cr.Gold m.g

theorem Cr.goldOf_bd {I:Nat→Nat→Int} {t X Y G v:Int} {shop:Bool} (h0:0≤G) (h9:G≤999):0≤Gd.goldOf I t X Y shop G v∧Gd.goldOf I t X Y shop G v≤999:=by
 unfold Gd.goldOf
 split
 ·split <;> omega
 ·split
  ·split
   ·rename_i hb
    unfold Gd.buys at hb
    simp only [Bool.and_eq_true,decide_eq_true_eq] at hb
    omega
   ·omega
  ·omega

theorem Cr.MFit.next {c:Nat→Int} {m:Cr.M} (h:Cr.MFit c m) (t v:Int):Cr.Sane c (Gd.nextE m.E m.I t v) (Gd.nextI c m.g m.E m.I t v)∧Cr.Gold (Gd.nextG c m.g m.E m.I t v):=by
 obtain ⟨hs,hg⟩:=h
 by_cases hc:0≤t∧t<4∧0≤Gd.hero m.E t
 ·obtain ⟨k,hk,he,hk2,hk1⟩:=Gd.hero_pos hc.2.2
  obtain ⟨a1,a2,a3,a4,a5⟩:=hs.set.stands.on k hk (by omega)
  have hin:Gr.inB (m.E k 3) (m.E k 4)=true:=(Gr.inB_iff _ _).2 ⟨a1,a2,a3,a4⟩
  have hw:=Md.at_stand hs.set.stands hk (by omega)
  have hI:Gd.nextI c m.g m.E m.I t v=Gd.act m.I 40 t (m.E k 3) (m.E k 4) (decide (Gr.at 384 c (m.E k 3) (m.E k 4)=5)) (m.g t.toNat) v:=by
   unfold Gd.nextI
   rw [if_pos hc,he,Int.toNat_natCast]
  have hok:Gd.Ok c 40 (Gd.nextI c m.g m.E m.I t v):=by
   rw [hI]
   exact hs.fit.ok.act hc.1 hc.2.1 hin hw _ _ _
  have hfit:Ft.Fit c (Gd.nextE m.E m.I t v) (Gd.nextI c m.g m.E m.I t v):=by
   refine ⟨hs.fit.cells,hok,fun i hi=>?_⟩
   unfold Gd.nextE
   rw [if_pos hc,he,Int.toNat_natCast]
   unfold Gd.entsOf
   split
   ·have ht:=(hs.fit.rows k hk).taken (by omega)
    by_cases x:i=k
    ·rw [x]
     have e:∀j,j≠5→j≠9→Gd.heal m.E k k j=m.E k j:=fun j h5 h9=>by
      unfold Gd.heal
      rw [Md.set_else _ _ _ _ (by omega),Md.set_else _ _ _ _ (by omega)]
     have e5:Gd.heal m.E k k 5=min (m.E k 5+6) (m.E k 6):=by
      unfold Gd.heal
      rw [Md.set_else _ _ _ _ (by omega),Md.set_at]
     have e9:Gd.heal m.E k k 9=0:=by
      unfold Gd.heal
      rw [Md.set_at]
     refine ⟨by rw [e 1 (by omega) (by omega)];exact (hs.fit.rows k hk).1,by rw [e 1 (by omega) (by omega)];exact (hs.fit.rows k hk).2.1,.inr ?_⟩
     rw [e 0 (by omega) (by omega),e5,e 6 (by omega) (by omega),e 7 (by omega) (by omega),e 8 (by omega) (by omega),e9,e 10 (by omega) (by omega)]
     omega
    ·have:Gd.heal m.E k i=m.E i:=by
      unfold Gd.heal
      rw [Ft.set_row _ _ _ _ _ x,Ft.set_row _ _ _ _ _ x]
     rw [this]
     exact hs.fit.rows i hi
   ·exact hs.fit.rows i hi
  refine ⟨hs.less (Cr.Less.next _ _ _ _) hfit,fun i hi=>?_⟩
  unfold Gd.nextG
  rw [if_pos hc]
  unfold Gd.give
  split
  ·exact Cr.goldOf_bd (hg _ (by omega)).1 (hg _ (by omega)).2
  ·exact hg i hi
 ·unfold Gd.nextE Gd.nextI Gd.nextG
  rw [if_neg hc,if_neg hc,if_neg hc]
  exact ⟨hs,hg⟩

theorem Cr.MFit.does {s c:Nat→Int} {m:Cr.M} (h:Cr.MFit c m) (t:Int) {k:Nat} (hk:k<32) (k0:m.E k 0≠0) (v:Int):Cr.MFit c (Cr.does s c m t k v):=by
 unfold Cr.does
 split
 ·exact ⟨h.1.act hk k0 v false,h.2⟩
 ·split
  ·exact ⟨h.1,h.2⟩
  ·exact h.next t v

theorem Cr.MFit.moved {s c:Nat→Int} {t how input:Int} {m n:Cr.M} (h:Cr.MFit c m) (hm:Cr.Moved s c t how input m n):Cr.MFit c n:=by
 unfold Cr.Moved at hm
 split at hm
 ·rw [hm];exact h
 ·rename_i hc
  obtain ⟨v,_,rfl⟩:=hm
  obtain ⟨k,hk,he,k1,_⟩:=Md.hero_row (E:=m.E) (seat:=t) (by omega)
  rw [he,Int.toNat_natCast]
  exact h.does t hk (by omega) v

def Cr.MovedTo (s c how input:Nat→Int):Nat→Cr.M→Cr.M→Prop
 | 0,m,n=>n=m
 | t+1,m,n=>∃o,Cr.MovedTo s c how input t m o∧Cr.Moved s c (t:Int) (how t) (input t) o n

theorem Cr.MFit.movedTo {s c how input:Nat→Int}:∀{t:Nat} {m n:Cr.M},Cr.MFit c m→Cr.MovedTo s c how input t m n→Cr.MFit c n
 | 0,_,_,h,hm=>by rw [hm];exact h
 | t+1,_,_,h,hm=>by
  obtain ⟨o,ho,hn⟩:=hm
  exact (Cr.MFit.movedTo h ho).moved hn

def Cr.Prowls (s c:Nat→Int) (i:Nat) (E I F J:Nat→Nat→Int):Prop :=
 if E i 0=0∨E i 0=1∨0<E i 10 then F=E∧J=I
 else ∃v,Md.IsMonster s c E (i:Int) v∧F=(Cr.act s c E I i v true).1∧J=(Cr.act s c E I i v true).2

theorem Cr.Sane.prowls {s c:Nat→Int} {i:Nat} {E I F J:Nat→Nat→Int} (h:Cr.Sane c E I) (hi:i<32) (hp:Cr.Prowls s c i E I F J):Cr.Sane c F J:=by
 unfold Cr.Prowls at hp
 split at hp
 ·rw [hp.1,hp.2];exact h
 ·rename_i hc
  obtain ⟨v,_,rfl,rfl⟩:=hp
  exact h.act hi (by omega) v true

def Cr.ProwlTo (s c:Nat→Int):Nat→(Nat→Nat→Int)→(Nat→Nat→Int)→(Nat→Nat→Int)→(Nat→Nat→Int)→Prop
 | 0,E,I,F,J=>F=E∧J=I
 | i+1,E,I,F,J=>∃G K,Cr.ProwlTo s c i E I G K∧Cr.Prowls s c i G K F J

theorem Cr.Sane.prowlTo {s c:Nat→Int}:∀{i:Nat} {E I F J:Nat→Nat→Int},Cr.Sane c E I→i≤32→Cr.ProwlTo s c i E I F J→Cr.Sane c F J
 | 0,_,_,_,_,h,_,hp=>by rw [hp.1,hp.2];exact h
 | i+1,_,_,_,_,h,hi,hp=>by
  obtain ⟨G,K,hG,hF⟩:=hp
  exact (Cr.Sane.prowlTo h (by omega) hG).prowls (by omega) hF

def Cr.manned (E:Nat→Nat→Int):Bool:=decide (∃t:Nat,t<4∧0≤Gd.hero E (t:Int))

def Cr.rats (s c:Nat→Int) (E:Nat→Nat→Int):Nat→Nat→Int :=
 if s 1 % 16=0∧En.first (En.atQ E (Gr.find 384 c 3 % 24) (Gr.find 384 c 3 / 24)) 32<0 then Cr.join E (Cr.one 2 0 (Gr.find 384 c 3).toNat) else E

theorem Cr.up_stair {c:Nat→Int} (hF:Nv.Floor c):∃u:Nat,u<384∧Gr.find 384 c 3=(u:Int)∧c u=3∧∀i,c i=3→i=u:=by
 obtain ⟨u,v,hu,_,h3,_⟩:=hF.stairs
 refine ⟨u,hu,?_,(h3 u).2 rfl,fun i hi=>(h3 i).1 hi⟩
 have key:∀n k:Nat,k≤u→u<k+n→Gr.findFrom c 3 n k=(u:Int):=by
  intro n
  induction n with
  | zero=>intro k h1 h2;omega
  | succ n ih =>
   intro k h1 h2
   unfold Gr.findFrom
   by_cases e:c k=3
   ·rw [if_pos e,(h3 k).1 e]
   ·rw [if_neg e]
    refine ih (k+1) ?_ (by omega)
    by_cases ek:k=u
    ·exact absurd ((h3 k).2 ek) e
    ·omega
 exact key 384 0 (by omega) (by omega)

theorem Cr.Sane.rats {s c:Nat→Int} {E I:Nat→Nat→Int} (h:Cr.Sane c E I) (hF:Nv.Floor c):Cr.Sane c (Cr.rats s c E) I:=by
 unfold Cr.rats
 split
 ·rename_i hc
  obtain ⟨u,hu,hfu,hcu,_⟩:=Cr.up_stair hF
  rw [hfu] at hc
  rw [hfu,Int.toNat_natCast]
  exact h.join (by omega) (by omega) hu ⟨by rw [hcu];rfl,hc.2⟩ (.inr ⟨by omega,rfl⟩)
 ·exact h

theorem Cr.Sane.ail {c:Nat→Int} {E I:Nat→Nat→Int} (h:Cr.Sane c E I):Cr.Sane c (Ft.ailE E I 32).1 (Ft.ailE E I 32).2 :=
 h.less (Cr.Less.ail E I 32) (h.fit.ail 32 (by omega))


open Go.RowKit

def Cr.Lev (seed f:Int) (c:Nat→Int) (es:List (Int × Nat)) (is:List Gn.Itm):Prop :=
 ∃(d:Gn.Dice) (F:Nat→Int),(∀a b n,Gn.D seed f a b n=d a b n)∧Gn.Fair d∧Gn.IsLevel d c F∧es=Gn.ents d f c F∧is=Gn.items d c

theorem Cr.Lev.floor {seed f:Int} {c:Nat→Int} {es:List (Int × Nat)} {is:List Gn.Itm} (h:Cr.Lev seed f c es is):Nv.Floor c:=by
 obtain ⟨d,F,_,hF,hL,_⟩:=h
 exact Nv.floor_of hF hL

def Cr.stockE (E:Nat→Nat→Int) (es:List (Int × Nat)):Nat→Nat→Int :=
 es.foldl (fun E p=>if En.first (En.atQ E ((p.2:Int) % 24) ((p.2:Int) / 24)) 32<0 then Cr.join E (Cr.one p.1 0 p.2) else E) E

def Cr.itemOf (is:List Gn.Itm) (i j:Nat):Int :=
 match is[i]? with
 | some p=>Gd.row p.1 p.2.1 p.2.2.1 p.2.2.2 j
 | none=>0

def Cr.stockI (I:Nat→Nat→Int) (is:List Gn.Itm):Nat→Nat→Int:=Gd.lay I (Cr.itemOf is) is.length

theorem Cr.Sane.stockE {c:Nat→Int} {I:Nat→Nat→Int}:∀(es:List (Int × Nat)) {E:Nat→Nat→Int},Cr.Sane c E I→(∀p,p∈es→2≤p.1∧p.1≤4∧p.2<384∧Gr.walkB (c p.2)=true)→Cr.Sane c (Cr.stockE E es) I
 | [],_,h,_=>h
 | p :: es,E,h,hp=>by
  obtain ⟨k2,k4,hq,hw⟩:=hp p (List.mem_cons_self ..)
  refine Cr.Sane.stockE es (E:=if En.first (En.atQ E ((p.2:Int) % 24) ((p.2:Int) / 24)) 32<0 then Cr.join E (Cr.one p.1 0 p.2) else E) ?_ (fun q hq=>hp q (List.mem_cons_of_mem _ hq))
  split
  ·rename_i hr
   exact h.join (by omega) (by omega) hq ⟨hw,hr⟩ (.inr ⟨by omega,rfl⟩)
  ·exact h

theorem Cr.Lev.mons {seed f:Int} {c:Nat→Int} {es:List (Int × Nat)} {is:List Gn.Itm} (h:Cr.Lev seed f c es is) (hf:1≤f) (p:Int × Nat) (hp:p∈es):2≤p.1∧p.1≤4∧p.2<384∧Gr.walkB (c p.2)=true:=by
 obtain ⟨d,F,_,hF,hL,rfl,_⟩:=h
 obtain ⟨i,hi⟩:=List.mem_iff_getElem?.1 hp
 obtain ⟨k2,k4,hq,hc,_⟩:=Gn.ents_at hF hf hi
 exact ⟨k2,k4,hq,by rw [hc];rfl⟩

theorem Cr.ok_lay {c:Nat→Int} {I M:Nat→Nat→Int}:∀(n:Nat),Gd.Ok c 40 I→(∀i,i<n→Gd.Placed c (Gd.row (M i 0) (M i 1) (M i 2) (M i 3)))→(∀i k,i<n→k<40→I k 1≠0→¬Gd.Share (I k) (Gd.row (M i 0) (M i 1) (M i 2) (M i 3)))→(∀i j,i<j→j<n→¬Gd.Share (Gd.row (M i 0) (M i 1) (M i 2) (M i 3)) (Gd.row (M j 0) (M j 1) (M j 2) (M j 3))) →
  Gd.Ok c 40 (Gd.lay I M n)∧∀k,k<40→(Gd.lay I M n k=I k∨∃i,i<n∧Gd.lay I M n k=Gd.row (M i 0) (M i 1) (M i 2) (M i 3))
 | 0,h,_,_,_=>⟨h,fun k _=>.inl rfl⟩
 | n+1,h,hp,hi,hm=>by
  obtain ⟨ho,hk⟩:=Cr.ok_lay n h (fun i hi'=>hp i (by omega)) (fun i k hi'=>hi i k (by omega)) (fun i j hij hj=>hm i j hij (by omega))
  unfold Gd.lay
  split
  ·rename_i hpos
   generalize (En.first (Gd.goneQ (Gd.lay I M n)) 40).toNat=r
   have hpn:=hp n (by omega)
   refine ⟨ho.put (.inr ⟨hpn,fun k hk40 _ hs=>?_⟩),fun k hk40=>?_⟩
   ·rcases hk k hk40 with e | ⟨i,hin,e⟩
    ·rw [e] at hs
     have h0:I k 1≠0:=by
      have h1:=hs.1
      rw [h1]
      exact hpn.where_ne
     exact hi n k (by omega) hk40 h0 hs
    ·rw [e] at hs
     exact hm i n hin (by omega) hs
   ·by_cases e:k=r
    ·rw [e,En.put_same];exact .inr ⟨n,by omega,rfl⟩
    ·rw [En.put_other e]
     rcases hk k hk40 with e' | ⟨i,hin,e'⟩
     ·exact .inl e'
     ·exact .inr ⟨i,by omega,e'⟩
  ·exact ⟨ho,fun k hk40=>(hk k hk40).imp id fun ⟨i,hin,e⟩=>⟨i,by omega,e⟩⟩

theorem Cr.item_at {is:List Gn.Itm} {i:Nat} {p:Gn.Itm} (h:is[i]?=some p):Cr.itemOf is i 0=p.1∧Cr.itemOf is i 1=p.2.1∧Cr.itemOf is i 2=p.2.2.1∧Cr.itemOf is i 3=p.2.2.2:=by
 unfold Cr.itemOf
 rw [h]
 exact ⟨rfl,rfl,rfl,rfl⟩

theorem Cr.Lev.items {seed f:Int} {c:Nat→Int} {es:List (Int × Nat)} {is:List Gn.Itm} (h:Cr.Lev seed f c es is):(∀(i:Nat) (p:Gn.Itm),is[i]?=some p→Gd.Placed c (Gd.row p.1 p.2.1 p.2.2.1 p.2.2.2)∧(p.2.1=1∨p.2.1=4))∧(∀(i j:Nat) (p q:Gn.Itm),i<j→is[i]?=some p→is[j]?=some q→¬(p.2.1=q.2.1∧p.2.2.1=q.2.2.1∧p.2.2.2=q.2.2.2)):=by
 obtain ⟨d,F,_,hF,hL,_,rfl⟩:=h
 have hw:∀i p,Gn.lying d c≤i→(Gn.items d c)[i]?=some p→∃j:Nat,j=i - Gn.lying d c∧j<3∧p=(1+d (50+(j:Int)) 1 3,4,(j:Int),0):=fun i p hi hp=>by
  have e:Gn.items d c=Gn.lie d 4 0 (Gn.those (fun i=>c i == 1) 384) ++ if Gr.find 384 c 5<0 then [] else Gn.wares d 3:=rfl
  rw [e,List.getElem?_append_right hi] at hp
  split at hp
  ·simp at hp
  ·unfold Gn.wares at hp
   rw [List.getElem?_map] at hp
   simp only [Option.map_eq_some_iff] at hp
   obtain ⟨j,hj,rfl⟩:=hp
   by_cases hb:i - (Gn.lie d 4 0 (Gn.those (fun i=>c i == 1) 384)).length<3
   ·rw [List.getElem?_range hb] at hj
    have hj':=Option.some.inj hj
    exact ⟨j,hj'.symm,by rw [←hj'];exact hb,rfl⟩
   ·rw [List.getElem?_eq_none (by simp;omega)] at hj
    cases hj
 refine ⟨fun i p hp=>?_,fun i j p q hij hp hq he=>?_⟩
 ·by_cases hi:i<Gn.lying d c
  ·obtain ⟨K,cl,rfl,hcl,hc1,k1,k4⟩:=Gn.items_lie hF hi hp
   refine ⟨⟨k1,k4,.inl ⟨rfl,(Gr.inB_iff _ _).2 (by show 0≤(cl:Int) % 24∧(cl:Int) % 24<24∧0≤(cl:Int) / 24∧(cl:Int) / 24<16;omega),?_⟩⟩,.inl rfl⟩
   show Gr.walkB (Gr.at 384 c ((cl:Int) % 24) ((cl:Int) / 24))=true
   rw [Gr.at_in (k:=cl) ((Gr.inB_iff _ _).2 (by omega)) (by omega),hc1]
   rfl
  ·obtain ⟨j,_,hj3,rfl⟩:=hw i p (by omega) hp
   have hd:=hF (50+(j:Int)) 1 3 (by omega)
   refine ⟨⟨?_,?_,.inr (.inr (.inr ⟨rfl,?_,?_,rfl,?_⟩))⟩,.inr rfl⟩
   ·show 1≤1+d (50+(j:Int)) 1 3;omega
   ·show 1+d (50+(j:Int)) 1 3≤4;omega
   ·show 0≤(j:Int);omega
   ·show (j:Int)<3;omega
   ·show ¬1+d (50+(j:Int)) 1 3=4;omega
 ·by_cases hj:j<Gn.lying d c
  ·exact Gn.items_apart hF hij hj hp hq he.2
  ·obtain ⟨b,hb,_,rfl⟩:=hw j q (by omega) hq
   by_cases hi:i<Gn.lying d c
   ·obtain ⟨K,cl,rfl,_⟩:=Gn.items_lie hF hi hp
    exact absurd he.1 (by show ¬(1:Int)=4;omega)
   ·obtain ⟨a,ha,_,rfl⟩:=hw i p (by omega) hp
    have h2:(a:Int)=(b:Int):=he.2.1
    omega

def Cr.kept (I:Nat→Nat→Int):Nat→Nat→Int:=fun i=>if I i 1=1∨I i 1=4 then fun _=>0 else I i

theorem Cr.kept_ok {c c':Nat→Int} {I:Nat→Nat→Int} (h:Gd.Ok c 40 I):Gd.Ok c' 40 (Cr.kept I)∧∀k,k<40→Cr.kept I k 1≠1∧Cr.kept I k 1≠4:=by
 have e:∀i,(I i 1=1∨I i 1=4)∧Cr.kept I i=(fun _=>0)∨¬(I i 1=1∨I i 1=4)∧Cr.kept I i=I i:=fun i=>by
  unfold Cr.kept
  by_cases hc:I i 1=1∨I i 1=4
  ·rw [if_pos hc];exact .inl ⟨hc,rfl⟩
  ·rw [if_neg hc];exact .inr ⟨hc,rfl⟩
 refine ⟨⟨fun i hi=>?_,fun i k hi hk hik h0 hs=>?_⟩,fun k hk=>?_⟩
 ·rcases e i with ⟨_,hz⟩ | ⟨hn,hz⟩
  ·rw [hz];exact .inl ⟨rfl,rfl,rfl,rfl⟩
  ·rw [hz]
   rcases h.each i hi with hzero | ⟨h1,h4,hp⟩
   ·exact .inl hzero
   ·refine .inr ⟨h1,h4,?_⟩
    rcases hp with ⟨hw,_⟩ | hp | hp | ⟨hw,_⟩
    ·exact absurd (.inl hw) hn
    ·exact .inr (.inl hp)
    ·exact .inr (.inr (.inl hp))
    ·exact absurd (.inr hw) hn
 ·rcases e i with ⟨_,hz⟩ | ⟨hn,hz⟩
  ·rw [hz] at h0;exact h0 rfl
  ·rw [hz] at h0 hs
   rcases e k with ⟨_,hzk⟩ | ⟨hnk,hzk⟩
   ·rw [hzk] at hs
    exact h0 hs.1.symm
   ·rw [hzk] at hs
    exact h.one i k hi hk hik h0 hs
 ·rcases e k with ⟨_,hz⟩ | ⟨hn,hz⟩
  ·rw [hz];exact ⟨by show ¬(0:Int)=1;omega,by show ¬(0:Int)=4;omega⟩
  ·rw [hz];exact ⟨fun h=>hn (.inl h),fun h=>hn (.inr h)⟩

theorem Cr.Lev.lay {seed f:Int} {c:Nat→Int} {es:List (Int × Nat)} {is:List Gn.Itm} (h:Cr.Lev seed f c es is) {I:Nat→Nat→Int} (hI:Gd.Ok c 40 I) (hk:∀k,k<40→I k 1≠1∧I k 1≠4):Gd.Ok c 40 (Cr.stockI I is):=by
 obtain ⟨h1,h2⟩:=h.items
 have hat:∀i,i<is.length→∃p,is[i]?=some p:=fun i hi=>⟨is[i],List.getElem?_eq_getElem hi⟩
 refine (Cr.ok_lay is.length hI (fun i hi=>?_) (fun i k hi hk40 _ hs=>?_) (fun i j hij hj hs=>?_)).1
 ·obtain ⟨p,hp⟩:=hat i hi
  obtain ⟨e0,e1,e2,e3⟩:=Cr.item_at hp
  rw [e0,e1,e2,e3]
  exact (h1 i p hp).1
 ·obtain ⟨p,hp⟩:=hat i hi
  obtain ⟨e0,e1,e2,e3⟩:=Cr.item_at hp
  rw [e0,e1,e2,e3] at hs
  have hs1:I k 1=p.2.1:=hs.1
  have:=hk k hk40
  rcases (h1 i p hp).2 with h | h <;> omega
 ·obtain ⟨p,hp⟩:=hat i (by omega)
  obtain ⟨q,hq⟩:=hat j hj
  obtain ⟨e0,e1,e2,e3⟩:=Cr.item_at hp
  obtain ⟨f0,f1,f2,f3⟩:=Cr.item_at hq
  rw [e0,e1,e2,e3,f0,f1,f2,f3] at hs
  exact h2 i j p q hij hp hq hs


open Go.RowKit

theorem Cr.nz_last (c:Nat→Int):∀n k:Nat,k+1≤Gn.nzs c n→∃q,q<n∧c q≠0∧k≤Gn.nzs c q
 | 0,k,h=>by unfold Gn.nzs at h;omega
 | n+1,k,h=>by
  by_cases e:c n=0
  ·have h':k+1≤Gn.nzs c n:=by
    unfold Gn.nzs at h
    simp [e] at h
    omega
   obtain ⟨q,hq,h1,h2⟩:=Cr.nz_last c n k h'
   exact ⟨q,by omega,h1,h2⟩
  ·refine ⟨n,by omega,e,?_⟩
   unfold Gn.nzs at h
   simp [e] at h
   omega

def Cr.Four (c:Nat→Int):Prop:=∃q0 q1 q2 q3:Nat,q0<q1∧q1<q2∧q2<q3∧q3<384∧c q0≠0∧c q1≠0∧c q2≠0∧c q3≠0

theorem Cr.Lev.four {seed f:Int} {c:Nat→Int} {es:List (Int × Nat)} {is:List Gn.Itm} (h:Cr.Lev seed f c es is):Cr.Four c:=by
 obtain ⟨d,F,_,hF,hL,_⟩:=h
 obtain ⟨far,hfa⟩:=hL.facts hF
 have h6:=hfa.six hF
 obtain ⟨q3,h3,c3,n3⟩:=Cr.nz_last c 384 3 (by omega)
 obtain ⟨q2,h2,c2,n2⟩:=Cr.nz_last c q3 2 (by omega)
 obtain ⟨q1,h1,c1,n1⟩:=Cr.nz_last c q2 1 (by omega)
 obtain ⟨q0,h0,c0,_⟩:=Cr.nz_last c q1 0 (by omega)
 exact ⟨q0,q1,q2,q3,h0,h1,h2,h3,c0,c1,c2,c3⟩

theorem Cr.best_pos {F:Nat→Int} {st:Nat→Bool} {q:Nat} (h0:0≤F q) (hs:st q=false):∀n,q<n→0≤Nv.best F st n
 | 0,h=>by omega
 | n+1,h=>by
  by_cases e:q=n
  ·unfold Nv.best
   split
   ·omega
   ·rename_i hn
    rw [←e] at hn ⊢
    rcases Nv.best_cases F st q with hb | ⟨p,_,hb⟩
    ·exact absurd ⟨h0,hs,.inl (by omega)⟩ hn
    ·omega
  ·have:=Cr.best_pos h0 hs n (by omega)
   unfold Nv.best
   split <;> omega

theorem Cr.spot_some {c:Nat→Int} {E:Nat→Nat→Int} {v:Int} (hF:Nv.Floor c) {q:Nat} (hq:q<384) (hc:c q≠0) (hst:Nv.st E 32 q=false) (h:Nv.IsSpot c E 32 (Gr.find 384 c 3 % 24) (Gr.find 384 c 3 / 24) v):0≤v:=by
 obtain ⟨u,hu,hfu,hcu,_⟩:=Cr.up_stair hF
 obtain ⟨F,hfld,rfl⟩:=h
 rw [hfu,Md.num_cell hu] at hfld
 exact Cr.best_pos (Nv.Floor.all hF hu (by rw [hcu];omega) hfld q hq hc) hst 384 hq

theorem Cr.Sane.put {c:Nat→Int} {E I:Nat→Nat→Int} (h:Cr.Sane c E I) {r q:Nat} {e:Nat→Int} (hq:q<384) (hr:Ft.Room c E q) (hrow:Ft.Row e) (h0:e 0=1) (hx:e 3=(q:Int) % 24) (hy:e 4=(q:Int) / 24) (hst:e 6=En.stats 1 6∧e 7=En.stats 1 7∧e 8=En.stats 1 8) (s0:0≤e 2) (s4:e 2<4) (hno:∀j,j<32→E j 0=1→E j 2≠e 2):Cr.Sane c (En.put E r e) I:=by
 obtain ⟨m1,m2,m3,m4,m5⟩:=Ft.cell_num hq
 have hn:=Ft.room_none hr.2
 refine ⟨h.fit.put hrow,⟨h.set.born.put (by rw [h0];exact hst),⟨fun k hk k0=>?_,fun i j hi hj i0 j0 ex ey=>?_⟩⟩,⟨fun j hj j1=>?_,fun i j hi hj i1 j1 hij=>?_,fun j hj j0 j1=>?_⟩⟩
 ·by_cases x:k=r
  ·rw [x,En.put_same,hx,hy,m5]
   exact ⟨m1,m2,m3,m4,hr.1⟩
  ·rw [En.put_other x] at k0 ⊢;exact h.set.stands.on k hk k0
 ·by_cases xi:i=r
  ·by_cases xj:j=r
   ·omega
   ·rw [xi,En.put_same,En.put_other xj,hx] at ex
    rw [xi,En.put_same,En.put_other xj,hy] at ey
    rw [En.put_other xj] at j0
    exact absurd ⟨ex.symm,ey.symm⟩ (hn j hj j0)
  ·by_cases xj:j=r
   ·rw [xj,En.put_same,En.put_other xi,hx] at ex
    rw [xj,En.put_same,En.put_other xi,hy] at ey
    rw [En.put_other xi] at i0
    exact absurd ⟨ex,ey⟩ (hn i hi i0)
   ·rw [En.put_other xi] at i0 ex ey
    rw [En.put_other xj] at j0 ex ey
    exact h.set.stands.apart i j hi hj i0 j0 ex ey
 ·by_cases x:j=r
  ·rw [x,En.put_same];exact ⟨s0,s4⟩
  ·rw [En.put_other x] at j1 ⊢;exact h.seats.seat j hj j1
 ·by_cases xi:i=r
  ·by_cases xj:j=r
   ·omega
   ·rw [xi,En.put_same,En.put_other xj] at hij
    rw [En.put_other xj] at j1
    exact absurd hij.symm (hno j hj j1)
  ·by_cases xj:j=r
   ·rw [xj,En.put_same,En.put_other xi] at hij
    rw [En.put_other xi] at i1
    exact absurd hij (hno i hi i1)
   ·rw [En.put_other xi] at i1 hij
    rw [En.put_other xj] at j1 hij
    exact h.seats.one i j hi hj i1 j1 hij
 ·by_cases x:j=r
  ·rw [x,En.put_same] at j1;exact absurd h0 j1
  ·rw [En.put_other x] at j0 j1 ⊢;exact h.seats.none j hj j0 j1

def Cr.bare (E:Nat→Nat→Int):Nat→Nat→Int:=fun k=>En.hole (E k 1)

theorem Cr.bare_sane {c:Nat→Int} {E I:Nat→Nat→Int} (hc:∀i,0≤c i∧c i≤255) (hI:Gd.Ok c 40 I) (hG:En.Gens 32 E):Cr.Sane c (Cr.bare E) I:=by
 have z:∀k,Cr.bare E k 0=0:=fun _=>rfl
 refine ⟨⟨hc,hI,fun k hk=>Ft.row_hole (hG k hk).1 (hG k hk).2⟩,⟨fun k _ k0=>absurd (z k) k0,⟨fun k _ k0=>absurd (z k) k0,fun j k _ _ j0=>absurd (z j) j0⟩⟩,⟨fun k _ k1=>?_,fun j k _ _ j1=>?_,fun k _ k0=>absurd (z k) k0⟩⟩
 ·rw [z] at k1;omega
 ·rw [z] at j1;omega

def Cr.Lands (c:Nat→Int) (old:Nat→Nat→Int) (t:Int) (E F:Nat→Nat→Int):Prop :=
 if Gd.hero old t<0 then F=E
 else ∃v,Nv.IsSpot c E 32 (Gr.find 384 c 3 % 24) (Gr.find 384 c 3 / 24) v∧F=En.put E (Gd.hero old t).toNat (if v<0 then old (Gd.hero old t).toNat else En.upd (En.upd (old (Gd.hero old t).toNat) 3 (v % 24)) 4 (v / 24))

def Cr.LandTo (c:Nat→Int) (old:Nat→Nat→Int):Nat→(Nat→Nat→Int)→(Nat→Nat→Int)→Prop
 | 0,E,F=>F=E
 | t+1,E,F=>∃G,Cr.LandTo c old t E G∧Cr.Lands c old (t:Int) G F

def Cr.Landed (old E:Nat→Nat→Int) (t:Nat):Prop:=∀k,k<32→E k 0≠0→∃j:Nat,j<t∧Gd.hero old (j:Int)=(k:Int)∧E k 2=(j:Int)

theorem Cr.landed_room {c:Nat→Int} {old G:Nat→Nat→Int} {t:Nat} (h4:Cr.Four c) (ht:t+1≤4) (lG:Cr.Landed old G t):∃q,q<384∧c q≠0∧Nv.st G 32 q=false:=by
 obtain ⟨q0,q1,q2,q3,a1,a2,a3,a4,c0,c1,c2,c3⟩:=h4
 have occ:∀q,q<384→Nv.st G 32 q=true→∃(k j:Nat),k<32∧j<t∧G k 0≠0∧G k 2=(j:Int)∧G k 3=((q % 24:Nat):Int)∧G k 4=((q / 24:Nat):Int):=fun q _ hst=>by
  unfold Nv.st at hst
  simp only [decide_eq_true_eq] at hst
  rcases En.first_cases (En.atQ G ((q % 24:Nat):Int) ((q / 24:Nat):Int)) 32 with ⟨hh,_⟩ | ⟨k,hk,_,hqq,_⟩
  ·omega
  ·have hq':G k 0≠0∧G k 3=((q % 24:Nat):Int)∧G k 4=((q / 24:Nat):Int):=by simpa [En.atQ] using hqq
   obtain ⟨j,hj,_,h2⟩:=lG k hk hq'.1
   exact ⟨k,j,hk,hj,hq'.1,h2,hq'.2.1,hq'.2.2⟩
 have same:∀(k k' j:Nat),k<32→k'<32→G k 0≠0→G k' 0≠0→G k 2=(j:Int)→G k' 2=(j:Int)→k=k':=fun k k' j hk hk' k0 k0' e e'=>by
  obtain ⟨i,_,h1,h2⟩:=lG k hk k0
  obtain ⟨i',_,h1',h2'⟩:=lG k' hk' k0'
  obtain rfl:i=i':=by omega
  omega
 by_cases s0:Nv.st G 32 q0=true
 ·by_cases s1:Nv.st G 32 q1=true
  ·by_cases s2:Nv.st G 32 q2=true
   ·by_cases s3:Nv.st G 32 q3=true
    ·exfalso
     obtain ⟨k0,j0,b0,d0,e0,f0,x0,y0⟩:=occ q0 (by omega) s0
     obtain ⟨k1,j1,b1,d1,e1,f1,x1,y1⟩:=occ q1 (by omega) s1
     obtain ⟨k2,j2,b2,d2,e2,f2,x2,y2⟩:=occ q2 (by omega) s2
     obtain ⟨k3,j3,b3,d3,e3,f3,x3,y3⟩:=occ q3 (by omega) s3
     have ne:∀(k k' j j' q q':Nat),q<q'→k<32→k'<32→G k 0≠0→G k' 0≠0→G k 2=(j:Int)→G k' 2=(j':Int)→G k 3=((q % 24:Nat):Int)→G k 4=((q / 24:Nat):Int)→G k' 3=((q' % 24:Nat):Int)→G k' 4=((q' / 24:Nat):Int)→j≠j':=fun k k' j j' q q' hqq hk hk' g0 g0' g2 g2' g3 g4 g3' g4' hjj=>by
      subst hjj
      have:=same k k' j hk hk' g0 g0' g2 g2'
      subst this
      rw [g3] at g3'
      rw [g4] at g4'
      omega
     have n01:=ne k0 k1 j0 j1 q0 q1 a1 b0 b1 e0 e1 f0 f1 x0 y0 x1 y1
     have n02:=ne k0 k2 j0 j2 q0 q2 (by omega) b0 b2 e0 e2 f0 f2 x0 y0 x2 y2
     have n03:=ne k0 k3 j0 j3 q0 q3 (by omega) b0 b3 e0 e3 f0 f3 x0 y0 x3 y3
     have n12:=ne k1 k2 j1 j2 q1 q2 a2 b1 b2 e1 e2 f1 f2 x1 y1 x2 y2
     have n13:=ne k1 k3 j1 j3 q1 q3 (by omega) b1 b3 e1 e3 f1 f3 x1 y1 x3 y3
     have n23:=ne k2 k3 j2 j3 q2 q3 a3 b2 b3 e2 e3 f2 f3 x2 y2 x3 y3
     omega
    ·exact ⟨q3,a4,c3,by simpa using s3⟩
   ·exact ⟨q2,by omega,c2,by simpa using s2⟩
  ·exact ⟨q1,by omega,c1,by simpa using s1⟩
 ·exact ⟨q0,by omega,c0,by simpa using s0⟩

theorem Cr.landing {c c0:Nat→Int} {old I I0:Nat→Nat→Int} (ho:Cr.Sane c0 old I0) (hF:Nv.Floor c) (h4:Cr.Four c):∀{t:Nat} {E F:Nat→Nat→Int},t≤4→Cr.Sane c E I→Cr.Landed old E 0→Cr.LandTo c old t E F→Cr.Sane c F I∧Cr.Landed old F t
 | 0,_,_,_,hs,hl,h=>by rw [h];exact ⟨hs,hl⟩
 | t+1,E,F,ht,hs,hl,h=>by
  obtain ⟨G,hG,hL⟩:=h
  obtain ⟨sG,lG⟩:=Cr.landing ho hF h4 (by omega) hs hl hG
  unfold Cr.Lands at hL
  split at hL
  ·rw [hL]
   exact ⟨sG,fun k hk k0=>by
    obtain ⟨j,hj,h1,h2⟩:=lG k hk k0
    exact ⟨j,by omega,h1,h2⟩⟩
  ·rename_i hn
   obtain ⟨v,hv,rfl⟩:=hL
   obtain ⟨r,hr,he,r1,r2⟩:=Md.hero_row hn
   have hroom:=Cr.landed_room h4 ht lG
   obtain ⟨q,hq,hcq,hst⟩:=hroom
   have hv0:=Cr.spot_some hF hq hcq hst hv
   obtain ⟨p,rfl⟩:∃p:Nat,v=(p:Int):=⟨v.toNat,by omega⟩
   obtain ⟨hp,hrm⟩:=Cr.spot_room hv
   rw [he,Int.toNat_natCast,if_neg (by omega)]
   have hrow0:=ho.fit.rows r hr
   have ht0:=hrow0.taken (by omega)
   have eo:∀j,j≠3→j≠4→En.upd (En.upd (old r) 3 ((p:Int) % 24)) 4 ((p:Int) / 24) j=old r j:=fun j h3 h4=>by rw [En.upd_other h4,En.upd_other h3]
   have hrow:Ft.Row (En.upd (En.upd (old r) 3 ((p:Int) % 24)) 4 ((p:Int) / 24)):=by
    refine ⟨by rw [eo 1 (by omega) (by omega)];exact hrow0.1,by rw [eo 1 (by omega) (by omega)];exact hrow0.2.1,.inr ?_⟩
    rw [eo 0 (by omega) (by omega),eo 5 (by omega) (by omega),eo 6 (by omega) (by omega),eo 7 (by omega) (by omega),eo 8 (by omega) (by omega),eo 9 (by omega) (by omega),eo 10 (by omega) (by omega)]
    exact ht0
   have hb:=ho.set.born r hr (by omega)
   rw [r1] at hb
   refine ⟨sG.put hp hrm hrow (by rw [eo 0 (by omega) (by omega)];exact r1) (by rw [En.upd_other (by omega),En.upd_same]) (by rw [En.upd_same]) (by rw [eo 6 (by omega) (by omega),eo 7 (by omega) (by omega),eo 8 (by omega) (by omega)];exact hb) (by rw [eo 2 (by omega) (by omega),r2];omega) (by rw [eo 2 (by omega) (by omega),r2];omega) (fun j hj j1=>?_),fun k hk k0=>?_⟩
   ·rw [eo 2 (by omega) (by omega),r2]
    obtain ⟨i,hi,_,h2⟩:=lG j hj (by omega)
    omega
   ·by_cases x:k=r
    ·refine ⟨t,by omega,by rw [x];exact he,?_⟩
     rw [x,En.put_same,eo 2 (by omega) (by omega),r2]
    ·rw [En.put_other x] at k0 ⊢
     obtain ⟨j,hj,h1,h2⟩:=lG k hk k0
     exact ⟨j,by omega,h1,h2⟩

end Go.Proofs.YtepppmepilffcaaGreat
