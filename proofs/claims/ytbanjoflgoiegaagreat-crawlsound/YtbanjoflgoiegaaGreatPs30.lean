import Derived.Test.YtbanjoflgoiegaaGreatPs28
import Derived.Test.YtbanjoflgoiegaaGreatPs29
namespace Go.Proofs.YtbanjoflgoiegaaGreat
open Go.RowKit

theorem Cr.one_row {kd st:Int} {q:Nat} {gn:Int} (h1:1≤kd) (h4:kd≤4) (g0:0≤gn) (g9:gn≤255):Ft.Row (En.gen (Cr.one kd st q) gn):=by
 have e:∀j,j≠1→j≠2→j≠3→j≠4→En.gen (Cr.one kd st q) gn j=En.stats kd j:=fun j j1 j2 j3 j4=>by
  show (if j=1 then gn else Cr.one kd st q j)=_
  rw [if_neg j1]
  unfold Cr.one
  rw [En.upd_other j4,En.upd_other j3,En.upd_other j2]
 refine ⟨g0,g9,.inr ?_⟩
 rw [e 0 (by omega) (by omega) (by omega) (by omega),e 5 (by omega) (by omega) (by omega) (by omega),e 6 (by omega) (by omega) (by omega) (by omega),e 7 (by omega) (by omega) (by omega) (by omega),e 8 (by omega) (by omega) (by omega) (by omega),e 9 (by omega) (by omega) (by omega) (by omega),e 10 (by omega) (by omega) (by omega) (by omega)]
 rcases (show kd=1∨kd=2∨kd=3∨kd=4 by omega) with rfl | rfl | rfl | rfl <;> decide

theorem Cr.one_at (kd st:Int) (q:Nat):(1≤kd→kd≤4→Cr.one kd st q 0=kd)∧Cr.one kd st q 2=st∧Cr.one kd st q 3=(q:Int) % 24∧Cr.one kd st q 4=(q:Int) / 24∧Cr.one kd st q 6=En.stats kd 6∧Cr.one kd st q 7=En.stats kd 7∧Cr.one kd st q 8=En.stats kd 8:=by
 unfold Cr.one
 refine ⟨fun h1 h4=>?_,?_,?_,?_,?_,?_,?_⟩
 ·rw [En.upd_other (by omega),En.upd_other (by omega),En.upd_other (by omega)]
  rcases (show kd=1∨kd=2∨kd=3∨kd=4 by omega) with rfl | rfl | rfl | rfl <;> decide
 ·rw [En.upd_other (by omega),En.upd_other (by omega),En.upd_same]
 ·rw [En.upd_other (by omega),En.upd_same]
 ·rw [En.upd_same]
 ·rw [En.upd_other (by omega),En.upd_other (by omega),En.upd_other (by omega)]
 ·rw [En.upd_other (by omega),En.upd_other (by omega),En.upd_other (by omega)]
 ·rw [En.upd_other (by omega),En.upd_other (by omega),En.upd_other (by omega)]

theorem Cr.Sane.join {c:Nat→Int} {E I:Nat→Nat→Int} (h:Cr.Sane c E I) {kd st:Int} {q:Nat} (h1:1≤kd) (h4:kd≤4) (hq:q<384) (hr:Ft.Room c E q) (hs:(kd=1∧0≤st∧st<4∧Gd.hero E st<0)∨(kd≠1∧st=0)):Cr.Sane c (Cr.join E (Cr.one kd st q)) I:=by
 obtain ⟨o0,o2,o3,o4,o6,o7,o8⟩:=Cr.one_at kd st q
 rcases Cr.join_cases E (Cr.one kd st q) with he | ⟨f,hf,hf0,_,he⟩
 ·rw [he];exact h
 rw [he]
 have hg:0≤(E f 1+1) % 256∧(E f 1+1) % 256≤255:=by omega
 generalize (E f 1+1) % 256=gn at hg
 have k0:En.gen (Cr.one kd st q) gn 0=kd:=o0 h1 h4
 have k2:En.gen (Cr.one kd st q) gn 2=st:=o2
 have hset:=h.set.put (e:=Cr.one kd st q) (gn:=gn) hf0 hq hr o3 o4 (by rw [o0 h1 h4];exact ⟨o6,o7,o8⟩)
 have nohero:∀j,j<32→E j 0=1→kd=1→E j 2≠st:=fun j hj j1 hk e=>by
  rcases hs with ⟨_,_,_,hno⟩ | ⟨hn,_⟩
  ·unfold Gd.hero at hno
   rcases En.first_cases (En.heroQ E st) 32 with ⟨_,hn⟩ | ⟨i,_,hi,_⟩
   ·have:=hn j hj
    simp [En.heroQ,j1,e] at this
   ·omega
  ·exact hn hk
 refine ⟨h.fit.put (Cr.one_row h1 h4 hg.1 hg.2),hset,⟨fun j hj j1=>?_,fun i j hi hj i1 j1 hij=>?_,fun j hj j0 j1=>?_⟩⟩
 ·by_cases x:j=f
  ·rw [x,En.put_same,k0] at j1
   rw [x,En.put_same,k2]
   rcases hs with ⟨_,a,b,_⟩ | ⟨hn,_⟩
   ·exact ⟨a,b⟩
   ·exact absurd j1 hn
  ·rw [En.put_other x] at j1 ⊢;exact h.seats.seat j hj j1
 ·by_cases xi:i=f
  ·by_cases xj:j=f
   ·omega
   ·rw [xi,En.put_same,k0] at i1
    rw [xi,En.put_same,k2,En.put_other xj] at hij
    rw [En.put_other xj] at j1
    exact absurd hij.symm (nohero j hj j1 i1)
  ·by_cases xj:j=f
   ·rw [xj,En.put_same,k0] at j1
    rw [xj,En.put_same,k2,En.put_other xi] at hij
    rw [En.put_other xi] at i1
    exact absurd hij (nohero i hi i1 j1)
   ·rw [En.put_other xi] at i1 hij
    rw [En.put_other xj] at j1 hij
    exact h.seats.one i j hi hj i1 j1 hij
 ·by_cases x:j=f
  ·rw [x,En.put_same,k0] at j1
   rw [x,En.put_same,k2]
   rcases hs with ⟨hk,_⟩ | ⟨_,hst⟩
   ·exact absurd hk j1
   ·exact hst
  ·rw [En.put_other x] at j0 j1 ⊢;exact h.seats.none j hj j0 j1

theorem Cr.spot_room {c:Nat→Int} {E:Nat→Nat→Int} {x y:Int} {q:Nat} (h:Nv.IsSpot c E 32 x y (q:Int)):q<384∧Ft.Room c E q:=by
 obtain ⟨F,hF,hq⟩:=h
 have key:∀n,Nv.best F (Nv.st E 32) n=-1∨∃p:Nat,p<n∧Nv.best F (Nv.st E 32) n=(p:Int)∧0≤F p∧Nv.st E 32 p=false:=by
  intro n
  induction n with
  | zero=>exact .inl rfl
  | succ n ih =>
   unfold Nv.best
   split
   ·rename_i hc
    exact .inr ⟨n,by omega,rfl,hc.1,hc.2.1⟩
   ·rcases ih with h0 | ⟨p,hp,he,h1,h2⟩
    ·exact .inl h0
    ·exact .inr ⟨p,by omega,he,h1,h2⟩
 rcases key 384 with h0 | ⟨p,hp,he,h1,h2⟩
 ·omega
 ·obtain rfl:q=p:=by omega
  refine ⟨hp,Nv.reach_walk hF hp h1,?_⟩
  unfold Nv.st at h2
  simp only [decide_eq_false_iff_not] at h2
  have e1:((q % 24:Nat):Int)=(q:Int) % 24:=by omega
  have e2:((q / 24:Nat):Int)=(q:Int) / 24:=by omega
  rw [e1,e2] at h2
  omega

def Cr.Comes (c:Nat→Int) (t:Int) (sp:Bool) (E F:Nat→Nat→Int):Prop :=
 if sp=true∧Gd.hero E t<0 then ∃v,Nv.IsSpot c E 32 (Gr.find 384 c 3 % 24) (Gr.find 384 c 3 / 24) v∧((v<0∧F=E)∨∃q:Nat,v=(q:Int)∧F=Cr.join E (Cr.one 1 t q)) else F=E

theorem Cr.Sane.comes {c:Nat→Int} {t:Int} {sp:Bool} {E F I:Nat→Nat→Int} (h:Cr.Sane c E I) (t0:0≤t) (t4:t<4) (hc:Cr.Comes c t sp E F):Cr.Sane c F I:=by
 unfold Cr.Comes at hc
 split at hc
 ·rename_i hcond
  obtain ⟨v,hv,⟨_,rfl⟩ | ⟨q,rfl,rfl⟩⟩:=hc
  ·exact h
  ·obtain ⟨hq,hr⟩:=Cr.spot_room hv
   exact h.join (by omega) (by omega) hq hr (.inl ⟨rfl,t0,t4,hcond.2⟩)
 ·rw [hc];exact h

def Cr.ComesTo (c:Nat→Int) (sp:Nat→Bool):Nat→(Nat→Nat→Int)→(Nat→Nat→Int)→Prop
 | 0,E,F=>F=E
 | t+1,E,F=>∃G,Cr.ComesTo c sp t E G∧Cr.Comes c (t:Int) (sp t) G F

theorem Cr.Sane.comesTo {c:Nat→Int} {sp:Nat→Bool} {I:Nat→Nat→Int}:∀{t:Nat} {E F:Nat→Nat→Int},Cr.Sane c E I→t≤4→Cr.ComesTo c sp t E F→Cr.Sane c F I
 | 0,_,_,h,_,hc=>by rw [hc];exact h
 | t+1,_,_,h,ht,hc=>by
  obtain ⟨G,hG,hF⟩:=hc
  exact (Cr.Sane.comesTo h (by omega) hG).comes (by omega) (by omega) hF

structure Cr.M where
 g:Nat→Int
 E:Nat→Nat→Int
 I:Nat→Nat→Int
 left:Bool

def Cr.does (s c:Nat→Int) (m:Cr.M) (t:Int) (k:Nat) (v:Int):Cr.M :=
 if 1≤v∧v≤4 then ⟨m.g,(Cr.act s c m.E m.I k v false).1,(Cr.act s c m.E m.I k v false).2,m.left⟩
 else if v=9 then ⟨m.g,m.E,m.I,m.left || decide (Gr.at 384 c (m.E k 3) (m.E k 4)=4)⟩
 else ⟨Gd.nextG c m.g m.E m.I t v,Gd.nextE m.E m.I t v,Gd.nextI c m.g m.E m.I t v,m.left⟩

def Cr.Moved (s c:Nat→Int) (t how input:Int) (m n:Cr.M):Prop :=
 if Gd.hero m.E t<0∨0<m.E (Gd.hero m.E t).toNat 10∨(how≠1∧how≠2) then n=m
 else ∃v,(if how=2 then Md.IsRobot c m.E m.I t v else v=input)∧n=Cr.does s c m t (Gd.hero m.E t).toNat v

def Cr.MFit (c:Nat→Int) (m:Cr.M):Prop:=Cr.Sane c m.E m.I∧Cr.Gold m.g

theorem Cr.goldOf_bd {I:Nat→Nat→Int} {t X Y G v:Int} {shop:Bool} (h0:0≤G) (h9:G≤999):0≤Gd.goldOf I t X Y shop G v∧Gd.goldOf I t X Y shop G v≤999:=by
 unfold Gd.goldOf
 split
 ·split <;> omega
 ·split
  ·split
   ·rename_i hb
    unfold Gd.buys at hb
    simp only [Bool.and_eq_true,decide_eq_true_eq] at hb
    omega
   ·omega
  ·omega

theorem Cr.MFit.next {c:Nat→Int} {m:Cr.M} (h:Cr.MFit c m) (t v:Int):Cr.Sane c (Gd.nextE m.E m.I t v) (Gd.nextI c m.g m.E m.I t v)∧Cr.Gold (Gd.nextG c m.g m.E m.I t v):=by
 obtain ⟨hs,hg⟩:=h
 by_cases hc:0≤t∧t<4∧0≤Gd.hero m.E t
 ·obtain ⟨k,hk,he,hk2,hk1⟩:=Gd.hero_pos hc.2.2
  obtain ⟨a1,a2,a3,a4,a5⟩:=hs.set.stands.on k hk (by omega)
  have hin:Gr.inB (m.E k 3) (m.E k 4)=true:=(Gr.inB_iff _ _).2 ⟨a1,a2,a3,a4⟩
  have hw:=Md.at_stand hs.set.stands hk (by omega)
  have hI:Gd.nextI c m.g m.E m.I t v=Gd.act m.I 40 t (m.E k 3) (m.E k 4) (decide (Gr.at 384 c (m.E k 3) (m.E k 4)=5)) (m.g t.toNat) v:=by
   unfold Gd.nextI
   rw [if_pos hc,he,Int.toNat_natCast]
  have hok:Gd.Ok c 40 (Gd.nextI c m.g m.E m.I t v):=by
   rw [hI]
   exact hs.fit.ok.act hc.1 hc.2.1 hin hw _ _ _
  have hfit:Ft.Fit c (Gd.nextE m.E m.I t v) (Gd.nextI c m.g m.E m.I t v):=by
   refine ⟨hs.fit.cells,hok,fun i hi=>?_⟩
   unfold Gd.nextE
   rw [if_pos hc,he,Int.toNat_natCast]
   unfold Gd.entsOf
   split
   ·have ht:=(hs.fit.rows k hk).taken (by omega)
    by_cases x:i=k
    ·rw [x]
     have e:∀j,j≠5→j≠9→Gd.heal m.E k k j=m.E k j:=fun j h5 h9=>by
      unfold Gd.heal
      rw [Md.set_else _ _ _ _ (by omega),Md.set_else _ _ _ _ (by omega)]
     have e5:Gd.heal m.E k k 5=min (m.E k 5+6) (m.E k 6):=by
      unfold Gd.heal
      rw [Md.set_else _ _ _ _ (by omega),Md.set_at]
     have e9:Gd.heal m.E k k 9=0:=by
      unfold Gd.heal
      rw [Md.set_at]
     refine ⟨by rw [e 1 (by omega) (by omega)];exact (hs.fit.rows k hk).1,by rw [e 1 (by omega) (by omega)];exact (hs.fit.rows k hk).2.1,.inr ?_⟩
     rw [e 0 (by omega) (by omega),e5,e 6 (by omega) (by omega),e 7 (by omega) (by omega),e 8 (by omega) (by omega),e9,e 10 (by omega) (by omega)]
     omega
    ·have:Gd.heal m.E k i=m.E i:=by
      unfold Gd.heal
      rw [Ft.set_row _ _ _ _ _ x,Ft.set_row _ _ _ _ _ x]
     rw [this]
     exact hs.fit.rows i hi
   ·exact hs.fit.rows i hi
  refine ⟨hs.less (Cr.Less.next _ _ _ _) hfit,fun i hi=>?_⟩
  unfold Gd.nextG
  rw [if_pos hc]
  unfold Gd.give
  split
  ·exact Cr.goldOf_bd (hg _ (by omega)).1 (hg _ (by omega)).2
  ·exact hg i hi
 ·unfold Gd.nextE Gd.nextI Gd.nextG
  rw [if_neg hc,if_neg hc,if_neg hc]
  exact ⟨hs,hg⟩

theorem Cr.MFit.does {s c:Nat→Int} {m:Cr.M} (h:Cr.MFit c m) (t:Int) {k:Nat} (hk:k<32) (k0:m.E k 0≠0) (v:Int):Cr.MFit c (Cr.does s c m t k v):=by
 unfold Cr.does
 split
 ·exact ⟨h.1.act hk k0 v false,h.2⟩
 ·split
  ·exact ⟨h.1,h.2⟩
  ·exact h.next t v

theorem Cr.MFit.moved {s c:Nat→Int} {t how input:Int} {m n:Cr.M} (h:Cr.MFit c m) (hm:Cr.Moved s c t how input m n):Cr.MFit c n:=by
 unfold Cr.Moved at hm
 split at hm
 ·rw [hm];exact h
 ·rename_i hc
  obtain ⟨v,_,rfl⟩:=hm
  obtain ⟨k,hk,he,k1,_⟩:=Md.hero_row (E:=m.E) (seat:=t) (by omega)
  rw [he,Int.toNat_natCast]
  exact h.does t hk (by omega) v

def Cr.MovedTo (s c how input:Nat→Int):Nat→Cr.M→Cr.M→Prop
 | 0,m,n=>n=m
 | t+1,m,n=>∃o,Cr.MovedTo s c how input t m o∧Cr.Moved s c (t:Int) (how t) (input t) o n

theorem Cr.MFit.movedTo {s c how input:Nat→Int}:∀{t:Nat} {m n:Cr.M},Cr.MFit c m→Cr.MovedTo s c how input t m n→Cr.MFit c n
 | 0,_,_,h,hm=>by rw [hm];exact h
 | t+1,_,_,h,hm=>by
  obtain ⟨o,ho,hn⟩:=hm
  exact (Cr.MFit.movedTo h ho).moved hn

def Cr.Prowls (s c:Nat→Int) (i:Nat) (E I F J:Nat→Nat→Int):Prop :=
 if E i 0=0∨E i 0=1∨0<E i 10 then F=E∧J=I
 else ∃v,Md.IsMonster s c E (i:Int) v∧F=(Cr.act s c E I i v true).1∧J=(Cr.act s c E I i v true).2

theorem Cr.Sane.prowls {s c:Nat→Int} {i:Nat} {E I F J:Nat→Nat→Int} (h:Cr.Sane c E I) (hi:i<32) (hp:Cr.Prowls s c i E I F J):Cr.Sane c F J:=by
 unfold Cr.Prowls at hp
 split at hp
 ·rw [hp.1,hp.2];exact h
 ·rename_i hc
  obtain ⟨v,_,rfl,rfl⟩:=hp
  exact h.act hi (by omega) v true

def Cr.ProwlTo (s c:Nat→Int):Nat→(Nat→Nat→Int)→(Nat→Nat→Int)→(Nat→Nat→Int)→(Nat→Nat→Int)→Prop
 | 0,E,I,F,J=>F=E∧J=I
 | i+1,E,I,F,J=>∃G K,Cr.ProwlTo s c i E I G K∧Cr.Prowls s c i G K F J

theorem Cr.Sane.prowlTo {s c:Nat→Int}:∀{i:Nat} {E I F J:Nat→Nat→Int},Cr.Sane c E I→i≤32→Cr.ProwlTo s c i E I F J→Cr.Sane c F J
 | 0,_,_,_,_,h,_,hp=>by rw [hp.1,hp.2];exact h
 | i+1,_,_,_,_,h,hi,hp=>by
  obtain ⟨G,K,hG,hF⟩:=hp
  exact (Cr.Sane.prowlTo h (by omega) hG).prowls (by omega) hF

def Cr.manned (E:Nat→Nat→Int):Bool:=decide (∃t:Nat,t<4∧0≤Gd.hero E (t:Int))

def Cr.rats (s c:Nat→Int) (E:Nat→Nat→Int):Nat→Nat→Int :=
 if s 1 % 16=0∧En.first (En.atQ E (Gr.find 384 c 3 % 24) (Gr.find 384 c 3 / 24)) 32<0 then Cr.join E (Cr.one 2 0 (Gr.find 384 c 3).toNat) else E

theorem Cr.up_stair {c:Nat→Int} (hF:Nv.Floor c):∃u:Nat,u<384∧Gr.find 384 c 3=(u:Int)∧c u=3∧∀i,c i=3→i=u:=by
 obtain ⟨u,v,hu,_,h3,_⟩:=hF.stairs
 refine ⟨u,hu,?_,(h3 u).2 rfl,fun i hi=>(h3 i).1 hi⟩
 have key:∀n k:Nat,k≤u→u<k+n→Gr.findFrom c 3 n k=(u:Int):=by
  intro n
  induction n with
  | zero=>intro k h1 h2;omega
  | succ n ih =>
   intro k h1 h2
   unfold Gr.findFrom
   by_cases e:c k=3
   ·rw [if_pos e,(h3 k).1 e]
   ·rw [if_neg e]
    refine ih (k+1) ?_ (by omega)
    by_cases ek:k=u
    ·exact absurd ((h3 k).2 ek) e
    ·omega
 exact key 384 0 (by omega) (by omega)

theorem Cr.Sane.rats {s c:Nat→Int} {E I:Nat→Nat→Int} (h:Cr.Sane c E I) (hF:Nv.Floor c):Cr.Sane c (Cr.rats s c E) I:=by
 unfold Cr.rats
 split
 ·rename_i hc
  obtain ⟨u,hu,hfu,hcu,_⟩:=Cr.up_stair hF
  rw [hfu] at hc
  rw [hfu,Int.toNat_natCast]
  exact h.join (by omega) (by omega) hu ⟨by rw [hcu];rfl,hc.2⟩ (.inr ⟨by omega,rfl⟩)
 ·exact h

theorem Cr.Sane.ail {c:Nat→Int} {E I:Nat→Nat→Int} (h:Cr.Sane c E I):Cr.Sane c (Ft.ailE E I 32).1 (Ft.ailE E I 32).2 :=
 h.less (Cr.Less.ail E I 32) (h.fit.ail 32 (by omega))

end Go.Proofs.YtbanjoflgoiegaaGreat
