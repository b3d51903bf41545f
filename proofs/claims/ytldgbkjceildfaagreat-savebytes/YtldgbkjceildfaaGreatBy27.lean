import Derived.Test.YtldgbkjceildfaaGreatBy23
namespace Go.Proofs.YtldgbkjceildfaaGreat
open Go.RowKit

theorem Cr.one_row {kd st:Int} {q:Nat} {gn:Int} (h1:1≤kd) (h4:kd≤4) (g0:0≤gn) (g9:gn≤255):Ft.Row (En.gen (Cr.one kd st q) gn):=by
 have e:∀j,j≠1→j≠2→j≠3→j≠4→En.gen (Cr.one kd st q) gn j=En.stats kd j:=fun j j1 j2 j3 j4=>by
  show (if j=1 then gn else Cr.one kd st q j)=_;rw [if_neg j1];unfold Cr.one;rw [En.upd_other j4,En.upd_other j3,En.upd_other j2]
 refine ⟨g0,g9,.inr ?_⟩;rw [e 0 (by omega) (by omega) (by omega) (by omega),e 5 (by omega) (by omega) (by omega) (by omega),e 6 (by omega) (by omega) (by omega) (by omega),e 7 (by omega) (by omega) (by omega) (by omega),e 8 (by omega) (by omega) (by omega) (by omega),e 9 (by omega) (by omega) (by omega) (by omega),e 10 (by omega) (by omega) (by omega) (by omega)];rcases (show kd=1∨kd=2∨kd=3∨kd=4 by omega) with rfl|rfl|rfl|rfl <;> decide

theorem Cr.one_at (kd st:Int) (q:Nat):(1≤kd→kd≤4→Cr.one kd st q 0=kd)∧Cr.one kd st q 2=st∧Cr.one kd st q 3=(q:Int) % 24∧Cr.one kd st q 4=(q:Int) / 24∧Cr.one kd st q 6=En.stats kd 6∧Cr.one kd st q 7=En.stats kd 7∧Cr.one kd st q 8=En.stats kd 8:=by
 unfold Cr.one;refine ⟨fun h1 h4=>?_,?_,?_,?_,?_,?_,?_⟩
 ·rw [En.upd_other (by omega),En.upd_other (by omega),En.upd_other (by omega)];rcases (show kd=1∨kd=2∨kd=3∨kd=4 by omega) with rfl|rfl|rfl|rfl <;> decide
 ·rw [En.upd_other (by omega),En.upd_other (by omega),En.upd_same]
 ·rw [En.upd_other (by omega),En.upd_same]
 ·rw [En.upd_same]
 ·rw [En.upd_other (by omega),En.upd_other (by omega),En.upd_other (by omega)]
 ·rw [En.upd_other (by omega),En.upd_other (by omega),En.upd_other (by omega)]
 ·rw [En.upd_other (by omega),En.upd_other (by omega),En.upd_other (by omega)]

theorem Cr.Sane.join {c:Nat→Int} {E I:Nat→Nat→Int} (h:Cr.Sane c E I) {kd st:Int} {q:Nat} (h1:1≤kd) (h4:kd≤4) (hq:q<384) (hr:Ft.Room c E q) (hs:(kd=1∧0≤st∧st<4∧Gd.hero E st<0)∨(kd≠1∧st=0)):Cr.Sane c (Cr.join E (Cr.one kd st q)) I:=by
 obtain ⟨o0,o2,o3,o4,o6,o7,o8⟩:=Cr.one_at kd st q;rcases Cr.join_cases E (Cr.one kd st q) with he|⟨f,hf,hf0,_,he⟩
 ·rw [he];exact h
 rw [he];have hg:0≤(E f 1+1) % 256∧(E f 1+1) % 256≤255:=by omega
 generalize (E f 1+1) % 256=gn at hg;have k0:En.gen (Cr.one kd st q) gn 0=kd:=o0 h1 h4;have k2:En.gen (Cr.one kd st q) gn 2=st:=o2;have hset:=h.set.put (e:=Cr.one kd st q) (gn:=gn) hf0 hq hr o3 o4 (by rw [o0 h1 h4];exact ⟨o6,o7,o8⟩);have nohero:∀j,j<32→E j 0=1→kd=1→E j 2≠st:=fun j hj j1 hk e=>by
  rcases hs with ⟨_,_,_,hno⟩|⟨hn,_⟩
  ·unfold Gd.hero at hno;rcases En.first_cases (En.heroQ E st) 32 with ⟨_,hn⟩|⟨i,_,hi,_⟩
   ·have:=hn j hj;simp [En.heroQ,j1,e] at this
   ·omega
  ·exact hn hk
 refine ⟨h.fit.put (Cr.one_row h1 h4 hg.1 hg.2),hset,⟨fun j hj j1=>?_,fun i j hi hj i1 j1 hij=>?_,fun j hj j0 j1=>?_⟩⟩
 ·by_cases x:j=f
  ·rw [x,En.put_same,k0] at j1;rw [x,En.put_same,k2];rcases hs with ⟨_,a,b,_⟩|⟨hn,_⟩
   ·exact ⟨a,b⟩
   ·exact absurd j1 hn
  ·rw [En.put_other x] at j1 ⊢;exact h.seats.seat j hj j1
 ·by_cases xi:i=f
  ·by_cases xj:j=f
   ·omega
   ·rw [xi,En.put_same,k0] at i1;rw [xi,En.put_same,k2,En.put_other xj] at hij;rw [En.put_other xj] at j1;exact absurd hij.symm (nohero j hj j1 i1)
  ·by_cases xj:j=f
   ·rw [xj,En.put_same,k0] at j1;rw [xj,En.put_same,k2,En.put_other xi] at hij;rw [En.put_other xi] at i1;exact absurd hij (nohero i hi i1 j1)
   ·rw [En.put_other xi] at i1 hij;rw [En.put_other xj] at j1 hij;exact h.seats.one i j hi hj i1 j1 hij
 ·by_cases x:j=f
  ·rw [x,En.put_same,k0] at j1;rw [x,En.put_same,k2];rcases hs with ⟨hk,_⟩|⟨_,hst⟩
   ·exact absurd hk j1
   ·exact hst
  ·rw [En.put_other x] at j0 j1 ⊢;exact h.seats.none j hj j0 j1

theorem Cr.spot_room {c:Nat→Int} {E:Nat→Nat→Int} {x y:Int} {q:Nat} (h:Nv.IsSpot c E 32 x y (q:Int)):q<384∧Ft.Room c E q:=by
 obtain ⟨F,hF,hq⟩:=h;have key:∀n,Nv.best F (Nv.st E 32) n=-1∨∃p:Nat,p<n∧Nv.best F (Nv.st E 32) n=(p:Int)∧0≤F p∧Nv.st E 32 p=false:=by
  intro n;induction n with
  | zero=>exact .inl rfl
  | succ n ih =>
   unfold Nv.best;split
   ·rename_i hc;exact .inr ⟨n,by omega,rfl,hc.1,hc.2.1⟩
   ·rcases ih with h0|⟨p,hp,he,h1,h2⟩
    ·exact .inl h0
    ·exact .inr ⟨p,by omega,he,h1,h2⟩
 rcases key 384 with h0|⟨p,hp,he,h1,h2⟩
 ·omega
 ·obtain rfl:q=p:=by omega
  refine ⟨hp,Nv.reach_walk hF hp h1,?_⟩;unfold Nv.st at h2;simp only [decide_eq_false_iff_not] at h2;have e1:((q % 24:Nat):Int)=(q:Int) % 24:=by omega
  have e2:((q / 24:Nat):Int)=(q:Int) / 24:=by omega
  rw [e1,e2] at h2;omega

def Cr.Comes (c:Nat→Int) (t:Int) (sp:Bool) (E F:Nat→Nat→Int):Prop :=
 if sp=true∧Gd.hero E t<0 then ∃v,Nv.IsSpot c E 32 (Gr.find 384 c 3 % 24) (Gr.find 384 c 3 / 24) v∧((v<0∧F=E)∨∃q:Nat,v=(q:Int)∧F=Cr.join E (Cr.one 1 t q)) else F=E

theorem Cr.Sane.comes {c:Nat→Int} {t:Int} {sp:Bool} {E F I:Nat→Nat→Int} (h:Cr.Sane c E I) (t0:0≤t) (t4:t<4) (hc:Cr.Comes c t sp E F):Cr.Sane c F I:=by
 unfold Cr.Comes at hc;split at hc
 ·rename_i hcond;obtain ⟨v,hv,⟨_,rfl⟩|⟨q,rfl,rfl⟩⟩:=hc
  ·exact h
  ·obtain ⟨hq,hr⟩:=Cr.spot_room hv;exact h.join (by omega) (by omega) hq hr (.inl ⟨rfl,t0,t4,hcond.2⟩)
 ·rw [hc];exact h

def Cr.ComesTo (c:Nat→Int) (sp:Nat→Bool):Nat→(Nat→Nat→Int)→(Nat→Nat→Int)→Prop
 | 0,E,F=>F=E
 | t+1,E,F=>∃G,Cr.ComesTo c sp t E G∧Cr.Comes c (t:Int) (sp t) G F

theorem Cr.Sane.comesTo {c:Nat→Int} {sp:Nat→Bool} {I:Nat→Nat→Int}:∀{t:Nat} {E F:Nat→Nat→Int},Cr.Sane c E I→t≤4→Cr.ComesTo c sp t E F→Cr.Sane c F I
 | 0,_,_,h,_,hc=>by rw [hc];exact h
 | t+1,_,_,h,ht,hc=>by
  obtain ⟨G,hG,hF⟩:=hc;exact (Cr.Sane.comesTo h (by omega) hG).comes (by omega) (by omega) hF

structure Cr.M where
 g:Nat→Int
 E:Nat→Nat→Int
 I:Nat→Nat→Int
 left:Bool

def Cr.does (s c:Nat→Int) (m:Cr.M) (t:Int) (k:Nat) (v:Int):Cr.M :=
 if 1≤v∧v≤4 then ⟨m.g,(Cr.act s c m.E m.I k v false).1,(Cr.act s c m.E m.I k v false).2,m.left⟩
 else if v=9 then ⟨m.g,m.E,m.I,m.left || decide (Gr.at 384 c (m.E k 3) (m.E k 4)=4)⟩
 else ⟨Gd.nextG c m.g m.E m.I t v,Gd.nextE m.E m.I t v,Gd.nextI c m.g m.E m.I t v,m.left⟩

def Cr.Moved (s c:Nat→Int) (t how input:Int) (m n:Cr.M):Prop :=
 if Gd.hero m.E t<0∨0<m.E (Gd.hero m.E t).toNat 10∨(how≠1∧how≠2) then n=m
 else ∃v,(if how=2 then Md.IsRobot c m.E m.I t v else v=input)∧n=Cr.does s c m t (Gd.hero m.E t).toNat v

def Cr.MFit (c:Nat→Int) (m:Cr.M):Prop:=Cr.Sane c m.E m.I∧Cr.Gold m.g

theorem Cr.goldOf_bd {I:Nat→Nat→Int} {t X Y G v:Int} {shop:Bool} (h0:0≤G) (h9:G≤999):0≤Gd.goldOf I t X Y shop G v∧Gd.goldOf I t X Y shop G v≤999:=by
 unfold Gd.goldOf;split
 ·split <;> omega
 ·split
  ·split
   ·rename_i hb;unfold Gd.buys at hb;simp only [Bool.and_eq_true,decide_eq_true_eq] at hb;omega
   ·omega
  ·omega

theorem Cr.MFit.next {c:Nat→Int} {m:Cr.M} (h:Cr.MFit c m) (t v:Int):Cr.Sane c (Gd.nextE m.E m.I t v) (Gd.nextI c m.g m.E m.I t v)∧Cr.Gold (Gd.nextG c m.g m.E m.I t v):=by
 obtain ⟨hs,hg⟩:=h;by_cases hc:0≤t∧t<4∧0≤Gd.hero m.E t
 ·obtain ⟨k,hk,he,hk2,hk1⟩:=Gd.hero_pos hc.2.2;obtain ⟨a1,a2,a3,a4,a5⟩:=hs.set.stands.on k hk (by omega);have hin:Gr.inB (m.E k 3) (m.E k 4)=true:=(Gr.inB_iff _ _).2 ⟨a1,a2,a3,a4⟩;have hw:=Md.at_stand hs.set.stands hk (by omega);have hI:Gd.nextI c m.g m.E m.I t v=Gd.act m.I 40 t (m.E k 3) (m.E k 4) (decide (Gr.at 384 c (m.E k 3) (m.E k 4)=5)) (m.g t.toNat) v:=by
   unfold Gd.nextI;rw [if_pos hc,he,Int.toNat_natCast]
  have hok:Gd.Ok c 40 (Gd.nextI c m.g m.E m.I t v):=by
   rw [hI];exact hs.fit.ok.act hc.1 hc.2.1 hin hw _ _ _
  have hfit:Ft.Fit c (Gd.nextE m.E m.I t v) (Gd.nextI c m.g m.E m.I t v):=by
   refine ⟨hs.fit.cells,hok,fun i hi=>?_⟩;unfold Gd.nextE;rw [if_pos hc,he,Int.toNat_natCast];unfold Gd.entsOf;split
   ·have ht:=(hs.fit.rows k hk).taken (by omega);by_cases x:i=k
    ·rw [x];have e:∀j,j≠5→j≠9→Gd.heal m.E k k j=m.E k j:=fun j h5 h9=>by
      unfold Gd.heal;rw [Md.set_else _ _ _ _ (by omega),Md.set_else _ _ _ _ (by omega)]
     have e5:Gd.heal m.E k k 5=min (m.E k 5+6) (m.E k 6):=by
      unfold Gd.heal;rw [Md.set_else _ _ _ _ (by omega),Md.set_at]
     have e9:Gd.heal m.E k k 9=0:=by
      unfold Gd.heal;rw [Md.set_at]
     refine ⟨by rw [e 1 (by omega) (by omega)];exact (hs.fit.rows k hk).1,by rw [e 1 (by omega) (by omega)];exact (hs.fit.rows k hk).2.1,.inr ?_⟩;rw [e 0 (by omega) (by omega),e5,e 6 (by omega) (by omega),e 7 (by omega) (by omega),e 8 (by omega) (by omega),e9,e 10 (by omega) (by omega)];omega
    ·have:Gd.heal m.E k i=m.E i:=by
      unfold Gd.heal;rw [Ft.set_row _ _ _ _ _ x,Ft.set_row _ _ _ _ _ x]
     rw [this];exact hs.fit.rows i hi
   ·exact hs.fit.rows i hi
  refine ⟨hs.less (Cr.Less.next _ _ _ _) hfit,fun i hi=>?_⟩;unfold Gd.nextG;rw [if_pos hc];unfold Gd.give;split
  ·exact Cr.goldOf_bd (hg _ (by omega)).1 (hg _ (by omega)).2
  ·exact hg i hi
 ·unfold Gd.nextE Gd.nextI Gd.nextG;rw [if_neg hc,if_neg hc,if_neg hc];exact ⟨hs,hg⟩

theorem Cr.MFit.does {s c:Nat→Int} {m:Cr.M} (h:Cr.MFit c m) (t:Int) {k:Nat} (hk:k<32) (k0:m.E k 0≠0) (v:Int):Cr.MFit c (Cr.does s c m t k v):=by
 unfold Cr.does;split
 ·exact ⟨h.1.act hk k0 v false,h.2⟩
 ·split
  ·exact ⟨h.1,h.2⟩
  ·exact h.next t v

theorem Cr.MFit.moved {s c:Nat→Int} {t how input:Int} {m n:Cr.M} (h:Cr.MFit c m) (hm:Cr.Moved s c t how input m n):Cr.MFit c n:=by
 unfold Cr.Moved at hm;split at hm
 ·rw [hm];exact h
 ·rename_i hc;obtain ⟨v,_,rfl⟩:=hm;obtain ⟨k,hk,he,k1,_⟩:=Md.hero_row (E:=m.E) (seat:=t) (by omega);rw [he,Int.toNat_natCast];exact h.does t hk (by omega) v

def Cr.MovedTo (s c how input:Nat→Int):Nat→Cr.M→Cr.M→Prop
 | 0,m,n=>n=m
 | t+1,m,n=>∃o,Cr.MovedTo s c how input t m o∧Cr.Moved s c (t:Int) (how t) (input t) o n

theorem Cr.MFit.movedTo {s c how input:Nat→Int}:∀{t:Nat} {m n:Cr.M},Cr.MFit c m→Cr.MovedTo s c how input t m n→Cr.MFit c n
 | 0,_,_,h,hm=>by rw [hm];exact h
 | t+1,_,_,h,hm=>by
  obtain ⟨o,ho,hn⟩:=hm;exact (Cr.MFit.movedTo h ho).moved hn

def Cr.Prowls (s c:Nat→Int) (i:Nat) (E I F J:Nat→Nat→Int):Prop :=
 if E i 0=0∨E i 0=1∨0<E i 10 then F=E∧J=I
 else ∃v,Md.IsMonster s c E (i:Int) v∧F=(Cr.act s c E I i v true).1∧J=(Cr.act s c E I i v true).2

theorem Cr.Sane.prowls {s c:Nat→Int} {i:Nat} {E I F J:Nat→Nat→Int} (h:Cr.Sane c E I) (hi:i<32) (hp:Cr.Prowls s c i E I F J):Cr.Sane c F J:=by
 unfold Cr.Prowls at hp;split at hp
 ·rw [hp.1,hp.2];exact h
 ·rename_i hc;obtain ⟨v,_,rfl,rfl⟩:=hp;exact h.act hi (by omega) v true

def Cr.ProwlTo (s c:Nat→Int):Nat→(Nat→Nat→Int)→(Nat→Nat→Int)→(Nat→Nat→Int)→(Nat→Nat→Int)→Prop
 | 0,E,I,F,J=>F=E∧J=I
 | i+1,E,I,F,J=>∃G K,Cr.ProwlTo s c i E I G K∧Cr.Prowls s c i G K F J

theorem Cr.Sane.prowlTo {s c:Nat→Int}:∀{i:Nat} {E I F J:Nat→Nat→Int},Cr.Sane c E I→i≤32→Cr.ProwlTo s c i E I F J→Cr.Sane c F J
 | 0,_,_,_,_,h,_,hp=>by rw [hp.1,hp.2];exact h
 | i+1,_,_,_,_,h,hi,hp=>by
  obtain ⟨G,K,hG,hF⟩:=hp;exact (Cr.Sane.prowlTo h (by omega) hG).prowls (by omega) hF

def Cr.manned (E:Nat→Nat→Int):Bool:=decide (∃t:Nat,t<4∧0≤Gd.hero E (t:Int))

def Cr.rats (s c:Nat→Int) (E:Nat→Nat→Int):Nat→Nat→Int :=
 if s 1 % 16=0∧En.first (En.atQ E (Gr.find 384 c 3 % 24) (Gr.find 384 c 3 / 24)) 32<0 then Cr.join E (Cr.one 2 0 (Gr.find 384 c 3).toNat) else E

theorem Cr.up_stair {c:Nat→Int} (hF:Nv.Floor c):∃u:Nat,u<384∧Gr.find 384 c 3=(u:Int)∧c u=3∧∀i,c i=3→i=u:=by
 obtain ⟨u,v,hu,_,h3,_⟩:=hF.stairs;refine ⟨u,hu,?_,(h3 u).2 rfl,fun i hi=>(h3 i).1 hi⟩;have key:∀n k:Nat,k≤u→u<k+n→Gr.findFrom c 3 n k=(u:Int):=by
  intro n;induction n with
  | zero=>intro k h1 h2;omega
  | succ n ih =>
   intro k h1 h2;unfold Gr.findFrom;by_cases e:c k=3
   ·rw [if_pos e,(h3 k).1 e]
   ·rw [if_neg e];refine ih (k+1) ?_ (by omega);by_cases ek:k=u
    ·exact absurd ((h3 k).2 ek) e
    ·omega
 exact key 384 0 (by omega) (by omega)

theorem Cr.Sane.rats {s c:Nat→Int} {E I:Nat→Nat→Int} (h:Cr.Sane c E I) (hF:Nv.Floor c):Cr.Sane c (Cr.rats s c E) I:=by
 unfold Cr.rats;split
 ·rename_i hc;obtain ⟨u,hu,hfu,hcu,_⟩:=Cr.up_stair hF;rw [hfu] at hc;rw [hfu,Int.toNat_natCast];exact h.join (by omega) (by omega) hu ⟨by rw [hcu];rfl,hc.2⟩ (.inr ⟨by omega,rfl⟩)
 ·exact h

theorem Cr.Sane.ail {c:Nat→Int} {E I:Nat→Nat→Int} (h:Cr.Sane c E I):Cr.Sane c (Ft.ailE E I 32).1 (Ft.ailE E I 32).2 :=
 h.less (Cr.Less.ail E I 32) (h.fit.ail 32 (by omega))


open Go.RowKit

def Cr.Lev (seed f:Int) (c:Nat→Int) (es:List (Int × Nat)) (is:List Gn.Itm):Prop :=
 ∃(d:Gn.Dice) (F:Nat→Int),(∀a b n,Gn.D seed f a b n=d a b n)∧Gn.Fair d∧Gn.IsLevel d c F∧es=Gn.ents d f c F∧is=Gn.items d c

theorem Cr.Lev.floor {seed f:Int} {c:Nat→Int} {es:List (Int × Nat)} {is:List Gn.Itm} (h:Cr.Lev seed f c es is):Nv.Floor c:=by
 obtain ⟨d,F,_,hF,hL,_⟩:=h;exact Nv.floor_of hF hL

def Cr.stockE (E:Nat→Nat→Int) (es:List (Int × Nat)):Nat→Nat→Int :=
 es.foldl (fun E p=>if En.first (En.atQ E ((p.2:Int) % 24) ((p.2:Int) / 24)) 32<0 then Cr.join E (Cr.one p.1 0 p.2) else E) E

def Cr.itemOf (is:List Gn.Itm) (i j:Nat):Int :=
 match is[i]? with
 | some p=>Gd.row p.1 p.2.1 p.2.2.1 p.2.2.2 j
 | none=>0

def Cr.stockI (I:Nat→Nat→Int) (is:List Gn.Itm):Nat→Nat→Int:=Gd.lay I (Cr.itemOf is) is.length

theorem Cr.Sane.stockE {c:Nat→Int} {I:Nat→Nat→Int}:∀(es:List (Int × Nat)) {E:Nat→Nat→Int},Cr.Sane c E I→(∀p,p∈es→2≤p.1∧p.1≤4∧p.2<384∧Gr.walkB (c p.2)=true)→Cr.Sane c (Cr.stockE E es) I
 | [],_,h,_=>h
 | p :: es,E,h,hp=>by
  obtain ⟨k2,k4,hq,hw⟩:=hp p (List.mem_cons_self ..);refine Cr.Sane.stockE es (E:=if En.first (En.atQ E ((p.2:Int) % 24) ((p.2:Int) / 24)) 32<0 then Cr.join E (Cr.one p.1 0 p.2) else E) ?_ (fun q hq=>hp q (List.mem_cons_of_mem _ hq));split
  ·rename_i hr;exact h.join (by omega) (by omega) hq ⟨hw,hr⟩ (.inr ⟨by omega,rfl⟩)
  ·exact h

theorem Cr.Lev.mons {seed f:Int} {c:Nat→Int} {es:List (Int × Nat)} {is:List Gn.Itm} (h:Cr.Lev seed f c es is) (hf:1≤f) (p:Int × Nat) (hp:p∈es):2≤p.1∧p.1≤4∧p.2<384∧Gr.walkB (c p.2)=true:=by
 obtain ⟨d,F,_,hF,hL,rfl,_⟩:=h;obtain ⟨i,hi⟩:=List.mem_iff_getElem?.1 hp;obtain ⟨k2,k4,hq,hc,_⟩:=Gn.ents_at hF hf hi;exact ⟨k2,k4,hq,by rw [hc];rfl⟩

theorem Cr.ok_lay {c:Nat→Int} {I M:Nat→Nat→Int}:∀(n:Nat),Gd.Ok c 40 I→(∀i,i<n→Gd.Placed c (Gd.row (M i 0) (M i 1) (M i 2) (M i 3)))→(∀i k,i<n→k<40→I k 1≠0→¬Gd.Share (I k) (Gd.row (M i 0) (M i 1) (M i 2) (M i 3)))→(∀i j,i<j→j<n→¬Gd.Share (Gd.row (M i 0) (M i 1) (M i 2) (M i 3)) (Gd.row (M j 0) (M j 1) (M j 2) (M j 3))) →
  Gd.Ok c 40 (Gd.lay I M n)∧∀k,k<40→(Gd.lay I M n k=I k∨∃i,i<n∧Gd.lay I M n k=Gd.row (M i 0) (M i 1) (M i 2) (M i 3))
 | 0,h,_,_,_=>⟨h,fun k _=>.inl rfl⟩
 | n+1,h,hp,hi,hm=>by
  obtain ⟨ho,hk⟩:=Cr.ok_lay n h (fun i hi'=>hp i (by omega)) (fun i k hi'=>hi i k (by omega)) (fun i j hij hj=>hm i j hij (by omega));unfold Gd.lay;split
  ·rename_i hpos;generalize (En.first (Gd.goneQ (Gd.lay I M n)) 40).toNat=r;have hpn:=hp n (by omega);refine ⟨ho.put (.inr ⟨hpn,fun k hk40 _ hs=>?_⟩),fun k hk40=>?_⟩
   ·rcases hk k hk40 with e|⟨i,hin,e⟩
    ·rw [e] at hs;have h0:I k 1≠0:=by
      have h1:=hs.1;rw [h1];exact hpn.where_ne
     exact hi n k (by omega) hk40 h0 hs
    ·rw [e] at hs;exact hm i n hin (by omega) hs
   ·by_cases e:k=r
    ·rw [e,En.put_same];exact .inr ⟨n,by omega,rfl⟩
    ·rw [En.put_other e];rcases hk k hk40 with e'|⟨i,hin,e'⟩
     ·exact .inl e'
     ·exact .inr ⟨i,by omega,e'⟩
  ·exact ⟨ho,fun k hk40=>(hk k hk40).imp id fun ⟨i,hin,e⟩=>⟨i,by omega,e⟩⟩

theorem Cr.item_at {is:List Gn.Itm} {i:Nat} {p:Gn.Itm} (h:is[i]?=some p):Cr.itemOf is i 0=p.1∧Cr.itemOf is i 1=p.2.1∧Cr.itemOf is i 2=p.2.2.1∧Cr.itemOf is i 3=p.2.2.2:=by
 unfold Cr.itemOf;rw [h];exact ⟨rfl,rfl,rfl,rfl⟩

theorem Cr.Lev.items {seed f:Int} {c:Nat→Int} {es:List (Int × Nat)} {is:List Gn.Itm} (h:Cr.Lev seed f c es is):(∀(i:Nat) (p:Gn.Itm),is[i]?=some p→Gd.Placed c (Gd.row p.1 p.2.1 p.2.2.1 p.2.2.2)∧(p.2.1=1∨p.2.1=4))∧(∀(i j:Nat) (p q:Gn.Itm),i<j→is[i]?=some p→is[j]?=some q→¬(p.2.1=q.2.1∧p.2.2.1=q.2.2.1∧p.2.2.2=q.2.2.2)):=by
 obtain ⟨d,F,_,hF,hL,_,rfl⟩:=h;have hw:∀i p,Gn.lying d c≤i→(Gn.items d c)[i]?=some p→∃j:Nat,j=i - Gn.lying d c∧j<3∧p=(1+d (50+(j:Int)) 1 3,4,(j:Int),0):=fun i p hi hp=>by
  have e:Gn.items d c=Gn.lie d 4 0 (Gn.those (fun i=>c i == 1) 384) ++ if Gr.find 384 c 5<0 then [] else Gn.wares d 3:=rfl
  rw [e,List.getElem?_append_right hi] at hp;split at hp
  ·simp at hp
  ·unfold Gn.wares at hp;rw [List.getElem?_map] at hp;simp only [Option.map_eq_some_iff] at hp;obtain ⟨j,hj,rfl⟩:=hp;by_cases hb:i - (Gn.lie d 4 0 (Gn.those (fun i=>c i == 1) 384)).length<3
   ·rw [List.getElem?_range hb] at hj;have hj':=Option.some.inj hj;exact ⟨j,hj'.symm,by rw [←hj'];exact hb,rfl⟩
   ·rw [List.getElem?_eq_none (by simp;omega)] at hj;cases hj
 refine ⟨fun i p hp=>?_,fun i j p q hij hp hq he=>?_⟩
 ·by_cases hi:i<Gn.lying d c
  ·obtain ⟨K,cl,rfl,hcl,hc1,k1,k4⟩:=Gn.items_lie hF hi hp;refine ⟨⟨k1,k4,.inl ⟨rfl,(Gr.inB_iff _ _).2 (by show 0≤(cl:Int) % 24∧(cl:Int) % 24<24∧0≤(cl:Int) / 24∧(cl:Int) / 24<16;omega),?_⟩⟩,.inl rfl⟩;show Gr.walkB (Gr.at 384 c ((cl:Int) % 24) ((cl:Int) / 24))=true;rw [Gr.at_in (k:=cl) ((Gr.inB_iff _ _).2 (by omega)) (by omega),hc1];rfl
  ·obtain ⟨j,_,hj3,rfl⟩:=hw i p (by omega) hp;have hd:=hF (50+(j:Int)) 1 3 (by omega);refine ⟨⟨?_,?_,.inr (.inr (.inr ⟨rfl,?_,?_,rfl,?_⟩))⟩,.inr rfl⟩
   ·show 1≤1+d (50+(j:Int)) 1 3;omega
   ·show 1+d (50+(j:Int)) 1 3≤4;omega
   ·show 0≤(j:Int);omega
   ·show (j:Int)<3;omega
   ·show ¬1+d (50+(j:Int)) 1 3=4;omega
 ·by_cases hj:j<Gn.lying d c
  ·exact Gn.items_apart hF hij hj hp hq he.2
  ·obtain ⟨b,hb,_,rfl⟩:=hw j q (by omega) hq;by_cases hi:i<Gn.lying d c
   ·obtain ⟨K,cl,rfl,_⟩:=Gn.items_lie hF hi hp;exact absurd he.1 (by show ¬(1:Int)=4;omega)
   ·obtain ⟨a,ha,_,rfl⟩:=hw i p (by omega) hp;have h2:(a:Int)=(b:Int):=he.2.1;omega

def Cr.kept (I:Nat→Nat→Int):Nat→Nat→Int:=fun i=>if I i 1=1∨I i 1=4 then fun _=>0 else I i

theorem Cr.kept_ok {c c':Nat→Int} {I:Nat→Nat→Int} (h:Gd.Ok c 40 I):Gd.Ok c' 40 (Cr.kept I)∧∀k,k<40→Cr.kept I k 1≠1∧Cr.kept I k 1≠4:=by
 have e:∀i,(I i 1=1∨I i 1=4)∧Cr.kept I i=(fun _=>0)∨¬(I i 1=1∨I i 1=4)∧Cr.kept I i=I i:=fun i=>by
  unfold Cr.kept;by_cases hc:I i 1=1∨I i 1=4
  ·rw [if_pos hc];exact .inl ⟨hc,rfl⟩
  ·rw [if_neg hc];exact .inr ⟨hc,rfl⟩
 refine ⟨⟨fun i hi=>?_,fun i k hi hk hik h0 hs=>?_⟩,fun k hk=>?_⟩
 ·rcases e i with ⟨_,hz⟩|⟨hn,hz⟩
  ·rw [hz];exact .inl ⟨rfl,rfl,rfl,rfl⟩
  ·rw [hz];rcases h.each i hi with hzero|⟨h1,h4,hp⟩
   ·exact .inl hzero
   ·refine .inr ⟨h1,h4,?_⟩;rcases hp with ⟨hw,_⟩|hp|hp|⟨hw,_⟩
    ·exact absurd (.inl hw) hn
    ·exact .inr (.inl hp)
    ·exact .inr (.inr (.inl hp))
    ·exact absurd (.inr hw) hn
 ·rcases e i with ⟨_,hz⟩|⟨hn,hz⟩
  ·rw [hz] at h0;exact h0 rfl
  ·rw [hz] at h0 hs;rcases e k with ⟨_,hzk⟩|⟨hnk,hzk⟩
   ·rw [hzk] at hs;exact h0 hs.1.symm
   ·rw [hzk] at hs;exact h.one i k hi hk hik h0 hs
 ·rcases e k with ⟨_,hz⟩|⟨hn,hz⟩
  ·rw [hz];exact ⟨by show ¬(0:Int)=1;omega,by show ¬(0:Int)=4;omega⟩
  ·rw [hz];exact ⟨fun h=>hn (.inl h),fun h=>hn (.inr h)⟩

theorem Cr.Lev.lay {seed f:Int} {c:Nat→Int} {es:List (Int × Nat)} {is:List Gn.Itm} (h:Cr.Lev seed f c es is) {I:Nat→Nat→Int} (hI:Gd.Ok c 40 I) (hk:∀k,k<40→I k 1≠1∧I k 1≠4):Gd.Ok c 40 (Cr.stockI I is):=by
 obtain ⟨h1,h2⟩:=h.items;have hat:∀i,i<is.length→∃p,is[i]?=some p:=fun i hi=>⟨is[i],List.getElem?_eq_getElem hi⟩;refine (Cr.ok_lay is.length hI (fun i hi=>?_) (fun i k hi hk40 _ hs=>?_) (fun i j hij hj hs=>?_)).1
 ·obtain ⟨p,hp⟩:=hat i hi;obtain ⟨e0,e1,e2,e3⟩:=Cr.item_at hp;rw [e0,e1,e2,e3];exact (h1 i p hp).1
 ·obtain ⟨p,hp⟩:=hat i hi;obtain ⟨e0,e1,e2,e3⟩:=Cr.item_at hp;rw [e0,e1,e2,e3] at hs;have hs1:I k 1=p.2.1:=hs.1;have:=hk k hk40;rcases (h1 i p hp).2 with h|h <;> omega
 ·obtain ⟨p,hp⟩:=hat i (by omega);obtain ⟨q,hq⟩:=hat j hj;obtain ⟨e0,e1,e2,e3⟩:=Cr.item_at hp;obtain ⟨f0,f1,f2,f3⟩:=Cr.item_at hq;rw [e0,e1,e2,e3,f0,f1,f2,f3] at hs;exact h2 i j p q hij hp hq hs


open Go.RowKit

theorem Cr.nz_last (c:Nat→Int):∀n k:Nat,k+1≤Gn.nzs c n→∃q,q<n∧c q≠0∧k≤Gn.nzs c q
 | 0,k,h=>by unfold Gn.nzs at h;omega
 | n+1,k,h=>by
  by_cases e:c n=0
  ·have h':k+1≤Gn.nzs c n:=by
    unfold Gn.nzs at h;simp [e] at h;omega
   obtain ⟨q,hq,h1,h2⟩:=Cr.nz_last c n k h';exact ⟨q,by omega,h1,h2⟩
  ·refine ⟨n,by omega,e,?_⟩;unfold Gn.nzs at h;simp [e] at h;omega

def Cr.Four (c:Nat→Int):Prop:=∃q0 q1 q2 q3:Nat,q0<q1∧q1<q2∧q2<q3∧q3<384∧c q0≠0∧c q1≠0∧c q2≠0∧c q3≠0

theorem Cr.Lev.four {seed f:Int} {c:Nat→Int} {es:List (Int × Nat)} {is:List Gn.Itm} (h:Cr.Lev seed f c es is):Cr.Four c:=by
 obtain ⟨d,F,_,hF,hL,_⟩:=h;obtain ⟨far,hfa⟩:=hL.facts hF;have h6:=hfa.six hF;obtain ⟨q3,h3,c3,n3⟩:=Cr.nz_last c 384 3 (by omega);obtain ⟨q2,h2,c2,n2⟩:=Cr.nz_last c q3 2 (by omega);obtain ⟨q1,h1,c1,n1⟩:=Cr.nz_last c q2 1 (by omega);obtain ⟨q0,h0,c0,_⟩:=Cr.nz_last c q1 0 (by omega);exact ⟨q0,q1,q2,q3,h0,h1,h2,h3,c0,c1,c2,c3⟩

theorem Cr.best_pos {F:Nat→Int} {st:Nat→Bool} {q:Nat} (h0:0≤F q) (hs:st q=false):∀n,q<n→0≤Nv.best F st n
 | 0,h=>by omega
 | n+1,h=>by
  by_cases e:q=n
  ·unfold Nv.best;split
   ·omega
   ·rename_i hn;rw [←e] at hn ⊢;rcases Nv.best_cases F st q with hb|⟨p,_,hb⟩
    ·exact absurd ⟨h0,hs,.inl (by omega)⟩ hn
    ·omega
  ·have:=Cr.best_pos h0 hs n (by omega);unfold Nv.best;split <;> omega

theorem Cr.spot_some {c:Nat→Int} {E:Nat→Nat→Int} {v:Int} (hF:Nv.Floor c) {q:Nat} (hq:q<384) (hc:c q≠0) (hst:Nv.st E 32 q=false) (h:Nv.IsSpot c E 32 (Gr.find 384 c 3 % 24) (Gr.find 384 c 3 / 24) v):0≤v:=by
 obtain ⟨u,hu,hfu,hcu,_⟩:=Cr.up_stair hF;obtain ⟨F,hfld,rfl⟩:=h;rw [hfu,Md.num_cell hu] at hfld;exact Cr.best_pos (Nv.Floor.all hF hu (by rw [hcu];omega) hfld q hq hc) hst 384 hq

theorem Cr.Sane.put {c:Nat→Int} {E I:Nat→Nat→Int} (h:Cr.Sane c E I) {r q:Nat} {e:Nat→Int} (hq:q<384) (hr:Ft.Room c E q) (hrow:Ft.Row e) (h0:e 0=1) (hx:e 3=(q:Int) % 24) (hy:e 4=(q:Int) / 24) (hst:e 6=En.stats 1 6∧e 7=En.stats 1 7∧e 8=En.stats 1 8) (s0:0≤e 2) (s4:e 2<4) (hno:∀j,j<32→E j 0=1→E j 2≠e 2):Cr.Sane c (En.put E r e) I:=by
 obtain ⟨m1,m2,m3,m4,m5⟩:=Ft.cell_num hq;have hn:=Ft.room_none hr.2;refine ⟨h.fit.put hrow,⟨h.set.born.put (by rw [h0];exact hst),⟨fun k hk k0=>?_,fun i j hi hj i0 j0 ex ey=>?_⟩⟩,⟨fun j hj j1=>?_,fun i j hi hj i1 j1 hij=>?_,fun j hj j0 j1=>?_⟩⟩
 ·by_cases x:k=r
  ·rw [x,En.put_same,hx,hy,m5];exact ⟨m1,m2,m3,m4,hr.1⟩
  ·rw [En.put_other x] at k0 ⊢;exact h.set.stands.on k hk k0
 ·by_cases xi:i=r
  ·by_cases xj:j=r
   ·omega
   ·rw [xi,En.put_same,En.put_other xj,hx] at ex;rw [xi,En.put_same,En.put_other xj,hy] at ey;rw [En.put_other xj] at j0;exact absurd ⟨ex.symm,ey.symm⟩ (hn j hj j0)
  ·by_cases xj:j=r
   ·rw [xj,En.put_same,En.put_other xi,hx] at ex;rw [xj,En.put_same,En.put_other xi,hy] at ey;rw [En.put_other xi] at i0;exact absurd ⟨ex,ey⟩ (hn i hi i0)
   ·rw [En.put_other xi] at i0 ex ey;rw [En.put_other xj] at j0 ex ey;exact h.set.stands.apart i j hi hj i0 j0 ex ey
 ·by_cases x:j=r
  ·rw [x,En.put_same];exact ⟨s0,s4⟩
  ·rw [En.put_other x] at j1 ⊢;exact h.seats.seat j hj j1
 ·by_cases xi:i=r
  ·by_cases xj:j=r
   ·omega
   ·rw [xi,En.put_same,En.put_other xj] at hij;rw [En.put_other xj] at j1;exact absurd hij.symm (hno j hj j1)
  ·by_cases xj:j=r
   ·rw [xj,En.put_same,En.put_other xi] at hij;rw [En.put_other xi] at i1;exact absurd hij (hno i hi i1)
   ·rw [En.put_other xi] at i1 hij;rw [En.put_other xj] at j1 hij;exact h.seats.one i j hi hj i1 j1 hij
 ·by_cases x:j=r
  ·rw [x,En.put_same] at j1;exact absurd h0 j1
  ·rw [En.put_other x] at j0 j1 ⊢;exact h.seats.none j hj j0 j1

def Cr.bare (E:Nat→Nat→Int):Nat→Nat→Int:=fun k=>En.hole (E k 1)

theorem Cr.bare_sane {c:Nat→Int} {E I:Nat→Nat→Int} (hc:∀i,0≤c i∧c i≤255) (hI:Gd.Ok c 40 I) (hG:En.Gens 32 E):Cr.Sane c (Cr.bare E) I:=by
 have z:∀k,Cr.bare E k 0=0:=fun _=>rfl;refine ⟨⟨hc,hI,fun k hk=>Ft.row_hole (hG k hk).1 (hG k hk).2⟩,⟨fun k _ k0=>absurd (z k) k0,⟨fun k _ k0=>absurd (z k) k0,fun j k _ _ j0=>absurd (z j) j0⟩⟩,⟨fun k _ k1=>?_,fun j k _ _ j1=>?_,fun k _ k0=>absurd (z k) k0⟩⟩
 ·rw [z] at k1;omega
 ·rw [z] at j1;omega

def Cr.Lands (c:Nat→Int) (old:Nat→Nat→Int) (t:Int) (E F:Nat→Nat→Int):Prop :=
 if Gd.hero old t<0 then F=E
 else ∃v,Nv.IsSpot c E 32 (Gr.find 384 c 3 % 24) (Gr.find 384 c 3 / 24) v∧F=En.put E (Gd.hero old t).toNat (if v<0 then old (Gd.hero old t).toNat else En.upd (En.upd (old (Gd.hero old t).toNat) 3 (v % 24)) 4 (v / 24))

def Cr.LandTo (c:Nat→Int) (old:Nat→Nat→Int):Nat→(Nat→Nat→Int)→(Nat→Nat→Int)→Prop
 | 0,E,F=>F=E
 | t+1,E,F=>∃G,Cr.LandTo c old t E G∧Cr.Lands c old (t:Int) G F

def Cr.Landed (old E:Nat→Nat→Int) (t:Nat):Prop:=∀k,k<32→E k 0≠0→∃j:Nat,j<t∧Gd.hero old (j:Int)=(k:Int)∧E k 2=(j:Int)

theorem Cr.landed_room {c:Nat→Int} {old G:Nat→Nat→Int} {t:Nat} (h4:Cr.Four c) (ht:t+1≤4) (lG:Cr.Landed old G t):∃q,q<384∧c q≠0∧Nv.st G 32 q=false:=by
 obtain ⟨q0,q1,q2,q3,a1,a2,a3,a4,c0,c1,c2,c3⟩:=h4;have occ:∀q,q<384→Nv.st G 32 q=true→∃(k j:Nat),k<32∧j<t∧G k 0≠0∧G k 2=(j:Int)∧G k 3=((q % 24:Nat):Int)∧G k 4=((q / 24:Nat):Int):=fun q _ hst=>by
  unfold Nv.st at hst;simp only [decide_eq_true_eq] at hst;rcases En.first_cases (En.atQ G ((q % 24:Nat):Int) ((q / 24:Nat):Int)) 32 with ⟨hh,_⟩|⟨k,hk,_,hqq,_⟩
  ·omega
  ·have hq':G k 0≠0∧G k 3=((q % 24:Nat):Int)∧G k 4=((q / 24:Nat):Int):=by simpa [En.atQ] using hqq
   obtain ⟨j,hj,_,h2⟩:=lG k hk hq'.1;exact ⟨k,j,hk,hj,hq'.1,h2,hq'.2.1,hq'.2.2⟩
 have same:∀(k k' j:Nat),k<32→k'<32→G k 0≠0→G k' 0≠0→G k 2=(j:Int)→G k' 2=(j:Int)→k=k':=fun k k' j hk hk' k0 k0' e e'=>by
  obtain ⟨i,_,h1,h2⟩:=lG k hk k0;obtain ⟨i',_,h1',h2'⟩:=lG k' hk' k0';obtain rfl:i=i':=by omega
  omega
 by_cases s0:Nv.st G 32 q0=true
 ·by_cases s1:Nv.st G 32 q1=true
  ·by_cases s2:Nv.st G 32 q2=true
   ·by_cases s3:Nv.st G 32 q3=true
    ·exfalso;obtain ⟨k0,j0,b0,d0,e0,f0,x0,y0⟩:=occ q0 (by omega) s0;obtain ⟨k1,j1,b1,d1,e1,f1,x1,y1⟩:=occ q1 (by omega) s1;obtain ⟨k2,j2,b2,d2,e2,f2,x2,y2⟩:=occ q2 (by omega) s2;obtain ⟨k3,j3,b3,d3,e3,f3,x3,y3⟩:=occ q3 (by omega) s3;have ne:∀(k k' j j' q q':Nat),q<q'→k<32→k'<32→G k 0≠0→G k' 0≠0→G k 2=(j:Int)→G k' 2=(j':Int)→G k 3=((q % 24:Nat):Int)→G k 4=((q / 24:Nat):Int)→G k' 3=((q' % 24:Nat):Int)→G k' 4=((q' / 24:Nat):Int)→j≠j':=fun k k' j j' q q' hqq hk hk' g0 g0' g2 g2' g3 g4 g3' g4' hjj=>by
      subst hjj;have:=same k k' j hk hk' g0 g0' g2 g2';subst this;rw [g3] at g3';rw [g4] at g4';omega
     have n01:=ne k0 k1 j0 j1 q0 q1 a1 b0 b1 e0 e1 f0 f1 x0 y0 x1 y1;have n02:=ne k0 k2 j0 j2 q0 q2 (by omega) b0 b2 e0 e2 f0 f2 x0 y0 x2 y2;have n03:=ne k0 k3 j0 j3 q0 q3 (by omega) b0 b3 e0 e3 f0 f3 x0 y0 x3 y3;have n12:=ne k1 k2 j1 j2 q1 q2 a2 b1 b2 e1 e2 f1 f2 x1 y1 x2 y2;have n13:=ne k1 k3 j1 j3 q1 q3 (by omega) b1 b3 e1 e3 f1 f3 x1 y1 x3 y3;have n23:=ne k2 k3 j2 j3 q2 q3 a3 b2 b3 e2 e3 f2 f3 x2 y2 x3 y3;omega
    ·exact ⟨q3,a4,c3,by simpa using s3⟩
   ·exact ⟨q2,by omega,c2,by simpa using s2⟩
  ·exact ⟨q1,by omega,c1,by simpa using s1⟩
 ·exact ⟨q0,by omega,c0,by simpa using s0⟩

theorem Cr.landing {c c0:Nat→Int} {old I I0:Nat→Nat→Int} (ho:Cr.Sane c0 old I0) (hF:Nv.Floor c) (h4:Cr.Four c):∀{t:Nat} {E F:Nat→Nat→Int},t≤4→Cr.Sane c E I→Cr.Landed old E 0→Cr.LandTo c old t E F→Cr.Sane c F I∧Cr.Landed old F t
 | 0,_,_,_,hs,hl,h=>by rw [h];exact ⟨hs,hl⟩
 | t+1,E,F,ht,hs,hl,h=>by
  obtain ⟨G,hG,hL⟩:=h;obtain ⟨sG,lG⟩:=Cr.landing ho hF h4 (by omega) hs hl hG;unfold Cr.Lands at hL;split at hL
  ·rw [hL];exact ⟨sG,fun k hk k0=>by
    obtain ⟨j,hj,h1,h2⟩:=lG k hk k0;exact ⟨j,by omega,h1,h2⟩⟩
  ·rename_i hn;obtain ⟨v,hv,rfl⟩:=hL;obtain ⟨r,hr,he,r1,r2⟩:=Md.hero_row hn;have hroom:=Cr.landed_room h4 ht lG;obtain ⟨q,hq,hcq,hst⟩:=hroom;have hv0:=Cr.spot_some hF hq hcq hst hv;obtain ⟨p,rfl⟩:∃p:Nat,v=(p:Int):=⟨v.toNat,by omega⟩;obtain ⟨hp,hrm⟩:=Cr.spot_room hv;rw [he,Int.toNat_natCast,if_neg (by omega)];have hrow0:=ho.fit.rows r hr;have ht0:=hrow0.taken (by omega);have eo:∀j,j≠3→j≠4→En.upd (En.upd (old r) 3 ((p:Int) % 24)) 4 ((p:Int) / 24) j=old r j:=fun j h3 h4=>by rw [En.upd_other h4,En.upd_other h3]
   have hrow:Ft.Row (En.upd (En.upd (old r) 3 ((p:Int) % 24)) 4 ((p:Int) / 24)):=by
    refine ⟨by rw [eo 1 (by omega) (by omega)];exact hrow0.1,by rw [eo 1 (by omega) (by omega)];exact hrow0.2.1,.inr ?_⟩;rw [eo 0 (by omega) (by omega),eo 5 (by omega) (by omega),eo 6 (by omega) (by omega),eo 7 (by omega) (by omega),eo 8 (by omega) (by omega),eo 9 (by omega) (by omega),eo 10 (by omega) (by omega)];exact ht0
   have hb:=ho.set.born r hr (by omega);rw [r1] at hb;refine ⟨sG.put hp hrm hrow (by rw [eo 0 (by omega) (by omega)];exact r1) (by rw [En.upd_other (by omega),En.upd_same]) (by rw [En.upd_same]) (by rw [eo 6 (by omega) (by omega),eo 7 (by omega) (by omega),eo 8 (by omega) (by omega)];exact hb) (by rw [eo 2 (by omega) (by omega),r2];omega) (by rw [eo 2 (by omega) (by omega),r2];omega) (fun j hj j1=>?_),fun k hk k0=>?_⟩
   ·rw [eo 2 (by omega) (by omega),r2];obtain ⟨i,hi,_,h2⟩:=lG j hj (by omega);omega
   ·by_cases x:k=r
    ·refine ⟨t,by omega,by rw [x];exact he,?_⟩;rw [x,En.put_same,eo 2 (by omega) (by omega),r2]
    ·rw [En.put_other x] at k0 ⊢;obtain ⟨j,hj,h1,h2⟩:=lG k hk k0;exact ⟨j,by omega,h1,h2⟩


open Go.RowKit

structure Cr.W where
 s:Nat→Int
 g:Nat→Int
 c:Nat→Int
 E:Nat→Nat→Int
 I:Nat→Nat→Int

def Cr.num (s:Nat→Int) (k:Nat) (v:Int):Nat→Int:=fun j=>if j=k then v else s j

def Cr.Below (s g:Nat→Int) (E I:Nat→Nat→Int) (T:Cr.W):Prop :=
 ∃(c:Nat→Int) (es:List (Int × Nat)) (is:List Gn.Itm) (F:Nat→Nat→Int),Cr.Lev (s 0) (s 2+1) c es is∧Cr.LandTo c E 4 (Cr.bare E) F∧T=⟨Cr.num s 2 (s 2+1),g,c,Cr.stockE F es,Cr.stockI (Cr.kept I) is⟩

def Cr.Ends (s g c:Nat→Int) (E I:Nat→Nat→Int) (had left:Bool) (T:Cr.W):Prop :=
 if Cr.manned E=false then T=⟨if had=true then Cr.num s 3 2 else s,g,c,E,I⟩
 else if left=true then (if s 2=3 then T=⟨Cr.num s 3 1,g,c,E,I⟩ else Cr.Below s g E I T) else T=⟨s,g,c,E,I⟩

def Cr.IsStep (how input:Nat→Int) (sp:Nat→Bool) (S T:Cr.W):Prop :=
 if S.s 3≠0 then T=⟨Cr.num S.s 1 (S.s 1+1),S.g,S.c,S.E,S.I⟩
 else ∃(A:Nat→Nat→Int) (m:Cr.M) (F J:Nat→Nat→Int),Cr.ComesTo S.c sp 4 S.E A∧Cr.MovedTo (Cr.num S.s 1 (S.s 1+1)) S.c how input 4 ⟨S.g,A,S.I,false⟩ m∧Cr.ProwlTo (Cr.num S.s 1 (S.s 1+1)) S.c 32 m.E m.I F J ∧
  Cr.Ends (Cr.num S.s 1 (S.s 1+1)) m.g S.c (Cr.rats (Cr.num S.s 1 (S.s 1+1)) S.c (Ft.ailE F J 32).1) (Ft.ailE F J 32).2 (Cr.manned S.E || Cr.manned A) m.left T

structure Cr.Good (S:Cr.W):Prop where
 sane:Cr.Sane S.c S.E S.I
 floor:Nv.Floor S.c
 gold:Cr.Gold S.g
 f1:1≤S.s 2
 f3:S.s 2≤3
 s0:0≤S.s 3
 s2:S.s 3≤2

theorem Cr.num_at (s:Nat→Int) (k:Nat) (v:Int):Cr.num s k v k=v:=if_pos rfl

theorem Cr.num_else (s:Nat→Int) {k j:Nat} (v:Int) (h:j≠k):Cr.num s k v j=s j:=if_neg h

theorem Cr.IsStep.good {how input:Nat→Int} {sp:Nat→Bool} {S T:Cr.W} (h:Cr.IsStep how input sp S T) (hS:Cr.Good S):Cr.Good T∧T.s 0=S.s 0∧T.s 1=S.s 1+1∧(T.s 2=S.s 2∨T.s 2=S.s 2+1)∧(S.s 3≠0→T=⟨Cr.num S.s 1 (S.s 1+1),S.g,S.c,S.E,S.I⟩):=by
 unfold Cr.IsStep at h;have n0:Cr.num S.s 1 (S.s 1+1) 0=S.s 0:=Cr.num_else _ _ (by omega);have n1:Cr.num S.s 1 (S.s 1+1) 1=S.s 1+1:=Cr.num_at _ _ _;have n2:Cr.num S.s 1 (S.s 1+1) 2=S.s 2:=Cr.num_else _ _ (by omega);have n3:Cr.num S.s 1 (S.s 1+1) 3=S.s 3:=Cr.num_else _ _ (by omega);split at h
 ·rename_i hc;rw [h];exact ⟨⟨hS.sane,hS.floor,hS.gold,by show 1≤Cr.num S.s 1 (S.s 1+1) 2;rw [n2];exact hS.f1,by show Cr.num S.s 1 (S.s 1+1) 2≤3;rw [n2];exact hS.f3,by show 0≤Cr.num S.s 1 (S.s 1+1) 3;rw [n3];exact hS.s0,by show Cr.num S.s 1 (S.s 1+1) 3≤2;rw [n3];exact hS.s2⟩,n0,n1,.inl n2,fun _=>rfl⟩
 rename_i hc;obtain ⟨A,m,F,J,hA,hm,hF,hE⟩:=h;have sA:=hS.sane.comesTo (by omega) hA;have sm:Cr.MFit S.c m:=Cr.MFit.movedTo (m:=⟨S.g,A,S.I,false⟩) ⟨sA,hS.gold⟩ hm;have sF:=sm.1.prowlTo (by omega) hF;have sR:=(sF.ail).rats (s:=Cr.num S.s 1 (S.s 1+1)) hS.floor;generalize Cr.rats (Cr.num S.s 1 (S.s 1+1)) S.c (Ft.ailE F J 32).1=E2 at hE sR;generalize (Ft.ailE F J 32).2=I2 at hE sR;generalize Cr.num S.s 1 (S.s 1+1)=s1 at *
 have hz:S.s 3=0:=by
  by_cases e:S.s 3=0
  ·exact e
  ·exact absurd e hc
 have d0:∀v,Cr.num s1 3 v 0=s1 0:=fun v=>Cr.num_else _ _ (by omega);have d1:∀v,Cr.num s1 3 v 1=s1 1:=fun v=>Cr.num_else _ _ (by omega);have d2:∀v,Cr.num s1 3 v 2=s1 2:=fun v=>Cr.num_else _ _ (by omega);have d3:∀v,Cr.num s1 3 v 3=v:=fun v=>Cr.num_at _ _ _;have f1:=hS.f1;have f3:=hS.f3;unfold Cr.Ends at hE;split at hE
 ·rw [hE];cases Cr.manned S.E || Cr.manned A
  ·exact ⟨⟨sR,hS.floor,sm.2,by show 1≤s1 2;omega,by show s1 2≤3;omega,by show 0≤s1 3;omega,by show s1 3≤2;omega⟩,n0,n1,.inl n2,fun h=>absurd hz h⟩
  ·exact ⟨⟨sR,hS.floor,sm.2,by show 1≤Cr.num s1 3 2 2;rw [d2];omega,by show Cr.num s1 3 2 2≤3;rw [d2];omega,by show 0≤Cr.num s1 3 2 3;rw [d3];omega,by show Cr.num s1 3 2 3≤2;rw [d3];omega⟩,by show Cr.num s1 3 2 0=_;rw [d0];exact n0,by show Cr.num s1 3 2 1=_;rw [d1];exact n1,.inl (by show Cr.num s1 3 2 2=_;rw [d2];exact n2),fun h=>absurd hz h⟩
 ·split at hE
  ·split at hE
   ·rw [hE];exact ⟨⟨sR,hS.floor,sm.2,by show 1≤Cr.num s1 3 1 2;rw [d2];omega,by show Cr.num s1 3 1 2≤3;rw [d2];omega,by show 0≤Cr.num s1 3 1 3;rw [d3];omega,by show Cr.num s1 3 1 3≤2;rw [d3];omega⟩,by show Cr.num s1 3 1 0=_;rw [d0];exact n0,by show Cr.num s1 3 1 1=_;rw [d1];exact n1,.inl (by show Cr.num s1 3 1 2=_;rw [d2];exact n2),fun h=>absurd hz h⟩
   ·rename_i h3;obtain ⟨c,es,is,G,hl,hG,rfl⟩:=hE;have hc8:∀i,0≤c i∧c i≤255:=fun i=>⟨(hl.floor.five i).1,by have:=(hl.floor.five i).2;omega⟩;obtain ⟨hk,hk1⟩:=Cr.kept_ok (c':=c) sR.fit.ok;have hI:=hl.lay hk hk1;have hb:=Cr.bare_sane (c:=c) (E:=E2) hc8 hI sR.good.gens;have hland:=(Cr.landing sR hl.floor hl.four (by omega) hb (fun k _ k0=>absurd rfl k0) hG).1;have hst:=hland.stockE es (hl.mons (by omega));have e0:Cr.num s1 2 (s1 2+1) 0=s1 0:=Cr.num_else _ _ (by omega);have e1:Cr.num s1 2 (s1 2+1) 1=s1 1:=Cr.num_else _ _ (by omega);have e2:Cr.num s1 2 (s1 2+1) 2=s1 2+1:=Cr.num_at _ _ _;have e3:Cr.num s1 2 (s1 2+1) 3=s1 3:=Cr.num_else _ _ (by omega);exact ⟨⟨hst,hl.floor,sm.2,by show 1≤Cr.num s1 2 (s1 2+1) 2;rw [e2];omega,by show Cr.num s1 2 (s1 2+1) 2≤3;rw [e2];omega,by show 0≤Cr.num s1 2 (s1 2+1) 3;rw [e3];omega,by show Cr.num s1 2 (s1 2+1) 3≤2;rw [e3];omega⟩,by show Cr.num s1 2 (s1 2+1) 0=_;rw [e0];exact n0,by show Cr.num s1 2 (s1 2+1) 1=_;rw [e1];exact n1,.inr (by show Cr.num s1 2 (s1 2+1) 2=_;rw [e2];omega),fun h=>absurd hz h⟩
  ·rw [hE];exact ⟨⟨sR,hS.floor,sm.2,by show 1≤s1 2;omega,by show s1 2≤3;omega,by show 0≤s1 3;omega,by show s1 3≤2;omega⟩,n0,n1,.inl n2,fun h=>absurd hz h⟩

def Cr.first (seed:Int):Nat→Int
 | 0=>seed
 | 2=>1
 | _=>0

def Cr.IsNew (seed:Int) (T:Cr.W):Prop :=
 ∃(c:Nat→Int) (es:List (Int × Nat)) (is:List Gn.Itm),Cr.Lev seed 1 c es is∧T=⟨Cr.first seed,fun _=>0,c,Cr.stockE (fun _ _=>0) es,Cr.stockI (fun _ _=>0) is⟩

theorem Cr.IsNew.good {seed:Int} {T:Cr.W} (h:Cr.IsNew seed T):Cr.Good T:=by
 obtain ⟨c,es,is,hl,rfl⟩:=h;have hc8:∀i,0≤c i∧c i≤255:=fun i=>⟨(hl.floor.five i).1,by have:=(hl.floor.five i).2;omega⟩;have hI:=hl.lay (Md.ok_none c) (fun k _=>⟨by show ¬(0:Int)=1;omega,by show ¬(0:Int)=4;omega⟩);have hb:Cr.Sane c (fun _ _=>0) (Cr.stockI (fun _ _=>0) is):=by
  refine ⟨⟨hc8,hI,fun k _=>⟨by show (0:Int)≤0;omega,by show (0:Int)≤255;omega,.inl fun _ _ _=>rfl⟩⟩,⟨fun k _ k0=>absurd rfl k0,⟨fun k _ k0=>absurd rfl k0,fun j k _ _ j0=>absurd rfl j0⟩⟩,⟨fun k _ k1=>?_,fun j k _ _ j1=>?_,fun k _ k0=>absurd rfl k0⟩⟩
  ·exact absurd k1 (by show ¬(0:Int)=1;omega)
  ·exact absurd j1 (by show ¬(0:Int)=1;omega)
 exact ⟨hb.stockE es (hl.mons (by omega)),hl.floor,fun t _=>⟨by show (0:Int)≤0;omega,by show (0:Int)≤999;omega⟩,by show (1:Int)≤1;omega,by show (1:Int)≤3;omega,by show (0:Int)≤0;omega,by show (0:Int)≤2;omega⟩


open Go.RowKit

theorem Cr.ent_cells {p:Int × Nat} (h1:2≤p.1) (h4:p.1≤4):Gn.ent p.1 ((p.2:Int) % 24) ((p.2:Int) / 24)=En.cells (Cr.one p.1 0 p.2):=by
 obtain ⟨k,q⟩:=p;rcases (show k=2∨k=3∨k=4 by have h1':2≤k:=h1;have h4':k≤4:=h4;omega) with rfl|rfl|rfl <;> rfl

def Cr.Mons (w:World) (a:Option Addr) (n:Nat) (es:List (Int × Nat)):Prop:=n=es.length∧n≤40∧∀i p,es[i]?=some p→(2≤p.1∧p.1≤4∧p.2<384)∧∃b,a=some ⟨b,0,none⟩∧b<w.heap.size∧∀j,j<11→w.cell? ⟨b,i*11+j,none⟩=some (.int .i64 (Cr.one p.1 0 p.2 j))

theorem Cr.Mons.on {w w':World} {a:Option Addr} {n:Nat} {es:List (Int × Nat)} (h:Cr.Mons w a n es) (hg:w.grownBy w' none):Cr.Mons w' a n es :=
 ⟨h.1,h.2.1,fun i p hp=>by
  obtain ⟨hk,b,ha,hb,hc⟩:=h.2.2 i p hp;exact ⟨hk,b,ha,Nat.lt_of_lt_of_le hb hg.size,fun j hj=>(gce hg b _ hb (by simp)).trans (hc j hj)⟩⟩

theorem Cr.mons_of {w:World} {b nE cE:Nat} {aE:Option Addr} {es:List (Int × Nat)} (h:w.ownsRow b 70 11 (.slice aE nE cE) nE (Gn.flat es)) (hn:nE=es.length) (h40:nE≤40) (hk:∀p,p∈es→2≤p.1∧p.1≤4∧p.2<384):Cr.Mons w aE nE es :=
 ⟨hn,h40,fun i p hp=>by
  have hlt:i<nE:=by
   rw [hn];exact (List.getElem?_eq_some_iff.1 hp).1
  obtain ⟨g,ha,hg,hc⟩:=ents_cells h hp hlt;have hk':=hk p (List.mem_of_getElem? hp);refine ⟨hk',g,ha,hg,fun j hj=>?_⟩;rw [hc j hj];have e:Gn.entCells p=(En.cells (Cr.one p.1 0 p.2)).toList:=by
   rw [←Cr.ent_cells hk'.1 hk'.2.1];rfl
  rw [e];rcases (show j=0∨j=1∨j=2∨j=3∨j=4∨j=5∨j=6∨j=7∨j=8∨j=9∨j=10 by omega) with rfl|rfl|rfl|rfl|rfl|rfl|rfl|rfl|rfl|rfl|rfl <;> rfl⟩

theorem Cr.goods_of {w:World} {b nI cI:Nat} {aI:Option Addr} {is:List Gn.Itm} (h:w.ownsRow b 72 4 (.slice aI nI cI) nI (Gn.flatI is)) (hn:nI=is.length) (h100:nI≤100):Gd.Some w aI nI (Cr.itemOf is):=by
 refine ⟨h100,?_⟩;by_cases h0:nI=0
 ·exact .inl h0
 ·have hat:∀i,i<nI→∃p,is[i]?=some p:=fun i hi=>⟨is[i]'(by omega),List.getElem?_eq_getElem _⟩;obtain ⟨p0,hp0⟩:=hat 0 (by omega);obtain ⟨g,ha,hg,-⟩:=items_cells h hp0 (by omega);refine .inr ⟨g,0,ha,h100,hg,fun i j hi hj=>?_⟩;obtain ⟨p,hp⟩:=hat i hi;obtain ⟨g',ha',_,hc⟩:=items_cells h hp hi;obtain rfl:g=g':=by
   rw [ha] at ha';simpa using ha'
  rw [Nat.zero_add,hc j hj];obtain ⟨e0,e1,e2,e3⟩:=Cr.item_at hp;rcases (show j=0∨j=1∨j=2∨j=3 by omega) with rfl|rfl|rfl|rfl
  ·rw [e0];rfl
  ·rw [e1];rfl
  ·rw [e2];rfl
  ·rw [e3];rfl

def Cr.Same (lo:Nat) (x y:World):Prop:=x.heap.size≤y.heap.size∧∀k,lo≤k→k<x.heap.size→y.heap[k]?=x.heap[k]?

theorem Cr.Same.on {lo:Nat} {x y z:World} (h:Cr.Same lo x y) (hg:y.grownBy z none):Cr.Same lo x z :=
 ⟨Nat.le_trans h.1 hg.size,fun k h1 h2=>(hg.block k (Nat.lt_of_lt_of_le h2 h.1) (by simp)).trans (h.2 k h1 h2)⟩

theorem Cr.Same.sets {lo:Nat} {x:World} {b:Nat} (hb:b<lo∨x.heap.size≤b):∀(vs:List Value) (o:Nat) {y:World},Cr.Same lo x y→Cr.Same lo x (y.setCells b o vs):=fun vs o y h=>by
 have r:=gss (g:=b) vs o y (World.grownBy.refl _ _);exact ⟨Nat.le_trans h.1 r.size,fun k h1 h2=>(r.block k (Nat.lt_of_lt_of_le h2 h.1) (by simp;omega)).trans (h.2 k h1 h2)⟩

theorem Cr.Same.set {lo:Nat} {x y:World} {b:Nat} (hb:b<lo∨x.heap.size≤b) (h:Cr.Same lo x y) (o:Nat) (u:Value):Cr.Same lo x (y.setCell ⟨b,o,none⟩ u):=by
 have r:=gs0 y b o u;exact ⟨Nat.le_trans h.1 r.size,fun k h1 h2=>(r.block k (Nat.lt_of_lt_of_le h2 h.1) (by simp;omega)).trans (h.2 k h1 h2)⟩

theorem Cr.Same.owns {lo:Nat} {x y:World} {e:TypeId} {z n:Nat} {v:Value} {xs:List Value} (h:Cr.Same lo x y) (ho:x.ownsRow lo e z v n xs):y.ownsRow lo e z v n xs:=by
 obtain ⟨h1,h2|⟨g,cap,cur,h3,h4,h5,h6⟩⟩:=ho
 ·exact ⟨h1,.inl h2⟩
 ·exact ⟨h1,.inr ⟨g,cap,cur,h3,h4,(h.2 g h4 (lt_of_block h5)).trans h5,h6⟩⟩

def Cr.Made (seed f:Int) (w:World) (e:Ending) (w':World):Prop :=
 ∃(c:Nat→Int) (es:List (Int × Nat)) (is:List Gn.Itm) (G nE nI kE kI:Nat) (aE aI:Option Addr),Cr.Lev seed f c es is∧e=.returned (.agg #[.slice (some ⟨G,0,none⟩) 384 384,.slice aE nE kE,.slice aI nI kI])∧w.heap.size≤G∧Lie w' G 5 384 (Byts c)∧Cr.Mons w' aE nE es∧Gd.Some w' aI nI (Cr.itemOf is)∧nI=is.length∧w.grownBy w' none∧∀z,Cr.Same w.heap.size w' z→Cr.Mons z aE nE es∧Gd.Some z aI nI (Cr.itemOf is)

def Cr.keptTo (I:Nat→Nat→Int) (n:Nat):Nat→Nat→Int:=fun k=>if k<n then Cr.kept I k else I k

theorem Cr.keptTo_zero (I:Nat→Nat→Int):Cr.keptTo I 0=I:=by funext k;unfold Cr.keptTo;rw [if_neg (by omega)]

theorem Cr.keptTo_at (I:Nat→Nat→Int) (n:Nat):Cr.keptTo I n n=I n:=by unfold Cr.keptTo;rw [if_neg (by omega)]

theorem Cr.keptTo_go {I:Nat→Nat→Int} {n:Nat} (h:I n 1=1∨I n 1=4):En.put (Cr.keptTo I n) n (fun _=>0)=Cr.keptTo I (n+1):=by
 funext k;by_cases e:k=n
 ·subst e;rw [En.put_same];unfold Cr.keptTo Cr.kept;rw [if_pos (by omega),if_pos h]
 ·rw [En.put_other e];unfold Cr.keptTo;by_cases hk:k<n
  ·rw [if_pos hk,if_pos (by omega)]
  ·rw [if_neg hk,if_neg (by omega)]

theorem Cr.keptTo_stay {I:Nat→Nat→Int} {n:Nat} (h:¬(I n 1=1∨I n 1=4)):Cr.keptTo I n=Cr.keptTo I (n+1):=by
 funext k;unfold Cr.keptTo;by_cases e:k=n
 ·subst e;rw [if_neg (by omega),if_pos (by omega)];unfold Cr.kept;rw [if_neg h]
 ·by_cases hk:k<n
  ·rw [if_pos hk,if_pos (by omega)]
  ·rw [if_neg hk,if_neg (by omega)]


open Go.RowKit

structure Cr.Hand (w x:World) (B gC gE gI cC cE cI:Nat) (s g c:Nat→Int) (E I:Nat→Nat→Int):Prop where
 hold:Gd.Hold x B gC gE gI cC cE cI s g c E I
 lB:w.heap.size≤B
 cap:32≤cE
 grown:w.grownBy x none

theorem Cr.Hand.on {w x y:World} {B gC gE gI cC cE cI:Nat} {s g c:Nat→Int} {E I:Nat→Nat→Int} (h:Cr.Hand w x B gC gE gI cC cE cI s g c E I) (hg:x.grownBy y none):Cr.Hand w y B gC gE gI cC cE cI s g c E I :=
 ⟨h.hold.on hg,h.lB,h.cap,gtr h.grown hg⟩

theorem Cr.Hand.folk {w x x':World} {B gC gE gI cC cE cI jE dE:Nat} {s g c:Nat→Int} {E I F:Nat→Nat→Int} (h:Cr.Hand w x B gC gE gI cC cE cI s g c E I) (hcap:32≤dE) (hj:jE=gE∨x.heap.size≤jE) (hO:Own x' jE 32 F) (hg:x.grownBy x' none) :
  Cr.Hand w (x'.setCell ⟨B,5,none⟩ (.slice (some ⟨jE,0,none⟩) 32 dE)) B gC jE gI cC dE cI s g c F I:=by
 have h1:=h.hold.box.lt;have h2:=h.hold.lists.cells.lt;have h3:=h.hold.lists.items.lt;have h5:=h.hold.bE;have h6:=h.hold.cE;have h7:=h.hold.eI;have nB:B≠jE:=by omega
 have nC:gC≠jE:=by omega
 have nI:jE≠gI:=by omega
 have r:=gs0 x' B 5 (.slice (some ⟨jE,0,none⟩) 32 dE);have hb:=((h.hold.box.on hg).store 5 (.slice (some ⟨jE,0,none⟩) 32 dE)).congr (Gd.box_5 s g gC gE gI cC cE cI jE dE);exact ⟨⟨hb,⟨(h.hold.lists.cells.on hg).grown r (by simpa using h.hold.bC),(hO.lie (m:=352) (by omega)).grown r (by simpa using nB),(h.hold.lists.items.on hg).grown r (by simpa using h.hold.bI)⟩,h.hold.bC,nB,h.hold.bI,nC,h.hold.cI,nI⟩,h.lB,hcap,gsr (gtr h.grown hg) ⟨B,5,none⟩ h.lB _⟩

theorem Cr.box_6 (s g:Nat→Int) (gC gE gI cC cE cI jI dI:Nat):∀c,c<11→(if c=6 then Value.slice (some ⟨jI,0,none⟩) 40 dI else Gd.box s gC gE gI cC cE cI g c)=Gd.box s gC gE jI cC cE dI g c:=fun c hc=>by
 rcases (show c=0∨c=1∨c=2∨c=3∨c=4∨c=5∨c=6∨c=7∨c=8∨c=9∨c=10 by omega) with rfl|rfl|rfl|rfl|rfl|rfl|rfl|rfl|rfl|rfl|rfl <;> rfl

theorem Cr.Hand.goods {w x x':World} {B gC gE gI cC cE cI jI dI:Nat} {s g c:Nat→Int} {E I J:Nat→Nat→Int} (h:Cr.Hand w x B gC gE gI cC cE cI s g c E I) (hj:x.heap.size≤jI) (hJ:Lie x' jI 72 160 (Gd.flat J)) (hg:x.grownBy x' none) :
  Cr.Hand w (x'.setCell ⟨B,6,none⟩ (.slice (some ⟨jI,0,none⟩) 40 dI)) B gC gE jI cC cE dI s g c E J:=by
 have h1:=h.hold.box.lt;have h2:=h.hold.lists.cells.lt;have h3:=h.hold.lists.ents.lt;have nB:B≠jI:=by omega
 have r:=gs0 x' B 6 (.slice (some ⟨jI,0,none⟩) 40 dI);have hb:=((h.hold.box.on hg).store 6 (.slice (some ⟨jI,0,none⟩) 40 dI)).congr (Cr.box_6 s g gC gE gI cC cE cI jI dI);exact ⟨⟨hb,⟨(h.hold.lists.cells.on hg).grown r (by simpa using h.hold.bC),(h.hold.lists.ents.on hg).grown r (by simpa using h.hold.bE),hJ.grown r (by simpa using nB)⟩,h.hold.bC,h.hold.bE,nB,h.hold.cE,by omega,by omega⟩,h.lB,h.cap,gsr (gtr h.grown hg) ⟨B,6,none⟩ h.lB _⟩

theorem Cr.Hand.num {v x:World} {B gC gE gI cC cE cI:Nat} {s g c:Nat→Int} {E I:Nat→Nat→Int} (h:Cr.Hand v x B gC gE gI cC cE cI s g c E I) (k:Nat) (hk:k<4) (u:Int):Cr.Hand v (x.setCell ⟨B,k,none⟩ (.int .i64 u)) B gC gE gI cC cE cI (Cr.num s k u) g c E I:=by
 have hh:=h.hold;refine ⟨⟨(hh.box.store k (.int .i64 u)).congr fun j hj=>?_,⟨hh.lists.cells.other hh.bC _ _,hh.lists.ents.other hh.bE _ _,hh.lists.items.other hh.bI _ _⟩,hh.bC,hh.bE,hh.bI,hh.cE,hh.cI,hh.eI⟩,h.lB,h.cap,gsr h.grown ⟨B,k,none⟩ h.lB _⟩;rcases (show k=0∨k=1∨k=2∨k=3 by omega) with rfl|rfl|rfl|rfl <;> rcases (show j=0∨j=1∨j=2∨j=3∨j=4∨j=5∨j=6∨j=7∨j=8∨j=9∨j=10 by omega) with rfl|rfl|rfl|rfl|rfl|rfl|rfl|rfl|rfl|rfl|rfl <;> rfl

theorem Cr.Hand.ground {v x x':World} {B gC gE gI cC cE cI G dC:Nat} {s g c c':Nat→Int} {E I:Nat→Nat→Int} (h:Cr.Hand v x B gC gE gI cC cE cI s g c E I) (hG:x.heap.size≤G) (hA:Lie x' G 5 384 (Byts c')) (hg:x.grownBy x' none) :
  Cr.Hand v (x'.setCell ⟨B,4,none⟩ (.slice (some ⟨G,0,none⟩) 384 dC)) B G gE gI dC cE cI s g c' E I:=by
 have hh:=(h.on hg).hold;have q1:=h.hold.box.lt;have q2:=h.hold.lists.ents.lt;have q3:=h.hold.lists.items.lt;refine ⟨⟨(hh.box.store 4 _).congr fun j hj=>?_,⟨hA.other (by omega) _ _,hh.lists.ents.other hh.bE _ _,hh.lists.items.other hh.bI _ _⟩,by omega,hh.bE,hh.bI,by omega,by omega,hh.eI⟩,h.lB,h.cap,gsr (gtr h.grown hg) ⟨B,4,none⟩ h.lB _⟩;rcases (show j=0∨j=1∨j=2∨j=3∨j=4∨j=5∨j=6∨j=7∨j=8∨j=9∨j=10 by omega) with rfl|rfl|rfl|rfl|rfl|rfl|rfl|rfl|rfl|rfl|rfl <;> rfl


open Go.RowKit

def Cr.acts (h i:Nat→Int) (b:Nat→Bool):Array Value:=#[.int .i64 (h 0),.int .i64 (i 0),.bool (b 0),.int .i64 (h 1),.int .i64 (i 1),.bool (b 1),.int .i64 (h 2),.int .i64 (i 2),.bool (b 2),.int .i64 (h 3),.int .i64 (i 3),.bool (b 3)]

def Cr.actF (h i:Nat→Int) (b:Nat→Bool) (j:Nat):Value:=if j % 3=0 then .int .i64 (h (j / 3)) else if j % 3=1 then .int .i64 (i (j / 3)) else .bool (b (j / 3))

theorem Cr.acts_lie {x:World} {A:Nat} {T:TypeId} {h i:Nat→Int} {b:Nat→Bool} (hA:x.heap[A]?=some (.cells (Cr.acts h i b) T (0,0))):Lie x A T 12 (Cr.actF h i b) :=
 Lie.congr (m:=12) (Arr.lit hA).lie fun j hj=>by
  rcases (show j=0∨j=1∨j=2∨j=3∨j=4∨j=5∨j=6∨j=7∨j=8∨j=9∨j=10∨j=11 by omega) with rfl|rfl|rfl|rfl|rfl|rfl|rfl|rfl|rfl|rfl|rfl|rfl <;> rfl

theorem Cr.acts_put {x:World} {A t:Nat} {T:TypeId} {h i:Nat→Int} {b:Nat→Bool} (hA:Lie x A T 12 (Cr.actF h i b)) (u v:Int) (c:Bool) :
  Lie (((x.setCell ⟨A,t*3,none⟩ (.int .i64 u)).setCell ⟨A,t*3+1,none⟩ (.int .i64 v)).setCell ⟨A,t*3+2,none⟩ (.bool c)) A T 12 (Cr.actF (fun k=>if k=t then u else h k) (fun k=>if k=t then v else i k) (fun k=>if k=t then c else b k)):=by
 refine (((hA.store _ _).store _ _).store _ _).congr fun j _=>?_;unfold Cr.actF;by_cases e:j / 3=t
 ·rcases (show j=t*3∨j=t*3+1∨j=t*3+2 by omega) with hj|hj|hj
  ·have h0:j % 3=0:=by omega
   rw [if_neg (by omega),if_neg (by omega),if_pos hj,if_pos h0];simp only [e,if_true]
  ·have h0:j % 3=1:=by omega
   rw [if_neg (by omega),if_pos hj,if_neg (by omega),if_pos h0];simp only [e,if_true]
  ·have h0:j % 3=2:=by omega
   rw [if_pos hj,if_neg (by omega),if_neg (by omega)];simp only [e,if_true]
 ·rw [if_neg (by omega),if_neg (by omega),if_neg (by omega)];simp only [e,if_false]

def Cr.Nums (w:World) (a:Option Addr) (n:Nat) (z:Nat→Int):Prop:=∀i,i<n→∃b o,a=some ⟨b,o,none⟩∧b<w.heap.size∧w.cell? ⟨b,o+i,none⟩=some (.int .i64 (z i))∧-9223372036854775808≤z i∧z i≤9223372036854775807

theorem Cr.Nums.on {w w':World} {a:Option Addr} {n:Nat} {z:Nat→Int} (h:Cr.Nums w a n z) (hg:w.grownBy w' none):Cr.Nums w' a n z:=fun i hi=>by
 obtain ⟨b,o,ha,hb,hc,h1,h2⟩:=h i hi;exact ⟨b,o,ha,Nat.lt_of_lt_of_le hb hg.size,(gce hg b _ hb (by simp)).trans hc,h1,h2⟩

theorem Cr.quo_wrap {u n:Int} (h1:-9223372036854775808≤u) (h2:u≤9223372036854775807) (hn:2≤n):IntKind.i64.wrap (u.tdiv n)=u.tdiv n:=by
 have key:∀v:Int,0≤v→0≤v.tdiv n∧v.tdiv n*2≤v:=fun v hv=>by
  rw [Int.tdiv_eq_ediv_of_nonneg hv];have a1:=Int.ediv_nonneg hv (show 0≤n by omega);have a2:=Int.ediv_mul_le v (show n≠0 by omega);refine ⟨a1,Int.le_trans ?_ a2⟩;exact Int.mul_le_mul_of_nonneg_left hn a1
 rw [IntKind.wrap_i64];by_cases h0:0≤u
 ·have:=key u h0;omega
 ·have h3:=key (-u) (by omega);rw [Int.neg_tdiv] at h3;omega

theorem Cr.acts_cells {x:World} {A:Nat} {T:TypeId} {h i:Nat→Int} {b:Nat→Bool} (hA:Lie x A T 12 (Cr.actF h i b)) :
  x.cell? ⟨A,0,none⟩=some (.int .i64 (h 0))∧x.cell? ⟨A,1,none⟩=some (.int .i64 (i 0))∧x.cell? ⟨A,2,none⟩=some (.bool (b 0))∧x.cell? ⟨A,3,none⟩=some (.int .i64 (h 1))∧x.cell? ⟨A,4,none⟩=some (.int .i64 (i 1))∧x.cell? ⟨A,5,none⟩=some (.bool (b 1))∧x.cell? ⟨A,6,none⟩=some (.int .i64 (h 2))∧x.cell? ⟨A,7,none⟩=some (.int .i64 (i 2))∧x.cell? ⟨A,8,none⟩=some (.bool (b 2))∧x.cell? ⟨A,9,none⟩=some (.int .i64 (h 3))∧x.cell? ⟨A,10,none⟩=some (.int .i64 (i 3))∧x.cell? ⟨A,11,none⟩=some (.bool (b 3)) :=
 ⟨hA.cell (c:=0) (by omega),hA.cell (c:=1) (by omega),hA.cell (c:=2) (by omega),hA.cell (c:=3) (by omega),hA.cell (c:=4) (by omega),hA.cell (c:=5) (by omega),hA.cell (c:=6) (by omega),hA.cell (c:=7) (by omega),hA.cell (c:=8) (by omega),hA.cell (c:=9) (by omega),hA.cell (c:=10) (by omega),hA.cell (c:=11) (by omega)⟩

end Go.Proofs.YtldgbkjceildfaaGreat
