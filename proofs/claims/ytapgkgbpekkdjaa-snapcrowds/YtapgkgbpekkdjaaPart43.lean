import Derived.Test.YtapgkgbpekkdjaaPart42
namespace Go.Proofs.Ytapgkgbpekkdjaa
open Go.RowKit

def Cr.Lev (seed f:Int) (c:Nat→Int) (es:List (Int × Nat)) (is:List Gn.Itm):Prop :=
 ∃(d:Gn.Dice) (F:Nat→Int),(∀a b n,Gn.D seed f a b n=d a b n)∧Gn.Fair d∧Gn.IsLevel d c F∧es=Gn.ents d f c F∧is=Gn.items d c

theorem Cr.Lev.floor {seed f:Int} {c:Nat→Int} {es:List (Int × Nat)} {is:List Gn.Itm} (h:Cr.Lev seed f c es is):Nv.Floor c:=by
 obtain ⟨d,F,_,hF,hL,_⟩:=h
 exact Nv.floor_of hF hL

def Cr.stockE (E:Nat→Nat→Int) (es:List (Int × Nat)):Nat→Nat→Int :=
 es.foldl (fun E p=>if En.first (En.atQ E ((p.2:Int) % 24) ((p.2:Int) / 24)) 32<0 then Cr.join E (Cr.one p.1 0 p.2) else E) E

def Cr.itemOf (is:List Gn.Itm) (i j:Nat):Int :=
 match is[i]? with
 | some p=>Gd.row p.1 p.2.1 p.2.2.1 p.2.2.2 j
 | none=>0

def Cr.stockI (I:Nat→Nat→Int) (is:List Gn.Itm):Nat→Nat→Int:=Gd.lay I (Cr.itemOf is) is.length

theorem Cr.Sane.stockE {c:Nat→Int} {I:Nat→Nat→Int}:∀(es:List (Int × Nat)) {E:Nat→Nat→Int},Cr.Sane c E I→(∀p,p∈es→2≤p.1∧p.1≤4∧p.2<384∧Gr.walkB (c p.2)=true)→Cr.Sane c (Cr.stockE E es) I
 | [],_,h,_=>h
 | p :: es,E,h,hp=>by
  obtain ⟨k2,k4,hq,hw⟩:=hp p (List.mem_cons_self ..)
  refine Cr.Sane.stockE es (E:=if En.first (En.atQ E ((p.2:Int) % 24) ((p.2:Int) / 24)) 32<0 then Cr.join E (Cr.one p.1 0 p.2) else E) ?_ (fun q hq=>hp q (List.mem_cons_of_mem _ hq))
  split
  ·rename_i hr
   exact h.join (by omega) (by omega) hq ⟨hw,hr⟩ (.inr ⟨by omega,rfl⟩)
  ·exact h

theorem Cr.Lev.mons {seed f:Int} {c:Nat→Int} {es:List (Int × Nat)} {is:List Gn.Itm} (h:Cr.Lev seed f c es is) (hf:1≤f) (p:Int × Nat) (hp:p∈es):2≤p.1∧p.1≤4∧p.2<384∧Gr.walkB (c p.2)=true:=by
 obtain ⟨d,F,_,hF,hL,rfl,_⟩:=h
 obtain ⟨i,hi⟩:=List.mem_iff_getElem?.1 hp
 obtain ⟨k2,k4,hq,hc,_⟩:=Gn.ents_at hF hf hi
 exact ⟨k2,k4,hq,by rw [hc];rfl⟩

theorem Cr.ok_lay {c:Nat→Int} {I M:Nat→Nat→Int}:∀(n:Nat),Gd.Ok c 40 I→(∀i,i<n→Gd.Placed c (Gd.row (M i 0) (M i 1) (M i 2) (M i 3)))→(∀i k,i<n→k<40→I k 1≠0→¬Gd.Share (I k) (Gd.row (M i 0) (M i 1) (M i 2) (M i 3)))→(∀i j,i<j→j<n→¬Gd.Share (Gd.row (M i 0) (M i 1) (M i 2) (M i 3)) (Gd.row (M j 0) (M j 1) (M j 2) (M j 3))) →
  Gd.Ok c 40 (Gd.lay I M n)∧∀k,k<40→(Gd.lay I M n k=I k∨∃i,i<n∧Gd.lay I M n k=Gd.row (M i 0) (M i 1) (M i 2) (M i 3))
 | 0,h,_,_,_=>⟨h,fun k _=>.inl rfl⟩
 | n+1,h,hp,hi,hm=>by
  obtain ⟨ho,hk⟩:=Cr.ok_lay n h (fun i hi'=>hp i (by omega)) (fun i k hi'=>hi i k (by omega)) (fun i j hij hj=>hm i j hij (by omega))
  unfold Gd.lay
  split
  ·rename_i hpos
   generalize (En.first (Gd.goneQ (Gd.lay I M n)) 40).toNat=r
   have hpn:=hp n (by omega)
   refine ⟨ho.put (.inr ⟨hpn,fun k hk40 _ hs=>?_⟩),fun k hk40=>?_⟩
   ·rcases hk k hk40 with e | ⟨i,hin,e⟩
    ·rw [e] at hs
     have h0:I k 1≠0:=by
      have h1:=hs.1
      rw [h1]
      exact hpn.where_ne
     exact hi n k (by omega) hk40 h0 hs
    ·rw [e] at hs
     exact hm i n hin (by omega) hs
   ·by_cases e:k=r
    ·rw [e,En.put_same];exact .inr ⟨n,by omega,rfl⟩
    ·rw [En.put_other e]
     rcases hk k hk40 with e' | ⟨i,hin,e'⟩
     ·exact .inl e'
     ·exact .inr ⟨i,by omega,e'⟩
  ·exact ⟨ho,fun k hk40=>(hk k hk40).imp id fun ⟨i,hin,e⟩=>⟨i,by omega,e⟩⟩

theorem Cr.item_at {is:List Gn.Itm} {i:Nat} {p:Gn.Itm} (h:is[i]?=some p):Cr.itemOf is i 0=p.1∧Cr.itemOf is i 1=p.2.1∧Cr.itemOf is i 2=p.2.2.1∧Cr.itemOf is i 3=p.2.2.2:=by
 unfold Cr.itemOf
 rw [h]
 exact ⟨rfl,rfl,rfl,rfl⟩

theorem Cr.Lev.items {seed f:Int} {c:Nat→Int} {es:List (Int × Nat)} {is:List Gn.Itm} (h:Cr.Lev seed f c es is):(∀(i:Nat) (p:Gn.Itm),is[i]?=some p→Gd.Placed c (Gd.row p.1 p.2.1 p.2.2.1 p.2.2.2)∧(p.2.1=1∨p.2.1=4))∧(∀(i j:Nat) (p q:Gn.Itm),i<j→is[i]?=some p→is[j]?=some q→¬(p.2.1=q.2.1∧p.2.2.1=q.2.2.1∧p.2.2.2=q.2.2.2)):=by
 obtain ⟨d,F,_,hF,hL,_,rfl⟩:=h
 have hw:∀i p,Gn.lying d c≤i→(Gn.items d c)[i]?=some p→∃j:Nat,j=i - Gn.lying d c∧j<3∧p=(1+d (50+(j:Int)) 1 3,4,(j:Int),0):=fun i p hi hp=>by
  have e:Gn.items d c=Gn.lie d 4 0 (Gn.those (fun i=>c i == 1) 384) ++ if Gr.find 384 c 5<0 then [] else Gn.wares d 3:=rfl
  rw [e,List.getElem?_append_right hi] at hp
  split at hp
  ·simp at hp
  ·unfold Gn.wares at hp
   rw [List.getElem?_map] at hp
   simp only [Option.map_eq_some_iff] at hp
   obtain ⟨j,hj,rfl⟩:=hp
   by_cases hb:i - (Gn.lie d 4 0 (Gn.those (fun i=>c i == 1) 384)).length<3
   ·rw [List.getElem?_range hb] at hj
    have hj':=Option.some.inj hj
    exact ⟨j,hj'.symm,by rw [←hj'];exact hb,rfl⟩
   ·rw [List.getElem?_eq_none (by simp;omega)] at hj
    cases hj
 refine ⟨fun i p hp=>?_,fun i j p q hij hp hq he=>?_⟩
 ·by_cases hi:i<Gn.lying d c
  ·obtain ⟨K,cl,rfl,hcl,hc1,k1,k4⟩:=Gn.items_lie hF hi hp
   refine ⟨⟨k1,k4,.inl ⟨rfl,(Gr.inB_iff _ _).2 (by show 0≤(cl:Int) % 24∧(cl:Int) % 24<24∧0≤(cl:Int) / 24∧(cl:Int) / 24<16;omega),?_⟩⟩,.inl rfl⟩
   show Gr.walkB (Gr.at 384 c ((cl:Int) % 24) ((cl:Int) / 24))=true
   rw [Gr.at_in (k:=cl) ((Gr.inB_iff _ _).2 (by omega)) (by omega),hc1]
   rfl
  ·obtain ⟨j,_,hj3,rfl⟩:=hw i p (by omega) hp
   have hd:=hF (50+(j:Int)) 1 3 (by omega)
   refine ⟨⟨?_,?_,.inr (.inr (.inr ⟨rfl,?_,?_,rfl,?_⟩))⟩,.inr rfl⟩
   ·show 1≤1+d (50+(j:Int)) 1 3;omega
   ·show 1+d (50+(j:Int)) 1 3≤4;omega
   ·show 0≤(j:Int);omega
   ·show (j:Int)<3;omega
   ·show ¬1+d (50+(j:Int)) 1 3=4;omega
 ·by_cases hj:j<Gn.lying d c
  ·exact Gn.items_apart hF hij hj hp hq he.2
  ·obtain ⟨b,hb,_,rfl⟩:=hw j q (by omega) hq
   by_cases hi:i<Gn.lying d c
   ·obtain ⟨K,cl,rfl,_⟩:=Gn.items_lie hF hi hp
    exact absurd he.1 (by show ¬(1:Int)=4;omega)
   ·obtain ⟨a,ha,_,rfl⟩:=hw i p (by omega) hp
    have h2:(a:Int)=(b:Int):=he.2.1
    omega

theorem Cr.Lev.lay {seed f:Int} {c:Nat→Int} {es:List (Int × Nat)} {is:List Gn.Itm} (h:Cr.Lev seed f c es is) {I:Nat→Nat→Int} (hI:Gd.Ok c 40 I) (hk:∀k,k<40→I k 1≠1∧I k 1≠4):Gd.Ok c 40 (Cr.stockI I is):=by
 obtain ⟨h1,h2⟩:=h.items
 have hat:∀i,i<is.length→∃p,is[i]?=some p:=fun i hi=>⟨is[i],List.getElem?_eq_getElem hi⟩
 refine (Cr.ok_lay is.length hI (fun i hi=>?_) (fun i k hi hk40 _ hs=>?_) (fun i j hij hj hs=>?_)).1
 ·obtain ⟨p,hp⟩:=hat i hi
  obtain ⟨e0,e1,e2,e3⟩:=Cr.item_at hp
  rw [e0,e1,e2,e3]
  exact (h1 i p hp).1
 ·obtain ⟨p,hp⟩:=hat i hi
  obtain ⟨e0,e1,e2,e3⟩:=Cr.item_at hp
  rw [e0,e1,e2,e3] at hs
  have hs1:I k 1=p.2.1:=hs.1
  have:=hk k hk40
  rcases (h1 i p hp).2 with h | h <;> omega
 ·obtain ⟨p,hp⟩:=hat i (by omega)
  obtain ⟨q,hq⟩:=hat j hj
  obtain ⟨e0,e1,e2,e3⟩:=Cr.item_at hp
  obtain ⟨f0,f1,f2,f3⟩:=Cr.item_at hq
  rw [e0,e1,e2,e3,f0,f1,f2,f3] at hs
  exact h2 i j p q hij hp hq hs

end Go.Proofs.Ytapgkgbpekkdjaa
