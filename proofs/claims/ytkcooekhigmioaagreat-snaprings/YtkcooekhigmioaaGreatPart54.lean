import Derived.Test.YtkcooekhigmioaaGreatPart41
import Derived.Test.YtkcooekhigmioaaGreatPart53
namespace Go.Proofs.YtkcooekhigmioaaGreat
open Go.RowKit

theorem Sn.rb_types {x:World} {b p m:Nat} {F:Nat→Value} (hB:Lie x p 92 m F):∀k cs T,Sn.rb x b p k→x.heap[k]?=some (.cells cs T (0,0))→T=92∨T=93:=by
 rintro k cs T (rfl | ⟨_,cs2,q⟩) hc
 ·obtain ⟨cs2,hc2⟩:=hB.block
  rw [hc2] at hc
  simp only [Option.some.injEq,Obj.cells.injEq] at hc
  exact .inl hc.2.1.symm
 ·rw [q] at hc
  simp only [Option.some.injEq,Obj.cells.injEq] at hc
  exact .inr hc.2.1.symm

theorem Sn.eqw_world {S T:Cr.W} (h:Sn.Eqw S T) (gC gE gI cC cE cI:Nat):Gd.world S.s gC gE gI cC cE cI S.g=Gd.world T.s gC gE gI cC cE cI T.g:=by
 unfold Gd.world
 rw [h.1 0 (by omega),h.1 1 (by omega),h.1 2 (by omega),h.1 3 (by omega),h.2.1 0 (by omega),h.2.1 1 (by omega),h.2.1 2 (by omega),h.2.1 3 (by omega)]

theorem Sn.eqw_lists {S T:Cr.W} (h:Sn.Eqw S T) {x:World} {gC gE gI:Nat} (H:Gd.Lists x gC gE gI S.c S.E S.I):Gd.Lists x gC gE gI T.c T.E T.I:=by
 refine ⟨H.cells.congr fun k hk=>?_,H.ents.congr fun k hk=>?_,H.items.congr fun k hk=>?_⟩
 ·unfold Byts
  rw [h.2.2.1 k hk]
 ·unfold En.flat
  rw [h.2.2.2.1 (k / 11) (by omega) (k % 11) (by omega)]
 ·unfold Gd.flat
  rw [h.2.2.2.2 (k / 4) (by omega) (k % 4) (by omega)]

structure Sn.Core (w x:World) (B p n base:Nat) (vS:Value) (seed:Int) (L:List (List Value)) (Ls:List Nat) (Hs:List Sn.Hd):Prop where
 ring:∃v Us,Sn.Rng x B p n v Us Ls.length∧Sn.Line x B Us Ls Hs
 few:Ls.length≤n
 book:Sn.Book w x base vS seed L
 grown:w.grownBy x none
 byte:∀h∈Hs,∀i,0≤h.W.c i∧h.W.c i≤255
 high:w.heap.size≤B

theorem Sn.Book.turned {P:Nat→Prop} {w x y:World} {base:Nat} {v:Value} {seed:Int} {L:List (List Value)} (H:Sn.Book w x base v seed L) (ht:Turn P x y) (hv:∀k,v.ownBlock=some k→¬P k) (hP:∀k cs T,P k→x.heap[k]?=some (.cells cs T (0,0))→T≠5∧T≠70∧T≠72):Sn.Book w y base v seed L:=by
 refine ⟨Sn.owns_turned H.own ht hv,fun k cs h=>?_⟩
 obtain ⟨S,gC,gE,gI,cC,cE,cI,e,hL,rest⟩:=H.page k cs h
 exact ⟨S,gC,gE,gI,cC,cE,cI,e,hL.turned ht hP,rest⟩

theorem Sn.Core.turn {P:Nat→Prop} {w x y:World} {B p n base:Nat} {vS:Value} {seed:Int} {L:List (List Value)} {Ls:List Nat} {Hs:List Sn.Hd} (H:Sn.Core w x B p n base vS seed L Ls Hs) (ht:Turn P x y) (hT:∀k cs T,P k→x.heap[k]?=some (.cells cs T (0,0))→T=31∨T=3) (hv:∀k,vS.ownBlock=some k→¬P k) (hw:∀k,P k→w.heap.size≤k):Sn.Core w y B p n base vS seed L Ls Hs:=by
 obtain ⟨v,Us,hR,hl⟩:=H.ring
 refine ⟨⟨v,Us,hR.turn ht fun k cs T q hc=>?_,hl.turn ht fun k cs T q hc=>?_⟩,H.few,H.book.turned ht hv fun k cs T q hc=>?_,Turn.grownBy ((Turn.new (B:=fun _=>False) H.grown).trans ht (fun i hi e=>by have:=hw i e;omega)),H.byte,H.high⟩
 all_goals
  rcases hT k cs T q hc with rfl | rfl
  ·decide
  ·decide

theorem Sn.Core.on {w x y:World} {B p n base:Nat} {vS:Value} {seed:Int} {L:List (List Value)} {Ls:List Nat} {Hs:List Sn.Hd} (H:Sn.Core w x B p n base vS seed L Ls Hs) (hg:x.grownBy y none):Sn.Core w y B p n base vS seed L Ls Hs :=
 H.turn (P:=fun _=>False) (Turn.new hg) (fun _ _ _ q=>q.elim) (fun _ _ q=>q) (fun _ q=>q.elim)

theorem Sn.Core.last {w x:World} {B p n base:Nat} {vS:Value} {seed:Int} {L:List (List Value)} {Ls:List Nat} {Hs:List Sn.Hd} (H:Sn.Core w x B p n base vS seed L Ls Hs):∃P,Hs[Ls.length]?=some P∧P∈Hs∧Gd.Lists x P.gC P.gE P.gI P.W.c P.W.E P.W.I∧Hs.length=Ls.length+1:=by
 obtain ⟨v,Us,hR,hl⟩:=H.ring
 have e:Hs[Ls.length]?=some (Hs[Ls.length]'(by rw [hl.lenH];omega)):=List.getElem?_eq_getElem (by rw [hl.lenH];omega)
 exact ⟨_,e,List.mem_of_getElem? e,hl.list _ (List.mem_of_getElem? e),hl.lenH⟩

theorem Sn.Core.rest {w x y:World} {B p n base m:Nat} {vS:Value} {seed:Int} {L:List (List Value)} {Ls:List Nat} {Hs:List Sn.Hd} {F:Nat→Value} (H:Sn.Core w x B p n base vS seed L Ls Hs) (hB:Lie x p 92 m F) (hp:B≤p) (ht:Turn (Sn.rb x B p) x y):Sn.Book w y base vS seed L∧w.grownBy y none∧(∀{Us Ls' Hs'},Sn.Line x B Us Ls' Hs'→Sn.Line y B Us Ls' Hs')∧(∀{b e z v k xs},e≠92→e≠93→OwnsOff x b e z v k xs→OwnsOff y b e z v k xs)∧∀{G q:Nat} {T:TypeId} {F:Nat→Value},Lie x G T q F→T≠92→T≠93→Lie y G T q F:=by
 have hty:=Sn.rb_types (b:=B) hB
 refine ⟨H.book.turned ht (fun k e q=>?_) (fun k cs T q hc=>?_),Turn.grownBy ((Turn.new (B:=fun _=>False) H.grown).trans ht (fun i hi e=>?_)),fun hl=>hl.turn ht fun k cs T q hc=>?_,fun h1 h2 ho=>ho.kept fun k e=>?_,fun hl h1 h2=>hl.turn ht fun q=>?_⟩
 ·obtain ⟨cs,hc⟩:=Sn.own_block H.book.own e
  rcases hty k cs _ q hc with e | e
  ·exact absurd e (by decide)
  ·exact absurd e (by decide)
 ·rcases hty k cs T q hc with rfl | rfl
  ·decide
  ·decide
 ·have hh:=H.high
  rcases e with rfl | ⟨e,_⟩
  ·omega
  ·omega
 ·rcases hty k cs T q hc with rfl | rfl
  ·decide
  ·decide
 ·obtain ⟨_,h3,cur,h4⟩:=ho.lt k e
  exact ht.block k h3 fun q=>by
   rcases hty k cur _ q h4 with e | e
   ·exact h1 e
   ·exact h2 e
 ·obtain ⟨cs,hc⟩:=hl.block
  rcases hty _ cs _ q hc with e | e
  ·exact h1 e
  ·exact h2 e

theorem Sn.Core.push {w x:World} {B p n base:Nat} {vS:Value} {seed:Int} {L:List (List Value)} {Ls:List Nat} {Hs:List Sn.Hd} (H:Sn.Core w x B p n base vS seed L Ls Hs) (hBx:B≤x.heap.size) (h1:1≤n) (hn:n≤64) {P Q:Sn.Hd} (hP:Hs[Ls.length]?=some P) (hQ:Gd.Lists x Q.gC Q.gE Q.gI Q.W.c Q.W.E Q.W.I) (hQb:∀i,0≤Q.W.c i∧Q.W.c i≤255) :
  Calls Tryz.prog 23 #[.pointer (some ⟨p,0,none⟩),.agg (Gd.world P.W.s P.gC P.gE P.gI P.cC P.cE P.cI P.W.g),.agg (Gd.world Q.W.s Q.gC Q.gE Q.gI Q.cC Q.cE Q.cI Q.W.g)] x fun e y =>
   e=.returned (.int .i64 ((Sn.rw P.W.s Q.W.s P.W.g Q.W.g P.W.c Q.W.c P.W.E Q.W.E P.W.I Q.W.I).length:Int)) ∧
   ((Ls.length<n∧Sn.Core w y B p n base vS seed L (Ls ++ [(Sn.rw P.W.s Q.W.s P.W.g Q.W.g P.W.c Q.W.c P.W.E Q.W.E P.W.I Q.W.I).length]) (Hs ++ [Q]))∨(Ls.length=n∧Sn.Core w y B p n base vS seed L ((Ls ++ [(Sn.rw P.W.s Q.W.s P.W.g Q.W.g P.W.c Q.W.c P.W.E Q.W.E P.W.I Q.W.I).length]).drop 1) ((Hs ++ [Q]).drop 1)))∧Turn (Sn.rb x B p) x y∧∃m F,Lie x p 92 m F∧B≤p:=by
 obtain ⟨v,Us,hR,hl⟩:=H.ring
 have hLP:=hl.list P (List.mem_of_getElem? hP)
 refine (push_any B p n Ls.length v Us P.W Q.W P.gC P.gE P.gI P.cC P.cE P.cI Q.gC Q.gE Q.gI Q.cC Q.cE Q.cI x hR hBx h1 hn H.few hLP hQ).mono ?_
 rintro e y ⟨u,v',rfl,hF,ht,hcase⟩
 obtain ⟨r1,r2,r3,r4,r5⟩:=H.rest hR.box hR.low ht
 have hQy:Gd.Lists y Q.gC Q.gE Q.gI Q.W.c Q.W.E Q.W.I:=⟨r5 hQ.cells (by decide) (by decide),r5 hQ.ents (by decide) (by decide),r5 hQ.items (by decide) (by decide)⟩
 have hl2:=(r3 hl).push hP hF hQy
 have hby:∀h∈Hs ++ [Q],∀i,0≤h.W.c i∧h.W.c i≤255:=fun h q=>by
  rcases List.mem_append.1 q with q | q
  ·exact H.byte h q
  ·simp at q;subst q;exact hQb
 refine ⟨rfl,?_,ht,_,_,hR.box,hR.low⟩
 rcases hcase with ⟨h2,h3⟩ | ⟨h2,h3⟩
 ·exact .inl ⟨h2,⟨v',_,by rw [List.length_append];exact h3,hl2⟩,by rw [List.length_append];exact h2,r1,r2,hby,H.high⟩
 ·refine .inr ⟨h2,⟨v',_,?_,hl2.tail (by simp)⟩,by rw [List.length_drop,List.length_append];simp;omega,r1,r2,fun h q=>hby h (List.mem_of_mem_drop q),H.high⟩
  rw [List.length_drop,List.length_append]
  simp only [List.length_cons,List.length_nil,Nat.zero_add,Nat.add_sub_cancel]
  rw [h2]
  exact h3

theorem Sn.Core.back {w x:World} {B p n base:Nat} {vS:Value} {seed:Int} {L:List (List Value)} {Ls:List Nat} {Hs:List Sn.Hd} (H:Sn.Core w x B p n base vS seed L Ls Hs) (hn:n≤64) {P T:Sn.Hd} (hP:Hs[Ls.length]?=some P) {b:Nat} (hb:b≤Ls.length) (hT:Hs[Ls.length - b]?=some T) :
  Calls Tryz.prog 27 #[.pointer (some ⟨p,0,none⟩),.agg (Gd.world P.W.s P.gC P.gE P.gI P.cC P.cE P.cI P.W.g),.int .i64 (b:Int)] x fun e y =>
   ∃jC jE jI dC dE dI,e=.returned (.tuple #[.agg (Gd.world T.W.s jC jE jI dC dE dI T.W.g),.int .i64 0])∧Gd.Lists y jC jE jI T.W.c T.W.E T.W.I∧Sn.Core w y B p n base vS seed L (Ls.take (Ls.length - b)) (Hs.take (Ls.length - b+1))∧Turn (Sn.rb x B p) x y∧∃m F,Lie x p 92 m F∧B≤p:=by
 obtain ⟨v,Us,hR,hl⟩:=H.ring
 have hLP:=hl.list P (List.mem_of_getElem? hP)
 have key:=back_any B p n Ls.length b v Us (fun k=>((Hs[k]?).getD P).W) (fun k=>(Ls[k]?).getD 0) P.W P.gC P.gE P.gI P.cC P.cE P.cI x hR (fun k u hu=>by
  have hk:k<Ls.length:=by rw [←hl.lenU];exact (List.getElem?_eq_some_iff.1 hu).1
  have e1:Ls[k]?=some Ls[k]:=List.getElem?_eq_getElem hk
  have e2:Hs[k]?=some (Hs[k]'(by rw [hl.lenH];omega)):=List.getElem?_eq_getElem (by rw [hl.lenH];omega)
  have e3:Hs[k+1]?=some (Hs[k+1]'(by rw [hl.lenH];omega)):=List.getElem?_eq_getElem (by rw [hl.lenH];omega)
  simp only [e1,e2,e3,Option.getD_some]
  exact hl.frm k u _ _ _ hu e1 e2 e3) (by have:=H.few;omega) hb hLP (by simp only [hP,Option.getD_some];exact Sn.Eqw.refl _)
 refine key.mono ?_
 rintro e y ⟨S,jC,jE,jI,dC,dE,dI,v',rfl,hE,hL,hR2,ht⟩
 obtain ⟨r1,r2,r3,r4,r5⟩:=H.rest hR.box hR.low ht
 simp only [hT,Option.getD_some] at hE
 refine ⟨jC,jE,jI,dC,dE,dI,by rw [Sn.eqw_world hE],Sn.eqw_lists hE hL,⟨⟨v',_,?_,(r3 hl).take (by omega)⟩,by rw [List.length_take];have:=H.few;omega,r1,r2,fun h q=>H.byte h (List.mem_of_mem_take q),H.high⟩,ht,_,_,hR.box,hR.low⟩
 rw [List.length_take,Nat.min_eq_left (by omega)]
 exact hR2

theorem Sn.Core.old {w x:World} {B p n base:Nat} {vS:Value} {seed:Int} {L:List (List Value)} {Ls:List Nat} {Hs:List Sn.Hd} (H:Sn.Core w x B p n base vS seed L Ls Hs) (P:Sn.Hd) {b:Int} (hb:b<0∨(Ls.length:Int)<b) :
  Calls Tryz.prog 27 #[.pointer (some ⟨p,0,none⟩),.agg (Gd.world P.W.s P.gC P.gE P.gI P.cC P.cE P.cI P.W.g),.int .i64 b] x fun e y=>e=.returned (.tuple #[.agg Sn.void,.int .i64 19])∧x.grownBy y none:=by
 obtain ⟨v,Us,hR,hl⟩:=H.ring
 have c1:=hR.box.cell (c:=1) (by omega)
 obtain ⟨a,cap,rfl⟩:∃a cap,v=.slice a Ls.length cap:=by
  rcases hR.own.2 with ⟨rfl,h0⟩ | ⟨g,cap,cur,rfl,_⟩
  ·exact ⟨none,0,by rw [h0]⟩
  ·exact ⟨_,cap,rfl⟩
 exact back_old p Ls.length cap a b _ _ _ _ _ _ _ _ x c1 (by unfold Sn.inB;simp;omega)

theorem Sn.Core.len {w x:World} {B p n base:Nat} {vS:Value} {seed:Int} {L:List (List Value)} {Ls:List Nat} {Hs:List Sn.Hd} (H:Sn.Core w x B p n base vS seed L Ls Hs) :
  Calls Tryz.prog 25 #[.pointer (some ⟨p,0,none⟩)] x fun e y=>e=.returned (.int .i64 (Ls.length:Int))∧y=x:=by
 obtain ⟨v,Us,hR,hl⟩:=H.ring
 have c1:=hR.box.cell (c:=1) (by omega)
 obtain ⟨a,cap,rfl⟩:∃a cap,v=.slice a Ls.length cap:=by
  rcases hR.own.2 with ⟨rfl,h0⟩ | ⟨g,cap,cur,rfl,_⟩
  ·exact ⟨none,0,by rw [h0]⟩
  ·exact ⟨_,cap,rfl⟩
 exact lenRing_any p Ls.length cap a x c1

theorem Sn.Core.stored {w x:World} {B p n base:Nat} {vS:Value} {seed:Int} {L:List (List Value)} {Ls:List Nat} {Hs:List Sn.Hd} (H:Sn.Core w x B p n base vS seed L Ls Hs) (hn:n≤64) :
  Calls Tryz.prog 26 #[.pointer (some ⟨p,0,none⟩)] x fun e y=>e=.returned (.int .i64 (Sn.sum (fun k=>(Ls[k]?).getD 0) Ls.length:Int))∧y=x:=by
 obtain ⟨v,Us,hR,hl⟩:=H.ring
 refine stored_any B p n Ls.length v Us (fun k=>(Ls[k]?).getD 0) x hR (by have:=H.few;omega) fun k u hu=>?_
 have hk:k<Ls.length:=by rw [←hl.lenU];exact (List.getElem?_eq_some_iff.1 hu).1
 have e1:Ls[k]?=some Ls[k]:=List.getElem?_eq_getElem hk
 have e2:Hs[k]?=some (Hs[k]'(by rw [hl.lenH];omega)):=List.getElem?_eq_getElem (by rw [hl.lenH];omega)
 have e3:Hs[k+1]?=some (Hs[k+1]'(by rw [hl.lenH];omega)):=List.getElem?_eq_getElem (by rw [hl.lenH];omega)
 obtain ⟨a,cp,l,fs,e,_,_,_,h74,_⟩:=hl.frm k u _ _ _ hu e1 e2 e3
 simp only [e1,Option.getD_some]
 exact ⟨a,cp,e,h74⟩

theorem Sn.Core.small {w x:World} {B p n base:Nat} {vS:Value} {seed:Int} {L:List (List Value)} {Ls:List Nat} {Hs:List Sn.Hd} (H:Sn.Core w x B p n base vS seed L Ls Hs):∀(k l:Nat),Ls[k]?=some l→l≤74:=by
 intro k l e1
 obtain ⟨v,Us,hR,hl⟩:=H.ring
 have hk:k<Ls.length:=(List.getElem?_eq_some_iff.1 e1).1
 have e2:Hs[k]?=some (Hs[k]'(by rw [hl.lenH];omega)):=List.getElem?_eq_getElem (by rw [hl.lenH];omega)
 have e3:Hs[k+1]?=some (Hs[k+1]'(by rw [hl.lenH];omega)):=List.getElem?_eq_getElem (by rw [hl.lenH];omega)
 have e0:Us[k]?=some (Us[k]'(by rw [hl.lenU];exact hk)):=List.getElem?_eq_getElem (by rw [hl.lenU];exact hk)
 obtain ⟨a,cp,l',fs,e,_,_,_,h74,_⟩:=hl.frm k _ _ _ _ e0 e1 e2 e3
 exact h74

theorem OwnsOff.form {w:World} {base:Nat} {e:TypeId} {size:Nat} {v:Value} {n:Nat} {xs:List Value} (h:OwnsOff w base e size v n xs):∃a c,v=.slice a n c∧n≤c∧c≤maxLen:=by
 rcases h.2 with ⟨rfl,rfl⟩ | ⟨g,o,cap,cur,rfl,_,_,h1,h2,_⟩
 ·exact ⟨none,0,rfl,Nat.le_refl _,Nat.zero_le _⟩
 ·exact ⟨_,cap,rfl,h1,h2⟩

theorem Sn.held_at {x:World} {base o g cap:Nat} {Hs:List Sn.Hd} (h:OwnsOff x base 31 11 (.slice (some ⟨g,o,none⟩) Hs.length cap) Hs.length (Sn.hflat Hs)) {k:Nat} {P:Sn.Hd} (hP:Hs[k]?=some P):∀j,j<11→x.cell? ⟨g,o+k*11+j,none⟩=some (Gd.box P.W.s P.gC P.gE P.gI P.cC P.cE P.cI P.W.g j):=by
 intro j hj
 have hk:k<Hs.length:=(List.getElem?_eq_some_iff.1 hP).1
 obtain ⟨g',o',cap',e,_,_,_,_,hc,_⟩:=h.at (by omega)
 simp only [Value.slice.injEq,Option.some.injEq,Addr.mk.injEq,and_true,true_and] at e
 obtain ⟨⟨rfl,rfl⟩,_⟩:=e
 have:=hc (k*11+j) _ (Sn.hflat_at hP hj)
 rw [←Nat.add_assoc] at this
 exact this

theorem Sn.Core.grow {w x y:World} {B p n base:Nat} {vS:Value} {seed:Int} {L:List (List Value)} {Ls:List Nat} {Hs:List Sn.Hd} (H:Sn.Core w x B p n base vS seed L Ls Hs) {b z k:Nat} {e:TypeId} {v:Value} {xs:List Value} (ho:OwnsOff x b e z v k xs) (he:e=31∨e=3) (hb:w.heap.size≤b) (hvS:∀k,vS.ownBlock=some k→k<b) (hg:x.grownBy y v.ownBlock):Sn.Core w y B p n base vS seed L Ls Hs:=by
 refine H.turn (P:=fun k=>v.ownBlock=some k) (Turn.grown hg (fun k e=>e)) (fun k cs T q hc=>?_) (fun k e q=>?_) (fun k q=>?_)
 ·obtain ⟨_,_,cur,h4⟩:=ho.lt k q
  rw [h4] at hc
  simp only [Option.some.injEq,Obj.cells.injEq] at hc
  rw [←hc.2.1]
  exact he
 ·have h1:=hvS k e
  have h2:=(ho.lt k q).1
  omega
 ·have h2:=(ho.lt k q).1
  omega

theorem OwnsOff.other {x y:World} {b z k:Nat} {e:TypeId} {v:Value} {xs:List Value} (ho:OwnsOff x b e z v k xs) {b' z' k':Nat} {e':TypeId} {v':Value} {xs':List Value} (h2:OwnsOff x b' e' z' v' k' xs') (hne:e≠e') (hg:x.grownBy y v.ownBlock):OwnsOff y b' e' z' v' k' xs':=by
 refine h2.kept fun k q=>hg.block k (h2.lt k q).2.1 fun e=>?_
 obtain ⟨_,_,cur,h4⟩:=h2.lt k q
 obtain ⟨_,_,cur',h5⟩:=ho.lt k e.symm
 rw [h4] at h5
 simp only [Option.some.injEq,Obj.cells.injEq] at h5
 exact hne h5.2.1.symm

theorem OwnsOff.on {x y:World} {b z k:Nat} {e:TypeId} {v:Value} {xs:List Value} (ho:OwnsOff x b e z v k xs) (hg:x.grownBy y none):OwnsOff y b e z v k xs :=
 ho.kept fun k q=>hg.block k (ho.lt k q).2.1 (by simp)

theorem OwnsOff.cut {w:World} {base:Nat} {e:TypeId} {size:Nat} {a:Option Addr} {n cap k:Nat} {xs:List Value} (h:OwnsOff w base e size (.slice a n cap) n xs) (h1:k≤n):OwnsOff w base e size (.slice a k cap) k (xs.take (k*size)):=by
 cases a with
 | some ad =>
  rcases h.2 with ⟨e,_⟩ | ⟨g,o,cap',cur,e,_⟩
  ·cases e
  ·simp only [Value.slice.injEq,Option.some.injEq,true_and] at e
   obtain ⟨rfl,rfl⟩:=e
   exact h.head h1
 | none =>
  rcases h.2 with ⟨e,h0⟩ | ⟨g,o,cap',cur,e,_⟩
  ·simp only [Value.slice.injEq,true_and] at e
   obtain ⟨rfl,rfl⟩:=e
   obtain rfl:k=0:=by omega
   refine ⟨by simp,.inl ⟨rfl,rfl⟩⟩
  ·cases e

end Go.Proofs.YtkcooekhigmioaaGreat
