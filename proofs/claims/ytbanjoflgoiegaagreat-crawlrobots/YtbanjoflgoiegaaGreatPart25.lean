import Derived.Test.YtbanjoflgoiegaaGreatPart24
import Derived.Test.YtbanjoflgoiegaaGreatPart22
namespace Go.Proofs.YtbanjoflgoiegaaGreat
open Go.Proofs.Tryz
open Go.RowKit
variable{E I:N2}{c g s:N1}{cC cE cI gC gE gI:Nat}{w x:World}
structure Gd.yQ(w x:World)(T gC gE gI cC cE cI:Nat)(s g c:N1)(E I:N2):Prop where
 af:Gd.eE x T gC gE gI cC cE cI s g c E I
 lT:w.heap.size<=T
 lE:w.heap.size<=gE
 lI:w.heap.size<=gI
 aG:32<=cE
 grown:w.grownBy x none
theorem Gd.yQ.on{y:World}{T:Nat}(h:Gd.yQ w x T gC gE gI cC cE cI s g c E I)(hg:x.grownBy y none):Gd.yQ w y T gC gE gI cC cE cI s g c E I :=
 { h with af:=h.af.on hg,grown:=gtr h.grown hg }
theorem Gd.uv{x':World}(hgx:w.grownBy x none)(ap:32<=cE)(l1:x.heap.size<=gC)(l2:x.heap.size<=gE)(l3:x.heap.size<=gI)(n1:gC≠gE)(n2:gC≠gI)(n3:gE≠gI)(hL:Gd.av x' gC gE gI c E I)(hg:x.grownBy x' none):Gd.yQ w (x'.alloc (.cells (Gd.world s gC gE gI cC cE cI g) 30)) x'.heap.size gC gE gI cC cE cI s g c E I:=by
 have h1:=hL.cells.lt;have h2:=hL.ai.lt;have h3:=hL.aj.lt;have h4:=hgx.size;have h5:=hg.size;have _:=l1;exact⟨⟨(ax.world (abH x' _)).lie,hL.on (abE _ _ _),by omega,by omega,by omega,n1,n2,n3⟩,by omega,by omega,by omega,ap,gtr hgx (gal hg _)⟩
theorem Gd.yQ.ae{T:Nat}(h:Gd.yQ w x T gC gE gI cC cE cI s g c E I):x.cell? ⟨T,0,none⟩=some (.int .i64 (s 0))/\x.cell? ⟨T,1,none⟩=some (.int .i64 (s 1))/\x.cell? ⟨T,2,none⟩=some (.int .i64 (s 2))/\x.cell? ⟨T,3,none⟩=some (.int .i64 (s 3))/\x.cell? ⟨T,4,none⟩=some (.slice (some ⟨gC,0,none⟩) 384 cC)/\x.cell? ⟨T,5,none⟩=some (.slice (some ⟨gE,0,none⟩) 32 cE)/\x.cell? ⟨T,6,none⟩=some (.slice (some ⟨gI,0,none⟩) 40 cI)/\x.cell? ⟨T,7,none⟩=some (.int .i64 (g 0))/\x.cell? ⟨T,8,none⟩=some (.int .i64 (g 1))/\x.cell? ⟨T,9,none⟩=some (.int .i64 (g 2))/\x.cell? ⟨T,10,none⟩=some (.int .i64 (g 3)) :=
 h.af.box.ae
theorem Gd.wt(E:N2)(k j:Nat)(v:Int):Gd.set E k j v k j=v:=abP ⟨rfl,rfl⟩
theorem Gd.dq{E:N2}{k j i l:Nat}{v:Int}(h:¬(i=k/\l=j)):Gd.set E k j v i l=E i l:=abO h
def En.mP(g:Int):Nat->Int:=fun j=>if j=1 then g else 0
theorem zn(b n c k:Nat)(E:N2)(w:World)(hE:fG w b n E)(hc:n<=c)(hk:k<n):Calls prog 105 #[.slice (some ⟨b,0,none⟩) n c,.int .i64 (k:Int)] w (av w n (En.put E k (En.mP (E k 1)))):=by
 have hn:=hE.1;have cr:∀x:World,Calls prog 145 #[.slice (some ⟨b,0,none⟩) n c,.int .i64 (k:Int)] x fun e w'=>e=.returned (.bool true)/\w'=x:=fun x=>by
  have:=yi (some ⟨b,0,none⟩) n c (k:Int) x hn hc
  rwa [show En.tC n (k:Int)=true from abJ (by omega)]at this
 have cw:=aa (IA b n c k E (En.mP (E k 1)) w hE hk);have u1:w.cell? ⟨b,k*11+1,none⟩=some (.int .i64 (E k 1)):=hE.2.2 k 1 hk (by omega);have jy:(k:Int)<(n:Int):=by omega
 clear hE;go_enter func105,ntmps105;go_wp2_with (go_at_call 145;refine abW (cr _) ?_);refine(uh cw).mono ?_;rintro _ w1 ⟨g,aG,rfl,ah⟩;have gh:=aa ah;clear ah u1;go_wp2;go_ret;exact⟨g,aG,rfl,uh gh⟩
namespace Ft
variable{E I:N2}{c:N1}{k:Nat}
def bJ(E:N2)(row:Int):Bool:=decide (0<=row/\row<32)&&decide (E row.toNat 0≠0)
theorem ib(hk:k<32):bJ E (k:Int)=decide (E k 0≠0):=by
 unfold bJ;rw[abG,abJ (by omega)];rfl
theorem lc{row:Int}(h:bJ E row=true):∃k:Nat,k<32/\row=(k:Int)/\E k 0≠0:=by
 unfold bJ at h;simp only[Bool.and_eq_true,decide_eq_true_eq]at h;exact⟨row.toNat,by omega,by omega,h.2⟩
def cW(E:N2)(k:Nat)(n:Int):Nat->Nat->Int:=if n<E k 5 then Gd.set E k 5 (E k 5-n)else En.put E k (En.mP (E k 1))
def jD(E I:N2)(k:Nat)(n:Int):Nat->Nat->Int:=if n<E k 5 then I else if E k 0=1 then Gd.lZ I (E k 2)else I
def hE(E:N2)(row n:Int):Nat->Nat->Int:=if bJ E row=true/\1<=n then cW E row.toNat n else E
def hI(E I:N2)(row n:Int):Nat->Nat->Int:=if bJ E row=true/\1<=n then jD E I row.toNat n else I
def IE(E I:N2)(k:Nat):Int:=E k 7+if E k 0=1 then Gd.fF (Gd.wornK I (E k 2) 2 40)else 0
def guard(E I:N2)(k:Nat):Int:=E k 8+if E k 0=1 then Gd.jS (Gd.wornK I (E k 2) 3 40)else 0
def dW(s:N1)(E I:N2)(f t:Nat):Int:=max 1 (IE E I f-guard E I t)+Dc.kK 3 (s 0) [s 1,(f:Int),(t:Int),77]
def fj(s:N1)(E:N2)(f t:Nat):Nat->Nat->Int :=
 if E f 0=4 then Gd.set E t 9 (min (E t 9+3) 9)
 else if E f 0=3/\Dc.kK 4 (s 0) [s 1,(f:Int),(t:Int),78]=0 then Gd.set E t 10 (min (E t 10+2) 9)else E
def kH(s:N1)(E I:N2)(f t:Nat):Nat->Nat->Int :=
 if cW E t (dW s E I f t) t 0≠0 then fj s (cW E t (dW s E I f t)) f t else cW E t (dW s E I f t)
def ls(s:N1)(E I:N2)(f t:Nat):Nat->Nat->Int:=jD E I t (dW s E I f t)
def lM(s:N1)(E I:N2)(f t:Int):Nat->Nat->Int:=if bJ E f=true/\bJ E t=true then kH s E I f.toNat t.toNat else E
def mO(s:N1)(E I:N2)(f t:Int):Nat->Nat->Int:=if bJ E f=true/\bJ E t=true then ls s E I f.toNat t.toNat else I
def bT(E:N2)(k:Nat):Nat->Nat->Int:=if 0<E k 10 then Gd.set E k 10 (E k 10-1)else E
def ef(E:N2)(k:Nat):Nat->Nat->Int:=Gd.set E k 9 (E k 9-1)
def np(E:N2)(k:Nat):Nat->Nat->Int:=if 0<E k 9 then cW (ef (bT E k) k) k 1 else bT E k
def rR(E I:N2)(k:Nat):Nat->Nat->Int:=if 0<E k 9 then jD (ef (bT E k) k) I k 1 else I
def ailE(E I:N2):Nat->(Nat->Nat->Int) × (Nat->Nat->Int)
 | 0=>(E,I)
 | m+1=>if (ailE E I m).1 m 0≠0 then(np (ailE E I m).1 m,rR (ailE E I m).1 (ailE E I m).2 m)else ailE E I m
def qf(e:N1):Prop:=0<=e 1/\e 1<=255 /\
 ((∀j,j<11->j≠1->e j=0)\/(1<=e 0/\e 0<=4/\1<=e 5/\e 5<=e 6/\e 6<=20/\0<=e 7/\e 7<=5/\0<=e 8/\e 8<=1/\0<=e 9/\e 9<=9/\0<=e 10/\e 10<=9))
structure mH(c:N1)(E I:N2):Prop where
 cells:∀i,0<=c i/\c i<=255
 ok:Gd.Ok c 40 I
 ix:∀k,k<32->qf (E k)
theorem qf.ia{e:N1}(h:qf e)(h0:e 0≠0):1<=e 0/\e 0<=4/\1<=e 5/\e 5<=e 6/\e 6<=20/\0<=e 7/\e 7<=5/\0<=e 8/\e 8<=1/\0<=e 9/\e 9<=9/\0<=e 10/\e 10<=9:=by
 rcases h.2.2 with hz|ht
 ·exact absurd (hz 0 (by omega) (by omega)) h0
 ·exact ht
theorem Iq{g:Int}(h0:0<=g)(h9:g<=255):qf (En.mP g) :=
 ⟨h0,h9,.inl fun _ _ hj=>abO hj⟩
theorem kS(E:N2)(k j:Nat)(v:Int)(i:Nat)(h:i≠k):Gd.set E k j v i=E i:=by
 funext l;exact Gd.dq (by omega)
theorem mH.put(h:mH c E I){e:N1}(he:qf e):mH c (En.put E k e) I :=
 ⟨h.cells,h.ok,fun i hi=>by
  by_cases x:i=k
  ·rw[x,En.aB];exact he
  ·rw[En.ak x];exact h.ix i hi⟩
theorem mH.set(h:mH c E I){j:Nat}{v:Int}(he:qf (Gd.set E k j v k)):mH c (Gd.set E k j v) I :=
 ⟨h.cells,h.ok,fun i hi=>by
  by_cases x:i=k
  ·rw[x];exact he
  ·rw[kS E k j v i x];exact h.ix i hi⟩
theorem mH.G5(h:mH c E I)(hk:k<32)(h0:E k 0≠0){n:Int}(hn:1<=n):mH c (cW E k n) (jD E I k n):=by
 have hr:=h.ix k hk;have ht:=hr.ia h0;unfold cW jD;by_cases hlt:n<E k 5
 ·rw[abP hlt,abP hlt];refine h.set ⟨?_,?_,.inr ?_⟩
  ·rw[Gd.dq (by omega)];exact hr.1
  ·rw[Gd.dq (by omega)];exact hr.2.1
  ·rw[Gd.wt,Gd.dq (show¬(k=k/\0=5) by omega),Gd.dq (show¬(k=k/\6=5) by omega),Gd.dq (show¬(k=k/\7=5) by omega),Gd.dq (show¬(k=k/\8=5) by omega),Gd.dq (show¬(k=k/\9=5) by omega),Gd.dq (show¬(k=k/\10=5) by omega)];omega
 ·rw[abO hlt,abO hlt];have hp:=h.put (k:=k) (Iq hr.1 hr.2.1);by_cases h1:E k 0=1
  ·rw[abP h1];exact { hp with ok:=h.ok.lZ _ }
  ·rw[abO h1];exact hp
theorem JC(E:N2){i:Nat}(n:Int)(h:i≠k):cW E k n i=E i:=by
 unfold cW;split
 ·exact kS E k 5 _ i h
 ·exact En.ak h
theorem yf{n:Int}(h0:E k 0≠0):cW E k n k 0≠0↔n<E k 5:=by
 unfold cW;by_cases hlt:n<E k 5
 ·rw[abP hlt,Gd.dq (by omega)];exact⟨fun _=>hlt,fun _=>h0⟩
 ·rw[abO hlt,En.aB];exact⟨fun h=>absurd rfl h,fun h=>absurd h hlt⟩
theorem mH.gN(h:mH c E I){j:Nat}(hk:k<32)(h0:E k 0≠0)(hj:j=9\/j=10){v:Int}(v0:0<=v)(v9:v<=9):mH c (Gd.set E k j v) I:=by
 have hr:=h.ix k hk;have ht:=hr.ia h0;have e:∀l,l≠j->Gd.set E k j v k l=E k l:=fun l hl=>Gd.dq (by omega);refine h.set ⟨?_,?_,.inr ?_⟩
 ·rw[e 1 (by omega)];exact hr.1
 ·rw[e 1 (by omega)];exact hr.2.1
 ·rw[e 0 (by omega),e 5 (by omega),e 6 (by omega),e 7 (by omega),e 8 (by omega)];rcases hj with rfl|rfl
  ·rw[Gd.wt,e 10 (by omega)];omega
  ·rw[Gd.wt,e 9 (by omega)];omega
theorem mH.OO(h:mH c E I){t:Nat}(ht:t<32)(h0:E t 0≠0)(s:N1)(f:Nat):mH c (fj s E f t) I:=by
 have hx:=(h.ix t ht).ia h0;unfold fj;split
 ·exact h.gN ht h0 (.inl rfl) (by omega) (by omega)
 ·split
  ·exact h.gN ht h0 (.inr rfl) (by omega) (by omega)
  ·exact h
theorem sD(s:N1)(E I:N2)(f t:Nat):1<=dW s E I f t:=by
 unfold dW;have:=(Dc.uU 3 (s 0) [s 1,(f:Int),(t:Int),77] (by omega)).1;omega
theorem mH.IK(h:mH c E I)(s:N1)(f t:Int):mH c (lM s E I f t) (mO s E I f t):=by
 unfold lM mO;by_cases hc:bJ E f=true/\bJ E t=true
 ·rw[abP hc,abP hc];obtain⟨k,hk,rfl,rJ⟩:=lc hc.2;rw[abG];have hh:=h.G5 hk rJ (sD s E I f.toNat k);unfold kH ls;split
  ·rename_i h0;exact hh.OO hk h0 s f.toNat
  ·exact hh
 ·rw[abO hc,abO hc];exact h
theorem i9(E:N2)(k l:Nat)(hl:l≠10):bT E k k l=E k l:=by
 unfold bT;split
 ·exact Gd.dq (by omega)
 ·rfl
theorem mH.X1(h:mH c E I)(hk:k<32)(h0:E k 0≠0):mH c (bT E k) I:=by
 have ht:=(h.ix k hk).ia h0;unfold bT;split
 ·exact h.gN hk h0 (.inr rfl) (by omega) (by omega)
 ·exact h
theorem mH.bo(h:mH c E I)(hk:k<32)(h0:E k 0≠0):mH c (np E k) (rR E I k):=by
 have ht:=(h.ix k hk).ia h0;have hs:=h.X1 hk h0;unfold np rR;split
 ·have Gz:bT E k k 0≠0:=by rw[i9 E k 0 (by omega)];exact h0
  have hp:mH c (ef (bT E k) k) I:=hs.gN hk Gz (.inl rfl) (by rw[i9 E k 9 (by omega)];omega) (by rw[i9 E k 9 (by omega)];omega);exact hp.G5 hk (by unfold ef;rw[Gd.dq (by omega)];exact Gz) (by omega)
 ·exact hs
theorem mH.IT{c:N1}{E I:N2}(h:mH c E I):∀m,m<=32->mH c (ailE E I m).1 (ailE E I m).2
 | 0,_=>h
 | m+1,hm=>by
  have ih:=h.IT m (by omega)
  unfold ailE
  split
  ·rename_i h0
   exact ih.bo (by omega) h0
  ·exact ih
end Ft
structure Md.mJ(c:N1)(E I:N2):Prop where
 tV:Md.oF E
 rl:En.sn 32 E
 l8:Nv.uJ 32 E
 ok:Gd.Ok c 40 I
theorem Md.QM{c:N1}{E I:N2}(hE:Md.oF E)(hz:∀k,k<32->(0<=E k 1/\E k 1<=255)/\(E k 0=0->E k 3=0/\E k 4=0))(P6:Gd.Ok c 40 I):Md.mJ c E I :=
 ⟨hE,fun k hk=>(hz k hk).1,fun k hk=>by
  by_cases k0:E k 0=0
  ·have:=(hz k hk).2 k0
   omega
  ·have:=hE k hk k0
   omega,P6⟩
