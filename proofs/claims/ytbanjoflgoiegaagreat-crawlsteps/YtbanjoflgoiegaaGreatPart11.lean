import Derived.Test.YtbanjoflgoiegaaGreatPart09
import Derived.Test.YtbanjoflgoiegaaGreatPart10
set_option maxHeartbeats 1600000
namespace Go.Proofs.YtbanjoflgoiegaaGreat
open Go.Proofs.Tryz
open Go.RowKit
variable{B b cC cE cI g gC gE gI m n:Nat}{E I:N2}{F:Nat->Value}{T:TypeId}{c s:N1}{w x y:World}
def ay(x:World)(g:Nat)(T:TypeId)(m:Nat)(F:Nat->Value):Prop:=∃M G,ax x g T M G/\m<=M/\∀c,c<m->G c=F c
theorem ax.lie(h:ax x g T m F):ay x g T m F:=⟨m,F,h,abL _,fun _ _=>rfl⟩
theorem ay.cell(h:ay x g T m F){c:Nat}(hc:c<m):x.cell? ⟨g,c,none⟩=some (F c):=by
 obtain⟨M,G,hA,hm,he⟩:=h;rw[hA.cell (i:=c) (by omega),he c hc]
theorem ay.free(h:ay x g T m F)(i:Nat):x.frozen? ⟨g,i,none⟩=false:=by
 obtain⟨M,G,hA,_,_⟩:=h;exact hA.free i
theorem ay.lt(h:ay x g T m F):g<x.heap.size:=by
 obtain⟨M,G,hA,_,_⟩:=h;exact hA.lt
theorem ay.congr{G:Nat->Value}(h:ay x g T m F)(he:∀c,c<m->F c=G c):ay x g T m G:=by
 obtain⟨M,K,hA,hm,hk⟩:=h;exact⟨M,K,hA,hm,fun c hc=>(hk c hc).trans (he c hc)⟩
theorem ay.grown{r:Option Nat}(h:ay x g T m F)(hg:x.grownBy y r)(hr:r≠some g):ay y g T m F:=by
 obtain⟨M,K,hA,hm,hk⟩:=h;exact⟨M,K,hA.grown hg hr,hm,hk⟩
theorem ay.on(h:ay x g T m F)(hg:x.grownBy y none):ay y g T m F:=h.grown hg (by simp)
theorem ay.aP(h:ay x g T m F){p:Nat}(hp:p≠g)(i:Nat)(u:Value):ay (x.setCell ⟨p,i,none⟩ u) g T m F :=
 h.grown (gs0 x p i u) (by simpa using hp)
theorem ay.aQ(h:ay x g T m F){p:Nat}(hp:p≠g)(o:Nat)(vs:List Value):ay (x.setCells p o vs) g T m F :=
 h.grown (gss vs o x (abF _ _)) (by simpa using hp)
theorem ay.store(h:ay x g T m F)(i:Nat)(u:Value):ay (x.setCell ⟨g,i,none⟩ u) g T m (fun j=>if j=i then u else F j):=by
 obtain⟨M,K,hA,hm,hk⟩:=h;refine⟨M,_,hA.store i u,hm,fun c hc=>?_⟩;show(if c=i then u else K c)=_;rw[hk c hc]
theorem ay.kl(h:ay x g T m F)(o:Nat)(vs:List Value):ay (x.setCells g o vs) g T m (fun j=>if o<=j/\j<o+vs.length then vs[j-o]?.getD undef else F j):=by
 obtain⟨M,K,hA,hm,hk⟩:=h;refine⟨M,_,hA.kl vs o,hm,fun c hc=>?_⟩;show(if o<=c/\c<o+vs.length then vs[c-o]?.getD undef else K c)=_;rw[hk c hc]
def Gd.cells(r:N1):Array Value:=#[.int .i64 (r 0),.int .i64 (r 1),.int .i64 (r 2),.int .i64 (r 3)]
def Gd.aL(I:N2):Nat->Value:=fun c=>.int .i64 (I (c/4) (c%4))
theorem Gd.qY(I:N2)(i j:Nat)(hj:j<4):Gd.aL I (i*4+j)=.int .i64 (I i j):=by
 unfold Gd.aL;rw[show(i*4+j)/4=i by omega,show(i*4+j)%4=j by omega]
def wN(w:World)(b o n:Nat)(I:N2):Prop:=n<=100/\b<w.heap.size/\∀i j,i<n->j<4->w.cell? ⟨b,o+i*4+j,none⟩=some (.int .i64 (I i j))
theorem wN.on{w':World}{o:Nat}(h:wN w b o n I)(hg:w.grownBy w' none):wN w' b o n I :=
 ⟨h.1,abR h.2.1 hg.size,fun i j hi hj=>(gce hg b _ h.2.1 (by simp)).trans (h.2.2 i j hi hj)⟩
theorem wN.row(h:wN w b 0 n I){k:Nat}(hk:k<n):w.cell? ⟨b,k*4,none⟩=some (.int .i64 (I k 0))/\w.cell? ⟨b,k*4+1,none⟩=some (.int .i64 (I k 1))/\w.cell? ⟨b,k*4+2,none⟩=some (.int .i64 (I k 2))/\w.cell? ⟨b,k*4+3,none⟩=some (.int .i64 (I k 3)):=by
 have:=fun j hj=>h.2.2 k j hk hj;simp only[Nat.zero_add]at this;exact⟨this 0 (by omega),this 1 (by omega),this 2 (by omega),this 3 (by omega)⟩
theorem ay.fo(h:ay x g T m (Gd.aL I))(hm:n*4=m)(hn:n<=100):wN x g 0 n I :=
 ⟨hn,h.lt,fun i j hi hj=>by rw[Nat.zero_add,h.cell (c:=i*4+j) (by omega),Gd.qY I i j hj]⟩
theorem ay.own(h:ay x g 54 m (En.aL E))(hm:n*11=m)(hn:n<=32):fg x g n E:=by
 obtain⟨M,K,hA,hl,hk⟩:=h;exact⟨hn,M,K,hA,by omega,fun c hc=>hk c (by omega)⟩
theorem fg.lie(h:fg x g n E)(hm:n*11=m):ay x g 54 m (En.aL E):=by
 obtain⟨_,M,K,hA,hl,hk⟩:=h;exact⟨M,K,hA,by omega,fun c hc=>hk c (by omega)⟩
theorem Gd.uS(r:N1)(j:Nat)(hj:j<4):(Gd.cells r).toList[j]?.getD undef=.int .i64 (r j):=by
 rcases(show j=0\/j=1\/j=2\/j=3 by omega)with rfl|rfl|rfl|rfl <;> rfl
theorem ay.Mc(h:ay x g T m (Gd.aL I))(k:Nat)(r:N1):ay (x.setCells g (k*4) (Gd.cells r).toList) g T m (Gd.aL (En.put I k r)):=by
 refine(h.kl (k*4) (Gd.cells r).toList).congr fun c hc=>?_;show(if k*4<=c/\c<k*4+4 then(Gd.cells r).toList[c-k*4]?.getD undef else Gd.aL I c)=Gd.aL (En.put I k r) c;unfold Gd.aL;by_cases hk:k*4<=c/\c<k*4+4
 ·rw[abP hk,Gd.uS r _ (by omega),show c/4=k by omega,En.aB,show c-k*4=c%4 by omega]
 ·rw[abO hk,En.ak (by omega)]
def Gd.set(I:N2)(k j:Nat)(v:Int):Nat->Nat->Int:=fun i l=>if i=k/\l=j then v else I i l
theorem ay.field(h:ay x g T m (Gd.aL I))(k j:Nat)(hj:j<4)(v:Int):ay (x.setCell ⟨g,k*4+j,none⟩ (.int .i64 v)) g T m (Gd.aL (Gd.set I k j v)):=by
 refine(h.store (k*4+j) (.int .i64 v)).congr fun c hc=>?_;unfold Gd.aL Gd.set;by_cases hk:c=k*4+j
 ·rw[abP hk,abP ⟨by omega,by omega⟩]
 ·rw[abO hk,abO (by omega)]
theorem ay.gN(h:ay x g T m (En.aL E))(k j:Nat)(hj:j<11)(v:Int):ay (x.setCell ⟨g,k*11+j,none⟩ (.int .i64 v)) g T m (En.aL (Gd.set E k j v)):=by
 refine(h.store (k*11+j) (.int .i64 v)).congr fun c hc=>?_;unfold En.aL Gd.set;by_cases hk:c=k*11+j
 ·rw[abP hk,abP ⟨by omega,by omega⟩]
 ·rw[abO hk,abO (by omega)]
def Gd.box(s:N1)(gC gE gI:Nat)(cC cE cI:Nat)(g:N1):Nat->Value
 | 0=>.int .i64 (s 0)
 | 1=>.int .i64 (s 1)
 | 2=>.int .i64 (s 2)
 | 3=>.int .i64 (s 3)
 | 4=>.slice (some ⟨gC,0,none⟩) 384 cC
 | 5=>.slice (some ⟨gE,0,none⟩) 32 cE
 | 6=>.slice (some ⟨gI,0,none⟩) 40 cI
 | 7=>.int .i64 (g 0)
 | 8=>.int .i64 (g 1)
 | 9=>.int .i64 (g 2)
 | 10=>.int .i64 (g 3)
 | _=>undef
def Gd.world(s:N1)(gC gE gI:Nat)(cC cE cI:Nat)(g:N1):Array Value :=
 #[.int .i64 (s 0),.int .i64 (s 1),.int .i64 (s 2),.int .i64 (s 3),.slice (some ⟨gC,0,none⟩) 384 cC,.slice (some ⟨gE,0,none⟩) 32 cE,.slice (some ⟨gI,0,none⟩) 40 cI,.int .i64 (g 0),.int .i64 (g 1),.int .i64 (g 2),.int .i64 (g 3)]
theorem Gd.wK(s:N1)(gC gE gI cC cE cI:Nat)(g:N1)(j:Nat)(hj:j<11):(Gd.world s gC gE gI cC cE cI g)[j]?=some (Gd.box s gC gE gI cC cE cI g j):=by
 rcases(show j=0\/j=1\/j=2\/j=3\/j=4\/j=5\/j=6\/j=7\/j=8\/j=9\/j=10 by omega)with rfl|rfl|rfl|rfl|rfl|rfl|rfl|rfl|rfl|rfl|rfl <;> rfl
theorem ax.world{g:N1}(h:w.heap[B]?=some (.cells (Gd.world s gC gE gI cC cE cI g) 30 (0,0))):ax w B 30 11 (Gd.box s gC gE gI cC cE cI g) :=
 ⟨_,h,rfl,fun i hi=>Gd.wK s gC gE gI cC cE cI g i hi⟩
def Gd.jw(g:N1)(k:Nat)(v:Int):Nat->Int:=fun i=>if i=k then v else g i
theorem ay.ir{g:N1}(h:ay x B T 11 (Gd.box s gC gE gI cC cE cI g))(k:Nat)(hk:k<4)(v:Int):ay (x.setCell ⟨B,7+k,none⟩ (.int .i64 v)) B T 11 (Gd.box s gC gE gI cC cE cI (Gd.jw g k v)):=by
 refine(h.store (7+k) (.int .i64 v)).congr fun c hc=>?_;rcases(show k=0\/k=1\/k=2\/k=3 by omega)with rfl|rfl|rfl|rfl <;>
 rcases(show c=0\/c=1\/c=2\/c=3\/c=4\/c=5\/c=6\/c=7\/c=8\/c=9\/c=10 by omega)with rfl|rfl|rfl|rfl|rfl|rfl|rfl|rfl|rfl|rfl|rfl <;> rfl
theorem Gd.jv(s:N1)(gC gE gI cC cE cI:Nat)(g:N1)(k:Nat)(hk:k<4):Gd.box s gC gE gI cC cE cI g (7+k)=.int .i64 (g k):=by
 rcases(show k=0\/k=1\/k=2\/k=3 by omega)with rfl|rfl|rfl|rfl <;> rfl
structure Gd.av(x:World)(gC gE gI:Nat)(c:N1)(E I:N2):Prop where
 cells:ay x gC 5 384 (aZ c)
 ai:ay x gE 54 352 (En.aL E)
 aj:ay x gI 62 160 (Gd.aL I)
theorem Gd.av.on(h:Gd.av x gC gE gI c E I)(hg:x.grownBy y none):Gd.av y gC gE gI c E I :=
 ⟨h.cells.on hg,h.ai.on hg,h.aj.on hg⟩
theorem Gd.av.fo(h:Gd.av x gC gE gI c E I):wN x gI 0 40 I:=h.aj.fo (by omega) (by omega)
theorem Gd.av.own(h:Gd.av x gC gE gI c E I):fg x gE 32 E:=h.ai.own (by omega) (by omega)
theorem Gd.av.lg(h:Gd.av x gC gE gI c E I):il x.heap.size x (some ⟨gC,0,none⟩) 384 (aZ c) :=
 ⟨by unfold maxLen;omega,.inr ⟨gC,0,rfl,h.cells.lt,fun i hi=>by rw[Nat.zero_add];exact h.cells.cell hi⟩⟩
structure Gd.eE(x:World)(B gC gE gI:Nat)(cC cE cI:Nat)(s:N1)(g:N1)(c:N1)(E I:N2):Prop where
 box:ay x B 30 11 (Gd.box s gC gE gI cC cE cI g)
 ab:Gd.av x gC gE gI c E I
 bC:B≠gC
 bE:B≠gE
 bI:B≠gI
 cE:gC≠gE
 cI:gC≠gI
 eI:gE≠gI
theorem Gd.eE.on{g:N1}(h:Gd.eE x B gC gE gI cC cE cI s g c E I)(hg:x.grownBy y none):Gd.eE y B gC gE gI cC cE cI s g c E I :=
 { h with box:=h.box.on hg,ab:=h.ab.on hg }
theorem Gd.eE.aj{g:N1}{J:N2}(h:Gd.eE x B gC gE gI cC cE cI s g c E I)(hg:x.grownBy y (some gI))(hI:ay y gI 62 160 (Gd.aL J)):Gd.eE y B gC gE gI cC cE cI s g c E J :=
 { h with box:=h.box.grown hg (by simpa using h.bI.symm),ab:=⟨h.ab.cells.grown hg (by simpa using h.cI.symm),h.ab.ai.grown hg (by simpa using h.eI.symm),hI⟩ }
theorem Gd.eE.ai{g:N1}{F:N2}(h:Gd.eE x B gC gE gI cC cE cI s g c E I)(hg:x.grownBy y (some gE))(hE:ay y gE 54 352 (En.aL F)):Gd.eE y B gC gE gI cC cE cI s g c F I :=
 { h with box:=h.box.grown hg (by simpa using h.bE.symm),ab:=⟨h.ab.cells.grown hg (by simpa using h.cE.symm),hE,h.ab.aj.grown hg (by simpa using h.eI)⟩ }
theorem Gd.eE.ir{g:N1}(h:Gd.eE x B gC gE gI cC cE cI s g c E I)(k:Nat)(hk:k<4)(v:Int):Gd.eE (x.setCell ⟨B,7+k,none⟩ (.int .i64 v)) B gC gE gI cC cE cI s (Gd.jw g k v) c E I :=
 { h with box:=h.box.ir k hk v,ab:=⟨h.ab.cells.aP h.bC _ _,h.ab.ai.aP h.bE _ _,h.ab.aj.aP h.bI _ _⟩ }
def Gd.fk(m:Nat)(F:Nat->Value):List Value:=(List.range m).map F
theorem Gd.aX(m:Nat)(F:Nat->Value):(Gd.fk m F).length=m:=by simp[Gd.fk]
theorem Gd.jH{c:Nat}(hc:c<m):(Gd.fk m F)[c]?=some (F c):=by
 unfold Gd.fk;rw[List.getElem?_map,List.getElem?_range hc];rfl
theorem Gd.dK(h:∀c,(F c).oneCell'=true):∀v∈Gd.fk m F,v.oneCell'=true:=by
 intro v hv;unfold Gd.fk at hv;obtain⟨c,_,rfl⟩:=List.mem_map.1 hv;exact h c
theorem Gd.fw(h:∀c,c<m->w.cell? ⟨b,c,none⟩=some (F c)):∀j v,(Gd.fk m F)[j]?=some v->w.cell? ((⟨b,0,none⟩:Addr).add j)=some v:=by
 intro j v hj;have hlt:j<m:=by
  have:=(List.getElem?_eq_some_iff.1 hj).1
  rwa [Gd.aX]at this
 rw[Gd.jH hlt]at hj;rw[show(⟨b,0,none⟩:Addr).add j=⟨b,j,none⟩ by rw[Go.WideShapes.add_plain,Nat.zero_add],h j hlt];exact hj
theorem ax.kR(h:w.heap[g]?=some (.cells (Gd.fk m F).toArray T (0,0))):ax w g T m F:=by
 refine⟨_,h,by simp[Gd.aX],fun c hc=>?_⟩;rw[List.getElem?_toArray,Gd.jH hc]
def nF(w:World)(T:TypeId)(n m:Nat)(F:Nat->Value)(e:Ending)(w':World):Prop :=
 ∃g,e=.returned (.slice (some ⟨g,0,none⟩) n n)/\w.heap.size<=g/\ax w' g T m F/\w.grownBy w' none
theorem xA(b n m cp:Nat)(F:Nat->Value)(w:World)(hn:n<=1000)(hm:m=n*1)(h1:∀c,(F c).oneCell'=true)(hF:∀c,c<m->w.cell? ⟨b,c,none⟩=some (F c))(hb:b<w.heap.size):Calls prog 178 #[.slice (some ⟨b,0,none⟩) n cp] w (nF w 5 n m F):=by
 have iU:=aa hF;have ot:=aa h1;obtain⟨i0,hi,dJ,dz,ed⟩:=info_parts kX;have eC:(prog.info? 5).map (·.size)=some 1:=by rw[hi];simp[dz]
 clear hF h1;go_enter func178,ntmps178;go_wp2_with (at_make;refine wpList_make_full _ rfl _ _ 25 rfl w.heap.size 5 i0 (.int .u8 0) 1 underlying25 hi dJ dz .i64 .i64 _ _ n rfl rfl rfl rfl ?q3 ?q4 ?q5 ?_)
 any_goals (first| (rw[ed];omega)|(unfold maxLen;omega)|exact abL _)
 intro w1 aH az;obtain⟨cD,hg,fp⟩:∃cD,w1.heap[w.heap.size]?=some (.cells cD 5 (0,0))/\cD.size=n*1:=by
  rcases aH.2 with⟨h',_⟩|⟨g',oN,cD,h',_,hg,_,_,fp,_⟩
  ·simp at h'
  ·simp only[Value.slice.injEq,Option.some.injEq,Addr.mk.injEq,and_true,true_and]at h';obtain⟨rfl,rfl⟩:=h';exact⟨cD,hg,fp⟩
 have nQ:=aa hg;have dk:=aa az;have nd:=aa fp;clear aH hg az fp hi dJ dz ed;obtain⟨w2,nS,bZ,gu⟩:=cX 25 25 3 5 underlying25 1 eC w.heap.size n n ⟨b,0,none⟩ cp cD _ (uh nQ) (Gd.fk m F) ((Gd.aX m F).trans hm) (Gd.fw fun c hc=>(gce (uh dk) b c hb (by simp)).trans (uh iU c hc)) (by rw[Gd.aX,uh nd,hm]) (Gd.dK (uh ot));have ah:=aa (ax.kR bZ);have iR:=aa (show w.grownBy w2 none from gow (uh dk) gu (fun k e=>by cases e;exact abL _));clear bZ gu hb hm hn eC;go_wp2;go_ret;exact⟨w.heap.size,rfl,abL _,uh ah,uh iR⟩
theorem FL(b n m cp:Nat)(F:Nat->Value)(w:World)(hn:n<=1000)(hm:m=n*11)(h1:∀c,(F c).oneCell'=true)(hF:∀c,c<m->w.cell? ⟨b,c,none⟩=some (F c))(hb:b<w.heap.size):Calls prog 179 #[.slice (some ⟨b,0,none⟩) n cp] w (nF w 54 n m F):=by
 have iU:=aa hF;have ot:=aa h1;obtain⟨i0,hi,dJ,dz,ed⟩:=info_parts gl;have eC:(prog.info? 54).map (·.size)=some 11:=by rw[hi];simp[dz]
 clear hF h1;go_enter func179,ntmps179;go_wp2_with (at_make;refine wpList_make_full _ rfl _ _ 26 rfl w.heap.size 54 i0 (.agg #[.int .i64 0,.int .i64 0,.int .i64 0,.int .i64 0,.int .i64 0,.int .i64 0,.int .i64 0,.int .i64 0,.int .i64 0,.int .i64 0,.int .i64 0]) 11 underlying26 hi dJ dz .i64 .i64 _ _ n rfl rfl rfl rfl ?q3 ?q4 ?q5 ?_)
 any_goals (first| (rw[ed];omega)|(unfold maxLen;omega)|exact abL _)
 intro w1 aH az;obtain⟨cD,hg,fp⟩:∃cD,w1.heap[w.heap.size]?=some (.cells cD 54 (0,0))/\cD.size=n*11:=by
  rcases aH.2 with⟨h',_⟩|⟨g',oN,cD,h',_,hg,_,_,fp,_⟩
  ·simp at h'
  ·simp only[Value.slice.injEq,Option.some.injEq,Addr.mk.injEq,and_true,true_and]at h';obtain⟨rfl,rfl⟩:=h';exact⟨cD,hg,fp⟩
 have nQ:=aa hg;have dk:=aa az;have nd:=aa fp;clear aH hg az fp hi dJ dz ed;obtain⟨w2,nS,bZ,gu⟩:=cX 26 26 3 54 underlying26 11 eC w.heap.size n n ⟨b,0,none⟩ cp cD _ (uh nQ) (Gd.fk m F) ((Gd.aX m F).trans hm) (Gd.fw fun c hc=>(gce (uh dk) b c hb (by simp)).trans (uh iU c hc)) (by rw[Gd.aX,uh nd,hm]) (Gd.dK (uh ot));have ah:=aa (ax.kR bZ);have iR:=aa (show w.grownBy w2 none from gow (uh dk) gu (fun k e=>by cases e;exact abL _));clear bZ gu hb hm hn eC;go_wp2;go_ret;exact⟨w.heap.size,rfl,abL _,uh ah,uh iR⟩
theorem qc(b n m cp:Nat)(F:Nat->Value)(w:World)(hn:n<=1000)(hm:m=n*4)(h1:∀c,(F c).oneCell'=true)(hF:∀c,c<m->w.cell? ⟨b,c,none⟩=some (F c))(hb:b<w.heap.size):Calls prog 106 #[.slice (some ⟨b,0,none⟩) n cp] w (nF w 62 n m F):=by
 have iU:=aa hF;have ot:=aa h1;obtain⟨i0,hi,dJ,dz,ed⟩:=info_parts jh;have eC:(prog.info? 62).map (·.size)=some 4:=by rw[hi];simp[dz]
 clear hF h1;go_enter func106,ntmps106;go_wp2_with (at_make;refine wpList_make_full _ rfl _ _ 27 rfl w.heap.size 62 i0 (.agg #[.int .i64 0,.int .i64 0,.int .i64 0,.int .i64 0]) 4 underlying27 hi dJ dz .i64 .i64 _ _ n rfl rfl rfl rfl ?q3 ?q4 ?q5 ?_)
 any_goals (first| (rw[ed];omega)|(unfold maxLen;omega)|exact abL _)
 intro w1 aH az;obtain⟨cD,hg,fp⟩:∃cD,w1.heap[w.heap.size]?=some (.cells cD 62 (0,0))/\cD.size=n*4:=by
  rcases aH.2 with⟨h',_⟩|⟨g',oN,cD,h',_,hg,_,_,fp,_⟩
  ·simp at h'
  ·simp only[Value.slice.injEq,Option.some.injEq,Addr.mk.injEq,and_true,true_and]at h';obtain⟨rfl,rfl⟩:=h';exact⟨cD,hg,fp⟩
 have nQ:=aa hg;have dk:=aa az;have nd:=aa fp;clear aH hg az fp hi dJ dz ed;obtain⟨w2,nS,bZ,gu⟩:=cX 27 27 3 62 underlying27 4 eC w.heap.size n n ⟨b,0,none⟩ cp cD _ (uh nQ) (Gd.fk m F) ((Gd.aX m F).trans hm) (Gd.fw fun c hc=>(gce (uh dk) b c hb (by simp)).trans (uh iU c hc)) (by rw[Gd.aX,uh nd,hm]) (Gd.dK (uh ot));have ah:=aa (ax.kR bZ);have iR:=aa (show w.grownBy w2 none from gow (uh dk) gu (fun k e=>by cases e;exact abL _));clear bZ gu hb hm hn eC;go_wp2;go_ret;exact⟨w.heap.size,rfl,abL _,uh ah,uh iR⟩
theorem run_eq_place(a b c a' b' c':Int)(w:World):(binOp .eql 189 (.agg #[.int .i64 a,.int .i64 b,.int .i64 c]) (.agg #[.int .i64 a',.int .i64 b',.int .i64 c'])).run prog w=.ok (.bool (decide (a=a')&&(decide (b=b')&&decide (c=c')))) w:=by
 by_cases h1:a=a' <;> by_cases h2:b=b' <;> by_cases h3:c=c' <;> simp[go_sem,h1,h2,h3]
theorem run_eq_item(k a b c k' a' b' c':Int)(w:World):(binOp .eql 62 (.agg #[.int .i64 k,.int .i64 a,.int .i64 b,.int .i64 c]) (.agg #[.int .i64 k',.int .i64 a',.int .i64 b',.int .i64 c'])).run prog w=.ok (.bool (decide (k=k')&&(decide (a=a')&&(decide (b=b')&&decide (c=c'))))) w:=by
 by_cases h0:k=k' <;> by_cases h1:a=a' <;> by_cases h2:b=b' <;> by_cases h3:c=c' <;> simp[go_sem,h0,h1,h2,h3]
theorem oR(k p a b:Int)(w:World):Calls prog 192 #[.agg #[.int .i64 k,.int .i64 p,.int .i64 a,.int .i64 b]] w (aJ w (.agg #[.int .i64 p,.int .i64 a,.int .i64 b])):=by
 have hg:=aa (fun (o1 o2:Obj)=>gal (abE w o1 none) o2);go_enter func192,ntmps192;go_wp2;refine abN (v:=.agg #[.int .i64 p,.int .i64 a,.int .i64 b]) (by simp[results,results192,go_sem]) rfl ?_;exact⟨rfl,uh hg _ _⟩
theorem kY(k p a b p' a' b':Int)(w:World):Calls prog 183 #[.agg #[.int .i64 k,.int .i64 p,.int .i64 a,.int .i64 b],.agg #[.int .i64 p',.int .i64 a',.int .i64 b']] w (aJ w (.agg #[.int .i64 k,.int .i64 p',.int .i64 a',.int .i64 b'])):=by
 have hg:=aa (fun (o1 o2 o3:Obj)=>gal (gal (abE w o1 none) o2) o3);go_enter func183,ntmps183;go_wp2;refine abN (v:=.agg #[.int .i64 k,.int .i64 p',.int .i64 a',.int .i64 b']) (by simp[results,results183,go_sem]) rfl ?_;exact⟨rfl,uh hg _ _ _⟩
theorem wL(ag bD:Int)(h0:0<=bD)(h1:bD<=100)(w:World):Calls prog 193 #[.int .i64 ag,.int .i64 bD] w (aJ w (.agg #[.int .i64 3,.int .i64 ag,.int .i64 (bD-2)])):=by
 have hg:=aa (fun (o1:Obj)=>abE w o1 none);go_enter func193,ntmps193;go_wp2;refine abN (v:=.agg #[.int .i64 3,.int .i64 ag,.int .i64 (bD-2)]) (by simp[results,results193,go_sem]) rfl ?_;exact⟨rfl,uh hg _⟩
theorem yx(k p a b:Int)(w:World):Calls prog 182 #[.agg #[.int .i64 k,.int .i64 p,.int .i64 a,.int .i64 b]] w (aJ w (.int .i64 (if p=4 then 5 else 0))):=by
 have hg:=aa (fun (o1:Obj)=>abE w o1 none);by_cases h:p=4
 ·rw[abP h];go_enter func182,ntmps182;go_wp2;go_ret;exact⟨rfl,uh hg _⟩
 ·rw[abO h];go_enter func182,ntmps182;go_wp2;go_ret;exact⟨rfl,uh hg _⟩
def Gd.g5(k input:Int):Bool:=if input=6 then decide (k=1)else if input=7 then decide (k=2)||decide (k=3)else true
theorem J4(k input:Int)(w:World):Calls prog 194 #[.int .i64 k,.int .i64 input] w fun e w'=>e=.returned (.bool (Gd.g5 k input))/\w'=w:=by
 unfold Gd.g5;by_cases h6:input=6
 ·rw[abP h6];go_enter func194,ntmps194;go_wp2;go_ret;exact⟨rfl,rfl⟩
 ·rw[abO h6];by_cases h7:input=7
  ·rw[abP h7];by_cases h2:k=2
   ·subst h2;go_enter func194,ntmps194;go_wp2;go_ret;exact⟨rfl,rfl⟩
   ·rw[abI h2];by_cases h3:k=3
    ·subst h3;go_enter func194,ntmps194;go_wp2;go_ret;exact⟨rfl,rfl⟩
    ·rw[abI h3];have NL:(k==2)=false:=(by simp[h2]);have Sm:(k==3)=false:=(by simp[h3]);go_enter func194,ntmps194;go_wp2;go_ret;exact⟨by simp,rfl⟩
  ·rw[abO h7];go_enter func194,ntmps194;go_wp2;go_ret;exact⟨rfl,rfl⟩
def Gd.zU(s:Int):Bool:=decide (0<=s/\s<4)
theorem JN(s:Int)(w:World):Calls prog 169 #[.int .i64 s] w fun e w'=>e=.returned (.bool (Gd.zU s))/\w'=w:=by
 unfold Gd.zU;by_cases h0:0<=s
 ·have e:decide (0<=s/\s<4)=decide (s<4):=by simp[h0]
  rw[e];go_enter func169,ntmps169;go_wp2;go_ret;exact⟨rfl,rfl⟩
 ·have e:decide (0<=s/\s<4)=false:=by simp[h0]
  rw[e];go_enter func169,ntmps169;go_wp2;go_ret;exact⟨rfl,rfl⟩
def Gd.pd(k p a b:Int):Bool:=decide (k=0/\p=0/\a=0/\b=0)
theorem JM(w:World):Calls prog 107 #[.agg #[.int .i64 0,.int .i64 0,.int .i64 0,.int .i64 0]] w (aJ w (.bool true)):=by
 have hg:=aa (fun (o1:Obj)=>abE w o1 none);go_enter func107,ntmps107;go_wp2;go_ret;exact⟨rfl,uh hg _⟩
theorem Mb(k p a b:Int)(h:Gd.pd k p a b=false)(w:World):Calls prog 107 #[.agg #[.int .i64 k,.int .i64 p,.int .i64 a,.int .i64 b]] w (aJ w (.bool false)):=by
 have hg:=aa (fun (o1:Obj)=>abE w o1 none);have h':¬(k=0/\p=0/\a=0/\b=0):=of_decide_eq_false h;have e:=aa h';clear h h';go_enter func107,ntmps107;go_wp2
 all_goals first| exact absurd (And.intro ‹k=0› (And.intro ‹p=0› (And.intro ‹a=0› ‹b=0›))) (uh e)|(go_ret;exact⟨rfl,uh hg _⟩)
theorem JL(k p a b:Int)(w:World):Calls prog 107 #[.agg #[.int .i64 k,.int .i64 p,.int .i64 a,.int .i64 b]] w (aJ w (.bool (Gd.pd k p a b))):=by
 by_cases h:Gd.pd k p a b=true
 ·rw[h];obtain⟨rfl,rfl,rfl,rfl⟩:k=0/\p=0/\a=0/\b=0:=of_decide_eq_true h;exact JM w
 ·have h':Gd.pd k p a b=false:=by simpa using h
  rw[h'];exact Mb k p a b h' w
theorem yL(g o:Nat)(x y:Int)(w:World)(hx:w.cell? ⟨g,o+3,none⟩=some (.int .i64 x))(hy:w.cell? ⟨g,o+4,none⟩=some (.int .i64 y))(hg:g<w.heap.size):Calls prog 185 #[.pointer (some ⟨g,o,none⟩)] w (aJ w (.agg #[.int .i64 1,.int .i64 x,.int .i64 y])):=by
 have hgr:=aa (fun (o1:Obj) (m:Nat)=>gdw (abE w o1 none) m);go_enter func185,ntmps185;go_wp2_with fail
 go_region
 go_wp2;refine abN (v:=.agg #[.int .i64 1,.int .i64 x,.int .i64 y]) (by simp[results,results185,go_sem]) rfl ?_;exact⟨rfl,uh hgr _ 1⟩
theorem Gd.zS{I:N2}{p a q:Int}{k:Nat}(h:¬(I k 1=p/\I k 2=a/\I k 3=q)):Gd.OG I p a q k=false:=by
 simp only[Gd.OG,Bool.and_eq_false_iff,decide_eq_false_iff_not];by_cases h1:I k 1=p
 ·by_cases h2:I k 2=a
  ·exact .inr (.inr fun h3=>h ⟨h1,h2,h3⟩)
  ·exact .inr (.inl h2)
 ·exact .inl h1
theorem Gd.La{I:N2}{p a q:Int}{k:Nat}(h1:I k 1=p)(h2:I k 2=a)(h3:I k 3=q):Gd.OG I p a q k=true:=by
 simp[Gd.OG,h1,h2,h3]
theorem kv(b n c:Nat)(I:N2)(p a q:Int)(w:World)(hI:wN w b 0 n I):Calls prog 189 #[.slice (some ⟨b,0,none⟩) n c,.agg #[.int .i64 p,.int .i64 a,.int .i64 q]] w (aJ w (.int .i64 (Gd.an I n p a q))):=by
 have hn:=hI.1;have mS:=aa hI;clear hI;go_enter func189,ntmps189;go_wp2_with fail;go_loopw [9] (fun i wr=>∃k:Nat,k<=n/\i=.int .i64 (k:Int)/\(∀j,j<k->Gd.OG I p a q j=false)/\ax wr w.heap.size 189 3 (fun j=>#[Value.int .i64 p,.int .i64 a,.int .i64 q][j]?.getD undef)/\w.grownBy wr none) (fun i _=>200-(intOf i).toNat)
 case atStart=>exact⟨0,by omega,rfl,fun j hj=>by omega,ax.lit (abH w _),abE _ _ _⟩
 case round =>
  obtain⟨k,hk,rfl,hno,hp,hgr⟩:=hrel;have aT:=aa hno;have bV:=aa hgr;have uu:=aa hp;have p0:wr.cell? ⟨w.heap.size,0,none⟩=some (.int .i64 p):=hp.cell (i:=0) (by omega);have p1:wr.cell? ⟨w.heap.size,1,none⟩=some (.int .i64 a):=hp.cell (i:=1) (by omega);have p2:wr.cell? ⟨w.heap.size,2,none⟩=some (.int .i64 q):=hp.cell (i:=2) (by omega);have hlw:=hp.lt;clear hno hgr hp;by_cases hlt:k<n
  ·obtain⟨u0,u1,u2,u3⟩:=((uh mS).on (uh bV)).row hlt;have hlt':(k:Int)<(n:Int):=by omega
   have HL:=aa hlt;clear hlt;go_wp2_with fail;obtain⟨wb,tA⟩:=abV (wr.alloc (.cells #[.int .i64 (I k 0),.int .i64 (I k 1),.int .i64 (I k 2),.int .i64 (I k 3)] 62));have hga:wr.grownBy wb none:=by rw[<-tA];exact abE _ _ _
   have GX:=fun j (hj:j<4)=>(ax.lit (abH wr (.cells #[.int .i64 (I k 0),.int .i64 (I k 1),.int .i64 (I k 2),.int .i64 (I k 3)] 62))).cell (i:=j) hj;rw[tA]at GX|-;have eC:wr.heap.size<wb.heap.size:=by rw[<-tA];simp
   refine bF (by kernel_rfl) (by kernel_rfl) ?_;intro St hN W hI hx;have c0:∀σ,(W σ).cell? ⟨wr.heap.size,0,none⟩=some (.int .i64 (I k 0)):=fun σ=>(gce (hI σ) _ 0 eC (by simp)).trans (GX 0 (by omega));have c1:∀σ,(W σ).cell? ⟨wr.heap.size,1,none⟩=some (.int .i64 (I k 1)):=fun σ=>(gce (hI σ) _ 1 eC (by simp)).trans (GX 1 (by omega));have c2:∀σ,(W σ).cell? ⟨wr.heap.size,2,none⟩=some (.int .i64 (I k 2)):=fun σ=>(gce (hI σ) _ 2 eC (by simp)).trans (GX 2 (by omega));have c3:∀σ,(W σ).cell? ⟨wr.heap.size,3,none⟩=some (.int .i64 (I k 3)):=fun σ=>(gce (hI σ) _ 3 eC (by simp)).trans (GX 3 (by omega));have d0:∀σ,(W σ).cell? ⟨w.heap.size,0,none⟩=some (.int .i64 p):=fun σ=>(gce (gtr hga (hI σ)) _ 0 hlw (by simp)).trans p0;have d1:∀σ,(W σ).cell? ⟨w.heap.size,1,none⟩=some (.int .i64 a):=fun σ=>(gce (gtr hga (hI σ)) _ 1 hlw (by simp)).trans p1;have d2:∀σ,(W σ).cell? ⟨w.heap.size,2,none⟩=some (.int .i64 q):=fun σ=>(gce (gtr hga (hI σ)) _ 2 hlw (by simp)).trans p2;have cp:∀σ,Calls prog 192 #[.agg #[.int .i64 (I k 0),.int .i64 (I k 1),.int .i64 (I k 2),.int .i64 (I k 3)]] (W σ) fun e sc=>e=.returned (.agg #[.int .i64 (I k 1),.int .i64 (I k 2),.int .i64 (I k 3)])/\∃σ',sc=W σ':=fun σ=>bQ hI hx (oR _ _ _ _ _);have zt:=aa hI;have Uq:=aa hga;clear hI hx p0 p1 p2 u0 u1 u2 u3 GX tA eC hga;by_cases hq:I k 1=p/\I k 2=a/\I k 3=q
   ·have hqt:=aa (Gd.La hq.1 hq.2.1 hq.2.2);obtain⟨h1,h2,h3⟩:=hq;rw[h1,h2,h3]at cp;rw[h1]at c1;rw[h2]at c2;rw[h3]at c3;clear h1 h2 h3
    repeat (go_big_quiet_step ((go_at_call 192;exact cp _)))
    refine wpQuiet_nil ?_;rintro _ ⟨σ,rfl⟩;obtain⟨wq,G7⟩:=abV (W σ);have kJ:=aa (uh zt σ);rw[G7]at kJ|-;clear c0 c1 c2 c3 d0 d1 d2 cp zt G7;clear σ W hN St;have he:=aa (En.cG (uh aT) (uh hqt) (uh HL));have ah:=aa (gtr (uh bV) (gtr (uh Uq) (uh kJ)));go_wp2;go_ret;exact⟨rti (uh he).symm,uh ah⟩
   ·have P7:=aa (Gd.zS hq);have WO:∀wx:World,(binOp .eql 189 (.agg #[.int .i64 (I k 1),.int .i64 (I k 2),.int .i64 (I k 3)]) (.agg #[.int .i64 p,.int .i64 a,.int .i64 q])).run prog wx=.ok (.bool false) wx:=fun wx=>by rw[run_eq_place];exact congrArg (fun z=>Result.ok (Value.bool z) wx) (uh P7)
    clear hq
    repeat (go_big_quiet_step ((go_at_call 192;exact cp _)))
    refine wpQuiet_nil ?_;rintro _ ⟨σ,rfl⟩;obtain⟨wq,G7⟩:=abV (W σ);have kJ:=aa (uh zt σ);rw[G7]at kJ|-;clear c0 c1 c2 c3 d0 d1 d2 cp zt G7;clear σ W hN St;have ah:=aa (gtr (uh bV) (gtr (uh Uq) (uh kJ)));have Xr:=aa ((uh uu).grown (gtr (uh Uq) (uh kJ)) (by simp));clear WO;go_wp2;go_roundw
    case rel=>exact⟨k+1,by have:=uh HL;omega,by go_num,fun j hj=>by
     by_cases e:j=k
     ·rw[e];exact uh P7
     ·exact uh aT j (by omega),uh Xr,uh ah⟩
    case measure=>simp[intOf];omega
  ·have hge:¬(k:Int)<(n:Int):=by omega
   have he:=aa (En.bt (n:=n) (fun j hj=>uh aT j (by omega)));go_wp2;go_ret;exact⟨rti (uh he).symm,uh bV⟩
variable{I:N2}{ag:Int}{n:Nat}
def Gd.pz(I:N2)(n:Nat)(ag:Int)(t:Int->Bool):Nat->Bool:=fun b=>decide (0<=Gd.an I n 2 ag (b:Int))&&t (I (Gd.an I n 2 ag (b:Int)).toNat 0)
def Gd.IY(I:N2)(n:Nat)(ag:Int)(t:Int->Bool):Int:=if 0<=En.first (Gd.pz I n ag t) 4 then Gd.an I n 2 ag (En.first (Gd.pz I n ag t) 4)else -1
theorem Gd.uo(I:N2)(n:Nat)(ag lo hi:Int):Gd.lF I n ag lo hi=Gd.IY I n ag (fun k=>decide (lo<=k)&&decide (k<=hi)):=rfl
theorem Gd.Kq{t:Int->Bool}{k:Nat}(hno:∀j,j<k->Gd.pz I n ag t j=false)(hk:Gd.pz I n ag t k=true)(h4:k<4):Gd.IY I n ag t=Gd.an I n 2 ag (k:Int):=by
 unfold Gd.IY;rw[En.cG hno hk h4,abP (by omega)]
theorem Gd.Gg{t:Int->Bool}(hno:∀j,j<4->Gd.pz I n ag t j=false):Gd.IY I n ag t=-1:=by
 unfold Gd.IY;rw[En.bt hno,abO (by omega)]
theorem Gd.sv{t u:Int->Bool}(h:∀k,k<n->I k 1=2->t (I k 0)=u (I k 0)):Gd.IY I n ag t=Gd.IY I n ag u:=by
 have e:∀b,b<4->Gd.pz I n ag t b=Gd.pz I n ag u b:=fun b _=>by
  unfold Gd.pz;by_cases hf:0<=Gd.an I n 2 ag (b:Int)
  ·obtain⟨k,hk,ek,h1,_⟩:=Gd.gd hf;rw[ek,abG,h k hk h1]
  ·rw[abI hf,Bool.false_and,Bool.false_and]
 unfold Gd.IY;rw[En.tn e]
theorem Gd.KA{p a q:Int}(h:0<=Gd.an I n p a q):(Gd.an I n p a q).toNat<n/\Gd.an I n p a q=((Gd.an I n p a q).toNat:Int):=by
 obtain⟨k,hk,e,_⟩:=Gd.gd h;rw[e];simp[hk]
theorem kM(b n c:Nat)(I:N2)(ag:Int)(w:World)(hI:wN w b 0 n I):Calls prog 181 #[.slice (some ⟨b,0,none⟩) n c,.int .i64 ag] w (aJ w (.int .i64 (Gd.cY I n ag))):=by
 have mS:=aa hI;clear hI;go_enter func181,ntmps181;go_wp2_with fail;go_loopw [6] (fun i wr=>∃k:Nat,k<=4/\i=.int .i64 (k:Int)/\(∀j:Nat,j<k->decide (Gd.an I n 2 ag (j:Int)<0)=false)/\w.grownBy wr none) (fun i _=>200-(intOf i).toNat)
 case atStart=>exact⟨0,by omega,rfl,fun j hj=>by omega,abF _ _⟩
 case round =>
  obtain⟨k,hk,rfl,hno,hgr⟩:=hrel;have aT:=aa hno;have bV:=aa hgr;clear hno hgr;by_cases hlt:k<4
  ·have hlt':(k:Int)<4:=by omega
   have HL:=aa hlt;have cat:=aa (kv b n c I 2 ag (k:Int) wr ((uh mS).on (uh bV)));obtain⟨f,hf⟩:=abV (Gd.an I n 2 ag (k:Int));rw[hf]at cat;have fb:=aa hf;clear hlt hf;go_wp2_with fail;refine aaR (uh cat) fun w1 hg1=>?_;have hg2:=aa (gtr (uh bV) hg1);clear hg1 cat;by_cases dH:f<0
   ·have he:=aa (En.cG (q:=fun b:Nat=>decide (Gd.an I n 2 ag (b:Int)<0)) (uh aT) (by show decide _=true;rw[uh fb];exact abJ dH) (uh HL));go_wp2;go_ret;exact⟨rti (uh he).symm,uh hg2⟩
   ·have hq:=aa (show decide (Gd.an I n 2 ag (k:Int)<0)=false by rw[uh fb];exact abI dH);go_wp2;go_roundw
    case rel=>exact⟨k+1,by have:=uh HL;omega,by go_num,fun j hj=>by
     by_cases e:j=k
     ·rw[e];exact uh hq
     ·exact uh aT j (by omega),uh hg2⟩
    case measure=>simp[intOf];omega
  ·have hge:¬(k:Int)<4:=by omega
   have he:=aa (En.bt (n:=4) (q:=fun b:Nat=>decide (Gd.an I n 2 ag (b:Int)<0)) (fun j hj=>uh aT j (by omega)));go_wp2;go_ret;exact⟨rti (uh he).symm,uh bV⟩
theorem oO(b n c:Nat)(I:N2)(ag input:Int)(w:World)(hI:wN w b 0 n I):Calls prog 191 #[.slice (some ⟨b,0,none⟩) n c,.int .i64 ag,.int .i64 input] w (aJ w (.int .i64 (Gd.IY I n ag (fun k=>Gd.g5 k input)))):=by
 have mS:=aa hI;clear hI;go_enter func191,ntmps191;go_wp2_with fail;go_loopw [9] (fun i wr=>∃k:Nat,k<=4/\i=.int .i64 (k:Int)/\(∀j:Nat,j<k->Gd.pz I n ag (fun k=>Gd.g5 k input) j=false)/\w.grownBy wr none) (fun i _=>200-(intOf i).toNat)
 case atStart=>exact⟨0,by omega,rfl,fun j hj=>by omega,abF _ _⟩
 case round =>
  obtain⟨k,hk,rfl,hno,hgr⟩:=hrel;have aT:=aa hno;have bV:=aa hgr;clear hno hgr;by_cases hlt:k<4
  ·have hlt':(k:Int)<4:=by omega
   have HL:=aa hlt;have cat:=aa (kv b n c I 2 ag (k:Int) wr ((uh mS).on (uh bV)));have qH:=aa (Gd.KA (I:=I) (n:=n) (p:=2) (a:=ag) (q:=(k:Int)));have Ot:=aa (show Gd.pz I n ag (fun k=>Gd.g5 k input) k=(decide (0<=Gd.an I n 2 ag (k:Int))&&Gd.g5 (I (Gd.an I n 2 ag (k:Int)).toNat 0) input) from rfl);obtain⟨f,hf⟩:=abV (Gd.an I n 2 ag (k:Int));have fb:=aa hf;rw[hf]at cat qH Ot;clear hlt hf;go_wp2_with fail;refine aaR (uh cat) fun w1 hg1=>?_;have hg2:=aa (gtr (uh bV) hg1);clear hg1 cat;by_cases kf:0<=f
   ·obtain⟨m,hm,rfl⟩:∃m:Nat,m<n/\f=(m:Int):=⟨f.toNat,(uh qH kf).1,(uh qH kf).2⟩;have u0:=(((uh mS).on (uh hg2)).row hm).1;have mf:(m:Int)<(n:Int):=(by omega);have hb:=aa hm;have Ju:Hid (Gd.pz I n ag (fun k=>Gd.g5 k input) k=Gd.g5 (I m 0) input):=by
     show _=_;rw[uh Ot,abJ kf,Bool.true_and,abG]
    clear qH Ot hm;have cs:Hid (∀wx,Calls prog 194 #[.int .i64 (I m 0),.int .i64 input] wx fun e w'=>e=.returned (.bool (Gd.g5 (I m 0) input))/\w'=wx):=fun wx=>J4 _ _ wx;obtain⟨r,hr⟩:∃r:Bool,Gd.g5 (I m 0) input=r:=⟨_,rfl⟩;rw[hr]at cs Ju;clear hr;go_wp2_with fail;refine abW (uh cs _) ?_;clear cs u0;cases r
    ·go_wp2;go_roundw
     case rel=>exact⟨k+1,by have:=uh HL;omega,by go_num,fun j hj=>by
      by_cases e:j=k
      ·rw[e];exact uh Ju
      ·exact uh aT j (by omega),uh hg2⟩
     case measure=>simp[intOf];omega
    ·have he:=aa ((Gd.Kq (uh aT) (uh Ju) (uh HL)).trans (uh fb));go_wp2;go_ret;exact⟨rti (uh he).symm,uh hg2⟩
   ·have P7:Hid (Gd.pz I n ag (fun k=>Gd.g5 k input) k=false):=by
     show _=_;rw[uh Ot,abI kf,Bool.false_and]
    have dH:f<0:=(by omega);clear qH Ot;go_wp2;go_roundw
    case rel=>exact⟨k+1,by have:=uh HL;omega,by go_num,fun j hj=>by
     by_cases e:j=k
     ·rw[e];exact uh P7
     ·exact uh aT j (by omega),uh hg2⟩
    case measure=>simp[intOf];omega
  ·have hge:¬(k:Int)<4:=by omega
   have he:=aa (Gd.Gg (fun j hj=>uh aT j (by omega)));go_wp2;go_ret;exact⟨rti (uh he).symm,uh bV⟩
