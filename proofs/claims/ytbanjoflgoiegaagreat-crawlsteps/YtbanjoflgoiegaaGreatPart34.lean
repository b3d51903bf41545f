import Derived.Test.YtbanjoflgoiegaaGreatPart30
import Derived.Test.YtbanjoflgoiegaaGreatPart32
import Derived.Test.YtbanjoflgoiegaaGreatPart33
set_option maxHeartbeats 12800000
set_option maxRecDepth 8000
namespace Go.Proofs.YtbanjoflgoiegaaGreat
open Go.Proofs.Tryz
open Go.RowKit
variable{B cC cE cI gC gE gI:Nat}{E I:N2}{c g s:N1}{w x x':World}
structure Cr.me(w x:World)(B gC gE gI cC cE cI:Nat)(s g c:N1)(E I:N2):Prop where
 af:Gd.eE x B gC gE gI cC cE cI s g c E I
 lB:w.heap.size<=B
 aG:32<=cE
 grown:w.grownBy x none
theorem Cr.me.on{y:World}(h:Cr.me w x B gC gE gI cC cE cI s g c E I)(hg:x.grownBy y none):Cr.me w y B gC gE gI cC cE cI s g c E I :=
 ⟨h.af.on hg,h.lB,h.aG,gtr h.grown hg⟩
theorem Cr.me.folk{jE dE:Nat}{F:N2}(h:Cr.me w x B gC gE gI cC cE cI s g c E I)(ap:32<=dE)(hj:jE=gE\/x.heap.size<=jE)(hO:fg x' jE 32 F)(hg:x.grownBy x' none):Cr.me w (x'.setCell ⟨B,5,none⟩ (.slice (some ⟨jE,0,none⟩) 32 dE)) B gC jE gI cC dE cI s g c F I:=by
 have h1:=h.af.box.lt;have h2:=h.af.ab.cells.lt;have h3:=h.af.ab.aj.lt;have h5:=h.af.bE;have h6:=h.af.cE;have h7:=h.af.eI;have nB:B≠jE:=by omega
 have nC:gC≠jE:=by omega
 have nI:jE≠gI:=by omega
 have r:=gs0 x' B 5 (.slice (some ⟨jE,0,none⟩) 32 dE);have hb:=((h.af.box.on hg).store 5 (.slice (some ⟨jE,0,none⟩) 32 dE)).congr (Gd.Ge s g gC gE gI cC cE cI jE dE);exact⟨⟨hb,⟨(h.af.ab.cells.on hg).grown r (by simpa using h.af.bC),(hO.lie (m:=352) (by omega)).grown r (by simpa using nB),(h.af.ab.aj.on hg).grown r (by simpa using h.af.bI)⟩,h.af.bC,nB,h.af.bI,nC,h.af.cI,nI⟩,h.lB,ap,gsr (gtr h.grown hg) ⟨B,5,none⟩ h.lB _⟩
theorem Cr.Ns(s g:N1)(gC gE gI cC cE cI jI dI:Nat):∀c,c<11->(if c=6 then Value.slice (some ⟨jI,0,none⟩) 40 dI else Gd.box s gC gE gI cC cE cI g c)=Gd.box s gC gE jI cC cE dI g c:=fun c hc=>by
 rcases(show c=0\/c=1\/c=2\/c=3\/c=4\/c=5\/c=6\/c=7\/c=8\/c=9\/c=10 by omega)with rfl|rfl|rfl|rfl|rfl|rfl|rfl|rfl|rfl|rfl|rfl <;> rfl
theorem Cr.me.xU{jI dI:Nat}{J:N2}(h:Cr.me w x B gC gE gI cC cE cI s g c E I)(hj:x.heap.size<=jI)(hJ:ay x' jI 62 160 (Gd.aL J))(hg:x.grownBy x' none):Cr.me w (x'.setCell ⟨B,6,none⟩ (.slice (some ⟨jI,0,none⟩) 40 dI)) B gC gE jI cC cE dI s g c E J:=by
 have h1:=h.af.box.lt;have h2:=h.af.ab.cells.lt;have h3:=h.af.ab.ai.lt;have nB:B≠jI:=by omega
 have r:=gs0 x' B 6 (.slice (some ⟨jI,0,none⟩) 40 dI);have hb:=((h.af.box.on hg).store 6 (.slice (some ⟨jI,0,none⟩) 40 dI)).congr (Cr.Ns s g gC gE gI cC cE cI jI dI);exact⟨⟨hb,⟨(h.af.ab.cells.on hg).grown r (by simpa using h.af.bC),(h.af.ab.ai.on hg).grown r (by simpa using h.af.bE),hJ.grown r (by simpa using nB)⟩,h.af.bC,h.af.bE,nB,h.af.cE,by omega,by omega⟩,h.lB,h.aG,gsr (gtr h.grown hg) ⟨B,6,none⟩ h.lB _⟩
theorem Cr.me.bw{v:World}(h:Cr.me v x B gC gE gI cC cE cI s g c E I)(k:Nat)(hk:k<4)(u:Int):Cr.me v (x.setCell ⟨B,k,none⟩ (.int .i64 u)) B gC gE gI cC cE cI (Cr.bw s k u) g c E I:=by
 have hh:=h.af;refine⟨⟨(hh.box.store k (.int .i64 u)).congr fun j hj=>?_,⟨hh.ab.cells.aP hh.bC _ _,hh.ab.ai.aP hh.bE _ _,hh.ab.aj.aP hh.bI _ _⟩,hh.bC,hh.bE,hh.bI,hh.cE,hh.cI,hh.eI⟩,h.lB,h.aG,gsr h.grown ⟨B,k,none⟩ h.lB _⟩;rcases(show k=0\/k=1\/k=2\/k=3 by omega)with rfl|rfl|rfl|rfl <;> rcases(show j=0\/j=1\/j=2\/j=3\/j=4\/j=5\/j=6\/j=7\/j=8\/j=9\/j=10 by omega)with rfl|rfl|rfl|rfl|rfl|rfl|rfl|rfl|rfl|rfl|rfl <;> rfl
theorem Cr.me.TN{v:World}{G dC:Nat}{c':N1}(h:Cr.me v x B gC gE gI cC cE cI s g c E I)(hG:x.heap.size<=G)(hA:ay x' G 5 384 (aZ c'))(hg:x.grownBy x' none):Cr.me v (x'.setCell ⟨B,4,none⟩ (.slice (some ⟨G,0,none⟩) 384 dC)) B G gE gI dC cE cI s g c' E I:=by
 have hh:=(h.on hg).af;have q1:=h.af.box.lt;have q2:=h.af.ab.ai.lt;have q3:=h.af.ab.aj.lt;refine⟨⟨(hh.box.store 4 _).congr fun j hj=>?_,⟨hA.aP (by omega) _ _,hh.ab.ai.aP hh.bE _ _,hh.ab.aj.aP hh.bI _ _⟩,by omega,hh.bE,hh.bI,by omega,by omega,hh.eI⟩,h.lB,h.aG,gsr (gtr h.grown hg) ⟨B,4,none⟩ h.lB _⟩;rcases(show j=0\/j=1\/j=2\/j=3\/j=4\/j=5\/j=6\/j=7\/j=8\/j=9\/j=10 by omega)with rfl|rfl|rfl|rfl|rfl|rfl|rfl|rfl|rfl|rfl|rfl <;> rfl
variable{E F Th:N2}{k n:Nat}
theorem Cr.Hh{c:N1}{E:N2}(hs:Cr.xD E):∀{t:Nat} {F:N2},Cr.fe c E t (Cr.jq E) F->∀k,k<32->(F k=Cr.jq E k/\(E k 0=1->(t:Int)<=E k 2))\/(F k 0=1/\E k 0=1)
 | 0,F,h,k,hk=>by
  rw[h]
  exact .inl ⟨rfl,fun k1=>(hs.ag k hk k1).1⟩
 | t+1,F,h,k,hk=>by
  obtain⟨G,hG,hL⟩:=h
  have ih:=Cr.Hh hs hG k hk
  unfold Cr.kG at hL
  split at hL
  ·rename_i hn
   rw[hL]
   refine ih.imp (fun ⟨h1,h2⟩=>⟨h1,fun k1=>?_⟩) id
   have:=h2 k1
   by_cases e:E k 2=(t:Int)
   ·exfalso
    unfold Gd.aV at hn
    rcases En.aw (En.dg E (t:Int)) 32 with⟨_,hno⟩|⟨j,_,hj,_⟩
    ·have:=hno k hk
     simp[En.dg,k1,e]at this
    ·omega
   ·omega
  ·rename_i hn
   obtain⟨v,_,rfl⟩:=hL
   obtain⟨r,hr,he,r1,r2⟩:=Md.lL hn
   rw[he,abG]
   by_cases e:k=r
   ·refine .inr ⟨?_,by rw[e];exact r1⟩
    rw[e,En.aB]
    split
    ·exact r1
    ·rw[En.bq (by omega),En.bq (by omega)];exact r1
   ·rw[En.ak e]
    refine ih.imp (fun ⟨h1,h2⟩=>⟨h1,fun k1=>?_⟩) id
    have:=h2 k1
    by_cases e2:E k 2=(t:Int)
    ·exact absurd (hs.bo k r hk hr k1 r1 (by omega)) e
    ·omega
def Cr.fO(E F:N2):Nat->Nat->Int:=fun k=>if F k 0=0 then Cr.cx E 32 k else F k
theorem Cr.OX(E:N2):Cr.fO E (Cr.jq E)=Cr.cx E 32:=by
 funext k;exact abP rfl
theorem Cr.JQ(hk:k<32)(t:Int):En.dg (Cr.cx E 32) t k=En.dg E t k:=by
 unfold En.dg Cr.cx;by_cases c:E k 0≠0/\E k 0≠1
 ·rw[abP ⟨hk,c⟩];simp[En.mP,c.2]
 ·rw[abO (fun h=>c h.2)]
theorem Cr.OZ{t:Nat}(hl:Cr.sr E F t):Gd.aV (Cr.fO E F) (t:Int)=Gd.aV E (t:Int):=by
 unfold Gd.aV;refine En.tn fun k hk=>?_;by_cases h0:F k 0=0
 ·have e:Cr.fO E F k=Cr.cx E 32 k:=abP h0;rw[<-Cr.JQ (E:=E) hk];unfold En.dg;rw[e]
 ·have e:Cr.fO E F k=F k:=abO h0;obtain⟨j,hj,h1,h2⟩:=hl k hk h0;obtain⟨r,_,hr,r2,_⟩:=Gd.gV (E:=E) (ag:=(j:Int)) (by omega);obtain rfl:r=k:=by omega
  unfold En.dg;rw[e,h2,r2];have:¬(j:Int)=(t:Int):=by omega
  simp[this]
theorem Cr.U7{t:Nat}(hl:Cr.sr E F t)(hk:k<32)(k1:E k 0=1)(k2:E k 2=(t:Int)):F k 0=0/\Cr.fO E F k=E k:=by
 have h0:F k 0=0:=by
  by_cases h0:F k 0=0
  ·exact h0
  ·obtain⟨j,hj,h1,h2⟩:=hl k hk h0;obtain⟨r,_,hr,r2,_⟩:=Gd.gV (E:=E) (ag:=(j:Int)) (by omega);obtain rfl:r=k:=by omega
   omega
 refine⟨h0,(abP h0).trans ?_⟩;unfold Cr.cx;rw[abO (fun h=>h.2.2 k1)]
theorem Cr.Rz{e:N1}(h:e 0≠0):En.put (Cr.fO E F) k e=Cr.fO E (En.put F k e):=by
 funext i;unfold Cr.fO;by_cases x:i=k
 ·rw[x,En.aB,En.aB,abO h]
 ·rw[En.ak x,En.ak x]
theorem Cr.Rx{c c0:N1}{I:N2}(ho:Cr.bs c0 E I)(hL:Cr.fe c E 4 (Cr.jq E) F):∀i j,i<32->j<11->Cr.fO E F i j=F i j:=fun i j hi hj=>by
 unfold Cr.fO
 split
 ·rename_i h0
  rcases Cr.Hh ho.jR hL i hi with⟨hb,h4⟩|⟨h1,_⟩
  ·rw[hb]
   unfold Cr.cx Cr.jq
   by_cases c:E i 0≠0/\E i 0≠1
   ·rw[abP ⟨hi,c⟩]
   ·rw[abO (fun h=>c h.2)]
    have e0:E i 0=0:=by
     by_cases e1:E i 0=1
     ·have h1:=h4 e1;have h2:=(ho.jR.ag i hi e1).2;omega
     ·by_cases e0:E i 0=0
      ·exact e0
      ·exact absurd ⟨e0,e1⟩ c
    unfold En.mP;by_cases e:j=1
    ·rw[abP e,e]
    ·rw[abO e];rcases(ho.ly.ix i hi).2.2 with hz|ht
     ·exact hz j hj e
     ·omega
  ·omega
 ·rfl
def Cr.mG(Th:N2)(n:Nat)(F:N2):Prop:=(∀i,i<n->Th i 0≠0/\∃k,k<32/\F k=Th i)/\∀k,k<32->F k 0≠0->∃i,i<n/\Th i=F k
theorem Cr.mG.st(h:Cr.mG Th n F)(q:Nat):Nv.st Th n q=Nv.st F 32 q:=by
 unfold Nv.st;rcases En.aw (En.eM Th ((q%24:Nat):Int) ((q/24:Nat):Int)) n with⟨h1,hno⟩|⟨i,hi,h1,hq,_⟩
 ·rcases En.aw (En.eM F ((q%24:Nat):Int) ((q/24:Nat):Int)) 32 with⟨h2,_⟩|⟨k,hk,h2,hq,_⟩
  ·rw[h1,h2]
  ·exfalso;have kp:F k 0≠0/\F k 3=((q%24:Nat):Int)/\F k 4=((q/24:Nat):Int):=by simpa [En.eM] using hq
   obtain⟨i,hi,e⟩:=h.2 k hk kp.1;have:=hno i hi;rw[<-e]at kp;simp only[En.eM,Bool.and_eq_false_iff,Bool.not_eq_eq_eq_not,Bool.not_false,decide_eq_true_eq,decide_eq_false_iff_not]at this;rcases this with a|a|a
   ·exact kp.1 a
   ·exact a kp.2.1
   ·exact a kp.2.2
 ·rcases En.aw (En.eM F ((q%24:Nat):Int) ((q/24:Nat):Int)) 32 with⟨h2,hno⟩|⟨k,_,h2,_⟩
  ·exfalso;have kp:Th i 0≠0/\Th i 3=((q%24:Nat):Int)/\Th i 4=((q/24:Nat):Int):=by simpa [En.eM] using hq
   obtain⟨_,k,hk,e⟩:=h.1 i hi;have:=hno k hk;rw[<-e]at kp;simp only[En.eM,Bool.and_eq_false_iff,Bool.not_eq_eq_eq_not,Bool.not_false,decide_eq_true_eq,decide_eq_false_iff_not]at this;rcases this with a|a|a
   ·exact kp.1 a
   ·exact a kp.2.1
   ·exact a kp.2.2
  ·rw[h1,h2];refine(abJ (by omega)).trans (abJ (by omega)).symm
theorem Cr.Qs{F:N1}{st st':Nat->Bool}(h:∀q,st q=st' q):∀k,Nv.best F st k=Nv.best F st' k:=fun k=>by
 rw[show st=st' from funext h]
theorem Cr.mG.spot(h:Cr.mG Th n F){c:N1}{x y v:Int}(hv:Nv.dR c Th n x y v):Nv.dR c F 32 x y v:=by
 obtain⟨G,hG,rfl⟩:=hv;exact⟨G,hG,Cr.Qs h.st 384⟩
theorem Cr.mG.put(h:Cr.mG Th n F)(hk:k<32)(k0:F k 0=0){e:N1}(he:e 0≠0):Cr.mG (En.put Th n e) (n+1) (En.put F k e):=by
 refine⟨fun i hi=>?_,fun j hj j0=>?_⟩
 ·by_cases x:i=n
  ·rw[x,En.aB];exact⟨he,k,hk,En.aB _ _ _⟩
  ·rw[En.ak x];obtain⟨i0,j,hj,e'⟩:=h.1 i (by omega);have:j≠k:=fun x=>by rw[x]at e';rw[e']at k0;exact i0 k0
   exact⟨i0,j,hj,by rw[En.ak this];exact e'⟩
 ·by_cases x:j=k
  ·exact⟨n,by omega,by rw[x,En.aB,En.aB]⟩
  ·rw[En.ak x]at j0|-;obtain⟨i,hi,e'⟩:=h.2 j hj j0;exact⟨i,by omega,by rw[En.ak (by omega)];exact e'⟩
variable{E F Th:N2}{J lo n t:Nat}{c:N1}{v:Value}{w x:World}
theorem ss(gI cI:Nat)(I:N2)(w:World)(hI:ay w gI 62 160 (Gd.aL I)):Calls prog 58 #[.slice (some ⟨gI,0,none⟩) 40 cI] w (Gd.nG w (Cr.kept I)):=by
 have ct:=aa (lu gI 40 160 cI (Gd.aL I) w (by omega) (by omega) (fun _=>rfl) (fun c hc=>hI.cell hc) hI.lt);have rJ:Hid (Cr.eR I 0=I):=Cr.tF I;have hke:Hid (∀i,i<40->Cr.eR I 40 i=Cr.kept I i):=fun i hi=>abP hi;clear hI;go_enter func58,ntmps58;go_wp2_with fail;refine(uh ct).mono ?_;rintro e w1 ⟨j,rfl,iC,hA,hg1⟩;have hH:Hid (ay w1 j 62 160 (Gd.aL (Cr.eR I 0))):=by
  show ay w1 j 62 160 (Gd.aL (Cr.eR I 0));rw[uh rJ];exact hA.lie
 have KJ:=aa hg1;have qy:=aa iC;clear hA hg1 iC ct rJ;go_wp2_with fail;go_loopw [10] (fun v10 wr=>∃i:Nat,i<=40/\v10=.int .i64 (i:Int)/\Hid (ay wr j 62 160 (Gd.aL (Cr.eR I i)))/\Hid (w.grownBy wr none)) (fun v10 _=>50-(intOf v10).toNat)
 case atStart=>exact⟨0,by omega,rfl,hH,KJ⟩
 case round =>
  clear hH KJ;obtain⟨i,hi,rfl,hH,hg⟩:=hrel;by_cases hlt:i<40
  ·have hlt':(i:Int)<40:=by omega
   have HL:=aa hlt;have bZ:=((uh hH).fo (n:=40) (by omega) (by omega)).row hlt;rw[Cr.yl]at bZ;obtain⟨u0,u1,u2,u3⟩:=bZ;obtain⟨w0,aD⟩:∃w0,w0=wr.alloc (.cells #[.int .i64 (I i 0),.int .i64 (I i 1),.int .i64 (I i 2),.int .i64 (I i 3)] 62):=⟨_,rfl⟩;have aN:wr.grownBy w0 none:=by rw[aD];exact abE _ _ _
   have q1:w0.cell? ⟨wr.heap.size,1,none⟩=some (.int .i64 (I i 1)):=by
    rw[aD];exact(ax.lit (abH wr _)).cell (i:=1) (by show 1<4;omega)
   have tp:=aa ((uh hH).on aN);have hg2:=aa (gtr (uh hg) aN);have pR:=aa (Cr.sW (I:=I) (n:=i));have aK:=aa (Cr.tE (I:=I) (n:=i));clear hlt hi aN hH hg;go_upto_region 5 with fail;rw[<-aD];clear aD u0 u1 u2 u3;obtain⟨B,hB⟩:=abV wr.heap.size;rw[hB]at q1|-;clear hB;obtain⟨x,hx⟩:=abV (I i 1);rw[hx]at q1 pR aK;clear hx;have fJ:=(uh tp).free;have dp:=aa (fun he=>(show ay (w0.setCells j (i*4) (Gd.cells (fun _=>0)).toList) j 62 160 (Gd.aL (Cr.eR I (i+1))) by rw[<-uh pR he];exact(uh tp).Mc i (fun _=>0)));have dl:=aa (fun vs=>aA (uh qy) vs (i*4) w0 (uh hg2));have bZ:=((uh tp).fo (n:=40) (by omega) (by omega)).row (uh HL);obtain⟨u0,u1,u2,u3⟩:=bZ;by_cases h1:x=1
   ·subst h1;have hf:=aa (uh dp (.inl rfl));clear dp aK pR;go_wp2;go_roundw
    case rel=>exact⟨i+1,by have:=uh HL;omega,by go_num,uh hf,uh dl [_,_,_,_]⟩
    case measure=>simp[intOf];have:=uh HL;omega
   ·have b1:(x==1)=false:=by simpa using h1
    by_cases h4:x=4
    ·subst h4;have hf:=aa (uh dp (.inr rfl));clear dp aK pR h1 b1;go_wp2;go_roundw
     case rel=>exact⟨i+1,by have:=uh HL;omega,by go_num,uh hf,uh dl [_,_,_,_]⟩
     case measure=>simp[intOf];have:=uh HL;omega
    ·have b4:(x==4)=false:=by simpa using h4
     have hf:Hid (ay w0 j 62 160 (Gd.aL (Cr.eR I (i+1)))):=by
      show ay w0 j 62 160 (Gd.aL (Cr.eR I (i+1)));rw[<-uh aK (by omega)];exact uh tp
     clear dp aK pR h1 h4 dl;go_wp2;go_roundw
     case rel=>exact⟨i+1,by have:=uh HL;omega,by go_num,hf,hg2⟩
     case measure=>simp[intOf];have:=uh HL;omega
  ·obtain rfl:i=40:=by omega
   have hge:¬((40:Nat):Int)<40:=by omega
   have ah:Hid (Gd.nG w (Cr.kept I) (.returned (.slice (some ⟨j,0,none⟩) 40 40)) wr):=⟨j,40,rfl,uh qy,(uh hH).congr fun q hq=>by unfold Gd.aL;rw[uh hke (q/4) (by omega)],uh hg⟩;clear hlt hi;go_wp2;go_ret;exact uh ah
theorem Cr.Ml(Th:N2)(n:Nat)(e:N1):En.fk (n+1) (En.put Th n e)=En.fk n Th++[.int .i64 (e 0),.int .i64 (e 1),.int .i64 (e 2),.int .i64 (e 3),.int .i64 (e 4),.int .i64 (e 5),.int .i64 (e 6),.int .i64 (e 7),.int .i64 (e 8),.int .i64 (e 9),.int .i64 (e 10)]:=by
 apply List.ext_getElem?;intro i;by_cases h1:i<n*11
 ·rw[En.jH (by omega),List.getElem?_append_left (by rw[En.aX];exact h1),En.jH h1];unfold En.aL;rw[En.ak (by omega)]
 ·rw[List.getElem?_append_right (by rw[En.aX];omega),En.aX];by_cases h2:i<(n+1)*11
  ·rw[En.jH h2];obtain⟨j,rfl⟩:∃j,i=n*11+j:=⟨i-n*11,by omega⟩;have e1:(n*11+j)/11=n:=by omega
   have e2:(n*11+j)%11=j:=by omega
   unfold En.aL;rw[e1,e2,En.aB,show n*11+j-n*11=j by omega];rcases(show j=0\/j=1\/j=2\/j=3\/j=4\/j=5\/j=6\/j=7\/j=8\/j=9\/j=10 by omega)with rfl|rfl|rfl|rfl|rfl|rfl|rfl|rfl|rfl|rfl|rfl <;> rfl
  ·rw[List.getElem?_eq_none (by rw[En.aX];omega),List.getElem?_eq_none (by show 11<=_;omega)]
def Cr.uI(x:World)(lo:Nat)(v:Value)(n:Nat)(Th:N2):Prop:=x.ownsRow lo 54 11 v n (En.fk n Th)
theorem Cr.uI.zm(h:Cr.uI x lo v n Th)(hn:n<=32):∃a k,v=.slice a n k/\Nv.qM x a n k Th:=by
 have h0:=h;rcases h.2 with⟨h1,h2⟩|⟨g,aG,cD,h1,_,_,jP,_⟩
 ·exact⟨none,0,by rw[h1,h2],by omega,by omega,.inl h2⟩
 ·subst h1;exact⟨_,aG,rfl,hn,jP,.inr ⟨g,rfl,(fg.Lh h0 hn (fun c hc=>En.jH hc)).ai⟩⟩
theorem Cr.uI.Qg(h:Cr.uI x lo v n Th){m:Nat}(hm:v.ownBlock=some m):lo<=m:=by
 rcases h.2 with⟨h1,_⟩|⟨g,aG,cD,h1,hb,_⟩
 ·rw[h1]at hm;simp[Value.ownBlock]at hm
 ·rw[h1]at hm;simp[Value.ownBlock]at hm;omega
structure Cr.uF(w x:World)(lo J t n:Nat)(v:Value)(c:N1)(E F Th:N2):Prop where
 own:fg x J 32 (Cr.fO E F)
 bJ:Cr.uI x lo v n Th
 VX:Cr.mG Th n F
 l8:Nv.uJ n Th
 land:Cr.fe c E t (Cr.jq E) F
 nt:n<=t
 lw:w.heap.size<=J
 lJ:J<lo
 lx:lo<=x.heap.size
 grown:w.grownBy x none
theorem Cr.uF.on{y:World}(h:Cr.uF w x lo J t n v c E F Th)(hg:x.grownBy y none):Cr.uF w y lo J t n v c E F Th :=
 { h with own:=h.own.on hg,bJ:=Cr.ll.Mt (lo:=lo) (x:=x) (y:=y) ⟨hg.size,fun k _ hk=>hg.block k hk (by simp)⟩ h.bJ,lx:=abM h.lx hg.size,grown:=gtr h.grown hg }
theorem Cr.uF.skip(h:Cr.uF w x lo J t n v c E F Th)(hn:Gd.aV E (t:Int)<0):Cr.uF w x lo J (t+1) n v c E F Th :=
 { h with land:=⟨F,h.land,(show Cr.kG c E (t:Int) F F by unfold Cr.kG;rw[abP hn])⟩,nt:=by have:=h.nt;omega }
theorem Cr.uF.put{k:Nat}(h:Cr.uF w x lo J t n v c E F Th)(e:N1)(he:e 0≠0):fg (x.setCells J (k*11) (En.cells e).toList) J 32 (Cr.fO E (En.put F k e))/\Cr.uI (x.setCells J (k*11) (En.cells e).toList) lo v n Th/\w.grownBy (x.setCells J (k*11) (En.cells e).toList) none/\lo<=(x.setCells J (k*11) (En.cells e).toList).heap.size:=by
 have hs:Cr.ll lo x (x.setCells J (k*11) (En.cells e).toList):=Cr.ll.Pw (.inl h.lJ) _ _ ⟨abL _,fun _ _ _=>rfl⟩;refine⟨?_,hs.Mt h.bJ,aA h.lw _ _ x h.grown,abM h.lx hs.1⟩;rw[<-Cr.Rz he];exact h.own.store k e
def Cr.yP(w:World)(c:N1)(E:N2)(e:Ending)(w':World):Prop :=
 ∃(J:Nat)(F:N2),e=.returned (.slice (some ⟨J,0,none⟩) 32 32)/\w.heap.size<=J/\fg w' J 32 F/\Cr.fe c E 4 (Cr.jq E) F/\w.grownBy w' none
theorem xd(gC cC gE cE:Nat)(c c0:N1)(E I:N2)(w:World)(hC:ay w gC 5 384 (aZ c))(IJ:384<=cC)(hE:fg w gE 32 (Cr.cx E 32))(ho:Cr.bs c0 E I)(hF:Nv.iy c)(h4:Cr.M5 c):Calls prog 55 #[.slice (some ⟨gC,0,none⟩) 384 cC,.slice (some ⟨gE,0,none⟩) 32 cE] w (Cr.yP w c E):=by
 have ct:=aa (mo gE 32 352 cE (En.aL (Cr.cx E 32)) w (by omega) (by omega) (fun _=>rfl) (fun j hj=>hE.ai.aL (by omega)) hE.lt);have tX:∀i,0<=c i/\c i<=255:=fun i=>⟨(hF.ku i).1,by have:=(hF.ku i).2;omega⟩;have Z6:Cr.bs c (Cr.jq E) (fun _ _=>0):=Cr.pf tX (Md.uA c) ho.kz.rl;have hld:Hid (∀t F,t<=4->Cr.fe c E t (Cr.jq E) F->Cr.sr E F t):=fun t F ht h=>(Cr.pp ho hF h4 ht Z6 (fun k _ k0=>absurd rfl k0) h).2;have abt:Hid (∀t F,t<=4->Cr.fe c E t (Cr.jq E) F->Cr.bs c F (fun _ _=>0)):=fun t F ht h=>(Cr.pp ho hF h4 ht Z6 (fun k _ k0=>absurd rfl k0) h).1;have YQ:Hid (Cr.cx E 32=Cr.fO E (Cr.jq E)):=(Cr.OX E).symm;have TX:=aa hC;have Ui:=aa IJ;have iU:=aa hF;have I7:=aa h4;have fh:Hid (∀F x J,Cr.fe c E 4 (Cr.jq E) F->fg x J 32 (Cr.fO E F)->fg x J 32 F):=fun F x J hL hO=>hO.congr (Cr.Rx ho hL);clear hC IJ hE ho hF h4 tX Z6;go_enter func55,ntmps55;go_wp2_with fail;refine(uh ct).mono ?_;rintro e w1 ⟨J,rfl,iC,hA,hg1⟩;have pB:Hid (Cr.uF w w1 w1.heap.size J 0 0 (.slice none 0 0) c E (Cr.jq E) (fun _ _=>0)):=by
  refine⟨?_,⟨rfl,.inl ⟨rfl,rfl⟩⟩,⟨fun i hi=>by omega,fun k _ k0=>absurd rfl k0⟩,fun i hi=>by omega,rfl,by omega,iC,hA.lt,abL _,hg1⟩;rw[<-uh YQ];exact(hA.lie).own (by omega) (by omega)
 clear iC hA hg1 ct YQ;generalize w1.heap.size=lo at pB;go_wp2_with fail;go_loopw [6,12] (fun v6 Tp wr=>∃(t n:Nat)(F Th:N2),t<=4/\Tp=.int .i64 (t:Int)/\Hid (Cr.uF w wr lo J t n v6 c E F Th)) (fun _ Tp _=>10-(intOf Tp).toNat)
 case atStart=>exact⟨0,0,Cr.jq E,fun _ _=>0,by omega,rfl,pB⟩
 case round =>
  clear pB;obtain⟨t,n,F,Th,ht,rfl,hK⟩:=hrel;by_cases hlt:t<4
  ·have hlt':(t:Int)<4:=by omega
   have HL:=aa hlt;have hl:=aa (uh hld t F ht (uh hK).land);have ch:=nh J 32 32 (Cr.fO E F) (t:Int) wr (uh hK).own.ai (abL _);change Calls _ _ _ _ (aJ wr (.int .i64 (Gd.aV (Cr.fO E F) (t:Int))))at ch;rw[Cr.OZ (uh hl)]at ch;have hp:=aa (@Gd.gV E (t:Int));obtain⟨z,hz⟩:=abV (Gd.aV E (t:Int));rw[hz]at ch hp;have uj:=aa ch;have kW:=aa hz;clear hlt ht ch hz;go_wp2_with fail;refine aaR (uh uj) fun w2 hg2=>?_;have FR:=aa ((uh hK).on hg2);clear hg2 uj hK;by_cases h0:z<0
   ·have xW:=aa ((uh FR).skip (by rw[uh kW];exact h0));clear hp FR;go_wp2;go_roundw
    case rel=>exact⟨t+1,n,F,Th,by have:=uh HL;omega,by go_num,xW⟩
    case measure=>simp[intOf];have:=uh HL;omega
   ·obtain⟨k,hk,rfl,k2,k1⟩:=uh hp (by omega);have HK:=aa hk;have jy:(k:Int)<32:=(by omega);have P5:=(uh FR).nt;have hm:=aa (Cr.U7 (uh hl) hk k1 k2);obtain⟨a,kk,hv6,Xd⟩:=(uh FR).bJ.zm (by omega);subst hv6;have ca:=aa (qR (some ⟨gC,0,none⟩) a cC n kk c Th w2 ⟨by unfold maxLen;omega,.inr ⟨gC,0,rfl,((uh TX).on (uh FR).grown).lt,fun i hi=>by rw[Nat.zero_add];exact((uh TX).on (uh FR).grown).cell hi⟩⟩ (uh iU) (uh Ui) Xd (uh FR).l8);have ol:=aa (Cr.tH (uh I7) (by have:=uh HL;omega) (uh hl));have vA:Hid (∀q:Nat,Nv.dR c F 32 (Gr.an 384 c 3%24) (Gr.an 384 c 3/24) (q:Int)->Cr.fe c E (t+1) (Cr.jq E) (En.put F k (En.dj (En.dj (E k) 3 ((q:Int)%24)) 4 ((q:Int)/24)))):=fun q h1=>⟨F,(uh FR).land,(show Cr.kG c E (t:Int) F _ by unfold Cr.kG;rw[uh kW,abO h0,abG];exact⟨(q:Int),h1,by rw[abO (by omega)]⟩)⟩;have XS:=aa k1;clear h0 hp hk k1 k2 Xd P5;go_wp2_with fail;refine(uh ca).mono ?_;rintro e w3 ⟨v,hv,rfl,dl⟩;have hsp:=(uh FR).VX.spot hv;have xW:=aa ((uh FR).on dl);have XK:0<=v:=by
     obtain⟨q,hq,mL,aK⟩:=uh ol;exact Cr.yE (uh iU) hq mL aK hsp
    obtain⟨q,rfl⟩:∃q:Nat,v=(q:Int):=⟨v.toNat,by omega⟩;have hq:=(Cr.nw hsp).1;have hge:(q:Int)≥0:=(by omega);have hT:=aa (uh vA q hsp);have cp:=aa (fun z=>oM (E k) q hq z);obtain⟨p,UN⟩:=abV (En.dj (En.dj (E k) 3 ((q:Int)%24)) 4 ((q:Int)/24));have ub:Hid (p 0≠0):=(show p 0≠0 by rw[<-UN,En.bq (by omega),En.bq (by omega),uh XS];omega);have Xq:Hid (p 3=(q:Int)%24/\p 4=(q:Int)/24):=(show p 3=(q:Int)%24/\p 4=(q:Int)/24 by rw[<-UN];exact⟨by rw[En.bq (by omega),En.l6],by rw[En.l6]⟩);have kp:=aa hq;rw[UN]at cp hT;obtain⟨r0,r1,r2,r3,r4,r5,r6,r7,r8,r9,pb⟩:=(uh xW).own.ai.row (uh HK);rw[(uh hm).2]at r0 r1 r2 r3 r4 r5 r6 r7 r8 r9 pb;unfold En.cells at cp;clear hv dl ca ol vA hsp XK hq UN FR;go_wp2_with fail;refine aaR (uh cp _) fun w4 hg4=>?_;have GG:=aa ((uh xW).on hg4);have pH:=aa ((uh GG).put (k:=k) p (uh ub));have fJ:=(uh GG).own.free;have jf:=aa ((uh GG).VX.put (uh HK) (uh hm).1 (uh ub));have ig:Hid (Nv.uJ (n+1) (En.put Th n p)):=fun i hi=>by
     by_cases x:i=n
     ·rw[x,En.aB,(uh Xq).1,(uh Xq).2];have:=uh kp;omega
     ·rw[En.ak x];exact(uh GG).l8 i (by omega)
    obtain⟨u0,u1,u2,u3,u4,u5,u6,u7,u8,u9,iO⟩:=(uh GG).own.ai.row (uh HK);clear hg4 cp r0 r1 r2 r3 r4 r5 r6 r7 r8 r9 pb xW;unfold En.cells at pH;go_upto_region 11 with fail;have aK:Hid (∃w5,w5=((((((((((w4.setCell ⟨J,k*11,none⟩ (.int .i64 (p 0))).setCell ⟨J,k*11+1,none⟩ (.int .i64 (p 1))).setCell ⟨J,k*11+2,none⟩ (.int .i64 (p 2))).setCell ⟨J,k*11+3,none⟩ (.int .i64 (p 3))).setCell ⟨J,k*11+4,none⟩ (.int .i64 (p 4))).setCell ⟨J,k*11+5,none⟩ (.int .i64 (p 5))).setCell ⟨J,k*11+6,none⟩ (.int .i64 (p 6))).setCell ⟨J,k*11+7,none⟩ (.int .i64 (p 7))).setCell ⟨J,k*11+8,none⟩ (.int .i64 (p 8))).setCell ⟨J,k*11+9,none⟩ (.int .i64 (p 9))).setCell ⟨J,k*11+10,none⟩ (.int .i64 (p 10))/\fg w5 J 32 (Cr.fO E (En.put F k p))/\Cr.uI w5 lo (.slice a n kk) n Th/\w.grownBy w5 none/\lo<=w5.heap.size):=⟨_,rfl,(uh pH).1,(uh pH).2.1,(uh pH).2.2.1,(uh pH).2.2.2⟩;obtain⟨w5,hw5,wP,QU,hg5,Xb⟩:=uh aK;rw[<-hw5];have Wy:=aa wP;have Ua:=aa QU;have WY:=aa hg5;have Oj:=aa Xb;obtain⟨r0,r1,r2,r3,r4,r5,r6,r7,r8,r9,pb⟩:=wP.ai.row (uh HK);rw[(show Cr.fO E (En.put F k p) k=p by unfold Cr.fO;rw[En.aB,abO (uh ub)])]at r0 r1 r2 r3 r4 r5 r6 r7 r8 r9 pb;clear hw5 wP QU hg5 Xb aK pH u0 u1 u2 u3 u4 u5 u6 u7 u8 u9 iO fJ;obtain⟨i0,hi,dJ,dz,ed⟩:=info_parts gl;have abp:n<=32:=by have:=(uh GG).nt;have:=uh HL;omega
    go_wp2_with (at_builtin;refine wpList_append_own _ rfl _ _ 26 rfl lo 54 i0 (.agg #[.int .i64 0,.int .i64 0,.int .i64 0,.int .i64 0,.int .i64 0,.int .i64 0,.int .i64 0,.int .i64 0,.int .i64 0,.int .i64 0,.int .i64 0]) 11 88 underlying26 hi dJ dz ed rfl (by decide) _ _ _ rfl ((uh Ua).alloc _) ⟨w5.heap.size,0,none⟩ 1 1 [.int .i64 (p 0),.int .i64 (p 1),.int .i64 (p 2),.int .i64 (p 3),.int .i64 (p 4),.int .i64 (p 5),.int .i64 (p 6),.int .i64 (p 7),.int .i64 (p 8),.int .i64 (p 9),.int .i64 (p 10)] rfl rfl ?_ ?_ ?_ ?_ ?_ ?_)
    ·exact oP _ _ rfl _ _ _ _ _ _ _ _ _ _ _ _
    ·intro u hu;simp only[List.mem_cons,List.not_mem_nil,or_false]at hu;rcases hu with rfl|rfl|rfl|rfl|rfl|rfl|rfl|rfl|rfl|rfl|rfl <;> rfl
    ·unfold maxLen;omega
    ·omega
    ·have:=uh Oj;simp;omega
    intro v6 w6 oh zI _;rw[<-Cr.Ml]at oh;have hga:=abE w5 (.cells #[.int .i64 (p 0),.int .i64 (p 1),.int .i64 (p 2),.int .i64 (p 3),.int .i64 (p 4),.int .i64 (p 5),.int .i64 (p 6),.int .i64 (p 7),.int .i64 (p 8),.int .i64 (p 9),.int .i64 (p 10)] 54) none;have hK6:Hid (Cr.uF w w6 lo J (t+1) (n+1) v6 c E (En.put F k p) (En.put Th n p)):=by
     have q1:=(uh GG).lw;have q2:=(uh GG).lJ;have q3:=(uh GG).nt;have Oq:∀m,Value.ownBlock (.slice a n kk)=some m->lo<=m:=fun m hm=>(uh Ua).Qg hm;refine⟨?_,oh,uh jf,uh ig,uh hT,by omega,q1,q2,?_,?_⟩
     ·have hl:=((uh Wy).lie (m:=352) (by omega)).on hga;exact(hl.grown zI (fun e=>by have:=Oq J e;omega)).own (by omega) (by omega)
     ·have:=uh Oj;have:=hga.size;have:=zI.size;omega
     ·exact gow (gtr (uh WY) hga) zI (fun m hm=>by have:=Oq m hm;omega)
    clear oh zI hga hi dJ dz ed r0 r1 r2 r3 r4 r5 r6 r7 r8 r9 pb Wy Ua WY Oj jf ig hT GG;go_wp2;go_roundw
    case rel=>exact⟨t+1,n+1,En.put F k p,En.put Th n p,by have:=uh HL;omega,by go_num,hK6⟩
    case measure=>simp[intOf];have:=uh HL;omega
  ·obtain rfl:t=4:=by omega
   have hge:¬((4:Nat):Int)<4:=by omega
   have ah:Hid (Cr.yP w c E (.returned (.slice (some ⟨J,0,none⟩) 32 32)) wr):=⟨J,F,rfl,(uh hK).lw,uh fh F wr J (uh hK).land (uh hK).own,(uh hK).land,(uh hK).grown⟩;clear hlt ht;go_wp2;go_ret;exact uh ah
variable{B L cC cE cI gC gE gI lo:Nat}{E I:N2}{c g s:N1}{fZ:Nat->Value}{u w x:World}
def Cr.Ql(seed f:Int)(w:World)(e:Ending)(w':World):Prop :=
 ∃(c:N1) (es:List (Int × Nat)) (is:List Gn.li) (G nE nI kE kI:Nat) (aE aI:Option Addr),Cr.xC seed f c es is/\e=.returned (.tuple #[.agg #[.slice (some ⟨G,0,none⟩) 384 384,.slice aE nE kE,.slice aI nI kI],.int .i64 0])/\w.heap.size<=G/\ay w' G 5 384 (aZ c)/\Cr.tS w' aE nE es/\Gd.qP w' aI nI (Cr.fN is)/\nI=is.length/\w.grownBy w' none/\∀z,Cr.ll w.heap.size w' z->Cr.tS z aE nE es/\Gd.qP z aI nI (Cr.fN is)
theorem Gx(seed f:Int)(h1:1<=f)(h3:f<=3)(w:World):Calls prog 53 #[.int .i64 seed,.int .i64 f] w (Cr.Ql seed f w):=by
 obtain⟨d,hd,hF⟩:=Kv seed f;refine(OV seed f d hd hF h1 h3 w).mono ?_;rintro e w' ⟨c,F,G,nE,nI,cE,cI,aE,aI,iW,rfl,hG,hA,Jr,rK,hE,hI,hg⟩;have hl:Cr.xC seed f c (Gn.ai d f c F) (Gn.aj d c):=⟨d,F,hd,hF,iW,rfl,rfl⟩;have NN:nE<=40:=by
  rw[Jr];have:=Gn.nm d f (f+2).toNat 0 ((Gn.bi (fun i=>c i==1) 384).filter (Gn.eB F));unfold Gn.ai;omega
 have GF:nI<=100:=by
  have:=Gn.yj d c;rw[rK,this.1];split <;> omega
 exact⟨c,_,_,G,nE,nI,cE,cI,aE,aI,hl,rfl,hG,hA.lie,Cr.uz hE Jr NN (fun p hp=>⟨(hl.mons h1 p hp).1,(hl.mons h1 p hp).2.1,(hl.mons h1 p hp).2.2.1⟩),Cr.rm hI rK GF,rK,hg,fun z hz=>⟨Cr.uz (hz.Mt hE) Jr NN (fun p hp=>⟨(hl.mons h1 p hp).1,(hl.mons h1 p hp).2.1,(hl.mons h1 p hp).2.2.1⟩),Cr.rm (hz.Mt hI) rK GF⟩⟩
theorem Cr.tS.aaL{a:Option Addr}{n:Nat}{es:List (Int × Nat)}(h:Cr.tS w a n es):Cr.F3 w a n (es.map fun p=>Cr.bo p.1 0 p.2) :=
 ⟨by rw[List.length_map];exact h.1,h.2.1,fun i e he=>by
  rw[List.getElem?_map]at he
  obtain⟨p,hp,rfl⟩:=Option.map_eq_some_iff.1 he
  obtain⟨hk,b,ha,hb,hc⟩:=h.2.2 i p hp
  refine⟨?_,b,ha,hb,hc⟩
  rw[(Cr.eS p.1 0 p.2).1 (by omega) (by omega)]
  omega⟩
theorem Cr.JP(E:N2)(es:List (Int × Nat)):Cr.db E (es.map fun p=>Cr.bo p.1 0 p.2)=Cr.cZ E es:=by
 unfold Cr.db Cr.cZ;rw[List.foldl_map]
 congr 1
structure Cr.oD(w x:World)(B L lo gC gE gI cC cE cI:Nat)(u:World)(fZ:Nat->Value)(s g c:N1)(E I:N2):Prop where
 al:Cr.me w x B gC gE gI cC cE cI s g c E I
 fZ:ay x L 80 3 fZ
 bl:ay x (B+1) 30 11 (fun j=>#[.int .i64 0,.int .i64 0,.int .i64 0,.int .i64 0,.slice none 0 0,.slice none 0 0,.slice none 0 0,.int .i64 0,.int .i64 0,.int .i64 0,Value.int .i64 0][j]?.getD undef)
 ki:Cr.ll lo u x
 Lt:B<lo
theorem Cr.oD.on{y:World}(h:Cr.oD w x B L lo gC gE gI cC cE cI u fZ s g c E I)(hg:x.grownBy y none):Cr.oD w y B L lo gC gE gI cC cE cI u fZ s g c E I :=
 ⟨h.al.on hg,h.fZ.on hg,h.bl.on hg,h.ki.on hg,h.Lt⟩
theorem Cr.oD.folk{x':World}{jE dE:Nat}{F:N2}(h:Cr.oD w x B L lo gC gE gI cC cE cI u fZ s g c E I)(ap:32<=dE)(hj:jE=gE\/x.heap.size<=jE)(hO:fg x' jE 32 F)(hg:x.grownBy x' none):Cr.oD w (x'.setCell ⟨B,5,none⟩ (.slice (some ⟨jE,0,none⟩) 32 dE)) B L lo gC jE gI cC dE cI u fZ s g c F I :=
 ⟨h.al.folk ap hj hO hg,(h.fZ.on hg).aP (h.al.af.box.ao h.fZ (by decide)) 5 _,(h.bl.on hg).aP (by omega) 5 _,(h.ki.on hg).set (.inl h.Lt) 5 _,h.Lt⟩
theorem Cr.oD.xU{x':World}{jI dI:Nat}{J:N2}(h:Cr.oD w x B L lo gC gE gI cC cE cI u fZ s g c E I)(hj:x.heap.size<=jI)(hJ:ay x' jI 62 160 (Gd.aL J))(hg:x.grownBy x' none):Cr.oD w (x'.setCell ⟨B,6,none⟩ (.slice (some ⟨jI,0,none⟩) 40 dI)) B L lo gC gE jI cC cE dI u fZ s g c E J :=
 ⟨h.al.xU hj hJ hg,(h.fZ.on hg).aP (h.al.af.box.ao h.fZ (by decide)) 6 _,(h.bl.on hg).aP (by omega) 6 _,(h.ki.on hg).set (.inl h.Lt) 6 _,h.Lt⟩
def Cr.M4(w:World)(s g:N1)(E I:N2)(e:Ending)(w':World):Prop:=∃T,Cr.Below s g E I T/\Gd.gH w T.s T.g T.c T.E T.I e w'
theorem nK(s g c0:N1)(E I:N2)(a:Option Addr)(n m gE gI cE cI:Nat)(w:World)(hE:ay w gE 54 352 (En.aL E))(hI:ay w gI 62 160 (Gd.aL I))(jx:32<=cE)(n3:gE≠gI)(hS:Cr.bs c0 E I)(f1:0<=s 2)(f2:s 2<=2):Calls prog 25 #[.agg #[.int .i64 (s 0),.int .i64 (s 1),.int .i64 (s 2),.int .i64 (s 3),.slice a n m,.slice (some ⟨gE,0,none⟩) 32 cE,.slice (some ⟨gI,0,none⟩) 40 cI,.int .i64 (g 0),.int .i64 (g 1),.int .i64 (g 2),.int .i64 (g 3)]] w (Cr.M4 w s g E I):=by
 obtain⟨wz,gW⟩:∃wz,wz=w.alloc (.cells #[.int .i64 (s 0),.int .i64 (s 1),.int .i64 (s 2),.int .i64 (s 3),.slice a n m,.slice (some ⟨gE,0,none⟩) 32 cE,.slice (some ⟨gI,0,none⟩) 40 cI,.int .i64 (g 0),.int .i64 (g 1),.int .i64 (g 2),.int .i64 (g 3)] 30):=⟨_,rfl⟩;obtain⟨w0,aD⟩:∃w0,w0=wz.alloc (.cells #[.int .i64 0,.int .i64 0,.int .i64 0,.int .i64 0,.slice none 0 0,.slice none 0 0,.slice none 0 0,.int .i64 0,.int .i64 0,.int .i64 0,.int .i64 0] 30):=⟨_,rfl⟩;have fM:w.grownBy wz none:=by rw[gW];exact abE _ _ _
 have aN:wz.grownBy w0 none:=by rw[aD];exact abE _ _ _
 have vh:=aa (gtr fM aN);have sz:wz.heap.size=w.heap.size+1:=by rw[gW];simp
 have sw:w0.heap.size=w.heap.size+2:=by rw[aD,gW];simp
 have aF:Hid (ay w0 w.heap.size 30 11 (fun j=>#[.int .i64 (s 0),.int .i64 (s 1),.int .i64 (s 2),.int .i64 (s 3),.slice a n m,.slice (some ⟨gE,0,none⟩) 32 cE,.slice (some ⟨gI,0,none⟩) 40 cI,.int .i64 (g 0),.int .i64 (g 1),.int .i64 (g 2),Value.int .i64 (g 3)][j]?.getD undef)):=by
  refine ay.on ?_ aN;rw[gW];exact(ax.lit (abH w _)).lie
 have aM:Hid (ay w0 (w.heap.size+1) 30 11 (fun j=>#[.int .i64 0,.int .i64 0,.int .i64 0,.int .i64 0,.slice none 0 0,.slice none 0 0,.slice none 0 0,.int .i64 0,.int .i64 0,.int .i64 0,Value.int .i64 0][j]?.getD undef)):=by
  show ay w0 (w.heap.size+1) 30 11 (fun j=>#[.int .i64 0,.int .i64 0,.int .i64 0,.int .i64 0,.slice none 0 0,.slice none 0 0,.slice none 0 0,.int .i64 0,.int .i64 0,.int .i64 0,Value.int .i64 0][j]?.getD undef);rw[aD,<-sz];exact(ax.lit (abH wz _)).lie
 have zq:=aa (hE.on (uh vh));have PU:=aa (hI.on (uh vh));have hlE:=aa (And.intro hE.lt hI.lt);have UE:=aa n3;have kc:=aa jx;have NU:=aa hS;have hf:=aa (And.intro f1 f2);have cm:=aa (Gx (s 0) (s 2+1) (by omega) (by omega) w0);have sS:IntKind.i64.wrap (s 2+1)=s 2+1:=by rw[abK];omega
 have XI:=aa sw;clear hE hI jx n3 hS f1 f2 fM aN sz sw;rw[gW]at aD;clear gW;go_enter func25,ntmps25;go_upto_region 1 with fail;rw[<-aD];clear aD;obtain⟨B,hB⟩:=abV w.heap.size;rw[hB]at aF aM hlE XI|-;have eu:=aa hB;clear hB;have b0:w0.cell? ⟨B,0,none⟩=some (.int .i64 (s 0)):=(uh aF).cell (c:=0) (by omega);have b2:w0.cell? ⟨B,2,none⟩=some (.int .i64 (s 2)):=(uh aF).cell (c:=2) (by omega);go_wp2_with fail;refine(uh cm).mono ?_;rintro e0 w1 ⟨c,es,is,G,nE,nI,kE,kI,aE,aI,iW,rfl,hG,hC,hM,hIt,rK,hg1,Ww⟩;obtain⟨w2,ig⟩:∃w2,w2=w1.alloc (.cells #[.slice (some ⟨G,0,none⟩) 384 384,.slice aE nE kE,.slice aI nI kI] 80):=⟨_,rfl⟩;have hg2:w1.grownBy w2 none:=by rw[ig];exact abE _ _ _
 have LR:=gtr hg1 hg2;have nD:Hid (ay w2 w1.heap.size 80 3 (fun j=>#[.slice (some ⟨G,0,none⟩) 384 384,.slice aE nE kE,.slice aI nI kI][j]?.getD undef)):=by
  rw[ig];exact(ax.lit (abH w1 _)).lie
 have rD:=aa ((uh aF).on LR);have yd:=aa ((uh aM).on LR);have xV:=aa ((uh zq).on LR);have zt:=aa ((uh PU).on LR);have uZ:=aa (hC.on hg2);have Ws:=aa (gtr (uh vh) LR);have jQ:=aa iW;have LL:Hid (∀z,Cr.ll w0.heap.size w2 z->Cr.tS z aE nE es/\Gd.qP z aI nI (Cr.fN is)):=fun z hz=>Ww z ⟨abM hg2.size hz.1,fun k h1 h2=>(hz.2 k h1 (abR h2 hg2.size)).trans (hg2.block k h2 (by simp))⟩;have vD:=aa rK;have Wr:Hid (B+2<=G/\G<w1.heap.size):=(show B+2<=G/\G<w1.heap.size by have:=uh XI;have:=hC.lt;omega);clear iW hG hC hM hIt rK hg1 Ww hg2 LR cm b0 b2 aF aM zq PU vh;go_upto_region 2 with fail;rw[<-ig];clear ig;obtain⟨L,hL⟩:=abV w1.heap.size;rw[hL]at nD Wr|-;clear hL;clear w1;have nBL:=(uh rD).ao (uh nD) (by decide);have nLB:L≠B:=nBL.symm;obtain⟨S,T8⟩:∃S,S=Cr.bw s 2 (s 2+1):=⟨_,rfl⟩;obtain⟨x0,L7⟩:∃x0,x0=(w2.setCell ⟨B,2,none⟩ (.int .i64 (s 2+1))).setCell ⟨B,4,none⟩ (.slice (some ⟨G,0,none⟩) 384 384):=⟨_,rfl⟩;have zq:Hid (Cr.oD w x0 B L w0.heap.size G gE gI 384 cE cI w2 (fun j=>#[.slice (some ⟨G,0,none⟩) 384 384,.slice aE nE kE,.slice aI nI kI][j]?.getD undef) S g c E I):=by
  have q1:=uh hlE;have q2:=uh Wr;have q3:=uh XI;have q4:=uh eu;have nC:B≠G:=by omega
  have nE:B≠gE:=by omega
  have nI:B≠gI:=by omega
  show Cr.oD w x0 B L w0.heap.size G gE gI 384 cE cI w2 _ S g c E I;rw[L7,T8];refine⟨⟨⟨(((uh rD).store 2 _).store 4 _).congr fun j hj=>?_,⟨((uh uZ).aP nC _ _).aP nC _ _,((uh xV).aP nE _ _).aP nE _ _,((uh zt).aP nI _ _).aP nI _ _⟩,nC,nE,nI,by omega,by omega,uh UE⟩,by omega,uh kc,gsr (gsr (uh Ws) ⟨B,2,none⟩ (by rw[q4];exact abL _) _) ⟨B,4,none⟩ (by rw[q4];exact abL _) _⟩,((uh nD).aP nBL _ _).aP nBL _ _,((uh yd).aP (by omega) _ _).aP (by omega) _ _,(Cr.ll.set (.inl (by omega)) (Cr.ll.set (.inl (by omega)) ⟨abL _,fun _ _ _=>rfl⟩ _ _) _ _),by omega⟩;rcases(show j=0\/j=1\/j=2\/j=3\/j=4\/j=5\/j=6\/j=7\/j=8\/j=9\/j=10 by omega)with rfl|rfl|rfl|rfl|rfl|rfl|rfl|rfl|rfl|rfl|rfl <;> rfl
 have T9:=aa T8;clear T8;have fB:=(uh rD).free;have c2:w2.cell? ⟨B,2,none⟩=some (.int .i64 (s 2)):=(uh rD).cell (c:=2) (by omega);have c4:w2.cell? ⟨B,4,none⟩=some (.slice a n m):=(uh rD).cell (c:=4) (by omega);have l0:w2.cell? ⟨L,0,none⟩=some (.slice (some ⟨G,0,none⟩) 384 384):=(uh nD).cell (c:=0) (by omega);clear rD yd xV zt uZ Ws nD;go_upto_region 6 with fail;rw[<-L7];clear L7 fB c2 c4 l0;have vh:=aa (uh hlE);have yc:Hid (∀F,Cr.fe c E 4 (Cr.jq E) F->Cr.bs c F (Cr.fU (Cr.kept I) is)):=fun F hF=>by
  have hl:=uh jQ;have tX:∀i,0<=c i/\c i<=255:=fun i=>⟨(hl.ec.ku i).1,by have:=(hl.ec.ku i).2;omega⟩;obtain⟨hk,gv⟩:=Cr.zW (c':=c) (uh NU).ly.ok;exact(Cr.pp (uh NU) hl.ec hl.Gs (by omega) (Cr.pf tX (hl.lay hk gv) (uh NU).kz.rl) (fun k _ k0=>absurd rfl k0) hF).1
 have hkeep:Hid (∀x,x0.grownBy x none->x.cell? ⟨B,4,none⟩=some (.slice (some ⟨G,0,none⟩) 384 384)/\x.cell? ⟨B,5,none⟩=some (.slice (some ⟨gE,0,none⟩) 32 cE)/\x.cell? ⟨L,1,none⟩=some (.slice aE nE kE)):=fun x hx=>⟨((uh zq).on hx).al.af.box.ae.2.2.2.2.1,((uh zq).on hx).al.af.box.ae.2.2.2.2.2.1,((uh zq).on hx).fZ.cell (c:=1) (by omega)⟩;have ch:Hid (∀z,x0.grownBy z none->Calls prog 56 #[.slice (some ⟨gE,0,none⟩) 32 cE] z (Cr.pM z gE (Cr.cx E 32))):=fun z hz=>tT gE cE E z ((uh zq).on hz).al.af.ab.own (uh kc);have cg:Hid (∀z (j d:Nat),x0.grownBy z none->fg z j 32 (Cr.cx E 32)->Calls prog 55 #[.slice (some ⟨G,0,none⟩) 384 384,.slice (some ⟨j,0,none⟩) 32 d] z (Cr.yP z c E)):=fun z j d hz hO=>xd G 384 j d c c0 E I z ((uh zq).on hz).al.af.ab.cells (abL _) hO (uh NU) (uh jQ).ec (uh jQ).Gs;have cj:Hid (∀z (j:Nat) F,x0.grownBy z none->fg z j 32 F->Cr.fe c E 4 (Cr.jq E) F->Calls prog 54 #[.slice (some ⟨j,0,none⟩) 32 32,.slice aE nE kE] z (Cr.pM z j (Cr.cZ F es))):=fun z j F hz hO hL=>(show Calls prog 54 #[.slice (some ⟨j,0,none⟩) 32 32,.slice aE nE kE] z (Cr.pM z j (Cr.cZ F es)) by rw[<-Cr.JP];exact oL j 32 nE kE aE F _ z hO (abL _) (uh yc F hL).kz.rl (uh LL z ((uh zq).on hz).ki).1.aaL);have Yz:=aa (gd1 (abF x0 none));refine bH (h:=10) (S:=fun x=>x.cell? ⟨B,4,none⟩=some (.slice (some ⟨G,0,none⟩) 384 384)/\x.cell? ⟨B,5,none⟩=some (.slice (some ⟨gE,0,none⟩) 32 cE)/\x.cell? ⟨L,1,none⟩=some (.slice aE nE kE)) (by kernel_rfl) ?_;have hS0:=uh hkeep _ (uh Yz);refine wtk (i:=0) (v:=?_) [10] rfl (by kernel_rfl) (by kernel_rfl) (by kernel_rfl) (by kernel_rfl) (fun _ _ _ h=>h) hS0 (Or.inl ⟨by rfl,?_⟩) ?_;rotate_left
 ·intro x hSx
  try dsimp only at hSx
  go_simp
  try with_reducible rfl
 simp only[Act.put];refine wtk (i:=1) (v:=?_) [10] rfl (by kernel_rfl) (by kernel_rfl) (by kernel_rfl) (by kernel_rfl) (fun _ _ _ h=>h) hS0 (Or.inl ⟨by rfl,?_⟩) ?_;rotate_left
 ·intro x hSx
  try dsimp only at hSx
  go_simp
  try with_reducible rfl
 simp only[Act.put];refine wtk (i:=2) (v:=?_) [10] rfl (by kernel_rfl) (by kernel_rfl) (by kernel_rfl) (by kernel_rfl) (fun _ _ _ h=>h) hS0 (Or.inl ⟨by rfl,?_⟩) ?_;rotate_left
 ·intro x hSx
  try dsimp only at hSx
  go_simp
  try with_reducible rfl
 simp only[Act.put];refine wtk (i:=3) (v:=?_) [10] rfl (by kernel_rfl) (by kernel_rfl) (by kernel_rfl) (by kernel_rfl) (fun _ _ _ h=>h) hS0 (Or.inl ⟨by rfl,?_⟩) ?_;rotate_left
 ·intro x hSx
  try dsimp only at hSx
  go_simp
  try with_reducible rfl
 simp only[Act.put];refine wtk (i:=6) (v:=?_) [10] rfl (by kernel_rfl) (by kernel_rfl) (by kernel_rfl) (by kernel_rfl) (fun _ _ _ h=>h) hS0 (Or.inl ⟨by rfl,?_⟩) ?_;rotate_left
 ·intro x hSx
  try dsimp only at hSx
  go_simp
  try with_reducible rfl
 simp only[Act.put];refine wtk (i:=7) (v:=?_) [10] rfl (by kernel_rfl) (by kernel_rfl) (by kernel_rfl) (by kernel_rfl) (fun _ _ _ h=>h) hS0 (Or.inl ⟨by rfl,?_⟩) ?_;rotate_left
 ·intro x hSx
  try dsimp only at hSx
  go_simp
  try with_reducible rfl
 simp only[Act.put];refine wto (j:=4) (by kernel_rfl) rfl (fun K hK=>?_);go_simp;refine(uh ch _ (uh Yz)).mono ?_;rintro e0 x1 ⟨j1,d1,rfl,kx,SM,aR,hg1⟩;have KJ:=aa (gtr (uh Yz) hg1);have oe:=aa aR;have ko:=uh hkeep _ (uh KJ);clear hg1 kx SM aR
 try go_simp
 refine hK.out _ _ (fun _=>uh hkeep _ (uh KJ)) ?_;clear hK K;refine wto (j:=5) (by kernel_rfl) rfl (fun K hK=>?_);go_simp;refine(uh cg _ j1 d1 (uh KJ) (uh oe)).mono ?_;rintro e0 x2 ⟨j2,F,rfl,SO,gj,yc,hg2⟩;have rp:=aa (gtr (uh KJ) hg2);have gK:=aa gj;have hla:=aa yc;have sN:Hid (x0.heap.size<=j2):=abM (uh KJ).size SO;have LM:=uh hkeep _ (uh rp);clear hg2 SO gj yc ko oe
 try go_simp
 refine hK.out _ _ (fun _=>uh hkeep _ (uh rp)) ?_;clear hK K;refine wto (j:=8) (by kernel_rfl) rfl (fun K hK=>?_);go_simp;refine(uh cj _ j2 F (uh rp) (uh gK) (uh hla)).mono ?_;rintro e0 x3 ⟨j3,d3,rfl,Yw,SN,SU,dl⟩;have MT:=aa (gtr (uh rp) dl);have Sp:=aa ((uh zq).folk Yw (.inr (by rcases SN with h|h;rw[h];exact uh sN;exact abM (uh rp).size h)) SU (uh MT));have SN:Hid (x0.heap.size<=j3):=(show x0.heap.size<=j3 by rcases SN with h|h;rw[h];exact uh sN;exact abM (uh rp).size h);have hS3:=uh hkeep _ (uh MT);have fB:=((uh zq).on (uh MT)).al.af.box.free;clear dl Yw SU LM gK sN
 try go_simp
 refine hK.out _ _ (fun _=>uh hkeep _ (uh MT)) ?_;clear hK K;refine wtk (i:=9) (v:=?_) [10] rfl (by kernel_rfl) (by kernel_rfl) (by kernel_rfl) (by kernel_rfl) (fun _ _ _ h=>h) hS3 (Or.inl ⟨by rfl,?_⟩) ?_;rotate_left
 ·intro x hSx
  try dsimp only at hSx
  go_simp
  try with_reducible rfl
 simp only[Act.put];refine wto (j:=10) (by kernel_rfl) rfl (fun K hK=>?_);go_simp;refine hK.out _ _ (fun hx=>absurd (hx.symm.trans (by kernel_rfl)) abT) ?_;clear hK K;refine cy (by kernel_rfl) ?_ _;clear hkeep ch cg cj Yz KJ rp MT hS3;go_upto_region 7 with fail;generalize x3.setCell ⟨B,5,none⟩ (.slice (some ⟨j3,0,none⟩) 32 d3)=y0 at Sp|-;clear fB;have hkeep:Hid (∀x,y0.grownBy x none->x.cell? ⟨B,6,none⟩=some (.slice (some ⟨gI,0,none⟩) 40 cI)/\x.cell? ⟨L,2,none⟩=some (.slice aI nI kI)):=fun x hx=>⟨((uh Sp).on hx).al.af.box.ae.2.2.2.2.2.2.1,((uh Sp).on hx).fZ.cell (c:=2) (by omega)⟩;have cc:Hid (∀z,y0.grownBy z none->Calls prog 58 #[.slice (some ⟨gI,0,none⟩) 40 cI] z (Gd.nG z (Cr.kept I))):=fun z hz=>ss gI cI I z ((uh Sp).on hz).al.af.ab.aj;have US:Hid (Gd.lay (Cr.kept I) (Cr.fN is) nI=Cr.fU (Cr.kept I) is):=(show Gd.lay (Cr.kept I) (Cr.fN is) nI=Cr.fU (Cr.kept I) is by rw[uh vD];rfl);have cl:Hid (∀z (j d:Nat),y0.grownBy z none->ay z j 62 160 (Gd.aL (Cr.kept I))->Calls prog 57 #[.slice (some ⟨j,0,none⟩) 40 d,.slice aI nI kI] z (Gd.nG z (Cr.fU (Cr.kept I) is))):=fun z j d hz hJ=>(show Calls prog 57 #[.slice (some ⟨j,0,none⟩) 40 d,.slice aI nI kI] z (Gd.nG z (Cr.fU (Cr.kept I) is)) by rw[<-uh US];exact Ru j d nI kI aI (Cr.kept I) (Cr.fN is) z hJ (uh LL z ((uh Sp).on hz).ki).2);have YC:=aa (gd1 (abF y0 none));refine bH (h:=7) (S:=fun x=>x.cell? ⟨B,6,none⟩=some (.slice (some ⟨gI,0,none⟩) 40 cI)/\x.cell? ⟨L,2,none⟩=some (.slice aI nI kI)) (by kernel_rfl) ?_;have hS0:=uh hkeep _ (uh YC);refine wtk (i:=0) (v:=?_) [7] rfl (by kernel_rfl) (by kernel_rfl) (by kernel_rfl) (by kernel_rfl) (fun _ _ _ h=>h) hS0 (Or.inl ⟨by rfl,?_⟩) ?_;rotate_left
 ·intro x hSx
  try dsimp only at hSx
  go_simp
  try with_reducible rfl
 simp only[Act.put];refine wtk (i:=1) (v:=?_) [7] rfl (by kernel_rfl) (by kernel_rfl) (by kernel_rfl) (by kernel_rfl) (fun _ _ _ h=>h) hS0 (Or.inl ⟨by rfl,?_⟩) ?_;rotate_left
 ·intro x hSx
  try dsimp only at hSx
  go_simp
  try with_reducible rfl
 simp only[Act.put];refine wtk (i:=3) (v:=?_) [7] rfl (by kernel_rfl) (by kernel_rfl) (by kernel_rfl) (by kernel_rfl) (fun _ _ _ h=>h) hS0 (Or.inl ⟨by rfl,?_⟩) ?_;rotate_left
 ·intro x hSx
  try dsimp only at hSx
  go_simp
  try with_reducible rfl
 simp only[Act.put];refine wtk (i:=4) (v:=?_) [7] rfl (by kernel_rfl) (by kernel_rfl) (by kernel_rfl) (by kernel_rfl) (fun _ _ _ h=>h) hS0 (Or.inl ⟨by rfl,?_⟩) ?_;rotate_left
 ·intro x hSx
  try dsimp only at hSx
  go_simp
  try with_reducible rfl
 simp only[Act.put];refine wto (j:=2) (by kernel_rfl) rfl (fun K hK=>?_);go_simp;refine(uh cc _ (uh YC)).mono ?_;rintro e0 y1 ⟨j4,d4,rfl,hl4,hJ4,hg4⟩;have hG4:=aa (gtr (uh YC) hg4);have hJ:=aa hJ4;have hS4:=uh hkeep _ (uh hG4);clear hg4 hl4 hJ4
 try go_simp
 refine hK.out _ _ (fun _=>uh hkeep _ (uh hG4)) ?_;clear hK K;refine wto (j:=5) (by kernel_rfl) rfl (fun K hK=>?_);go_simp;refine(uh cl _ j4 d4 (uh hG4) (uh hJ)).mono ?_;rintro e0 y2 ⟨j5,d5,rfl,YM,hJ5,hg5⟩;have hG5:=aa (gtr (uh hG4) hg5);have YM:Hid (y0.heap.size<=j5):=abM (uh hG4).size YM;have xV:=aa ((uh Sp).xU (dI:=d5) (uh YM) hJ5 (uh hG5));have hS5:=uh hkeep _ (uh hG5);have fB:=((uh Sp).on (uh hG5)).al.af.box.free;clear hg5 hJ5 hS4 hJ
 try go_simp
 refine hK.out _ _ (fun _=>uh hkeep _ (uh hG5)) ?_;clear hK K;refine wtk (i:=6) (v:=?_) [7] rfl (by kernel_rfl) (by kernel_rfl) (by kernel_rfl) (by kernel_rfl) (fun _ _ _ h=>h) hS5 (Or.inl ⟨by rfl,?_⟩) ?_;rotate_left
 ·intro x hSx
  try dsimp only at hSx
  go_simp
  try with_reducible rfl
 simp only[Act.put];refine wto (j:=7) (by kernel_rfl) rfl (fun K hK=>?_);go_simp;refine hK.out _ _ (fun hx=>absurd (hx.symm.trans (by kernel_rfl)) abT) ?_;clear hK K;refine cy (by kernel_rfl) ?_ _;clear hkeep cc cl YC hG4 hG5 hS5;go_upto_region 8 with fail;generalize y2.setCell ⟨B,6,none⟩ (.slice (some ⟨j5,0,none⟩) 40 d5)=y3 at xV|-;clear fB;obtain⟨b0,b1,b2,b3,b4,b5,b6,b7,b8,b9,b10⟩:=(uh xV).al.af.box.ae;have fz:=(uh xV).bl.free;obtain⟨z0,z1,z2,z3,z4,z5,z6,z7,z8,z9,bO⟩:=Gd.aq (uh xV).bl;have ma:Hid (∀vs,Cr.M4 w s g E I (.returned (.agg (Gd.world S G j3 j5 384 d3 d5 g))) (y3.setCells (B+1) 0 vs)):=fun vs=>by
  have hh:=(uh xV).al.af;have q1:=(uh xV).bl.ao hh.ab.cells (by decide);have q2:=(uh xV).bl.ao hh.ab.ai (by decide);have q3:=(uh xV).bl.ao hh.ab.aj (by decide);have k1:=(uh zq).al.grown.size;have k2:=(uh Sp).al.grown.size;have k3:=uh SN;have k4:=uh YM;have k5:=uh Wr;have k6:=uh eu;refine⟨⟨S,g,c,Cr.cZ F es,Cr.fU (Cr.kept I) is⟩,⟨c,es,is,F,uh jQ,uh hla,by rw[uh T9]⟩,G,j3,j5,384,d3,d5,rfl,⟨(uh xV).al.aG,abL _⟩,by omega,by omega,by omega,hh.cE,hh.cI,hh.eI,⟨hh.ab.cells.aQ q1 _ _,hh.ab.ai.aQ q2 _ _,hh.ab.aj.aQ q3 _ _⟩,aA (by omega) _ 0 y3 (uh xV).al.grown⟩
 clear xV;go_wp2;refine abN (v:=.agg (Gd.world S G j3 j5 384 d3 d5 g)) (by simp[results,results25,go_sem,Gd.world,z0,z1,z2,z3,z4,z5,z6,z7,z8,z9,bO]) rfl ?_;exact uh ma [_,_,_,_,_,_,_,_,_,_,_]
