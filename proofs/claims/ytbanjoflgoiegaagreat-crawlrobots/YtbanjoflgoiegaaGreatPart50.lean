import Derived.Test.YtbanjoflgoiegaaGreatPart30
set_option maxHeartbeats 12800000
set_option maxRecDepth 8000
namespace Go.Proofs.YtbanjoflgoiegaaGreat
open Go.Proofs.Tryz
open Go.RowKit
variable{I:N2}{ag:Int}{c f:N1}
def Md.ob(I:N2)(ag:Int)(n:Nat)(f:N1):Prop:=∀b:Nat,b<4->(∃i,i<n/\I i 1=2/\I i 2=ag/\I i 3=(b:Int)/\f b=I i 0)\/((∀i,i<n->¬(I i 1=2/\I i 2=ag/\I i 3=(b:Int)))/\f b=0)
theorem Md.ob.skip{n:Nat}(h:Md.ob I ag n f)(hno:∀b:Nat,b<4->¬(I n 1=2/\I n 2=ag/\I n 3=(b:Int))):Md.ob I ag (n+1) f:=fun b hb=>by
 rcases h b hb with⟨i,hi,r⟩|⟨h1,h2⟩
 ·exact .inl ⟨i,by omega,r⟩
 ·refine .inr ⟨fun i hi=>?_,h2⟩
  by_cases e:i=n
  ·rw[e];exact hno b hb
  ·exact h1 i (by omega)
theorem Md.ob.take{n b:Nat}(h:Md.ob I ag n f)(h1:I n 1=2)(h2:I n 2=ag)(h3:I n 3=(b:Int)):Md.ob I ag (n+1) (Gr.dj f b (I n 0)):=fun b' hb=>by
 by_cases e:b'=b
 ·subst e
  refine .inl ⟨n,by omega,h1,h2,h3,?_⟩
  simp[Gr.dj]
 ·have hu:Gr.dj f b (I n 0) b'=f b':=by simp[Gr.dj,e]
  rw[hu];rcases h b' hb with⟨i,hi,r⟩|⟨g1,g2⟩
  ·exact .inl ⟨i,by omega,r⟩
  ·refine .inr ⟨fun i hi=>?_,g2⟩;by_cases e2:i=n
   ·rw[e2];rintro⟨_,_,h⟩;omega
   ·exact g1 i (by omega)
theorem Gd.Ok.ki(h:Gd.Ok c 40 I){i k:Nat}(hi:i<40)(hk:k<40)(h0:I i 1≠0)(h1:I k 1=I i 1)(h2:I k 2=I i 2)(h3:I k 3=I i 3):i=k:=by
 by_cases e:i=k
 ·exact e
 ·exact absurd ⟨h1,h2,h3⟩ (h.bo i k hi hk e h0)
def Md.xE(f:N1)(v:Int):Bool:=decide (0<=En.first (fun b=>decide (v=f b)) 4)
theorem Md.xF(f:N1)(v:Int):Md.xE f v=true↔∃b,b<4/\f b=v:=by
 unfold Md.xE;rcases En.aw (fun b=>decide (v=f b)) 4 with⟨he,hno⟩|⟨k,hk,he,hq,_⟩
 ·rw[he];refine⟨fun h=>by simp at h,fun ⟨b,hb,e⟩=>?_⟩;have:=hno b hb;simp[e]at this
 ·rw[he];refine⟨fun _=>⟨k,hk,?_⟩,fun _=>by simp⟩;have:=of_decide_eq_true hq;exact this.symm
theorem Md.QX(P6:Gd.Ok c 40 I)(h:Md.ob I ag 40 f):Md.xE f 1=decide (0<=Gd.lF I 40 ag 1 1):=by
 rw[Bool.eq_iff_iff,Md.xF,decide_eq_true_iff];constructor
 ·rintro⟨b,hb,e⟩;rcases h b hb with⟨i,hi,i1,i2,i3,hf⟩|⟨_,h0⟩
  ·have GN:∃k:Nat,k<40/\Gd.an I 40 2 ag (b:Int)=(k:Int)/\I k 1=2/\I k 2=ag/\I k 3=(b:Int):=by
    rcases Gd.fL I 40 2 ag (b:Int)with⟨_,hno⟩|⟨k,hk,he,k1,k2,k3,_⟩
    ·exact absurd ⟨i1,i2,i3⟩ (hno i hi)
    ·exact⟨k,hk,he,k1,k2,k3⟩
   obtain⟨k,hk,he,k1,k2,k3⟩:=GN;obtain rfl:i=k:=P6.ki hi hk (by omega) (by omega) (by omega) (by omega);have hQ:Gd.GJ I 40 ag 1 1 b=true:=by
    simp only[Gd.GJ,Bool.and_eq_true,decide_eq_true_eq];rw[he,abG];omega
   unfold Gd.lF;rcases En.aw (Gd.GJ I 40 ag 1 1) 4 with⟨Q4,hno⟩|⟨m,hm,Q4,hq,_⟩
   ·rw[hno b hb]at hQ;cases hQ
   ·rw[abP (by omega),Q4];simp only[Gd.GJ,Bool.and_eq_true,decide_eq_true_eq]at hq;exact hq.1
  ·omega
 ·intro hh;obtain⟨k,hk,_,k1,k2,k3,k4,k5,k6⟩:=Gd.kO hh;refine⟨(I k 3).toNat,by omega,?_⟩;rcases h (I k 3).toNat (by omega)with⟨i,hi,i1,i2,i3,hf⟩|⟨hno,_⟩
  ·obtain rfl:i=k:=P6.ki hi hk (by omega) (by omega) (by omega) (by omega);omega
  ·exact absurd ⟨k1,k2,by omega⟩ (hno k hk)
theorem Md.Px(P6:Gd.Ok c 40 I)(h:Md.ob I ag 40 f):Md.xE f 0=decide (0<=Gd.cY I 40 ag):=by
 rw[Bool.eq_iff_iff,Md.xF,decide_eq_true_iff];constructor
 ·rintro⟨b,hb,e⟩;rcases h b hb with⟨i,hi,i1,i2,i3,hf⟩|⟨hno,_⟩
  ·rcases P6.LB i hi with hz|hp
   ·have:=hz.2.1;omega
   ·have:=hp.1;omega
  ·unfold Gd.cY;rcases En.aw (fun b=>decide (Gd.an I 40 2 ag (b:Int)<0)) 4 with⟨_,hn⟩|⟨m,hm,Q4,_⟩
   ·have:=hn b hb;simp only[decide_eq_false_iff_not]at this;obtain⟨k,hk,_,k1,k2,k3⟩:=Gd.gd (I:=I) (n:=40) (w:=2) (a:=ag) (b:=(b:Int)) (by omega);exact absurd ⟨k1,k2,k3⟩ (hno k hk)
   ·omega
 ·intro hs;obtain⟨h4,hno⟩:=Gd.wu hs;refine⟨(Gd.cY I 40 ag).toNat,by omega,?_⟩;rcases h (Gd.cY I 40 ag).toNat (by omega)with⟨i,hi,i1,i2,i3,_⟩|⟨_,h0⟩
  ·exact absurd ⟨i1,i2,by omega⟩ (hno i hi)
  ·exact h0
def Md.iJ(I:N2)(x y:Int)(room:Bool):Nat->Bool:=fun i=>(decide (I i 1=1)&&(decide (I i 2=x)&&decide (I i 3=y)))&&(room||decide (I i 0=4))
def Md.Mi(I:N2)(x y:Int)(room:Bool):Bool:=decide (0<=En.first (Md.iJ I x y room) 40)
theorem Md.OP{x y S:Int}(P6:Gd.Ok c 40 I):Md.Mi I x y (decide (0<=S))=decide (0<=Gd.an I 40 1 x y/\(I (Gd.an I 40 1 x y).toNat 0=4\/0<=S)):=by
 unfold Md.Mi;rw[Bool.eq_iff_iff,decide_eq_true_iff,decide_eq_true_iff];constructor
 ·intro h;rcases En.aw (Md.iJ I x y (decide (0<=S))) 40 with⟨he,_⟩|⟨k,hk,he,hq,_⟩
  ·omega
  ·simp only[Md.iJ,Bool.and_eq_true,Bool.or_eq_true,decide_eq_true_eq]at hq;obtain⟨⟨k1,k2,k3⟩,k4⟩:=hq;rcases Gd.fL I 40 1 x y with⟨_,hno⟩|⟨j,hj,hf,j1,j2,j3,_⟩
   ·exact absurd ⟨k1,k2,k3⟩ (hno k hk)
   ·obtain rfl:k=j:=P6.ki hk hj (by omega) (by omega) (by omega) (by omega);rw[hf,abG];exact⟨by omega,by rcases k4 with h|h <;> omega⟩
 ·rintro⟨h1,h2⟩;obtain⟨k,hk,he,k1,k2,k3⟩:=Gd.gd h1;rw[he,abG]at h2;rcases En.aw (Md.iJ I x y (decide (0<=S))) 40 with⟨_,hno⟩|⟨m,hm,hf,_⟩
  ·have:=hno k hk;have hq:Md.iJ I x y (decide (0<=S)) k=true:=by
    simp only[Md.iJ,Bool.and_eq_true,Bool.or_eq_true,decide_eq_true_eq];exact⟨⟨k1,k2,k3⟩,by rcases h2 with h|h <;> omega⟩
   rw[hq]at this;cases this
  ·omega
def Md.Kk(w:World)(I:N2)(ag:Int)(e:Ending)(w':World):Prop:=∃G f,e=.returned (.slice (some ⟨G,0,none⟩) 4 4)/\ax w' G 3 4 (bB f)/\Md.ob I ag 40 f/\w.grownBy w' none
theorem OQ(I:N2)(gI cI:Nat)(ag:Int)(w:World)(hI:wN w gI 0 40 I):Calls prog 227 #[.slice (some ⟨gI,0,none⟩) 40 cI,.int .i64 ag] w (Md.Kk w I ag):=by
 have mS:=aa hI;obtain⟨i0,hi,dJ,dz,ed⟩:=info_parts gX;clear hI;go_enter func227,ntmps227;obtain⟨G,hG⟩:∃G,G=w.heap.size:=⟨_,rfl⟩;have kw:=aa hG;clear hG;go_wp2_with (at_make;refine wpList_make_full _ rfl _ _ 38 rfl G 3 i0 (.int .i64 0) 1 underlying38 hi dJ dz .i64 .i64 _ _ 4 rfl rfl rfl rfl ?q3 ?q4 (Nat.le_of_eq (uh kw)) ?_)
 case q3=>rw[ed];omega
 case q4=>unfold maxLen;omega
 intro w2 aH az;rw[<-uh kw]at aH|-;have hA:=aa (ax.zero aH);have hB0:Hid (w.grownBy w2 none):=dV (by rw[<-uh kw];exact(Below.refl _ _).grown az (Nat.le_of_eq (uh kw)) (by intro k hk;cases hk));clear aH az hi dJ dz ed;go_wp2_with fail;go_loopw [7,11] (fun _ i wr=>∃(k:Nat)(f:N1),k<=40/\i=.int .i64 (k:Int)/\Hid (ax wr G 3 4 (bB f))/\Hid (Md.ob I ag k f)/\Hid (w.grownBy wr none)) (fun _ i _=>50-(intOf i).toNat)
 case atStart=>exact⟨0,fun _=>0,Nat.zero_le _,rfl,(uh hA).congr fun _ _=>rfl,fun b _=>.inr ⟨fun i hi=>by omega,rfl⟩,hB0⟩
 case round =>
  obtain⟨k,f,hk,rfl,dP,pQ,hg1⟩:=hrel;clear hA hB0;by_cases hlt:k<40
  ·have hlt':(k:Int)<40:=by omega
   have HL:=aa hlt;obtain⟨u0,u1,u2,u3⟩:=((uh mS).on (uh hg1)).row hlt;obtain⟨p0,h0⟩:∃p,I k 0=p:=⟨_,rfl⟩;obtain⟨p1,h1⟩:∃p,I k 1=p:=⟨_,rfl⟩;obtain⟨p2,h2⟩:∃p,I k 2=p:=⟨_,rfl⟩;obtain⟨p3,h3⟩:∃p,I k 3=p:=⟨_,rfl⟩;rw[h0]at u0;rw[h1]at u1;rw[h2]at u2;rw[h3]at u3;have hP:=aa (show I k 0=p0/\I k 1=p1/\I k 2=p2/\I k 3=p3 from⟨h0,h1,h2,h3⟩);clear h0 h1 h2 h3 hlt hk;have hga:=aa (abE wr (.cells #[.int .i64 p0,.int .i64 p1,.int .i64 p2,.int .i64 p3] 62) none);by_cases m:p1=2/\p2=ag/\0<=p3/\p3<4
   ·obtain⟨rfl,rfl,m3,m4⟩:=m;obtain⟨b,rfl⟩:∃b:Nat,p3=(b:Int):=⟨p3.toNat,by omega⟩;have HB:=aa (show b<4 by omega);have dF:=aa ((uh dP).grown (uh hga) (by simp));have ya:=(uh dF).cell (uh HB);have Jm:=(uh dF).free b;have pA:Hid (Md.ob I p2 (k+1) (Gr.dj f b p0)):=by
     have Yn:=uh hP;have:=(uh pQ).take Yn.2.1 Yn.2.2.1 Yn.2.2.2;rw[Yn.1]at this;exact this
    have ah:Hid (∀v:Int,w.grownBy ((wr.alloc (.cells #[.int .i64 p0,.int .i64 2,.int .i64 p2,.int .i64 (b:Int)] 62)).setCell ⟨G,b,none⟩ (.int .i64 v)) none):=fun v=>gsr (gtr (uh hg1) (uh hga)) ⟨G,b,none⟩ (Nat.le_of_eq (uh kw).symm) _;clear hP hga dP pQ hg1;go_wp2;go_roundw
    case rel=>exact⟨k+1,Gr.dj f b p0,by have:=uh HL;omega,by go_num,(uh dF).dj p0,pA,uh ah p0⟩
    case measure=>have:=uh HL;simp[intOf];omega
   ·have pA:Hid (Md.ob I ag (k+1) f):=(uh pQ).skip fun b hb ⟨j1,j2,j3⟩=>m (by have:=uh hP;omega);have dF:=aa ((uh dP).grown (uh hga) (by simp));have hg2:=aa (gtr (uh hg1) (uh hga));clear hP hga dP pQ hg1;by_cases m1:p1=2
    ·subst m1;by_cases m2:p2=ag
     ·subst m2;by_cases m3:p3<0
      ·have m3':¬p3≥0:=(by omega);clear m;go_wp2;go_roundw
       case rel=>exact⟨k+1,f,by have:=uh HL;omega,by go_num,dF,pA,hg2⟩
       case measure=>have:=uh HL;simp[intOf];omega
      ·have m3':p3≥0:=(by omega);have m4':¬p3<4:=(by omega);clear m;go_wp2;go_roundw
       case rel=>exact⟨k+1,f,by have:=uh HL;omega,by go_num,dF,pA,hg2⟩
       case measure=>have:=uh HL;simp[intOf];omega
     ·have m2':(p2==ag)=false:=by simpa using m2
      clear m m2;go_wp2;go_roundw
      case rel=>exact⟨k+1,f,by have:=uh HL;omega,by go_num,dF,pA,hg2⟩
      case measure=>have:=uh HL;simp[intOf];omega
    ·have m1':(p1==2)=false:=by simpa using m1
     clear m m1;go_wp2;go_roundw
     case rel=>exact⟨k+1,f,by have:=uh HL;omega,by go_num,dF,pA,hg2⟩
     case measure=>have:=uh HL;simp[intOf];omega
  ·obtain rfl:k=40:=by omega
   have hge:¬((40:Nat):Int)<40:=by omega
   have ah:Hid (Md.Kk w I ag (.returned (.slice (some ⟨G,0,none⟩) 4 4)) wr):=⟨G,f,rfl,uh dP,uh pQ,uh hg1⟩;clear hlt hk;go_wp2;go_ret;exact uh ah
theorem JT(G:Nat)(f:N1)(v:Int)(w:World)(hA:ax w G 3 4 (bB f)):Calls prog 133 #[.slice (some ⟨G,0,none⟩) 4 4,.int .i64 v] w fun e w'=>e=.returned (.int .i64 (En.first (fun b=>decide (v=f b)) 4))/\w'=w:=by
 have jr:=aa hA;have Ob:Hid (∀k:Nat,k<4->(∀j,j<k->v≠f j)->v=f k->En.first (fun b=>decide (v=f b)) 4=(k:Int)):=fun k hk hno e=>En.cG (fun j hj=>abI (hno j hj)) (abJ e) hk;have fm:Hid ((∀j,j<4->v≠f j)->En.first (fun b=>decide (v=f b)) 4=-1):=fun hno=>En.bt (fun j hj=>abI (hno j hj));generalize En.first (fun b=>decide (v=f b)) 4=r at Ob fm|-
 clear hA;go_enter func133,ntmps133;go_wp2_with fail;go_loop [5,8] (fun _ i=>∃k:Nat,k<=4/\i=.int .i64 (k:Int)/\Hid (∀j,j<k->v≠f j)) (fun _ i=>10-(intOf i).toNat)
 case atStart=>exact⟨0,by omega,rfl,fun j hj=>by omega⟩
 case round =>
  obtain⟨k,hk,rfl,hno⟩:=hrel;by_cases hlt:k<4
  ·have q:w.cell? ⟨G,k,none⟩=some (.int .i64 (f k)):=(uh jr).cell hlt;have hlt':(k:Int)<4:=by omega
   have HL:=aa hlt;obtain⟨u,hu⟩:=abV (f k);rw[hu]at q;have Qc:=aa hu;clear hu hlt hk;by_cases e:v=u
   ·have he:Hid (r=(k:Int)):=uh Ob k (uh HL) (uh hno) (by rw[uh Qc];exact e);subst e;go_wp2;go_ret;exact⟨rti (uh he).symm,rfl⟩
   ·have e':(v==u)=false:=by simpa using e
    have oW:Hid (∀j,j<k+1->v≠f j):=fun j hj=>by
     by_cases ej:j=k
     ·rw[ej,uh Qc];exact e
     ·exact uh hno j (by omega)
    clear e;go_wp2
    go_round
    case rel=>exact⟨k+1,by have:=uh HL;omega,by go_num,oW⟩
    case measure=>have:=uh HL;simp[intOf];omega
  ·obtain rfl:k=4:=by omega
   have hge:¬((4:Nat):Int)<4:=by omega
   have he:Hid (r=-1):=uh fm (uh hno);clear hlt hk;go_wp2;go_ret;exact⟨rti (uh he).symm,rfl⟩
theorem pV(G:Nat)(f:N1)(v:Int)(w:World)(hA:ax w G 3 4 (bB f)):Calls prog 229 #[.slice (some ⟨G,0,none⟩) 4 4,.int .i64 v] w fun e w'=>e=.returned (.bool (Md.xE f v))/\w'=w:=by
 have ci:=aa (JT G f v w hA);have hd:Hid (Md.xE f v=decide (0<=En.first (fun b=>decide (v=f b)) 4)):=rfl;rw[uh hd];generalize En.first (fun b=>decide (v=f b)) 4=r at ci|-
 clear hA hd;go_enter func229,ntmps229;go_wp2_with fail;refine abW (uh ci) ?_;go_wp2;go_ret;exact⟨by simp,rfl⟩
theorem Mn(I:N2)(k:Nat)(x y:Int)(room:Bool)(Bh Br:Nat)(w:World)(h3:w.cell? ⟨Bh,3,none⟩=some (.int .i64 x))(h4:w.cell? ⟨Bh,4,none⟩=some (.int .i64 y))(hr:w.cell? ⟨Br,0,none⟩=some (.bool room))(l1:Bh<w.heap.size)(l2:Br<w.heap.size):Calls prog 232 #[.agg #[.int .i64 (I k 0),.int .i64 (I k 1),.int .i64 (I k 2),.int .i64 (I k 3)],.pointer (some ⟨Bh,0,none⟩),.pointer (some ⟨Br,0,none⟩)] w (aJ w (.bool (Md.iJ I x y room k))):=by
 have hd:Hid (Md.iJ I x y room k=((decide (I k 1=1)&&(decide (I k 2=x)&&decide (I k 3=y)))&&(room||decide (I k 0=4)))):=rfl;rw[uh hd];obtain⟨p0,h0⟩:∃p,I k 0=p:=⟨_,rfl⟩;obtain⟨p1,h1⟩:∃p,I k 1=p:=⟨_,rfl⟩;obtain⟨p2,h2⟩:∃p,I k 2=p:=⟨_,rfl⟩;obtain⟨p3,hp3⟩:∃p,I k 3=p:=⟨_,rfl⟩;rw[h0,h1,h2,hp3];clear hd h0 h1 h2 hp3;have hg:=aa (abE w (.cells #[.int .i64 p0,.int .i64 p1,.int .i64 p2,.int .i64 p3] 62) none);have g3:=(gce (uh hg) Bh 3 l1 (by simp)).trans h3;have g4:=(gce (uh hg) Bh 4 l1 (by simp)).trans h4;have gr:=(gce (uh hg) Br 0 l2 (by simp)).trans hr;by_cases m1:p1=1
 ·subst m1;by_cases m2:p2=x
  ·subst m2;by_cases m3:p3=y
   ·subst m3;cases room
    ·go_enter func232,ntmps232;go_wp2;go_ret;exact⟨by simp[Bool.beq_eq_decide_eq],uh hg⟩
    ·go_enter func232,ntmps232;go_wp2;go_ret;exact⟨by simp,uh hg⟩
   ·have m3':(p3==y)=false:=by simpa using m3
    go_enter func232,ntmps232;go_wp2;go_ret;exact⟨by simp[m3],uh hg⟩
  ·have m2':(p2==x)=false:=by simpa using m2
   go_enter func232,ntmps232;go_wp2;go_ret;exact⟨by simp[m2],uh hg⟩
 ·have m1':(p1==1)=false:=by simpa using m1
  go_enter func232,ntmps232;go_wp2;go_ret;exact⟨by simp[m1],uh hg⟩
theorem vS(I:N2)(gI cI:Nat)(x y:Int)(room:Bool)(Bh Br:Nat)(w:World)(hI:wN w gI 0 40 I)(h3:w.cell? ⟨Bh,3,none⟩=some (.int .i64 x))(h4:w.cell? ⟨Bh,4,none⟩=some (.int .i64 y))(hr:w.cell? ⟨Br,0,none⟩=some (.bool room))(l1:Bh<w.heap.size)(l2:Br<w.heap.size):Calls prog 233 #[.slice (some ⟨gI,0,none⟩) 40 cI,.func (.func 232) #[] #[.pointer (some ⟨Bh,0,none⟩),.pointer (some ⟨Br,0,none⟩)]] w (aJ w (.int .i64 (En.first (Md.iJ I x y room) 40))):=by
 have mS:=aa hI;have cq:Hid (∀(k:Nat)(z:World),w.grownBy z none->Calls prog 232 #[.agg #[.int .i64 (I k 0),.int .i64 (I k 1),.int .i64 (I k 2),.int .i64 (I k 3)],.pointer (some ⟨Bh,0,none⟩),.pointer (some ⟨Br,0,none⟩)] z (aJ z (.bool (Md.iJ I x y room k)))):=fun k z hz=>Mn I k x y room Bh Br z ((gce hz Bh 3 l1 (by simp)).trans h3) ((gce hz Bh 4 l1 (by simp)).trans h4) ((gce hz Br 0 l2 (by simp)).trans hr) (abR l1 hz.size) (abR l2 hz.size);have Ob:Hid (∀k:Nat,k<40->(∀j,j<k->Md.iJ I x y room j=false)->Md.iJ I x y room k=true->En.first (Md.iJ I x y room) 40=(k:Int)):=fun k hk hno e=>En.cG hno e hk;have fm:Hid ((∀j,j<40->Md.iJ I x y room j=false)->En.first (Md.iJ I x y room) 40=-1):=fun hno=>En.bt hno;generalize En.first (Md.iJ I x y room) 40=r at Ob fm|-
 clear hI h3 h4 hr l1 l2;go_enter func233,ntmps233;go_wp2_with fail;go_loopw [5,8] (fun _ i wr=>∃k:Nat,k<=40/\i=.int .i64 (k:Int)/\Hid (∀j,j<k->Md.iJ I x y room j=false)/\Hid (w.grownBy wr none)) (fun _ i _=>50-(intOf i).toNat)
 case atStart=>exact⟨0,by omega,rfl,fun j hj=>by omega,abF _ _⟩
 case round =>
  obtain⟨k,hk,rfl,hno,hg⟩:=hrel;by_cases hlt:k<40
  ·obtain⟨u0,u1,u2,u3⟩:=((uh mS).on (uh hg)).row hlt;have hlt':(k:Int)<40:=by omega
   have HL:=aa hlt;clear hlt hk;have ck:=aa (uh cq k wr (uh hg));obtain⟨q,hq⟩:=abV (Md.iJ I x y room k);rw[hq]at ck;have kp:=aa hq;clear hq;go_wp2_with fail;refine aaR (uh ck) fun w1 hg1=>?_;have hg2:=aa (gtr (uh hg) hg1);clear hg1 ck u0 u1 u2 u3;cases q
   ·have oW:Hid (∀j,j<k+1->Md.iJ I x y room j=false):=fun j hj=>by
     by_cases ej:j=k
     ·rw[ej];exact uh kp
     ·exact uh hno j (by omega)
    go_wp2;go_roundw
    case rel=>exact⟨k+1,by have:=uh HL;omega,by go_num,oW,hg2⟩
    case measure=>have:=uh HL;simp[intOf];omega
   ·have he:Hid (r=(k:Int)):=uh Ob k (uh HL) (uh hno) (uh kp);go_wp2;go_ret;exact⟨rti (uh he).symm,uh hg2⟩
  ·obtain rfl:k=40:=by omega
   have hge:¬((40:Nat):Int)<40:=by omega
   have he:Hid (r=-1):=uh fm (uh hno);clear hlt hk;go_wp2;go_ret;exact⟨rti (uh he).symm,uh hg⟩
theorem rN(I:N2)(gI cI:Nat)(x y:Int)(room:Bool)(Bh Br:Nat)(w:World)(hI:wN w gI 0 40 I)(h3:w.cell? ⟨Bh,3,none⟩=some (.int .i64 x))(h4:w.cell? ⟨Bh,4,none⟩=some (.int .i64 y))(hr:w.cell? ⟨Br,0,none⟩=some (.bool room))(l1:Bh<w.heap.size)(l2:Br<w.heap.size):Calls prog 231 #[.slice (some ⟨gI,0,none⟩) 40 cI,.func (.func 232) #[] #[.pointer (some ⟨Bh,0,none⟩),.pointer (some ⟨Br,0,none⟩)]] w (aJ w (.bool (Md.Mi I x y room))):=by
 have ci:=aa (vS I gI cI x y room Bh Br w hI h3 h4 hr l1 l2);have hd:Hid (Md.Mi I x y room=decide (0<=En.first (Md.iJ I x y room) 40)):=rfl;rw[uh hd];generalize En.first (Md.iJ I x y room) 40=r at ci|-
 clear hI h3 h4 hr l1 l2 hd;go_enter func231,ntmps231;go_wp2_with fail;refine aaR (uh ci) fun w1 hg=>?_;have nQ:=aa hg;clear hg;go_wp2;go_ret;exact⟨by simp,uh nQ⟩
theorem JS(I:N2)(e:N1)(gI cI:Nat)(room:Bool)(w:World)(hI:wN w gI 0 40 I):Calls prog 230 #[.slice (some ⟨gI,0,none⟩) 40 cI,.agg (En.cells e),.bool room] w (aJ w (.bool (Md.Mi I (e 3) (e 4) room))):=by
 obtain⟨w1,FZ⟩:∃w1,w1=w.alloc (.cells (En.cells e) 54):=⟨_,rfl⟩;obtain⟨w2,ig⟩:∃w2,w2=w1.alloc (.cells #[.bool room] 4):=⟨_,rfl⟩;have hg1:w.grownBy w1 none:=by rw[FZ];exact abE _ _ _
 have hg2:w1.grownBy w2 none:=by rw[ig];exact abE _ _ _
 have hg:=aa (gtr hg1 hg2);have hQ:ay w1 w.heap.size 54 11 (bB e):=by rw[FZ];exact ay.ei _ _ _
 have h3:w2.cell? ⟨w.heap.size,3,none⟩=some (.int .i64 (e 3)):=(hQ.on hg2).cell (c:=3) (by omega);have h4:w2.cell? ⟨w.heap.size,4,none⟩=some (.int .i64 (e 4)):=(hQ.on hg2).cell (c:=4) (by omega);have hr:w2.cell? ⟨w1.heap.size,0,none⟩=some (.bool room):=by rw[ig];exact(ax.lit (abH w1 (.cells #[.bool room] 4))).cell (i:=0) (by simp)
 have s1:w1.heap.size=w.heap.size+1:=by rw[FZ];simp
 have s2:w2.heap.size=w1.heap.size+1:=by rw[ig];simp
 have cf:=aa (rN I gI cI (e 3) (e 4) room w.heap.size w1.heap.size w2 (hI.on (uh hg)) h3 h4 hr (by omega) (by omega));obtain⟨R,hR⟩:=abV (Md.Mi I (e 3) (e 4) room);rw[hR]at cf|-;rw[s1]at cf;clear hR hI hg1 hg2 hQ h3 h4 hr s1 s2;rw[FZ]at ig;unfold En.cells at ig|-;clear FZ;go_enter func230,ntmps230;go_upto_region 1 with fail;rw[<-ig];clear ig;go_wp2_with fail;refine aaR (uh cf) fun w3 dl=>?_;have ah:=aa (gtr (uh hg) dl);clear dl cf;go_wp2;go_ret;exact⟨rfl,uh ah⟩
theorem Ho(s g c:N1)(E I:N2)(gC gE gI cC cE cI k:Nat)(w:World)(hL:Gd.av w gC gE gI c E I)(hc:∀i,0<=c i/\c i<=255)(jx:32<=cE)(IJ:384<=cC)(hE:Md.mJ c E I)(hk:k<32)(rJ:E k 0≠0):Calls prog 226 #[.agg #[],.agg (Gd.world s gC gE gI cC cE cI g),.int .i64 (k:Int)] w (Md.aJ w (Md.de c E I (E k 2) k)):=by
 obtain⟨wz,gW⟩:∃wz,wz=w.alloc (.cells #[] 158):=⟨_,rfl⟩;obtain⟨w0,aD⟩:∃w0,w0=wz.alloc (.cells (Gd.world s gC gE gI cC cE cI g) 30):=⟨_,rfl⟩;have fM:w.grownBy wz none:=by rw[gW];exact abE _ _ _
 have aN:w.grownBy w0 none:=by rw[aD];exact gtr fM (abE _ _ _)
 have hO:Hid (Gd.iz w w0 wz.heap.size gC gE gI cC cE cI s g c E I):=by
  refine⟨?_,hL.on aN,aN⟩;rw[aD];exact(ax.world (abH wz _)).lie
 have eC:wz.heap.size=w.heap.size+1:=by rw[gW];simp
 have fD:=aa hc;have kc:=aa jx;have Ui:=aa IJ;have iQ:=aa hE;clear hL hc jx IJ hE aN fM;unfold Gd.world at aD|-;rw[gW]at aD;rw[eC]at hO;clear gW eC;go_enter func226,ntmps226;go_upto_region 1 with fail;rw[<-aD];clear aD;obtain⟨B,hB⟩:=abV (w.heap.size+1);rw[hB]at hO|-;clear hB;obtain⟨x0,x9,y0,y9,m0,m9⟩:=(uh iQ).tV k hk rJ;have jy:(k:Int)<32:=by omega
 have HK:=aa hk;have q5:=(uh hO).box.ae.2.2.2.2.2.1;obtain⟨u0,u1,u2,u3,u4,u5,u6,u7,u8,u9,iO⟩:=(uh hO).ab.own.ai.row hk;have hQ:=aa (ay.ei w0 (E k) 54);have gK:=aa ((uh hO).on (abE w0 (.cells (En.cells (E k)) 54) none));clear hk rJ;unfold En.cells at hQ gK;go_upto_region 2 with fail;obtain⟨Q,hQe⟩:=abV w0.heap.size;rw[hQe]at hQ|-;generalize w0.alloc (.cells #[.int .i64 (E k 0),.int .i64 (E k 1),.int .i64 (E k 2),.int .i64 (E k 3),.int .i64 (E k 4),.int .i64 (E k 5),.int .i64 (E k 6),.int .i64 (E k 7),.int .i64 (E k 8),.int .i64 (E k 9),.int .i64 (E k 10)] 54)=w2 at hQ gK|-;clear hQe q5 u0 u1 u2 u3 u4 u5 u6 u7 u8 u9 iO hO;have q6:=(uh gK).box.ae.2.2.2.2.2.2.1;have z2:w2.cell? ⟨Q,2,none⟩=some (.int .i64 (E k 2)):=(uh hQ).cell (c:=2) (by omega);have cb:=aa (OQ I gI cI (E k 2) w2 (uh gK).ab.fo);go_wp2_with fail;refine(uh cb).mono ?_;rintro e w3 ⟨G,f,rfl,hA,Ue,hg⟩;have fa:=aa hA;have kA:=aa ((uh gK).on hg);have rq:=aa ((uh hQ).on hg);have W3:=aa (Md.QX (uh iQ).ok Ue);have XG:=aa (Md.Px (uh iQ).ok Ue);clear q6 z2 cb hA Ue hg gK hQ;have q5:=(uh kA).box.ae.2.2.2.2.2.1;obtain⟨z0,z1,z2,z3,z4,z5,z6,z7,z8,z9,bO⟩:=(uh rq).j9;have cf:=aa (OR E (E k) gE cE w3 (uh kA).ab.own (uh kc) x0 x9 y0 y9);unfold En.cells at cf;obtain⟨FO,ZA⟩:∃F,Nv.wayFrom (Md.lz E (E k 3) (E k 4)) 4 1=F:=⟨_,rfl⟩;rw[ZA]at cf;have Wl:=aa ZA;clear ZA;go_wp2_with fail;refine aaR (uh cf) fun w4 hg=>?_;have jN:=aa ((uh fa).grown hg (by simp));have zu:=aa ((uh kA).on hg);have Jd:=aa ((uh rq).on hg);clear q5 z0 z1 z2 z3 z4 z5 z6 z7 z8 z9 bO cf hg fa kA rq;have iG:Hid (∀v,Md.de c E I (E k 2) k v↔if E k 5<=E k 6/3/\0<=Gd.lF I 40 (E k 2) 1 1 then v=6 else if FO≠0 then v=FO else if 0<=Gd.an I 40 1 (E k 3) (E k 4)/\(I (Gd.an I 40 1 (E k 3) (E k 4)).toNat 0=4\/0<=Gd.cY I 40 (E k 2))then v=5 else if Gr.at 384 c (E k 3) (E k 4)=4 then v=9 else Nv.aW c (fun _=>Gr.an 384 c 4) 1 E 32 (E k 3) (E k 4) v):=fun v=>by
  rw[<-uh Wl];exact Iff.rfl
 have oV:=aa (Md.OP (x:=E k 3) (y:=E k 4) (S:=Gd.cY I 40 (E k 2)) (uh iQ).ok);have z5:w4.cell? ⟨Q,5,none⟩=some (.int .i64 (E k 5)):=(uh Jd).cell (c:=5) (by omega);have z6:w4.cell? ⟨Q,6,none⟩=some (.int .i64 (E k 6)):=(uh Jd).cell (c:=6) (by omega);have c1:=aa (pV G f 1 w4 (uh jN));rw[uh W3]at c1;obtain⟨P,hP⟩:=abV (Gd.lF I 40 (E k 2) 1 1);rw[hP]at c1 iG;clear hP W3 Wl;obtain⟨p,hp⟩:∃p:Bool,decide (E k 5<=E k 6/3/\0<=P)=p:=⟨_,rfl⟩;go_upto_region 4 with fail;go_cut [24] from 25 (fun va wx=>va=.bool p/\wx=w4)
 case first =>
  have hd:(E k 6).tdiv 3=E k 6/3:=Int.tdiv_eq_ediv_of_nonneg m0;by_cases h1:E k 5<=E k 6/3
  ·have hpd:Hid (decide (0<=P)=p):=(show decide (0<=P)=p by rw[<-hp];simp[h1]);clear hp;go_wp2_with fail;refine abW (uh c1) ?_;go_wp2_with fail;go_meet;exact⟨by rw[uh hpd],rfl⟩
  ·obtain rfl:p=false:=by rw[<-hp];simp[h1]
   clear hp;go_wp2_with fail;go_meet;exact⟨rfl,rfl⟩
 case rest =>
  obtain⟨rfl,xq⟩:=hcut;subst xq;clear z5 z6 c1 m0 m9;cases p;rotate_left
  ·have ah:Hid (Md.aJ w (Md.de c E I (E k 2) k) (.returned (.int .i64 6)) wc):=⟨6,(uh iG 6).2 (by rw[abP (by simpa using hp)]),rfl,(uh zu).grown⟩;clear hp;go_wp2;go_ret;exact uh ah
  have zy:Hid (∀v,(if FO≠0 then v=FO else if 0<=Gd.an I 40 1 (E k 3) (E k 4)/\(I (Gd.an I 40 1 (E k 3) (E k 4)).toNat 0=4\/0<=Gd.cY I 40 (E k 2))then v=5 else if Gr.at 384 c (E k 3) (E k 4)=4 then v=9 else Nv.aW c (fun _=>Gr.an 384 c 4) 1 E 32 (E k 3) (E k 4) v)->Md.de c E I (E k 2) k v):=fun v hv=>(uh iG v).2 (by rw[abO (by simpa using hp)];exact hv);clear hp iG;by_cases sI:FO=0;rotate_left
  ·have aaZ:(FO !=0)=true:=by simpa using sI
   have ah:Hid (Md.aJ w (Md.de c E I (E k 2) k) (.returned (.int .i64 FO)) wc):=⟨FO,uh zy FO (by rw[abP sI]),rfl,(uh zu).grown⟩;clear sI;go_wp2;go_ret;exact uh ah
  have zz:Hid (∀v,(if 0<=Gd.an I 40 1 (E k 3) (E k 4)/\(I (Gd.an I 40 1 (E k 3) (E k 4)).toNat 0=4\/0<=Gd.cY I 40 (E k 2))then v=5 else if Gr.at 384 c (E k 3) (E k 4)=4 then v=9 else Nv.aW c (fun _=>Gr.an 384 c 4) 1 E 32 (E k 3) (E k 4) v)->Md.de c E I (E k 2) k v):=fun v hv=>uh zy v (by rw[abO (by simpa using sI)];exact hv);subst sI;clear zy;have c0:Hid (∀z,wc.grownBy z none->Calls prog 229 #[.slice (some ⟨G,0,none⟩) 4 4,.int .i64 0] z fun e w'=>e=.returned (.bool (decide (0<=Gd.cY I 40 (E k 2))))/\w'=z):=fun z hz=>by
   rw[<-uh XG];exact pV G f 0 z ((uh jN).grown hz (by simp))
  have cl:Hid (∀z,wc.grownBy z none->Calls prog 230 #[.slice (some ⟨gI,0,none⟩) 40 cI,.agg (En.cells (E k)),.bool (decide (0<=Gd.cY I 40 (E k 2)))] z (aJ z (.bool (decide (0<=Gd.an I 40 1 (E k 3) (E k 4)/\(I (Gd.an I 40 1 (E k 3) (E k 4)).toNat 0=4\/0<=Gd.cY I 40 (E k 2))))))):=fun z hz=>by
   rw[<-uh oV];exact JS I (E k) gI cI _ z ((uh zu).ab.on hz).fo
  unfold En.cells at cl;obtain⟨sl,xp⟩:∃sl:Bool,decide (0<=Gd.cY I 40 (E k 2))=sl:=⟨_,rfl⟩;obtain⟨p,hp⟩:∃p:Bool,decide (0<=Gd.an I 40 1 (E k 3) (E k 4)/\(I (Gd.an I 40 1 (E k 3) (E k 4)).toNat 0=4\/0<=Gd.cY I 40 (E k 2)))=p:=⟨_,rfl⟩;rw[xp]at c0;rw[hp,xp]at cl;have uu:=aa hp;clear xp hp XG oV jN;have fC:=aa (gd1 (abF wc none));have hkeep:Hid (∀z,wc.grownBy z none->(z.cell? ⟨B,6,none⟩=some (.slice (some ⟨gI,0,none⟩) 40 cI)/\z.cell? ⟨Q,0,none⟩=some (.int .i64 (E k 0))/\z.cell? ⟨Q,1,none⟩=some (.int .i64 (E k 1))/\z.cell? ⟨Q,2,none⟩=some (.int .i64 (E k 2))/\z.cell? ⟨Q,3,none⟩=some (.int .i64 (E k 3))/\z.cell? ⟨Q,4,none⟩=some (.int .i64 (E k 4))/\z.cell? ⟨Q,5,none⟩=some (.int .i64 (E k 5))/\z.cell? ⟨Q,6,none⟩=some (.int .i64 (E k 6))/\z.cell? ⟨Q,7,none⟩=some (.int .i64 (E k 7))/\z.cell? ⟨Q,8,none⟩=some (.int .i64 (E k 8))/\z.cell? ⟨Q,9,none⟩=some (.int .i64 (E k 9))/\z.cell? ⟨Q,10,none⟩=some (.int .i64 (E k 10)))):=fun z hz=>⟨((uh zu).on hz).box.ae.2.2.2.2.2.2.1,((uh Jd).on hz).j9⟩;have hS0:=uh hkeep wc (abF _ none);go_upto_region 8 with fail
  go_region_held3 (fun z=>z.cell? ⟨B,6,none⟩=some (.slice (some ⟨gI,0,none⟩) 40 cI)/\z.cell? ⟨Q,0,none⟩=some (.int .i64 (E k 0))/\z.cell? ⟨Q,1,none⟩=some (.int .i64 (E k 1))/\z.cell? ⟨Q,2,none⟩=some (.int .i64 (E k 2))/\z.cell? ⟨Q,3,none⟩=some (.int .i64 (E k 3))/\z.cell? ⟨Q,4,none⟩=some (.int .i64 (E k 4))/\z.cell? ⟨Q,5,none⟩=some (.int .i64 (E k 5))/\z.cell? ⟨Q,6,none⟩=some (.int .i64 (E k 6))/\z.cell? ⟨Q,7,none⟩=some (.int .i64 (E k 7))/\z.cell? ⟨Q,8,none⟩=some (.int .i64 (E k 8))/\z.cell? ⟨Q,9,none⟩=some (.int .i64 (E k 9))/\z.cell? ⟨Q,10,none⟩=some (.int .i64 (E k 10))) (go_keep) (first
   | (go_at_call 229;refine abW (uh c0 _ (uh fC)) ?_)
   | (go_at_call 230;refine aaR (uh cl _ (uh fC)) fun w5 hg=>?_;have hg5:=aa (gtr (uh fC) hg);have ko:=uh hkeep _ (uh hg5);clear hg))
  have wP:=aa ((uh zu).on (uh hg5));have NT:=aa ((uh Jd).on (uh hg5));clear hS0 ko hkeep fC c0 cl zu Jd hg5;cases p;rotate_left
  ·have ah:Hid (Md.aJ w (Md.de c E I (E k 2) k) (.returned (.int .i64 5)) w5):=⟨5,uh zz 5 (by rw[abP (by simpa using uh uu)]),rfl,(uh wP).grown⟩;clear uu;go_wp2;go_ret;exact uh ah
  have zA:Hid (∀v,(if Gr.at 384 c (E k 3) (E k 4)=4 then v=9 else Nv.aW c (fun _=>Gr.an 384 c 4) 1 E 32 (E k 3) (E k 4) v)->Md.de c E I (E k 2) k v):=fun v hv=>uh zz v (by rw[abO (by simpa using uh uu)];exact hv);clear zz uu;have Sy:Hid (∀z,w5.grownBy z none->z.cell? ⟨Q,3,none⟩=some (.int .i64 (E k 3))/\z.cell? ⟨Q,4,none⟩=some (.int .i64 (E k 4))):=fun z hz=>by
   have h3:=((uh NT).on hz).cell (c:=3) (by omega);have h4:=((uh NT).on hz).cell (c:=4) (by omega);exact⟨h3,h4⟩
  clear NT;have cg:=aa (nJ w5.heap.size (some ⟨gC,0,none⟩) 384 cC c (E k 3) (E k 4) w5 (uh wP).ab.lg (uh fD));obtain⟨a,ha⟩:=abV (Gr.at 384 c (E k 3) (E k 4));rw[ha]at cg zA;clear ha;have q4:=(uh wP).box.ae.2.2.2.2.1;obtain⟨z3,z4⟩:=uh Sy _ (abF _ none);go_wp2_with fail;refine abW (uh cg) ?_;clear cg;by_cases h4:a=4
  ·have ah:Hid (Md.aJ w (Md.de c E I (E k 2) k) (.returned (.int .i64 9)) w5):=⟨9,uh zA 9 (by rw[abP h4]),rfl,(uh wP).grown⟩;subst h4;go_wp2;go_ret;exact uh ah
  have I7:(a==4)=false:=by simpa using h4
  have vn:Hid (∀v,Nv.aW c (fun _=>Gr.an 384 c 4) 1 E 32 (E k 3) (E k 4) v->Md.de c E I (E k 2) k v):=fun v hv=>uh zA v (by rw[abO h4];exact hv);clear h4 zA q4 z3 z4;have cF:=aa (fun z (hz:w5.grownBy z none)=>qX z.heap.size (some ⟨gC,0,none⟩) 384 cC c 4 z ((uh wP).ab.on hz).lg (uh fD) (uh Ui));have WU:=Md.zk c 4 384 0;obtain⟨F,hF⟩:=abV (Gr.an 384 c 4);have Un:-1<=F/\F<=384:=by rw[<-hF];exact WU
  rw[hF]at cF vn;have fM:=aa (gd1 (abE w5 (.cells #[.int .i64 F] 3) none));have ct:Hid (∀b,b=w5.heap.size->Calls prog 215 #[.slice (some ⟨gC,0,none⟩) 384 cC,.slice (some ⟨gE,0,none⟩) 32 cE,.int .i64 (E k 3),.int .i64 (E k 4),.slice (some ⟨b,0,none⟩) 1 1] (w5.alloc (.cells #[.int .i64 F] 3)).drew (Nv.jV (w5.alloc (.cells #[.int .i64 F] 3)).drew c (fun _=>F) 1 E 32 (E k 3) (E k 4))):=fun b hb=>by
   subst hb;have hL:=(uh wP).ab.on (uh fM);exact pX (some ⟨gC,0,none⟩) (some ⟨gE,0,none⟩) (some ⟨w5.heap.size,0,none⟩) cC 32 cE 1 1 c (fun _=>F) E (E k 3) (E k 4) _ hL.lg (uh fD) ⟨by omega,uh kc,.inr ⟨gE,rfl,hL.own.ai⟩⟩ (uh iQ).l8 (Nv.mB w5 F 3) (fun _=>by omega) (by omega) (by omega) (by omega) (by omega)
  have fC:=aa (gd1 (abF w5 none));have hkeep:Hid (∀z,w5.grownBy z none->(z.cell? ⟨B,4,none⟩=some (.slice (some ⟨gC,0,none⟩) 384 cC)/\z.cell? ⟨B,5,none⟩=some (.slice (some ⟨gE,0,none⟩) 32 cE)/\z.cell? ⟨Q,3,none⟩=some (.int .i64 (E k 3))/\z.cell? ⟨Q,4,none⟩=some (.int .i64 (E k 4)))):=fun z hz=>⟨((uh wP).on hz).box.ae.2.2.2.2.1,((uh wP).on hz).box.ae.2.2.2.2.2.1,(uh Sy z hz).1,(uh Sy z hz).2⟩;have hS0:=uh hkeep w5 (abF _ none);clear WU hF Un;go_upto_region 12 with fail
  go_region_held3 (fun z=>z.cell? ⟨B,4,none⟩=some (.slice (some ⟨gC,0,none⟩) 384 cC)/\z.cell? ⟨B,5,none⟩=some (.slice (some ⟨gE,0,none⟩) 32 cE)/\z.cell? ⟨Q,3,none⟩=some (.int .i64 (E k 3))/\z.cell? ⟨Q,4,none⟩=some (.int .i64 (E k 4))) (go_keep) (first
   | (go_at_call 78;refine abW (uh cF _ (uh fC)) ?_)
   | (go_at_call 215;refine(uh ct _ rfl).mono ?_;rintro e w6 ⟨v,hv,rfl,hg⟩;have qJ:=aa (gtr (uh fM) hg);have pK:=aa hv;have ko:=uh hkeep _ (uh qJ);clear hg hv))
  have ah:Hid (Md.aJ w (Md.de c E I (E k 2) k) (.returned (.int .i64 v)) w6):=⟨v,uh vn v (uh pK),rfl,gtr (uh wP).grown (uh qJ)⟩;clear hS0 ko;go_wp2;go_ret;exact uh ah
