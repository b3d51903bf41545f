import Derived.WalkLawsBesides
import Derived.Test.YtbanjoflgoiegaaGreatRows
import Derived.WalkKit
import Derived.WalkSpells
import Derived.OpenShut
import Derived.Below
import Derived.BigQuiet
import Derived.WalkSmall
import Derived.Laws.BitsAllLaws
import Derived.Laws.AppendOwnNone
import Derived.Handy
import Derived.ScopeJumps
import Derived.WalkMore
set_option maxHeartbeats 800000
set_option maxRecDepth 8000
namespace Go.Proofs.YtbanjoflgoiegaaGreat
abbrev N1:=Nat→Int
abbrev N2:=Nat→Nat→Int
theorem abV.{u}{α:Sort u}(a:α):∃x,a=x:=⟨a,rfl⟩
theorem abW{P:Program}{f:Nat}{a:Array Value}{w:World}{v:Value}{Q:Ending→World→Prop}(h:Calls P f a w fun e w'=>e=.returned v∧w'=w)(k:Q (.returned v) w):Calls P f a w Q:=h.mono fun _ _ h=>by
 rw[h.1,h.2];exact k
theorem aaR{P:Program}{f:Nat}{a:Array Value}{w:World}{v:Value}{R:World→Prop}{Q:Ending→World→Prop}(h:Calls P f a w fun e w'=>e=.returned v∧R w')(k:∀w',R w'→Q (.returned v) w'):Calls P f a w Q:=h.mono fun _ _ h=>by
 rw[h.1];exact k _ h.2
abbrev abE:=@World.grownBy_alloc
abbrev abF:=@World.grownBy.refl
abbrev abG:=@Int.toNat_natCast
abbrev abH:=@heap_alloc_new
abbrev abI:=@decide_eq_false
abbrev abJ:=@decide_eq_true
abbrev abK:=@IntKind.wrap_i64
abbrev abL:=@Nat.le_refl
abbrev abM:=@Nat.le_trans
abbrev abN:=@bodyPost_ret
abbrev abO:=@if_neg
abbrev abP:=@if_pos
abbrev abQ:=@List.getElem?_eq_getElem
abbrev abR:=@Nat.lt_of_lt_of_le
abbrev abS:=@Int.tmod_eq_emod_of_nonneg
abbrev abT:=@Bool.false_ne_true
abbrev abU:=@Calls.quiet_of_same
end Go.Proofs.YtbanjoflgoiegaaGreat
namespace Go.Proofs.YtbanjoflgoiegaaGreat.Fl
open Ieee
variable{a b:Nat}{x y:Int}
theorem Hm(m k:Nat)(h:m≠0):(m*2 ^ k).log2=m.log2+k:=by
 have hp:0<2 ^ k:=Nat.two_pow_pos k;have ow:m*2 ^ k≠0:=Nat.mul_ne_zero h (by omega);apply Nat.le_antisymm
 ·have:(m*2 ^ k).log2<m.log2+1+k:=(Nat.log2_lt ow).2 (by rw[Nat.pow_add];exact Nat.mul_lt_mul_of_pos_right ((Nat.log2_lt h).1 (Nat.lt_succ_self _)) hp);omega
 ·exact(Nat.le_log2 ow).2 (by rw[Nat.pow_add];exact Nat.mul_le_mul_right _ (Nat.log2_self_le h))
theorem xO(bh:Toward)(hw:bh=.even\/bh=.zero)(neg:Bool)(q d:Nat):bh.cut neg (q*2 ^ d) d=q:=by
 have key:∀g:Nat,0<g->g=2 ^ min d ((q*2 ^ d).log2+2)->q*2 ^ d/g=q/\q*2 ^ d%g=0:=by
  intro g hg e;by_cases h:q=0
  ·subst h;simp
  ·rw[Hm q d h,Nat.min_eq_left (by omega)]at e;subst e;exact⟨Nat.mul_div_cancel _ hg,Nat.mul_mod_left _ _⟩
 have hg:(1 <<< min d ((q*2 ^ d).log2+2))=2 ^ min d ((q*2 ^ d).log2+2):=by rw[Nat.shiftLeft_eq,Nat.one_mul]
 have hp:0<(1 <<< min d ((q*2 ^ d).log2+2)):=by rw[hg];exact Nat.two_pow_pos _
 obtain⟨h1,h2⟩:=key _ hp hg;unfold Toward.cut;simp only[h1,h2];generalize (1 <<< min d ((q*2 ^ d).log2+2))=g at hp;rcases hw with rfl|rfl
 ·have:¬(g<2*0):=by omega
  have e:(g==2*0)=false:=by simp;omega
  simp[e]
 ·simp
def mR(b:Nat)(n:Int):Prop:=∃(s:Bool)(m k:Nat),double.read b=.number s (m*2 ^ k) (-(k:Int))/\n=(if s then -(m:Int)else m)
theorem vO:double.leastPlace=-1074:=by decide
theorem ph:double.binade=4503599627370496:=by decide
theorem zT:double.infRung=9218868437227405312:=by decide
theorem lh:double.signWeight=9223372036854775808:=by decide
theorem Mw(neg:Bool)(L K:Nat)(h1:4503599627370496<=K)(h2:K<9007199254740992)(hL:L<=52):double.read (double.word neg ((L+1022)*4503599627370496+K))=.number neg K ((L:Int)-52):=by
 have hr:(L+1022)*4503599627370496+K<9218868437227405312:=by omega
 have e1:(double.word neg ((L+1022)*4503599627370496+K))/9223372036854775808%2=neg.toNat:=by
  unfold Format.word;rw[lh];cases neg
  ·rw[abO (by decide)];show _=0;omega
  ·rw[abP rfl];show _=1;omega
 have e2:(double.word neg ((L+1022)*4503599627370496+K))%9223372036854775808=(L+1022)*4503599627370496+K:=by
  unfold Format.word;rw[lh];cases neg
  ·rw[abO (by decide)];omega
  ·rw[abP rfl];omega
 have e3:(L+1022)*4503599627370496+K=(L+1023)*4503599627370496+(K-4503599627370496):=by omega
 have e4:((L+1023)*4503599627370496+(K-4503599627370496))%4503599627370496=K-4503599627370496:=by omega
 have e5:((L+1023)*4503599627370496+(K-4503599627370496))/4503599627370496=L+1023:=by omega
 unfold Format.read;simp only[lh,ph,zT,vO,e1,e2];rw[abO (by omega),abP hr,e3,e4,e5];have e6:4503599627370496+(K-4503599627370496)=K:=Nat.add_sub_of_le h1;have e7:(-1074:Int)+((L+1023-1:Nat):Int)=(L:Int)-52:=by omega
 rw[e6,e7];cases neg <;> rfl
theorem My(neg:Bool):double.read (double.word neg 0)=.number neg 0 (-1074):=by
 cases neg <;> rfl
theorem JY(neg:Bool)(K:Nat)(hK:K=1074):double.read (double.word neg 0)=.number neg (0*2 ^ K) (-(K:Int)):=by
 rw[My,Nat.zero_mul,hK];rfl
theorem Ik(neg:Bool):mR (double.word neg 0) (if neg then -((0:Nat):Int)else((0:Nat):Int)):=by
 obtain⟨K,hK⟩:∃K:Nat,K=1074:=⟨_,rfl⟩;exact⟨neg,0,K,JY neg K hK,rfl⟩
theorem sgn(v c:Int)(hc:0<c):decide (v*c<0)=decide (v<0):=by
 by_cases hn:v<0
 ·have:v*c<0:=Int.mul_neg_of_neg_of_pos hn hc;simp[this,hn]
 ·have:¬v*c<0:=by
   have:=Int.mul_nonneg (a:=v) (b:=c) (by omega) (by omega);omega
  simp[this,hn]
theorem JV(neg:Bool)(m k:Nat)(hm:m≠0)(hlt:m<9007199254740992):double.nearest neg (m*2 ^ k) (-(k:Int))=double.word neg ((m.log2+1022)*4503599627370496+m*2 ^ (52-m.log2))/\m.log2<=52/\4503599627370496<=m*2 ^ (52-m.log2)/\m*2 ^ (52-m.log2)<9007199254740992:=by
 have hL:m.log2<=52:=by
  have:=(Nat.log2_lt hm (k:=53)).2 (by simpa using hlt);omega
 have hp:∀a:Nat,0<2 ^ a:=Nat.two_pow_pos;have k1:4503599627370496<=m*2 ^ (52-m.log2):=by
  have h:=Nat.mul_le_mul_right (2 ^ (52-m.log2)) (Nat.log2_self_le hm);rw[<-Nat.pow_add,show m.log2+(52-m.log2)=52 from by omega]at h
  simpa using h
 have k2:m*2 ^ (52-m.log2)<9007199254740992:=by
  have h:=Nat.mul_lt_mul_of_pos_right ((Nat.log2_lt hm).1 (Nat.lt_succ_self m.log2)) (hp (52-m.log2));rw[<-Nat.pow_add,show m.log2+1+(52-m.log2)=53 from by omega]at h
  simpa using h
 refine⟨?_,hL,k1,k2⟩;have ow:m*2 ^ k≠0:=Nat.mul_ne_zero hm (by have:=hp k;omega);unfold Format.nearest;rw[abO ow];simp only[vO,ph,zT,Hm m k hm];have hf:((double.fractionBits:Nat):Int)=52:=rfl;have Oh:max (-(k:Int)+((m.log2+k:Nat):Int)-((double.fractionBits:Nat):Int)) (-1074)=(m.log2:Int)-52:=by rw[hf];omega
 rw[Oh];have ha:(-(k:Int)-((m.log2:Int)-52)).toNat=52-m.log2-k:=by omega
 have hb:((m.log2:Int)-52 - -(k:Int)).toNat=k-(52-m.log2):=by omega
 have hc:((m.log2:Int)-52-(-1074)).toNat=m.log2+1022:=by omega
 rw[ha,hb,hc];have hs:(m*2 ^ k) <<< (52-m.log2-k)=(m*2 ^ (52-m.log2))*2 ^ (k-(52-m.log2)):=by
  rw[Nat.shiftLeft_eq,Nat.mul_assoc,Nat.mul_assoc,<-Nat.pow_add,<-Nat.pow_add,show k+(52-m.log2-k)=52-m.log2+(k-(52-m.log2)) from by omega]
 rw[hs,xO .even (Or.inl rfl),Nat.min_eq_left (by omega)]
theorem pv(neg:Bool)(m k:Nat)(hlt:m<9007199254740992):mR (double.write (.number neg (m*2 ^ k) (-(k:Int)))) (if neg then -(m:Int)else m):=by
 show mR (double.nearest neg (m*2 ^ k) (-(k:Int))) _;by_cases hm:m=0
 ·subst hm;have e:double.nearest neg (0*2 ^ k) (-(k:Int))=double.word neg 0:=by
   unfold Format.nearest;rw[abP (by simp)]
  rw[e];exact Ik neg
 ·obtain⟨e,hL,k1,k2⟩:=JV neg m k hm hlt;rw[e];refine⟨neg,m,52-m.log2,?_,rfl⟩;rw[Mw neg _ _ k1 k2 hL,show(m.log2:Int)-52=-((52-m.log2:Nat):Int) from by omega]
theorem eZ(n:Int)(h1:-9007199254740992<n)(h2:n<9007199254740992):mR (floatOfInt .f64 n) n:=by
 have h:=pv (decide (n<0)) n.natAbs 0 (by omega);have e:(if decide (n<0)=true then -(n.natAbs:Int)else(n.natAbs:Int))=n:=by
  by_cases hn:n<0 <;> simp[hn] <;> omega
 rw[e]at h;have h':mR (double.write (.number (decide (n<0)) n.natAbs 0)) n:=by simpa using h
 exact h'
theorem shl(m k j:Nat)(h:k<=j):(m*2 ^ k) <<< (j-k)=m*2 ^ j:=by
 rw[Nat.shiftLeft_eq,Nat.mul_assoc,<-Nat.pow_add,show k+(j-k)=j from by omega]
theorem nv(s:Bool)(m k j:Nat)(h:k<=j):signed s (m*2 ^ k) (j-k)=(if s then -(m:Int)else m)*((2 ^ j:Nat):Int):=by
 unfold signed;rw[shl m k j h];cases s
 ·simp
 ·simp[Int.neg_mul]
theorem Lm(s t:Bool)(m k n l:Nat)(x y:Int)(hx:x=(if s then -(m:Int)else m))(hy:y=(if t then -(n:Int)else n))(h1:-9007199254740992<x+y)(h2:x+y<9007199254740992):∃d,Datum.sum (.number s (m*2 ^ k) (-(k:Int))) (.number t (n*2 ^ l) (-(l:Int)))=some d/\mR (double.write d) (x+y):=by
 have hj:(min (-(k:Int)) (-(l:Int)))=-((max k l:Nat):Int):=by omega
 have ek:(-(k:Int) - -((max k l:Nat):Int)).toNat=max k l-k:=by omega
 have el:(-(l:Int) - -((max k l:Nat):Int)).toNat=max k l-l:=by omega
 have et:signed s (m*2 ^ k) (max k l-k)+signed t (n*2 ^ l) (max k l-l)=(x+y)*((2 ^ max k l:Nat):Int):=by
  rw[nv s m k _ (Nat.le_max_left _ _),nv t n l _ (Nat.le_max_right _ _),<-hx,<-hy,Int.add_mul]
 refine⟨_,rfl,?_⟩;simp only[hj,ek,el,et];generalize hJ:max k l=j;have kf:0<((2 ^ j:Nat):Int):=by have:=Nat.two_pow_pos j;omega
 have hna:((x+y)*((2 ^ j:Nat):Int)).natAbs=(x+y).natAbs*2 ^ j:=by rw[Int.natAbs_mul,Int.natAbs_natCast]
 rw[hna];generalize hv:x+y=v at *;by_cases h0:v=0
 ·subst h0;simp only[Int.zero_mul,if_true];have h:=pv (s&&t) 0 j (by omega)
  simpa using h
 ·have ow:v*((2 ^ j:Nat):Int)≠0:=Int.mul_ne_zero h0 (by omega);rw[abO ow];have hs:=sgn v _ kf;rw[hs];have h:=pv (decide (v<0)) v.natAbs j (by omega);have e:(if decide (v<0)=true then -(v.natAbs:Int)else(v.natAbs:Int))=v:=by
   by_cases hn:v<0 <;> simp[hn] <;> omega
  rw[e]at h;exact h
theorem rW(ha:mR a x)(hb:mR b y)(h1:-9007199254740992<x+y)(h2:x+y<9007199254740992):∃r,floatBits .add .f64 a b=some r/\mR r (x+y):=by
 obtain⟨s,m,k,ra,hx⟩:=ha;obtain⟨t,n,l,rb,hy⟩:=hb;obtain⟨d,hd,hr⟩:=Lm s t m k n l x y hx hy h1 h2;refine⟨double.write d,?_,hr⟩;show double.add a b=_;unfold Format.add;rw[ra,rb,hd];rfl
theorem FE(ha:mR a x)(hb:mR b y)(h1:-9007199254740992<x-y)(h2:x-y<9007199254740992):∃r,floatBits .sub .f64 a b=some r/\mR r (x-y):=by
 obtain⟨s,m,k,ra,hx⟩:=ha;obtain⟨t,n,l,rb,hy⟩:=hb;have IN:-y=(if (!t)=true then -(n:Int)else n):=by rw[hy];cases t <;> simp
 rw[Int.sub_eq_add_neg]at *;obtain⟨d,hd,hr⟩:=Lm s (!t) m k n l x (-y) hx IN h1 h2;refine⟨double.write d,?_,hr⟩;show double.sub a b=_;unfold Format.sub;rw[ra,rb];show(Datum.sum _ (.number (!t) (n*2 ^ l) (-(l:Int)))).map _=_;rw[hd];rfl
theorem uB(ha:mR a x)(hb:mR b y)(h:(x*y).natAbs<9007199254740992):∃r,floatBits .mul .f64 a b=some r/\mR r (x*y):=by
 obtain⟨s,m,k,ra,hx⟩:=ha;obtain⟨t,n,l,rb,hy⟩:=hb;have hn:(x*y).natAbs=m*n:=by
  rw[hx,hy,Int.natAbs_mul];cases s <;> cases t <;> simp
 have tB:x*y=(if (s ^^ t)=true then -((m*n:Nat):Int)else((m*n:Nat):Int)):=by
  rw[hx,hy];cases s <;> cases t <;> simp[Int.neg_mul,Int.mul_neg]
 refine⟨double.write (.number (s ^^ t) ((m*n)*2 ^ (k+l)) (-((k+l:Nat):Int))),?_,?_⟩
 ·show double.mul a b=_;unfold Format.mul;rw[ra,rb];show some (double.write (.number (s ^^ t) (m*2 ^ k*(n*2 ^ l)) (-(k:Int) + -(l:Int))))=_;rw[show m*2 ^ k*(n*2 ^ l)=m*n*2 ^ (k+l) from by rw[Nat.pow_add];ac_rfl,show -(k:Int) + -(l:Int)=-((k+l:Nat):Int) from by omega]
 ·rw[tB];exact pv _ _ _ (by omega)
theorem lb{n:Int}(h:mR b n)(h1:-9007199254740992<n)(h2:n<9007199254740992):floatToIntVal .f64 b .i64=some n:=by
 obtain⟨s,m,k,rb,hn⟩:=h;have e:(FloatKind.f64.decode b).toInt .zero=some n:=by
  show(double.read b).toInt .zero=some n;rw[rb];show some (signed s (Toward.zero.cut s ((m*2 ^ k) <<< (-(k:Int)).toNat) (- -(k:Int)).toNat) 0)=some n;have e1:(-(k:Int)).toNat=0:=by omega
  have e2:(- -(k:Int)).toNat=k:=by omega
  rw[e1,e2,Nat.shiftLeft_zero,xO .zero (Or.inr rfl)];unfold signed;rw[Nat.shiftLeft_zero,hn]
 unfold floatToIntVal;rw[e];have UB:IntKind.i64.min=-9223372036854775808:=by decide
 have aak:IntKind.i64.max=9223372036854775807:=by decide
 simp only[UB,aak];rw[abP ⟨by omega,by omega⟩]
theorem Li:mR 0 0:=Ik false
theorem S5:mR 4607182418800017408 1:=⟨false,1,52,by rfl,by rfl⟩
theorem R3(ha:mR a x)(hb:mR b y)(sU:-9007199254740992<x)(G9:x<9007199254740992)(IP:-9007199254740992<y)(L8:y<9007199254740992):∃r i,cMulBits a b 0 4607182418800017408=some (r,i)/\mR r (0-y)/\mR i x:=by
 obtain⟨ac,e1,r1⟩:=uB ha Li (by simp);obtain⟨bd,e2,r2⟩:=uB hb S5 (by rw[Int.mul_one];omega);obtain⟨ad,e3,r3⟩:=uB ha S5 (by rw[Int.mul_one];omega);obtain⟨bc,e4,r4⟩:=uB hb Li (by simp);rw[Int.mul_zero]at r1 r4;rw[Int.mul_one]at r2 r3;obtain⟨re,e5,r5⟩:=FE r1 r2 (by omega) (by omega);obtain⟨im,e6,r6⟩:=rW r3 r4 (by omega) (by omega);rw[Int.add_zero]at r6;refine⟨re,im,?_,r5,r6⟩;unfold cMulBits;simp[e1,e2,e3,e4,e5,e6]
end Go.Proofs.YtbanjoflgoiegaaGreat.Fl
namespace Go.Proofs.YtbanjoflgoiegaaGreat
open Go.Proofs.Tryz
open Go.RowKit
variable{B len:Nat}{F:Nat->Value}{a:Option Addr}{w:World}
theorem aa{p:Prop}(h:p):Hid p:=h
theorem uh {p:Prop} (h:Hid p):p:=h
theorem rti{k:IntKind}{a b:Int}(h:a=b):Ending.returned (.int k a)=.returned (.int k b):=by rw[h]
theorem aO{a b:Bool}(h:a=b):Ending.returned (.bool a)=.returned (.bool b):=by rw[h]
def il(B:Nat)(w:World)(a:Option Addr)(len:Nat)(F:Nat->Value):Prop :=
 len<=maxLen/\(len=0\/∃b off,a=some ⟨b,off,none⟩/\b<B/\∀i,i<len->w.cell? ⟨b,off+i,none⟩=some (F i))
theorem il.kept{w':World}(h:il B w a len F)(hb:Below B w w'):il B w' a len F:=by
 obtain⟨hm,h0|⟨b,off,ha,hlt,hc⟩⟩:=h
 ·exact⟨hm,.inl h0⟩
 ·exact⟨hm,.inr ⟨b,off,ha,hlt,fun i hi=>(hb.cell (p:=⟨b,off+i,none⟩) hlt).trans (hc i hi)⟩⟩
theorem il.mono{B':Nat}(h:il B w a len F)(hb:B<=B'):il B' w a len F:=by
 obtain⟨hm,h0|⟨b,off,ha,hlt,hc⟩⟩:=h
 ·exact⟨hm,.inl h0⟩
 ·exact⟨hm,.inr ⟨b,off,ha,by omega,hc⟩⟩
theorem il.drew(h:il B w a len F)(n:Nat):il B (w.drewN n) a len F :=
 h.kept (below_drewN (Below.refl _ _) n)
theorem il.ia(h:il B w a len F)(k:Nat)(hk:k<=len):il B w a k F:=by
 obtain⟨hm,h0|⟨b,off,ha,hlt,hc⟩⟩:=h
 ·exact⟨abM hk hm,.inl (by omega)⟩
 ·exact⟨abM hk hm,.inr ⟨b,off,ha,hlt,fun i hi=>hc i (by omega)⟩⟩
theorem il.at(h:il B w a len F){k:Nat}(hk:k<len):∃b off,a=some ⟨b,off,none⟩/\b<B/\w.cell? ⟨b,off+k,none⟩=some (F k):=by
 obtain⟨hm,h0|⟨b,off,ha,hlt,hc⟩⟩:=h
 ·omega
 ·exact⟨b,off,ha,hlt,hc k hk⟩
theorem il.congr{G:Nat->Value}(h:il B w a len F)(he:∀i,i<len->F i=G i):il B w a len G:=by
 obtain⟨hm,h0|⟨b,off,ha,hlt,hc⟩⟩:=h
 ·exact⟨hm,.inl h0⟩
 ·exact⟨hm,.inr ⟨b,off,ha,hlt,fun i hi=>by rw[hc i hi,he i hi]⟩⟩
def bB(g:N1):Nat->Value:=fun i=>.int .i64 (g i)
def aZ (g:N1):Nat->Value:=fun i=>.int .u8 (g i)
def mc (g:Nat->Bool):Nat->Value:=fun i=>.bool (g i)
def Gr.iS(x y:Int):Bool:=decide (0<=x/\x<24/\0<=y/\y<16)
def Gr.aS (k:Int):Bool:=decide (1<=k/\k<=5)
def Gr.iF (k:Int):Bool:=decide (1<=k/\k<=5/\k≠2)
def Gr.at (len:Nat) (f:N1) (x y:Int):Int:=if Gr.iS x y=true/\(y*24+x).toNat<len then f (y*24+x).toNat else 0
theorem Gr.bz(x y:Int):Gr.iS x y=true↔0<=x/\x<24/\0<=y/\y<16:=by simp[Gr.iS]
theorem Gr.oZ (x y:Int):Gr.iS x y=false↔x<0\/24<=x\/y<0\/16<=y:=by
 simp only[Gr.iS,decide_eq_false_iff_not];omega
theorem Gr.yM (k:Int):Gr.aS k=true↔1<=k/\k<=5:=by simp[Gr.aS]
theorem Gr.clearB_iff (k:Int):Gr.iF k=true↔1<=k/\k<=5/\k≠2:=by simp[Gr.iF]
def Gr.findFrom(f:N1)(bD:Int):Nat->Nat->Int
 | 0,_=>-1
 | n+1,k=>if f k=bD then(k:Int)else Gr.findFrom f bD n (k+1)
def Gr.eG(p n:Int):Int:=(2*p+n)/(2*n)
end Go.Proofs.YtbanjoflgoiegaaGreat
namespace Go.Proofs.YtbanjoflgoiegaaGreat.Fx
variable{B P n:Int}
theorem Y7(q:Int):bits .and .i64 q 3=q%4:=by
 show IntKind.i64.wrap ((BitVec.ofInt 64 q &&& BitVec.ofInt 64 3).toNat:Int)=_;have e3:(BitVec.ofInt 64 3).toNat=2 ^ 2-1:=by decide
 rw[BitVec.toNat_and,e3,Nat.and_two_pow_sub_one_eq_mod,BitVec.toNat_ofInt];have hw:∀x:Int,0<=x->x<4->IntKind.i64.wrap x=x:=by
  intro x h1 h2;simp[IntKind.wrap,IntKind.bits,IntKind.signed];omega
 rw[hw _ (by omega) (by omega)];omega
def lO(n r:Int):Prop:=0<=r/\r*r<=n/\n<(r+1)*(r+1)
theorem Pr{r s:Int}(hr:lO n r)(hs:lO n s):r=s:=by
 obtain⟨r0,r1,r2⟩:=hr;obtain⟨s0,s1,s2⟩:=hs;rcases Int.lt_trichotomy r s with h|h|h
 ·have:=Int.mul_self_le_mul_self (a:=r+1) (b:=s) (by omega) (by omega);omega
 ·exact h
 ·have:=Int.mul_self_le_mul_self (a:=s+1) (b:=r) (by omega) (by omega);omega
def RI(n P B:Int):Prop:=∃k q:Nat,k<=32/\P=((q*2 ^ k:Nat):Int)/\B=((2 ^ k/2:Nat):Int)/\P*P<=n/\n<(((q+1)*2 ^ k:Nat):Int)*(((q+1)*2 ^ k:Nat):Int)/\(q+1)*2 ^ k<=4294967296
theorem F6(n:Int)(h0:0<=n)(h1:n<18446744073709551616):RI n 0 2147483648 :=
 ⟨32,0,by omega,by simp,by decide,by omega,by simpa using h1,by decide⟩
theorem HX(k:Nat):2 ^ (k+1)/2=2 ^ k:=by rw[Nat.pow_succ];omega
theorem kU(h:RI n P B):0<=P/\P<4294967296/\0<=B/\B<=2147483648/\P+B<4294967296:=by
 obtain⟨k,q,hk,rfl,rfl,_,_,hb⟩:=h;have hp:=Nat.two_pow_pos k;rw[Nat.add_mul,Nat.one_mul]at hb;have Zn:2 ^ k<=2 ^ 32:=Nat.pow_le_pow_right (by omega) hk;have e32:2 ^ 32=4294967296:=by decide
 generalize q*2 ^ k=u at *;generalize 2 ^ k=v at *;refine⟨by omega,by omega,by omega,by omega,?_⟩;omega
theorem yU(h:RI n P B)(hB:0<B):∃j q:Nat,j+1<=32/\P=((q*2 ^ (j+1):Nat):Int)/\B=((2 ^ j:Nat):Int)/\P*P<=n/\n<(((q+1)*2 ^ (j+1):Nat):Int)*(((q+1)*2 ^ (j+1):Nat):Int)/\(q+1)*2 ^ (j+1)<=4294967296:=by
 obtain⟨k,q,hk,hP,hb,r⟩:=h;cases k with
 | zero=>exfalso;rw[hb]at hB;simp at hB
 | succ j=>exact⟨j,q,hk,hP,by rw[hb,HX],r⟩
theorem VU(h:RI n P B)(hB:0<B):bits .or .u64 P B=P+B:=by
 have hb:=kU h;obtain⟨j,q,hj,rfl,rfl,_⟩:=yU h hB;rw[u64_or_nat _ _ (by omega) (by omega),nat_join (j+1) _ _ (by rw[Nat.mul_mod_left]) (by have:=Nat.two_pow_pos j;rw[Nat.pow_succ];omega)];omega
theorem VV(h:RI n P B):0<=(P+B)*(P+B)/\(P+B)*(P+B)<=18446744073709551615:=by
 obtain⟨h1,h2,h3,h4,h5⟩:=kU h;have a:=Int.mul_nonneg (a:=P+B) (b:=P+B) (by omega) (by omega);have b:=Int.mul_self_le_mul_self (a:=P+B) (b:=4294967295) (by omega) (by omega);omega
theorem GH(j:Nat):((2 ^ j:Nat):Int)/2=((2 ^ j/2:Nat):Int):=by omega
theorem Na(h:RI n P B)(hB:0<B)(hy:(P+B)*(P+B)<=n):RI n (P+B) (B/2):=by
 obtain⟨j,q,hj,rfl,rfl,_,hu,hb⟩:=yU h hB;have e1:(2*q+1)*2 ^ j=q*2 ^ (j+1)+2 ^ j:=by rw[Nat.pow_succ,Nat.add_mul,Nat.one_mul];ac_rfl
 have e2:(2*q+1+1)*2 ^ j=(q+1)*2 ^ (j+1):=by rw[Nat.pow_succ,show 2*q+1+1=2*(q+1) from by omega];ac_rfl
 refine⟨j,2*q+1,by omega,by rw[e1];omega,GH j,hy,?_,?_⟩
 ·rw[e2];exact hu
 ·rw[e2];exact hb
theorem M8(h:RI n P B)(hB:0<B)(hy:n<(P+B)*(P+B)):RI n P (B/2):=by
 obtain⟨j,q,hj,rfl,rfl,hp,hu,hb⟩:=yU h hB;have e1:(2*q)*2 ^ j=q*2 ^ (j+1):=by rw[Nat.pow_succ];ac_rfl
 have e2:(2*q+1)*2 ^ j=q*2 ^ (j+1)+2 ^ j:=by rw[Nat.pow_succ,Nat.add_mul,Nat.one_mul];ac_rfl
 have e3:(q+1)*2 ^ (j+1)=q*2 ^ (j+1)+2 ^ j+2 ^ j:=by rw[Nat.pow_succ,Nat.add_mul,Nat.one_mul];omega
 refine⟨j,2*q,by omega,by rw[e1],GH j,hp,?_,?_⟩
 ·rw[e2,Int.natCast_add];exact hy
 ·rw[e2];rw[e3]at hb;omega
theorem M7(h:RI n P B)(hB:B<=0):lO n P:=by
 have hb:=kU h;obtain⟨k,q,hk,hP,pF,hp,hu,_⟩:=h;cases k with
 | zero=>
  refine⟨hb.1,hp,?_⟩;simp only[Nat.pow_zero,Nat.mul_one]at hP hu;rw[hP];exact hu
 | succ j=>
  have:=Nat.two_pow_pos j;rw[HX]at pF;omega
theorem Ts(hn:n<=9223372036854775807)(hc:3037000499<P+B):n<(P+B)*(P+B):=by
 have:=Int.mul_self_le_mul_self (a:=3037000500) (b:=P+B) (by omega) (by omega);omega
theorem M9(h:RI n P B)(hc:P+B<=3037000499):0<=(P+B)*(P+B)/\(P+B)*(P+B)<=9223372036854775807:=by
 obtain⟨h1,h2,h3,h4,h5⟩:=kU h;have a:=Int.mul_nonneg (a:=P+B) (b:=P+B) (by omega) (by omega);have b:=Int.mul_self_le_mul_self (a:=P+B) (b:=3037000499) (by omega) (by omega);omega
theorem qA(a b m:Int)(hm:0<=m)(a1:-m<=a)(a2:a<=m)(b1:-m<=b)(b2:b<=m):-(m*m)<=a*b/\a*b<=m*m:=by
 have h:(a*b).natAbs<=m.natAbs*m.natAbs:=by
  rw[Int.natAbs_mul];exact Nat.mul_le_mul (by omega) (by omega)
 have e:((m.natAbs*m.natAbs:Nat):Int)=m*m:=by
  rw[Int.natCast_mul,Int.natAbs_of_nonneg hm]
 generalize m*m=M at *;generalize a*b=p at *;generalize m.natAbs*m.natAbs=q at *;omega
def turned:Nat->Int × Int->Int × Int
 | 0,p=>p
 | k+1,p=>(0-(turned k p).2,(turned k p).1)
theorem ML(k:Nat)(p:Int × Int)(m:Int)(h1:-m<=p.1)(h2:p.1<=m)(h3:-m<=p.2)(h4:p.2<=m):-m<=(turned k p).1/\(turned k p).1<=m/\-m<=(turned k p).2/\(turned k p).2<=m:=by
 induction k with
 | zero=>exact⟨h1,h2,h3,h4⟩
 | succ k ih=>
  simp only[turned];omega
def bh(n:Int):Int × Int:=if n=1 then(0,-1)else if n=2 then(1,0)else if n=3 then(0,1)else if n=4 then(-1,0)else(0,0)
theorem Kh(n:Int)(h1:1<=n)(h2:n<=4):turned ((n-1)%4).toNat (0,-1)=bh n:=by
 have:n=1\/n=2\/n=3\/n=4:=by omega
 rcases this with rfl|rfl|rfl|rfl <;> decide
theorem ie(n:Int)(h:n<1\/4<n):bh n=(0,0):=by
 unfold bh;rw[abO (by omega),abO (by omega),abO (by omega),abO (by omega)]
theorem oa(n:Int):-1<=(bh n).1/\(bh n).1<=1/\-1<=(bh n).2/\(bh n).2<=1:=by
 unfold bh;split
 ·decide
 ·split
  ·decide
  ·split
   ·decide
   ·split <;> decide
end Go.Proofs.YtbanjoflgoiegaaGreat.Fx
namespace Go.Proofs.YtbanjoflgoiegaaGreat
open Go.Proofs.Tryz
open Go.RowKit
theorem Pq(n:Int)(w:World)(h1:0<=n)(h2:n<=9223372036854775807):Calls prog 224 #[.int .i64 n] w fun e w'=>∃r,e=.returned (.int .i64 r)/\Fx.lO n r/\w'=w:=by
 go_enter func224,ntmps224;go_wp2;go_loop [3,4] (fun r b=>∃p q:Int,Fx.RI n p q/\r=.int .u64 p/\b=.int .u64 q) (fun _ b=>(intOf b).toNat)
 case atStart=>exact⟨0,_,Fx.F6 n h1 (by omega),rfl,rfl⟩
 case round =>
  obtain⟨p,q,LY,rfl,rfl⟩:=hrel;obtain⟨ub,IM,LW,FX,Xr⟩:=Fx.kU LY;obtain⟨wT,P8⟩:=Fx.VV LY;by_cases hq:0<q
  ·have YR:=Fx.VU LY hq;by_cases hy:(p+q)*(p+q)<=n
   ·go_wp2
    go_round
    case rel=>exact⟨_,_,Fx.Na LY hq hy,rfl,rfl⟩
    case measure=>simp[intOf];omega
   ·go_wp2
    go_round
    case rel=>exact⟨_,_,Fx.M8 LY hq (by omega),rfl,rfl⟩
    case measure=>simp[intOf];omega
  ·go_wp2;go_ret;exact⟨p,rfl,Fx.M7 LY (by omega),rfl⟩
theorem PD(x y q:Int)(w:World)(h1:-1125899906842624<=x)(h2:x<=1125899906842624)(h3:-1125899906842624<=y)(h4:y<=1125899906842624):Calls prog 148 #[.int .i64 x,.int .i64 y,.int .i64 q] w fun e w'=>e=.returned (.tuple #[.int .i64 (Fx.turned (q%4).toNat (x,y)).1,.int .i64 (Fx.turned (q%4).toNat (x,y)).2])/\w'=w:=by
 have ha:=Fx.Y7 q;obtain⟨m,hm⟩:∃m:Nat,(m:Int)=q%4:=⟨(q%4).toNat,by omega⟩;have hm4:m<4:=by omega
 have hmt:(q%4).toNat=m:=by omega
 rw[<-hm]at ha;rw[hmt];have HM:=aa hm;clear hm hmt;go_enter func148,ntmps148;go_wp2;go_loop [8,16] (fun s i=>∃(a b k:Nat),k<=m/\s=.complex .f64 a b/\i=.int .i64 k/\Fl.mR a (Fx.turned k (x,y)).1/\Fl.mR b (Fx.turned k (x,y)).2) (fun _ i=>(m-(intOf i).toNat))
 case atStart=>exact⟨_,_,0,by omega,rfl,rfl,Fl.eZ x (by omega) (by omega),Fl.eZ y (by omega) (by omega)⟩
 case round =>
  obtain⟨a,b,k,hk,rfl,rfl,ra,rb⟩:=hrel;obtain⟨b1,b2,b3,b4⟩:=Fx.ML k (x,y) 1125899906842624 h1 h2 h3 h4;by_cases hlt:k<m
  ·obtain⟨r,i,hmul,rr,ri⟩:=Fl.R3 ra rb (by omega) (by omega) (by omega) (by omega);have nS:=fun w:World=>run_complex_mul (P:=prog) w 173 a b 0 4607182418800017408 r i hmul;have HR:=aa rr;have HI:=aa ri;clear ra rb rr ri hmul;go_wp2
   go_round
   case rel=>exact⟨r,i,k+1,by omega,rfl,by go_num,uh HR,uh HI⟩
   case measure=>simp[intOf];omega
  ·have e:k=m:=by omega
   subst e;have t1:=Fl.lb ra (by omega) (by omega);have t2:=Fl.lb rb (by omega) (by omega);have Re:=fun w:World=>run_convert_float_int (P:=prog) w 176 3 .f64 .i64 a _ (by kernel_rfl) (by kernel_rfl) t1;have pk:=fun w:World=>run_convert_float_int (P:=prog) w 176 3 .f64 .i64 b _ (by kernel_rfl) (by kernel_rfl) t2;clear t1 t2 ra rb;go_wp2
   go_ret2
   exact⟨rfl,rfl⟩
theorem Ih(n:Int)(w:World)(h1:0<=n)(h2:n<=9223372036854775807):Calls prog 123 #[.int .i64 n] w fun e w'=>∃r,e=.returned (.int .i64 r)/\Fx.lO n r/\w'=w:=by
 go_enter func123,ntmps123;go_wp2;go_loop [3,4] (fun r b=>∃p q:Int,Fx.RI n p q/\r=.int .i64 p/\b=.int .i64 q) (fun _ b=>(intOf b).toNat)
 case atStart=>exact⟨0,_,Fx.F6 n h1 (by omega),rfl,rfl⟩
 case round =>
  obtain⟨p,q,LY,rfl,rfl⟩:=hrel;obtain⟨ub,IM,LW,FX,Xr⟩:=Fx.kU LY;by_cases hq:0<q
  ·by_cases hc:p+q<=3037000499
   ·obtain⟨wT,P8⟩:=Fx.M9 LY hc;by_cases hy:(p+q)*(p+q)<=n
    ·go_wp2
     go_round
     case rel=>exact⟨_,_,Fx.Na LY hq hy,rfl,rfl⟩
     case measure=>simp[intOf];omega
    ·go_wp2
     go_round
     case rel=>exact⟨_,_,Fx.M8 LY hq (by omega),rfl,rfl⟩
     case measure=>simp[intOf];omega
   ·have hy:=Fx.Ts (n:=n) (P:=p) (B:=q) h2 (by omega);have HY:=aa hy;clear hy;go_wp2
    go_round
    case rel=>exact⟨_,_,Fx.M8 LY hq (uh HY),rfl,rfl⟩
    case measure=>simp[intOf];omega
  ·go_wp2;go_ret;exact⟨p,rfl,Fx.M7 LY (by omega),rfl⟩
theorem S6(dx dy:Int)(h1:-1048576<=dx)(h2:dx<=1048576)(h3:-1048576<=dy)(h4:dy<=1048576):0<=dx*dx/\dx*dx<=1099511627776/\0<=dy*dy/\dy*dy<=1099511627776:=by
 have a:=Fx.qA dx dx 1048576 (by omega) h1 h2 h1 h2;have b:=Fx.qA dy dy 1048576 (by omega) h3 h4 h3 h4;have c:0<=dx*dx:=by rcases Int.le_total 0 dx with h|h;exact Int.mul_nonneg h h;exact Int.mul_nonneg_of_nonpos_of_nonpos h h
 have d:0<=dy*dy:=by rcases Int.le_total 0 dy with h|h;exact Int.mul_nonneg h h;exact Int.mul_nonneg_of_nonpos_of_nonpos h h
 omega
theorem NC(dx dy:Int)(w:World)(h1:-1048576<=dx)(h2:dx<=1048576)(h3:-1048576<=dy)(h4:dy<=1048576):Calls prog 217 #[.int .i64 dx,.int .i64 dy] w fun e w'=>∃r,e=.returned (.int .i64 r)/\Fx.lO ((dx*dx+dy*dy)*65536) r/\w'=w:=by
 obtain⟨a,b,c,d⟩:=S6 dx dy h1 h2 h3 h4;go_enter func217,ntmps217;go_wp2_with (go_at_call 224;refine(Pq _ _ (by omega) (by omega)).mono ?_;rintro e w' ⟨r,rfl,hr,rfl⟩);go_ret;exact⟨r,rfl,hr,rfl⟩
theorem H8(dx dy:Int)(w:World)(h1:-1048576<=dx)(h2:dx<=1048576)(h3:-1048576<=dy)(h4:dy<=1048576):Calls prog 89 #[.int .i64 dx,.int .i64 dy] w fun e w'=>∃r,e=.returned (.int .i64 r)/\Fx.lO ((dx*dx+dy*dy)*65536) r/\w'=w:=by
 obtain⟨a,b,c,d⟩:=S6 dx dy h1 h2 h3 h4;go_enter func89,ntmps89;go_wp2_with (go_at_call 123;refine(Ih _ _ (by omega) (by omega)).mono ?_;rintro e w' ⟨r,rfl,hr,rfl⟩);go_ret;exact⟨r,rfl,by rw[Int.mul_comm];exact hr,rfl⟩
theorem FN(n:Int)(w:World):Calls prog 113 #[.int .i64 n] w fun e w'=>e=.returned (.tuple #[.int .i64 (Fx.bh n).1,.int .i64 (Fx.bh n).2])/\w'=w:=by
 by_cases h1:n<1
 ·rw[Fx.ie n (Or.inl h1)];go_enter func113,ntmps113;go_wp2
  go_ret2
  exact⟨rfl,rfl⟩
 ·by_cases h2:4<n
  ·rw[Fx.ie n (Or.inr h2)];go_enter func113,ntmps113;go_wp2
   go_ret2
   exact⟨rfl,rfl⟩
  ·rw[<-Fx.Kh n (by omega) (by omega)];go_enter func113,ntmps113;go_wp2_with (go_at_call 148;refine(PD 0 (-1) _ _ (by omega) (by omega) (by omega) (by omega)).mono ?_;rintro e w' ⟨rfl,rfl⟩)
   go_ret2
   exact⟨rfl,rfl⟩
theorem lY(n:Int)(w:World):Calls prog 83 #[.int .i64 n] w fun e w'=>e=.returned (.tuple #[.int .i64 (Fx.bh n).1,.int .i64 (Fx.bh n).2])/\w'=w:=by
 by_cases h:n=1\/n=2\/n=3\/n=4
 ·rcases h with rfl|rfl|rfl|rfl
  all_goals
   go_enter func83,ntmps83;go_wp2
   go_ret2
   exact⟨rfl,rfl⟩
 ·have e1:(n==1)=false:=by simp;omega
  have e2:(n==2)=false:=by simp;omega
  have e3:(n==3)=false:=by simp;omega
  have e4:(n==4)=false:=by simp;omega
  rw[Fx.ie n (by omega)];clear h;go_enter func83,ntmps83;go_wp2
  go_ret2
  exact⟨rfl,rfl⟩
end Go.Proofs.YtbanjoflgoiegaaGreat
namespace Go.Proofs.YtbanjoflgoiegaaGreat.Fl
open Ieee
variable{b:Nat}{x y:Int}
theorem Gj(x y c:Int)(hc:0<c):compare (x*c) (y*c)=compare x y:=by
 have h1:(x*c<y*c)↔x<y:=⟨fun h=>Int.lt_of_mul_lt_mul_right h (Int.le_of_lt hc),fun h=>Int.mul_lt_mul_of_pos_right h hc⟩;have h2:(x*c=y*c)↔x=y:=⟨fun h=>Int.eq_of_mul_eq_mul_right (by omega) h,fun h=>by rw[h]⟩;show compareOfLessAndEq _ _=compareOfLessAndEq _ _;unfold compareOfLessAndEq;by_cases hlt:x<y
 ·rw[abP hlt,abP (h1.2 hlt)]
 ·rw[abO hlt,abO (fun h=>hlt (h1.1 h))];by_cases he:x=y
  ·rw[abP he,abP (h2.2 he)]
  ·rw[abO he,abO (fun h=>he (h2.1 h))]
theorem pq{a:Nat}(ha:mR a x)(hb:mR b y):double.order a b=some (compare x y):=by
 obtain⟨s,m,k,ra,hx⟩:=ha;obtain⟨t,n,l,rb,hy⟩:=hb;have hj:(min (-(k:Int)) (-(l:Int)))=-((max k l:Nat):Int):=by omega
 have ek:(-(k:Int) - -((max k l:Nat):Int)).toNat=max k l-k:=by omega
 have el:(-(l:Int) - -((max k l:Nat):Int)).toNat=max k l-l:=by omega
 unfold Format.order;rw[ra,rb];show some (compare (signed s (m*2 ^ k) (-(k:Int)-min (-(k:Int)) (-(l:Int))).toNat) (signed t (n*2 ^ l) (-(l:Int)-min (-(k:Int)) (-(l:Int))).toNat))=_;rw[hj,ek,el,nv s m k _ (Nat.le_max_left _ _),nv t n l _ (Nat.le_max_right _ _),<-hx,<-hy];have kf:0<((2 ^ max k l:Nat):Int):=by have:=Nat.two_pow_pos (max k l);omega
 rw[Gj _ _ _ kf]
theorem qi(h:x<y):compare x y=.lt:=by
 show compareOfLessAndEq _ _=_;unfold compareOfLessAndEq;rw[abP h]
theorem qh(h:y<x):compare x y=.gt:=by
 show compareOfLessAndEq _ _=_;unfold compareOfLessAndEq;rw[abO (by omega),abO (by omega)]
theorem I1(h:x=y):compare x y=.eq:=by
 show compareOfLessAndEq _ _=_;unfold compareOfLessAndEq;rw[abO (by omega),abP h]
def Y1(b:Nat)(s:Bool):Prop:=∃(K E:Nat),double.read b=.number s K (E:Int)/\4503599627370496<=K
theorem QH(K c:Nat)(y:Int)(P:Nat)(hP:0<P)(hK:4503599627370496<=K)(hc:P<=c)(h1:-4503599627370496<y)(h2:y<4503599627370496):y*(P:Int)<((K*c:Nat):Int)/\-((K*c:Nat):Int)<y*(P:Int):=by
 have h:4503599627370496*P<=K*c:=Nat.mul_le_mul hK hc;have h':((4503599627370496*P:Nat):Int)<=((K*c:Nat):Int):=by omega
 have e1:y*(P:Int)<=4503599627370495*(P:Int):=Int.mul_le_mul_of_nonneg_right (by omega) (by omega);have e2:-4503599627370495*(P:Int)<=y*(P:Int):=Int.mul_le_mul_of_nonneg_right (by omega) (by omega);constructor <;> omega
theorem Mr{a:Nat}{s:Bool}(ha:Y1 a s)(hb:mR b y)(h1:-4503599627370496<y)(h2:y<4503599627370496):double.order a b=some (if s then .lt else .gt)/\double.order b a=some (if s then .gt else .lt):=by
 obtain⟨K,E,ra,hK⟩:=ha;obtain⟨t,n,l,rb,hy⟩:=hb;have m1:min (E:Int) (-(l:Int))=-(l:Int):=by omega
 have m2:min (-(l:Int)) (E:Int)=-(l:Int):=by omega
 have e1:((E:Int) - -(l:Int)).toNat=E+l:=by omega
 have e2:(-(l:Int) - -(l:Int)).toNat=l-l:=by omega
 have hs:signed t (n*2 ^ l) (l-l)=y*((2 ^ l:Nat):Int):=by rw[nv t n l l (abL _),<-hy]
 have Yu:signed s K (E+l)=(if s then -((K*2 ^ (E+l):Nat):Int)else((K*2 ^ (E+l):Nat):Int)):=by
  unfold signed;rw[Nat.shiftLeft_eq]
 have hf:=QH K (2 ^ (E+l)) y (2 ^ l) (Nat.two_pow_pos _) hK (Nat.pow_le_pow_right (by omega) (by omega)) h1 h2;constructor
 ·unfold Format.order;rw[ra,rb];show some (compare (signed s K ((E:Int)-min (E:Int) (-(l:Int))).toNat) (signed t (n*2 ^ l) (-(l:Int)-min (E:Int) (-(l:Int))).toNat))=_;rw[m1,e1,e2,hs,Yu];cases s
  ·rw[abO (by decide),abO (by decide),qh hf.1]
  ·rw[abP rfl,abP rfl,qi hf.2]
 ·unfold Format.order;rw[ra,rb];show some (compare (signed t (n*2 ^ l) (-(l:Int)-min (-(l:Int)) (E:Int)).toNat) (signed s K ((E:Int)-min (-(l:Int)) (E:Int)).toNat))=_;rw[m2,e1,e2,hs,Yu];cases s
  ·rw[abO (by decide),abO (by decide),qi hf.1]
  ·rw[abP rfl,abP rfl,qh hf.2]
theorem TD(neg:Bool)(m d:Nat)(hm:m≠0)(hd:m.log2=d+52):4503599627370496<=Toward.even.cut neg m d/\Toward.even.cut neg m d<=9007199254740992:=by
 have hg:(1 <<< min d (m.log2+2))=2 ^ d:=by rw[Nat.shiftLeft_eq,Nat.one_mul,Nat.min_eq_left (by omega)]
 have lo:4503599627370496<=m/2 ^ d:=by
  rw[Nat.le_div_iff_mul_le (Nat.two_pow_pos d)];have h:=Nat.log2_self_le hm;rw[hd,Nat.pow_add]at h;have e:(2:Nat) ^ 52=4503599627370496:=by decide
  rw[e]at h;rw[Nat.mul_comm];exact h
 have hi:m/2 ^ d<9007199254740992:=by
  rw[Nat.div_lt_iff_lt_mul (Nat.two_pow_pos d)];have h:=(Nat.log2_lt hm).1 (Nat.lt_succ_self m.log2);rw[hd,show(d+52).succ=d+53 from rfl,Nat.pow_add]at h;have e:(2:Nat) ^ 53=9007199254740992:=by decide
  rw[e]at h;rw[Nat.mul_comm];exact h
 unfold Toward.cut;simp only[hg];have:∀b:Bool,b.toNat<=1:=by decide
 have h1:=this (decide (2 ^ d<2*(m%2 ^ d))||(2 ^ d==2*(m%2 ^ d)&&m/2 ^ d%2==1));constructor <;> omega
theorem Qt(n:Int)(h:9007199254740992<=n.natAbs)(h2:n.natAbs<=9223372036854775808):Y1 (floatOfInt .f64 n) (decide (n<0)):=by
 show Y1 (double.nearest (decide (n<0)) n.natAbs 0) _;generalize n.natAbs=m at *;generalize decide (n<0)=neg at *;have hm:m≠0:=by omega
 have l1:53<=m.log2:=(Nat.le_log2 hm).2 (by simpa using h);have l2:m.log2<64:=(Nat.log2_lt hm).2 (by have e:(2:Nat) ^ 64=18446744073709551616:=(by decide);omega);obtain⟨d,hd⟩:∃d,m.log2=d+52:=⟨m.log2-52,by omega⟩;have hb:=TD neg m d hm hd;have hf:((double.fractionBits:Nat):Int)=52:=rfl;unfold Format.nearest;rw[abO hm];simp only[vO,ph,zT];have Oh:max ((0:Int)+((m.log2:Nat):Int)-((double.fractionBits:Nat):Int)) (-1074)=(d:Int):=by rw[hf,hd];omega
 rw[Oh];have e1:((0:Int)-(d:Int)).toNat=0:=by omega
 have e2:((d:Int)-0).toNat=d:=by omega
 have e3:((d:Int)-(-1074)).toNat=d+1074:=by omega
 rw[e1,e2,e3,Nat.shiftLeft_zero];generalize Toward.even.cut neg m d=q at hb;rw[Nat.min_eq_left (by omega)];generalize hR:(d+1074)*4503599627370496+q=R;have r1:1076*4503599627370496<=R:=by omega
 have r2:R<9218868437227405312:=by omega
 have w1:(double.word neg R)/9223372036854775808%2=neg.toNat:=by
  unfold Format.word;rw[lh];cases neg
  ·rw[abO (by decide)];show _=0;omega
  ·rw[abP rfl];show _=1;omega
 have w2:(double.word neg R)%9223372036854775808=R:=by
  unfold Format.word;rw[lh];cases neg
  ·rw[abO (by decide)];omega
  ·rw[abP rfl];omega
 refine⟨4503599627370496+R%4503599627370496,R/4503599627370496-1075,?_,by omega⟩;unfold Format.read;simp only[lh,ph,zT,vO,w1,w2];rw[abO (by omega),abP r2];have e7:(-1074:Int)+((R/4503599627370496-1:Nat):Int)=((R/4503599627370496-1075:Nat):Int):=by omega
 rw[e7];cases neg <;> rfl
theorem Ms(n:Int)(h1:-9223372036854775808<=n)(h2:n<=9223372036854775807)(hb:mR b y)(h3:-4503599627370496<y)(h4:y<4503599627370496):double.order (floatOfInt .f64 n) b=some (compare n y)/\double.order b (floatOfInt .f64 n)=some (compare y n):=by
 by_cases hs:n.natAbs<9007199254740992
 ·exact⟨pq (eZ n (by omega) (by omega)) hb,pq hb (eZ n (by omega) (by omega))⟩
 ·obtain⟨e1,e2⟩:=Mr (Qt n (by omega) (by omega)) hb h3 h4;rw[e1,e2];by_cases hn:n<0
  ·simp only[hn,decide_true,if_true];rw[qi (show n<y by omega),qh (show n<y by omega)];exact⟨rfl,rfl⟩
  ·simp only[hn,decide_false];rw[qh (show y<n by omega),qi (show y<n by omega)];exact⟨rfl,rfl⟩
theorem Vf:mR 4627448617123184640 24:=⟨false,24,48,by rfl,by rfl⟩
theorem Ve:mR 4625196817309499392 16:=⟨false,16,48,by rfl,by rfl⟩
theorem Nq(x y:Int):((some (compare x y):Option Ordering)==some .lt)=decide (x<y):=by
 by_cases h:x<y
 ·rw[qi h,abJ h];rfl
 ·rw[abI h];by_cases he:x=y
  ·rw[I1 he];rfl
  ·rw[qh (by omega)];rfl
theorem Np(x y:Int):((some (compare x y):Option Ordering)==some .gt||(some (compare x y):Option Ordering)==some .eq)=decide (y<=x):=by
 by_cases h:x<y
 ·rw[qi h,abI (by omega)];rfl
 ·rw[abJ (by omega)];by_cases he:x=y
  ·rw[I1 he];rfl
  ·rw[qh (by omega)];rfl
theorem No(x y:Int):((some (compare x y):Option Ordering)==some .eq)=decide (x=y):=by
 by_cases h:x<y
 ·rw[qi h,abI (by omega)];rfl
 ·by_cases he:x=y
  ·rw[I1 he,abJ he];rfl
  ·rw[qh (by omega),abI he];rfl
end Go.Proofs.YtbanjoflgoiegaaGreat.Fl
namespace Go.Proofs.YtbanjoflgoiegaaGreat
open Go.Proofs.Tryz
open Go.RowKit
variable{F:Nat->Value}{T:TypeId}{ar g n:Nat}{w:World}
def ax(w:World)(g:Nat)(T:TypeId)(n:Nat)(F:Nat->Value):Prop :=
 ∃cD:Array Value,w.heap[g]?=some (.cells cD T (0,0))/\cD.size=n/\∀i,i<n->cD[i]?=some (F i)
theorem ax.cell(h:ax w g T n F){i:Nat}(hi:i<n):w.cell? ⟨g,i,none⟩=some (F i):=by
 obtain⟨cD,hg,_,hc⟩:=h;rw[cell_of_row w g i cD T (0,0) hg];exact hc i hi
theorem ax.free(h:ax w g T n F)(i:Nat):w.frozen? ⟨g,i,none⟩=false:=by
 obtain⟨cD,hg,_,_⟩:=h;exact frozen_of_row w g i cD T hg
theorem ax.lt(h:ax w g T n F):g<w.heap.size:=by
 obtain⟨cD,hg,_,_⟩:=h;exact lt_of_block hg
theorem ax.congr{G:Nat->Value}(h:ax w g T n F)(he:∀i,i<n->F i=G i):ax w g T n G:=by
 obtain⟨cD,hg,hs,hc⟩:=h;exact⟨cD,hg,hs,fun i hi=>by rw[hc i hi,he i hi]⟩
theorem ax.kept{w':World}{B:Nat}(h:ax w g T n F)(hb:Below B w w')(hlt:g<B):ax w' g T n F:=by
 obtain⟨cD,hg,hs,hc⟩:=h;exact⟨cD,(hb.block g hlt).trans hg,hs,hc⟩
theorem ax.store(h:ax w g T n F)(i:Nat)(u:Value):ax (w.setCell ⟨g,i,none⟩ u) g T n (fun j=>if j=i then u else F j):=by
 obtain⟨cD,hg,hs,hc⟩:=h;refine⟨cD.setIfInBounds i u,heap_setCell_same w g i cD T u hg,by simpa using hs,fun j hj=>?_⟩;show _=some (if j=i then u else F j);by_cases Od:j=i
 ·subst Od;rw[abP rfl];simp[hs,hj]
 ·rw[abO Od,Array.getElem?_setIfInBounds_ne (by omega)];exact hc j hj
theorem ax.lg(h:ax w g T n F)(B:Nat)(hB:g<B)(hm:n<=maxLen):il B w (some ⟨g,0,none⟩) n F :=
 ⟨hm,.inr ⟨g,0,rfl,hB,fun i hi=>by rw[Nat.zero_add];exact h.cell hi⟩⟩
theorem ax.aaJ{xs:List Value}(h:w.ownsRow ar T 1 (.slice (some ⟨g,0,none⟩) n n) n xs)(u:Value):ax w g T n (fun i=>xs[i]?.getD u):=by
 have hl:=h.1;rcases h.2 with⟨h',_⟩|⟨g',oN,cD,h',_,hg,_,_,fp,ye⟩
 ·simp at h'
 ·simp only[Value.slice.injEq,Option.some.injEq,Addr.mk.injEq,and_true,true_and]at h';obtain⟨rfl,rfl⟩:=h';refine⟨cD,hg,by simpa using fp,fun i hi=>?_⟩;show _=some (xs[i]?.getD u);rw[<-ye];rw[Nat.mul_one,List.getElem?_take,abP hi,Array.getElem?_toList,Array.getElem?_eq_getElem (by omega)];rfl
theorem ax.zero{z:Value}(h:w.ownsRow ar T 1 (.slice (some ⟨g,0,none⟩) n n) n (madeCells #[z] n).toList):ax w g T n (fun _=>z):=by
 refine(ax.aaJ h z).congr fun i hi=>?_;rw[toList_madeCells_one,List.getElem?_replicate,abP (by omega)];rfl
theorem mX{g:N1}{z:Int}{k:Nat}{v:Int}(hv:v=g k)(j:Nat):(if j=k then Value.int .i64 v else .int .i64 (if j<k then g j else z))=.int .i64 (if j<k+1 then g j else z):=by
 by_cases h:j=k
 ·rw[abP h,abP (by omega),hv,h]
 ·rw[abO h];by_cases h2:j<k
  ·rw[abP h2,abP (by omega)]
  ·rw[abO h2,abO (by omega)]
theorem RK{v:Value}{len:Nat}{xs:List Int}(h:w.ownsRow ar 3 1 v len (xs.map (Value.int .i64)))(hm:len<=maxLen):∃a aG,v=.slice a len aG/\xs.length=len/\il w.heap.size w a len (bB fun i=>xs[i]?.getD 0):=by
 have h1:xs.length=len:=by simpa using h.1
 rcases h.2 with⟨rfl,rfl⟩|⟨g,aG,cD,rfl,_,hg,_,_,_,_⟩
 ·exact⟨none,0,rfl,h1,hm,.inl rfl⟩
 ·refine⟨_,aG,rfl,h1,hm,.inr ⟨g,0,rfl,lt_of_block hg,fun i hi=>?_⟩⟩;rw[Nat.zero_add,h.cellAt i (by omega),List.getElem?_map];show _=some (Value.int .i64 (xs[i]?.getD 0));rw[abQ (by omega)];rfl
def Sd(w:World)(n:Nat)(F:Nat->Value)(e:Ending)(w':World):Prop :=
 ∃a aG,e=.returned (.slice a n aG)/\il w'.heap.size w' a n F/\n<=aG/\Below w.heap.size w w'
theorem gX:(prog.info? 3).map (fun i=>(i.zero,i.size,i.bytes))=some (some (.int .i64 0),1,8):=by kernel_rfl
theorem iX(x y:Int)(w:World):Calls prog 152 #[.int .i64 x,.int .i64 y] w fun e w'=>e=.returned (.bool (Gr.iS x y))/\w'=w:=by
 by_cases h1:0<=x
 ·by_cases h2:x<24
  ·by_cases h3:0<=y
   ·by_cases h4:y<16
    ·have hd:=aa ((Gr.bz x y).2 ⟨h1,h2,h3,h4⟩);go_enter func152,ntmps152;go_wp2;go_ret;exact⟨aO (uh hd).symm,rfl⟩
    ·have hd:=aa ((Gr.oZ x y).2 (by omega));go_enter func152,ntmps152;go_wp2;go_ret;exact⟨aO (uh hd).symm,rfl⟩
   ·have hd:=aa ((Gr.oZ x y).2 (by omega));go_enter func152,ntmps152;go_wp2;go_ret;exact⟨aO (uh hd).symm,rfl⟩
  ·have hd:=aa ((Gr.oZ x y).2 (by omega));go_enter func152,ntmps152;go_wp2;go_ret;exact⟨aO (uh hd).symm,rfl⟩
 ·have hd:=aa ((Gr.oZ x y).2 (by omega));go_enter func152,ntmps152;go_wp2;go_ret;exact⟨aO (uh hd).symm,rfl⟩
theorem bA(x y:Int)(w:World):Calls prog 87 #[.int .i64 x,.int .i64 y] w fun e w'=>e=.returned (.bool (Gr.iS x y))/\w'=w:=by
 by_cases h1:0<=x
 ·by_cases h2:x<24
  ·by_cases h3:0<=y
   ·by_cases h4:y<16
    ·have hd:=aa ((Gr.bz x y).2 ⟨h1,h2,h3,h4⟩);go_enter func87,ntmps87;go_wp2;go_ret;exact⟨aO (uh hd).symm,rfl⟩
    ·have hd:=aa ((Gr.oZ x y).2 (by omega));go_enter func87,ntmps87;go_wp2;go_ret;exact⟨aO (uh hd).symm,rfl⟩
   ·have hd:=aa ((Gr.oZ x y).2 (by omega));go_enter func87,ntmps87;go_wp2;go_ret;exact⟨aO (uh hd).symm,rfl⟩
  ·have hd:=aa ((Gr.oZ x y).2 (by omega));go_enter func87,ntmps87;go_wp2;go_ret;exact⟨aO (uh hd).symm,rfl⟩
 ·have hd:=aa ((Gr.oZ x y).2 (by omega));go_enter func87,ntmps87;go_wp2;go_ret;exact⟨aO (uh hd).symm,rfl⟩
theorem gY(x y:Int)(w:World)(h1:-1000<=x)(h2:x<=1000)(h3:-1000<=y)(h4:y<=1000):Calls prog 153 #[.int .i64 x,.int .i64 y] w fun e w'=>e=.returned (.int .i64 (y*24+x))/\w'=w:=by
 go_enter func153,ntmps153;go_wp2;go_ret;exact⟨rfl,rfl⟩
theorem nJ(B:Nat)(a:Option Addr)(len aG:Nat)(f:N1)(x y:Int)(w:World)(h:il B w a len (aZ f))(hf:∀i,0<=f i/\f i<=255):Calls prog 116 #[.slice a len aG,.int .i64 x,.int .i64 y] w fun e w'=>e=.returned (.int .i64 (Gr.at len f x y))/\w'=w:=by
 have hm:len<=9223372036854775807:=h.1;by_cases cU:Gr.iS x y=true
 ·obtain⟨h1,h2,h3,h4⟩:=(Gr.bz x y).1 cU;obtain⟨k,hk⟩:∃k:Nat,y*24+x=(k:Int):=⟨(y*24+x).toNat,by omega⟩;by_cases hl:k<len
  ·have hd:Hid (Gr.at len f x y=f k):=by
    show Gr.at len f x y=f k;unfold Gr.at;rw[abP ⟨cU,by omega⟩,hk,abG]
   obtain⟨b,off,rfl,_,hc⟩:=h.at hl;have fD:w.cell? ⟨b,off+k,none⟩=some (.int .u8 (f k)):=hc;have hfk:=hf k;obtain⟨Q4,hf2⟩:=hfk;have sO:(k:Int)<(len:Int):=by omega
   clear hc h hf;go_enter func116,ntmps116;go_wp2_with (first| (go_at_call 152;refine(iX _ _ _).mono ?_;rintro e w' ⟨rfl,rfl⟩)|(go_at_call 153;refine(gY _ _ _ (by omega) (by omega) (by omega) (by omega)).mono ?_;rintro e w' ⟨rfl,rfl⟩));go_ret;exact⟨rti (uh hd).symm,rfl⟩
  ·have hd:Hid (Gr.at len f x y=0):=by
    show Gr.at len f x y=0;unfold Gr.at;rw[abO];rintro⟨_,h⟩;omega
   have sO:(len:Int)<=(k:Int):=by omega
   clear h hf;go_enter func116,ntmps116;go_wp2_with (first| (go_at_call 152;refine(iX _ _ _).mono ?_;rintro e w' ⟨rfl,rfl⟩)|(go_at_call 153;refine(gY _ _ _ (by omega) (by omega) (by omega) (by omega)).mono ?_;rintro e w' ⟨rfl,rfl⟩));go_ret;exact⟨rti (uh hd).symm,rfl⟩
 ·have LS:Gr.iS x y=false:=by simpa using cU
  have hd:Hid (Gr.at len f x y=0):=by
   show Gr.at len f x y=0;unfold Gr.at;rw[abO];rintro⟨h,_⟩;exact cU h
  clear cU h hf;go_enter func116,ntmps116;go_wp2_with (first| (go_at_call 152;refine(iX _ _ _).mono ?_;rintro e w' ⟨rfl,rfl⟩));go_ret;exact⟨rti (uh hd).symm,rfl⟩
theorem bM(B:Nat)(a:Option Addr)(len aG:Nat)(f:N1)(x y:Int)(w:World)(h:il B w a len (aZ f))(hf:∀i,0<=f i/\f i<=255):Calls prog 40 #[.slice a len aG,.int .i64 x,.int .i64 y] w fun e w'=>e=.returned (.int .i64 (Gr.at len f x y))/\w'=w:=by
 have hm:len<=9223372036854775807:=h.1;by_cases cU:Gr.iS x y=true
 ·obtain⟨h1,h2,h3,h4⟩:=(Gr.bz x y).1 cU;obtain⟨k,hk⟩:∃k:Nat,y*24+x=(k:Int):=⟨(y*24+x).toNat,by omega⟩;by_cases hl:k<len
  ·have hd:Hid (Gr.at len f x y=f k):=by
    show Gr.at len f x y=f k;unfold Gr.at;rw[abP ⟨cU,by omega⟩,hk,abG]
   obtain⟨b,off,rfl,_,hc⟩:=h.at hl;have fD:w.cell? ⟨b,off+k,none⟩=some (.int .u8 (f k)):=hc;have hfk:=hf k;obtain⟨Q4,hf2⟩:=hfk;have sO:(k:Int)<(len:Int):=by omega
   clear hc h hf;go_enter func40,ntmps40;go_wp2_with (first| (go_at_call 87;refine(bA _ _ _).mono ?_;rintro e w' ⟨rfl,rfl⟩));go_ret;exact⟨rti (uh hd).symm,rfl⟩
  ·have hd:Hid (Gr.at len f x y=0):=by
    show Gr.at len f x y=0;unfold Gr.at;rw[abO];rintro⟨_,h⟩;omega
   have sO:(len:Int)<=(k:Int):=by omega
   clear h hf;go_enter func40,ntmps40;go_wp2_with (first| (go_at_call 87;refine(bA _ _ _).mono ?_;rintro e w' ⟨rfl,rfl⟩));go_ret;exact⟨rti (uh hd).symm,rfl⟩
 ·have LS:Gr.iS x y=false:=by simpa using cU
  have hd:Hid (Gr.at len f x y=0):=by
   show Gr.at len f x y=0;unfold Gr.at;rw[abO];rintro⟨h,_⟩;exact cU h
  clear cU h hf;go_enter func40,ntmps40;go_wp2_with (first| (go_at_call 87;refine(bA _ _ _).mono ?_;rintro e w' ⟨rfl,rfl⟩));go_ret;exact⟨rti (uh hd).symm,rfl⟩
theorem gm(k:Int)(w:World):Calls prog 115 #[.int .i64 k] w fun e w'=>e=.returned (.bool (Gr.aS k))/\w'=w:=by
 by_cases h:k=1\/k=2\/k=3\/k=4\/k=5
 ·rcases h with rfl|rfl|rfl|rfl|rfl
  all_goals
   go_enter func115,ntmps115;go_wp2;go_ret;exact⟨rfl,rfl⟩
 ·have e1:(k==1)=false:=by simp;omega
  have e2:(k==2)=false:=by simp;omega
  have e3:(k==3)=false:=by simp;omega
  have e4:(k==4)=false:=by simp;omega
  have e5:(k==5)=false:=by simp;omega
  have hd:Hid (Gr.aS k=false):=by show Gr.aS k=false;simp only[Gr.aS,decide_eq_false_iff_not];omega
  clear h;go_enter func115,ntmps115;go_wp2;go_ret;exact⟨aO (uh hd).symm,rfl⟩
theorem cT(k:Int)(w:World):Calls prog 46 #[.int .i64 k] w fun e w'=>e=.returned (.bool (Gr.aS k))/\w'=w:=by
 by_cases h1:1<=k
 ·by_cases h2:k<=5
  ·have hd:=aa ((Gr.yM k).2 ⟨h1,h2⟩);go_enter func46,ntmps46;go_wp2;go_ret;exact⟨aO (uh hd).symm,rfl⟩
  ·have hd:Hid (Gr.aS k=false):=by show Gr.aS k=false;simp only[Gr.aS,decide_eq_false_iff_not];omega
   go_enter func46,ntmps46;go_wp2;go_ret;exact⟨aO (uh hd).symm,rfl⟩
 ·have hd:Hid (Gr.aS k=false):=by show Gr.aS k=false;simp only[Gr.aS,decide_eq_false_iff_not];omega
  go_enter func46,ntmps46;go_wp2;go_ret;exact⟨aO (uh hd).symm,rfl⟩
theorem Gr.tj{k:Int}(h:Gr.aS k=false):Gr.iF k=false:=by
 simp only[Gr.aS,Gr.iF,decide_eq_false_iff_not]at *;omega
theorem Gr.qS{k:Int}(h:Gr.aS k=true):Gr.iF k=(k !=2):=by
 simp only[Gr.aS,decide_eq_true_eq]at h;rw[Bool.eq_iff_iff];simp[Gr.iF];omega
theorem xN(k:Int)(w:World):Calls prog 223 #[.int .i64 k] w fun e w'=>e=.returned (.bool (Gr.iF k))/\w'=w:=by
 by_cases h:Gr.aS k=true
 ·have hd:=aa (Gr.qS h);go_enter func223,ntmps223;go_wp2_with (go_at_call 115;refine(gm _ _).mono ?_;rintro e w' ⟨rfl,rfl⟩);go_ret;exact⟨aO (uh hd).symm,rfl⟩
 ·have h':Gr.aS k=false:=by simpa using h
  have hd:=aa (Gr.tj h');clear h;go_enter func223,ntmps223;go_wp2_with (go_at_call 115;refine(gm _ _).mono ?_;rintro e w' ⟨rfl,rfl⟩);go_ret;exact⟨aO (uh hd).symm,rfl⟩
theorem rT(k:Int)(w:World):Calls prog 125 #[.int .i64 k] w fun e w'=>e=.returned (.bool (Gr.iF k))/\w'=w:=by
 by_cases h:Gr.aS k=true
 ·have hd:=aa (Gr.qS h);go_enter func125,ntmps125;go_wp2_with (go_at_call 46;refine(cT _ _).mono ?_;rintro e w' ⟨rfl,rfl⟩);go_ret;exact⟨aO (uh hd).symm,rfl⟩
 ·have h':Gr.aS k=false:=by simpa using h
  have hd:=aa (Gr.tj h');clear h;go_enter func125,ntmps125;go_wp2_with (go_at_call 46;refine(cT _ _).mono ?_;rintro e w' ⟨rfl,rfl⟩);go_ret;exact⟨aO (uh hd).symm,rfl⟩
theorem Gr.Hu(p n:Int)(hn:0<n)(h:(2*p+n).tmod (2*n)<0):(2*p+n).tdiv (2*n)-1=Gr.eG p n:=by
 unfold Gr.eG;have h0:=Int.mul_tdiv_add_tmod (2*p+n) (2*n);have h1:=Int.mul_ediv_add_emod (2*p+n) (2*n);have h2:=Int.emod_nonneg (2*p+n) (b:=2*n) (by omega);have h3:=Int.emod_lt_of_pos (2*p+n) (b:=2*n) (by omega);have h4:=Int.lt_tmod_of_pos (2*p+n) (b:=2*n) (by omega);generalize (2*p+n).tdiv (2*n)=q at *;generalize (2*p+n)/(2*n)=r at *;generalize (2*p+n).tmod (2*n)=s at *;generalize (2*p+n)%(2*n)=t at *;have:(2*n)*(q-1)=(2*n)*q-2*n:=by rw[Int.mul_sub,Int.mul_one]
 have e:(2*n)*(q-1-r)=t-s-2*n:=by rw[Int.mul_sub];omega
 rcases Int.lt_trichotomy (q-1-r) 0 with g|g|g
 ·have:(2*n)*(q-1-r)<=(2*n)*(-1):=Int.mul_le_mul_of_nonneg_left (by omega) (by omega);omega
 ·omega
 ·have:(2*n)*1<=(2*n)*(q-1-r):=Int.mul_le_mul_of_nonneg_left (by omega) (by omega);omega
theorem Gr.rO(p n:Int)(hn:0<n)(h:¬(2*p+n).tmod (2*n)<0):(2*p+n).tdiv (2*n)=Gr.eG p n:=by
 unfold Gr.eG;have h0:=Int.mul_tdiv_add_tmod (2*p+n) (2*n);have h1:=Int.mul_ediv_add_emod (2*p+n) (2*n);have h2:=Int.emod_nonneg (2*p+n) (b:=2*n) (by omega);have h3:=Int.emod_lt_of_pos (2*p+n) (b:=2*n) (by omega);have h4:=Int.tmod_lt_of_pos (2*p+n) (b:=2*n) (by omega);generalize (2*p+n).tdiv (2*n)=q at *;generalize (2*p+n)/(2*n)=r at *;generalize (2*p+n).tmod (2*n)=s at *;generalize (2*p+n)%(2*n)=t at *;have e:(2*n)*(q-r)=t-s:=by rw[Int.mul_sub];omega
 rcases Int.lt_trichotomy (q-r) 0 with g|g|g
 ·have:(2*n)*(q-r)<=(2*n)*(-1):=Int.mul_le_mul_of_nonneg_left (by omega) (by omega);omega
 ·omega
 ·have:(2*n)*1<=(2*n)*(q-r):=Int.mul_le_mul_of_nonneg_left (by omega) (by omega);omega
theorem Gr.Ln(p n:Int)(h1:-1000<=p)(h2:p<=1000)(h3:n<=100)(h4:0<n):-2100<=(2*p+n).tdiv (2*n)/\(2*p+n).tdiv (2*n)<=2100:=by
 have h:((2*p+n).tdiv (2*n)).natAbs<=(2*p+n).natAbs:=by
  rw[Int.natAbs_tdiv];exact Nat.div_le_self _ _
 omega
theorem Hv(p n:Int)(w:World)(h1:-1000<=p)(h2:p<=1000)(h3:n<=100)(h4:0<n):Calls prog 225 #[.int .i64 p,.int .i64 n] w fun e w'=>e=.returned (.int .i64 (Gr.eG p n))/\w'=w:=by
 obtain⟨b1,b2⟩:=Gr.Ln p n h1 h2 h3 h4;by_cases hs:0<=2*p+n
 ·have e:(2*p+n).tmod (2*n)=(2*p+n)%(2*n):=abS hs;have hn:=Int.emod_nonneg (2*p+n) (b:=2*n) (by omega);have hd:=aa (Gr.rO p n h4 (by omega));have e2:(2*p+n).tdiv (2*n)=(2*p+n)/(2*n):=Int.tdiv_eq_ediv_of_nonneg hs;rw[e2]at b1 b2;clear e e2;go_enter func225,ntmps225;go_wp2;go_ret;exact⟨rti rfl,rfl⟩
 ·by_cases hn:(2*p+n).tmod (2*n)<0
  ·have hd:=aa (Gr.Hu p n h4 hn);go_enter func225,ntmps225;go_wp2;go_ret;exact⟨rti (uh hd),rfl⟩
  ·have hd:=aa (Gr.rO p n h4 hn);go_enter func225,ntmps225;go_wp2;go_ret;exact⟨rti (uh hd),rfl⟩
theorem RJ(p n:Int)(w:World)(h1:-1000<=p)(h2:p<=1000)(h3:n<=100)(h4:0<n):Calls prog 158 #[.int .i64 p,.int .i64 n] w fun e w'=>e=.returned (.int .i64 (Gr.eG p n))/\w'=w:=by
 obtain⟨b1,b2⟩:=Gr.Ln p n h1 h2 h3 h4;by_cases hs:0<=2*p+n
 ·have e:(2*p+n).tmod (2*n)=(2*p+n)%(2*n):=abS hs;have hn:=Int.emod_nonneg (2*p+n) (b:=2*n) (by omega);have hd:=aa (Gr.rO p n h4 (by omega));have e2:(2*p+n).tdiv (2*n)=(2*p+n)/(2*n):=Int.tdiv_eq_ediv_of_nonneg hs;rw[e2]at b1 b2;clear e e2;go_enter func158,ntmps158;go_wp2;go_ret;exact⟨rti rfl,rfl⟩
 ·by_cases hn:(2*p+n).tmod (2*n)<0
  ·have hd:=aa (Gr.Hu p n h4 hn);go_enter func158,ntmps158;go_wp2;go_ret;exact⟨rti (uh hd),rfl⟩
  ·have hd:=aa (Gr.rO p n h4 hn);go_enter func158,ntmps158;go_wp2;go_ret;exact⟨rti (uh hd),rfl⟩
end Go.Proofs.YtbanjoflgoiegaaGreat
namespace Go.Proofs.YtbanjoflgoiegaaGreat
open Go.Proofs.Tryz
namespace Gr
theorem RF(p n d:Int)(hn:0<n)(h0:0<=p)(h1:p<=n*d):0<=eG p n/\eG p n<=d:=by
 unfold eG;refine⟨Int.ediv_nonneg (by omega) (by omega),?_⟩
 have:(2*p+n)/(2*n)<d+1:=Int.ediv_lt_of_lt_mul (by omega) (by
  have:(d+1)*(2*n)=2*(n*d)+2*n:=by rw[Int.add_mul,Int.one_mul,Int.mul_comm d,Int.mul_assoc]
  omega)
 omega
theorem Mo(p n d:Int)(hn:0<n)(h0:p<=0)(h1:n*d<=p):d<=eG p n/\eG p n<=0:=by
 unfold eG;constructor
 ·refine Int.le_ediv_of_mul_le (by omega) ?_;have:d*(2*n)=2*(n*d):=by rw[Int.mul_comm d,Int.mul_assoc]
  omega
 ·have:(2*p+n)/(2*n)<1:=Int.ediv_lt_of_lt_mul (by omega) (by omega);omega
theorem O6(n d:Int)(hn:0<n):eG (n*d) n=d:=by
 unfold eG;have h1:d<=(2*(n*d)+n)/(2*n):=by
  refine Int.le_ediv_of_mul_le (by omega) ?_;have:d*(2*n)=2*(n*d):=by rw[Int.mul_comm d,Int.mul_assoc]
  omega
 have h2:(2*(n*d)+n)/(2*n)<d+1:=Int.ediv_lt_of_lt_mul (by omega) (by
  have:(d+1)*(2*n)=2*(n*d)+2*n:=by rw[Int.add_mul,Int.one_mul,Int.mul_comm d,Int.mul_assoc]
  omega)
 omega
def kF(x0 y0 x1 y1:Int):Nat:=(max (max (x1-x0) (x0-x1)) (max (y1-y0) (y0-y1))).toNat
def ln(x0 y0 x1 y1:Int)(k:Nat):Int :=
 (y0+eG (k*(y1-y0)) (kF x0 y0 x1 y1))*24+(x0+eG (k*(x1-x0)) (kF x0 y0 x1 y1))
theorem part(d n:Int)(k:Nat)(hn:0<n)(hk:(k:Int)<=n):(0<=d/\0<=eG (k*d) n/\eG (k*d) n<=d)\/(d<=0/\d<=eG (k*d) n/\eG (k*d) n<=0):=by
 by_cases h:0<=d
 ·left;have a:0<=(k:Int)*d:=Int.mul_nonneg (by omega) h;have b:(k:Int)*d<=n*d:=Int.mul_le_mul_of_nonneg_right hk h;exact⟨h,RF _ _ _ hn a b⟩
 ·right;have a:(k:Int) * -d<=n * -d:=Int.mul_le_mul_of_nonneg_right hk (by omega);have b:0<=(k:Int) * -d:=Int.mul_nonneg (by omega) (by omega);rw[Int.mul_neg]at a b;rw[Int.mul_neg]at a;exact⟨by omega,Mo _ _ _ hn (by omega) (by omega)⟩
theorem qA(k:Nat)(d:Int)(hk:k<=23)(h1:-23<=d)(h2:d<=23):-1000<=(k:Int)*d/\(k:Int)*d<=1000:=by
 have a:(k:Int)*d<=(k:Int)*23:=Int.mul_le_mul_of_nonneg_left h2 (by omega);have b:(k:Int)*(-23)<=(k:Int)*d:=Int.mul_le_mul_of_nonneg_left h1 (by omega);omega
theorem vQ(x0 y0 x1 y1:Int)(h0:iS x0 y0=true)(h1:iS x1 y1=true)(k:Nat)(hk:k<=kF x0 y0 x1 y1):∃x y:Int,ln x0 y0 x1 y1 k=y*24+x/\x=x0+eG (k*(x1-x0)) (kF x0 y0 x1 y1)/\y=y0+eG (k*(y1-y0)) (kF x0 y0 x1 y1)/\0<=x/\x<24/\0<=y/\y<16:=by
 rw[bz]at h0 h1;refine⟨_,_,rfl,rfl,rfl,?_⟩;by_cases hn:kF x0 y0 x1 y1=0
 ·obtain rfl:k=0:=by omega
  rw[hn];have e:∀p,eG p ((0:Nat):Int)=0:=fun p=>by simp[eG]
  rw[e,e];omega
 ·have hs:-(kF x0 y0 x1 y1:Int)<=x1-x0/\x1-x0<=kF x0 y0 x1 y1/\-(kF x0 y0 x1 y1:Int)<=y1-y0/\y1-y0<=kF x0 y0 x1 y1:=by unfold kF;omega
  have a:=part (x1-x0) (kF x0 y0 x1 y1) k (by omega) (by omega);have b:=part (y1-y0) (kF x0 y0 x1 y1) k (by omega) (by omega);omega
theorem uC(x0 y0 x1 y1:Int)(h0:iS x0 y0=true)(h1:iS x1 y1=true):kF x0 y0 x1 y1<=23:=by
 rw[bz]at h0 h1;unfold kF;omega
theorem S2(x0 y0 x1 y1:Int)(h0:iS x0 y0=true)(h1:iS x1 y1=true)(k:Nat)(hk:k<=kF x0 y0 x1 y1):0<=ln x0 y0 x1 y1 k/\ln x0 y0 x1 y1 k<384:=by
 obtain⟨x,y,e,_,_,_,_,_,_⟩:=vQ x0 y0 x1 y1 h0 h1 k hk;omega
theorem U8(n:Int)(hn:0<=n):eG 0 n=0:=by
 by_cases h:n=0
 ·subst h;rfl
 ·have:=O6 n 0 (by omega)
  rwa [Int.mul_zero]at this
theorem Hl(x0 y0 x1 y1:Int):ln x0 y0 x1 y1 0=y0*24+x0:=by
 unfold ln;rw[show((0:Nat):Int)=0 from rfl,Int.zero_mul,Int.zero_mul,U8 _ (by omega)];omega
end Gr
open Go.RowKit
theorem Mj(x0 y0 x1 y1:Int)(w:World)(h:Gr.iS x0 y0=true->Gr.iS x1 y1=false):Calls prog 222 #[.int .i64 x0,.int .i64 y0,.int .i64 x1,.int .i64 y1] w fun e w'=>e=.returned (.slice none 0 0)/\w'=w:=by
 by_cases h0:Gr.iS x0 y0=true
 ·have h1:=h h0;clear h;go_enter func222,ntmps222;go_wp2_with (go_at_call 152;refine(iX _ _ _).mono ?_;rintro e w' ⟨rfl,rfl⟩);go_ret;exact⟨rfl,rfl⟩
 ·have Gz:Gr.iS x0 y0=false:=by simpa using h0
  clear h h0;go_enter func222,ntmps222;go_wp2_with (go_at_call 152;refine(iX _ _ _).mono ?_;rintro e w' ⟨rfl,rfl⟩);go_ret;exact⟨rfl,rfl⟩
theorem aaK(ts:Array TypeId)(t:TypeId)(a b c d n:Int)(w:World)(h:max (max a b) (max c d)=n):(Builtin.max_ ts t #[.int .i64 a,.int .i64 b,.int .i64 c,.int .i64 d]).run prog w=.ok (.int .i64 n) w:=by
 have e:(Builtin.max_ ts t #[.int .i64 a,.int .i64 b,.int .i64 c,.int .i64 d]).run prog w=.ok (.int .i64 (if d>(if c>(if b>a then b else a)then c else(if b>a then b else a))then d else(if c>(if b>a then b else a)then c else(if b>a then b else a)))) w:=by
  simp[Builtin.max_,Builtin.max2]
 rw[e]
 congr 2
 omega
theorem Mk(x0 y0 x1 y1:Int)(w:World)(h0:Gr.iS x0 y0=true)(h1:Gr.iS x1 y1=true):Calls prog 222 #[.int .i64 x0,.int .i64 y0,.int .i64 x1,.int .i64 y1] w
   (Sd w (Gr.kF x0 y0 x1 y1+1) (bB (Gr.ln x0 y0 x1 y1))):=by
 have Jq:=Gr.uC x0 y0 x1 y1 h0 h1;obtain⟨b1,b2,b3,b4⟩:=(Gr.bz x0 y0).1 h0;obtain⟨b5,b6,b7,b8⟩:=(Gr.bz x1 y1).1 h1;obtain⟨n,hn⟩:∃n:Nat,n=Gr.kF x0 y0 x1 y1:=⟨_,rfl⟩;obtain⟨dx,zE⟩:∃d:Int,x1-x0=d:=⟨_,rfl⟩;obtain⟨dy,zF⟩:∃d:Int,y1-y0=d:=⟨_,rfl⟩;have hmx:∀ts t w,(Builtin.max_ ts t #[.int .i64 dx,.int .i64 (-dx),.int .i64 dy,.int .i64 (-dy)]).run prog w=.ok (.int .i64 (n:Int)) w:=by
  intro ts t w;refine aaK ts t _ _ _ _ _ w ?_;rw[hn];unfold Gr.kF;omega
 have ju:=aa hn;have d1:-23<=dx:=by omega
 have d2:dx<=23:=by omega
 have d3:-23<=dy:=by omega
 have d4:dy<=23:=by omega
 obtain⟨i0,hi,dJ,dz,ed⟩:=info_parts gX;rw[<-hn]at Jq|-;clear hn;by_cases hz:n=0
 ·subst hz;go_enter func222,ntmps222;go_wp2_with (first| (go_at_call 152;refine abW (iX _ _ _) ?_)|(go_at_call 153;refine abW (gY _ _ _ (by omega) (by omega) (by omega) (by omega)) ?_));go_ret;have hf:=aa (Gr.Hl x0 y0 x1 y1);refine⟨_,_,rfl,⟨by decide,.inr ⟨_,_,rfl,by simp,?_⟩⟩,by omega,(Below.refl _ _).alloc (abL _) _⟩;intro i hi1;obtain rfl:i=0:=by omega
  show _=some (Value.int .i64 (Gr.ln x0 y0 x1 y1 0));rw[uh hf];simp
 ·have kW:((n:Int)==0)=false:=by simp;omega
  go_enter func222,ntmps222;go_wp2_with (first| (go_at_call 152;refine abW (iX _ _ _) ?_)|(at_make;refine wpList_make_full _ rfl _ _ 38 rfl w.heap.size 3 i0 (.int .i64 0) 1 underlying38 hi dJ dz .i64 .i64 _ _ (n+1) rfl rfl ?q1 ?q2 ?q3 ?q4 (abL _) ?_))
  case q1=>omega
  case q2=>omega
  case q3=>rw[ed];omega
  case q4=>unfold maxLen;omega
  intro w2 aH az;have hA:=aa (ax.zero aH);have hB:Below w.heap.size w w2:=(Below.refl _ _).grown az (abL _) (by intro k hk;cases hk);clear aH az hi dJ dz ed hmx;obtain⟨G,hG⟩:∃G,G=w.heap.size:=⟨_,rfl⟩;rw[<-hG]at hA hB|-;have kw:=aa hG;clear hG;go_wp2_with fail;go_loopw [48] (fun i wr=>∃k:Nat,k<=n+1/\i=.int .i64 k/\ax wr G 3 (n+1) (fun j=>.int .i64 (if j<k then Gr.ln x0 y0 x1 y1 j else 0))/\Below G w wr) (fun i _=>n+1-(intOf i).toNat)
  case atStart=>exact⟨0,Nat.zero_le _,rfl,(uh hA).congr fun j _=>by rw[abO (Nat.not_lt_zero _)],hB⟩
  case round =>
   obtain⟨k,hk,rfl,dP,pQ⟩:=hrel;have dF:=aa dP;clear dP hA hB;by_cases hlt:k<n+1
   ·obtain⟨X,Y,V8,eX,eY,c1,c2,c3,c4⟩:=Gr.vQ x0 y0 x1 y1 h0 h1 k (by have:=uh ju;omega);rw[zE,<-uh ju]at eX;rw[zF,<-uh ju]at eY;subst eX;subst eY;have TI:=aa V8;clear V8;obtain⟨m1,m2⟩:=Gr.qA k dx (by omega) d1 d2;obtain⟨m3,m4⟩:=Gr.qA k dy (by omega) d3 d4;have hc:=(uh dF).cell hlt;have hf:=(uh dF).free k;have hlt':(k:Int)<(n:Int)+1:=(by omega);go_wp2_with (first| (go_at_call 225;refine abW (Hv _ _ _ (by omega) (by omega) (by omega) (by omega)) ?_)|(go_at_call 153;refine abW (gY _ _ _ (by omega) (by omega) (by omega) (by omega)) ?_));go_roundw
    case rel=>exact⟨k+1,by omega,by go_num,((uh dF).store k _).congr fun j _=>mX (uh TI).symm j,pQ.setCell (abL _) _⟩
    case measure=>simp[intOf];omega
   ·have hge:¬(k:Int)<(n:Int)+1:=(by omega);have gv:k=n+1:=(by omega);have fa:=aa ((uh dF).congr (G:=bB (Gr.ln x0 y0 x1 y1)) fun j hj=>by rw[abP (by omega)];rfl);clear gv dF;go_wp2;go_ret;exact⟨_,_,rfl,(uh fa).lg _ (uh fa).lt (by unfold maxLen;omega),abL _,by rw[<-uh kw];exact pQ⟩
theorem Fz(x0 y0 x1 y1:Int)(w:World)(h:Gr.iS x0 y0=true->Gr.iS x1 y1=false):Calls prog 124 #[.int .i64 x0,.int .i64 y0,.int .i64 x1,.int .i64 y1] w fun e w'=>e=.returned (.slice none 0 0)/\w'=w:=by
 by_cases h0:Gr.iS x0 y0=true
 ·have h1:=h h0;clear h;go_enter func124,ntmps124;go_wp2_with (go_at_call 87;refine(bA _ _ _).mono ?_;rintro e w' ⟨rfl,rfl⟩);go_ret;exact⟨rfl,rfl⟩
 ·have Gz:Gr.iS x0 y0=false:=by simpa using h0
  clear h h0;go_enter func124,ntmps124;go_wp2_with (go_at_call 87;refine(bA _ _ _).mono ?_;rintro e w' ⟨rfl,rfl⟩);go_ret;exact⟨rfl,rfl⟩
theorem max2(ts:Array TypeId)(t:TypeId)(a b n:Int)(w:World)(h:max a b=n):(Builtin.max_ ts t #[.int .i64 a,.int .i64 b]).run prog w=.ok (.int .i64 n) w:=by
 rw[run_max_int2]
 congr 2
 omega
def Gr.Hk(x0 y0 x1 y1:Int)(k:Nat):List Int:=(List.range k).map (Gr.ln x0 y0 x1 y1)
theorem Rv(x0 y0 x1 y1:Int)(k:Nat)(v:Int)(h:v=Gr.ln x0 y0 x1 y1 k):(Gr.Hk x0 y0 x1 y1 k).map (Value.int .i64)++[.int .i64 v]=(Gr.Hk x0 y0 x1 y1 (k+1)).map (Value.int .i64):=by
 unfold Gr.Hk;rw[List.range_succ,h];simp
section
attribute [-go_sem] run_max_int2
theorem FA(x0 y0 x1 y1:Int)(w:World)(h0:Gr.iS x0 y0=true)(h1:Gr.iS x1 y1=true):Calls prog 124 #[.int .i64 x0,.int .i64 y0,.int .i64 x1,.int .i64 y1] w
   (Sd w (Gr.kF x0 y0 x1 y1+1) (bB (Gr.ln x0 y0 x1 y1))):=by
 have Jq:=Gr.uC x0 y0 x1 y1 h0 h1;obtain⟨b1,b2,b3,b4⟩:=(Gr.bz x0 y0).1 h0;obtain⟨b5,b6,b7,b8⟩:=(Gr.bz x1 y1).1 h1;obtain⟨n,hn⟩:∃n:Nat,n=Gr.kF x0 y0 x1 y1:=⟨_,rfl⟩;obtain⟨dx,zE⟩:∃d:Int,x1-x0=d:=⟨_,rfl⟩;obtain⟨dy,zF⟩:∃d:Int,y1-y0=d:=⟨_,rfl⟩;obtain⟨mx,hmx⟩:∃m:Int,max dx (-dx)=m:=⟨_,rfl⟩;obtain⟨my,SS⟩:∃m:Int,max dy (-dy)=m:=⟨_,rfl⟩;have hm1:=fun ts t w=>max2 ts t dx (-dx) mx w hmx;have hm2:=fun ts t w=>max2 ts t dy (-dy) my w SS;have SQ:=fun ts t w=>max2 ts t mx my (n:Int) w (by rw[hn];unfold Gr.kF;omega);clear hmx SS;have ju:=aa hn;have d1:-23<=dx:=by omega
 have d2:dx<=23:=by omega
 have d3:-23<=dy:=by omega
 have d4:dy<=23:=by omega
 obtain⟨i0,hi,dJ,dz,ed⟩:=info_parts gX;rw[<-hn]at Jq|-;clear hn;by_cases hz:n=0
 ·subst hz;go_enter func124,ntmps124;go_wp2_with (first| (go_at_call 87;refine abW (bA _ _ _) ?_));go_ret;have hf:=aa (Gr.Hl x0 y0 x1 y1);refine⟨_,_,rfl,⟨by decide,.inr ⟨_,_,rfl,by simp,?_⟩⟩,by omega,(Below.refl _ _).alloc (abL _) _⟩;intro i hi1;obtain rfl:i=0:=by omega
  show _=some (Value.int .i64 (Gr.ln x0 y0 x1 y1 0));rw[uh hf];simp
 ·have kW:((n:Int)==0)=false:=by simp;omega
  obtain⟨G,hG⟩:∃G,G=w.heap.size:=⟨_,rfl⟩;have kw:=aa hG;have hB:Below G w w:=Below.refl _ _;clear hG;go_enter func124,ntmps124;go_wp2_with (first| (go_at_call 87;refine abW (bA _ _ _) ?_));clear hm1 hm2 SQ;go_loopw [12,13] (fun v i wr=>∃k:Nat,k<=n+1/\i=.int .i64 k/\wr.ownsRow G 3 1 v k ((Gr.Hk x0 y0 x1 y1 k).map (Value.int .i64))/\Below G w wr) (fun _ i _=>n+1-(intOf i).toNat)
  case atStart=>exact⟨0,Nat.zero_le _,rfl,World.ownsRow_nil _ _ _ _,hB⟩
  case round =>
   obtain⟨k,hk,rfl,aH,pQ⟩:=hrel;have Vw:G<=wr.heap.size:=by have:=pQ.size;have:=uh kw;omega
   clear hB;by_cases hlt:k<n+1
   ·obtain⟨X,Y,V8,eX,eY,c1,c2,c3,c4⟩:=Gr.vQ x0 y0 x1 y1 h0 h1 k (by have:=uh ju;omega);rw[zE,<-uh ju]at eX;rw[zF,<-uh ju]at eY;subst eX;subst eY;have TI:=aa V8;clear V8;obtain⟨m1,m2⟩:=Gr.qA k dx (by omega) d1 d2;obtain⟨m3,m4⟩:=Gr.qA k dy (by omega) d3 d4;have hlt':(k:Int)<=(n:Int):=(by omega);go_wp2_with (first| (go_at_call 158;refine abW (RJ _ _ _ (by omega) (by omega) (by omega) (by omega)) ?_)|(at_builtin;refine wpList_append_own _ rfl _ _ 38 rfl G 3 i0 (.int .i64 0) 1 8 underlying38 hi dJ dz ed rfl (by decide) _ _ _ rfl (aH.alloc _) ⟨wr.heap.size,0,none⟩ 1 1 [.int .i64 ((y0+Gr.eG (k*dy) n)*24+x0+Gr.eG (k*dx) n)] rfl rfl ?c1 ?c2 ?c3 ?c4 ?c5 ?_))
    case c1=>exact cell_one_new _ _ _
    case c2=>intro u hu;simp at hu;subst hu;rfl
    case c3=>unfold maxLen;omega
    case c4=>omega
    case c5=>simp;omega
    intro v' w1 ev az _;rw[Rv x0 y0 x1 y1 k _ (by rw[uh TI];omega)]at ev;have pA:Below G w w1:=(pQ.alloc Vw _).grown az (by simp;omega) (by intro j hj;exact(aH.lt j hj).1);have gj:=aa ev;clear ev az aH;go_wp2;go_roundw
    case rel=>exact⟨k+1,by omega,by go_num,uh gj,pA⟩
    case measure=>simp[intOf];omega
   ·have hge:¬(k:Int)<=(n:Int):=(by omega);obtain rfl:k=n+1:=(by omega);obtain⟨a,aG,rfl,_,hv⟩:=RK aH (by unfold maxLen;omega);have ap:n+1<=aG:=by
     rcases aH.2 with⟨h,_⟩|⟨g,c,cD,h,_,_,hc,_⟩
     ·cases h
     ·cases h;exact hc
    have Rj:=aa (hv.congr (G:=bB (Gr.ln x0 y0 x1 y1)) fun j hj=>by simp[bB,Gr.Hk,List.getElem?_range hj]);clear hv aH;go_wp2;go_ret;exact⟨_,_,rfl,uh Rj,ap,by rw[<-uh kw];exact pQ⟩
end
def Gr.bD(len:Nat)(f:N1)(c:Int):Int:=if 0<=c/\c<384/\c.toNat<len then f c.toNat else 0
theorem Gr.zX(len:Nat)(f:N1)(c:Int)(h:0<=c):Gr.at len f (c%24) (c/24)=Gr.bD len f c:=by
 have e:c/24*24+c%24=c:=by omega
 have hi:=Gr.bz (c%24) (c/24);unfold Gr.at Gr.bD;rw[e];by_cases hc:c<384/\c.toNat<len
 ·rw[abP ⟨hi.2 (by omega),hc.2⟩,abP ⟨h,hc⟩]
 ·rw[abO (fun hh=>hc ⟨by have:=hi.1 hh.1;omega,hh.2⟩),abO (by omega)]
theorem Gr.Iv(c:Int)(h:c<0)(hb:-9223372036854775808<=c):-9223372036854775808<=c.tdiv 24/\c.tdiv 24<=0/\-24<=c.tmod 24/\c.tmod 24<=0/\24*c.tdiv 24+c.tmod 24=c:=by
 have h1:=Int.mul_tdiv_add_tmod c 24;have h2:=Int.lt_tmod_of_pos c (b:=24) (by omega);have h3:c.tmod 24<=0:=by
  have:=Int.tmod_nonneg (a:=-c) 24 (by omega);rw[Int.neg_tmod]at this;omega
 omega
theorem Gr.Hf(len:Nat)(f:N1)(c:Int)(h:c<0)(hb:-9223372036854775808<=c):Gr.at len f (c.tmod 24) (c.tdiv 24)=Gr.bD len f c:=by
 obtain⟨_,h1,_,h2,h3⟩:=Gr.Iv c h hb;have hi:=Gr.bz (c.tmod 24) (c.tdiv 24);unfold Gr.at Gr.bD;rw[abO (fun hh=>by have:=hi.1 hh.1;omega),abO (by omega)]
theorem kg(B:Nat)(a:Option Addr)(len aG:Nat)(f:N1)(c:Int)(w:World)(h:il B w a len (aZ f))(hf:∀i,0<=f i/\f i<=255)(hb:-9223372036854775808<=c)(jf:c<=9223372036854775807):Calls prog 176 #[.slice a len aG,.int .i64 c] w fun e w'=>e=.returned (.int .i64 (Gr.bD len f c))/\w'=w:=by
 have hv:=aa h;have fb:=aa hf;clear h hf;by_cases hc:0<=c
 ·have hd:=aa (Gr.zX len f c hc);go_enter func176,ntmps176;go_wp2_with fail;refine(nJ B _ _ _ _ _ _ _ (uh hv) (uh fb)).mono ?_;rintro e w' ⟨rfl,rfl⟩;go_wp2;go_ret;exact⟨rti (uh hd),rfl⟩
 ·have hd:=aa (Gr.Hf len f c (by omega) hb);obtain⟨b1,b2,_,_,_⟩:=Gr.Iv c (by omega) hb;go_enter func176,ntmps176;go_wp2_with fail;refine(nJ B _ _ _ _ _ _ _ (uh hv) (uh fb)).mono ?_;rintro e w' ⟨rfl,rfl⟩;go_wp2;go_ret;exact⟨rti (uh hd),rfl⟩
theorem tP(a:Option Addr)(len aG k:Nat)(w:World)(hk:k<=aG):(Instr.slice 25 (.slice a len aG) none (some (.int .i64 (k:Int))) none).run prog w=.ok (.slice a k aG) w:=by
 have hs:(sizeOf (prog.elem 25)).run prog w=.ok 1 w:=by kernel_rfl
 rw[run_slice_h w 25 a len aG (by kernel_rfl) .i64 (k:Int) (by omega) (by omega),hs];have e:a.map (fun x=>x.add (0*1))=a:=by
  cases a with
  | none=>rfl
  | some x=>simp[Addr.add]
 simp only[Result.andThen,sliced,e,abG,Nat.sub_zero,ite_self]
def Gr.an(len:Nat)(f:N1)(bD:Int):Int:=Gr.findFrom f bD (min len 384) 0
theorem Gr.zl(f:N1)(bD:Int)(n k:Nat)(hk:k<n):Gr.findFrom f bD (n-k) k=if f k=bD then(k:Int)else Gr.findFrom f bD (n-(k+1)) (k+1):=by
 obtain⟨m,hm⟩:∃m,n-k=m+1:=⟨n-k-1,by omega⟩;rw[hm,show n-(k+1)=m by omega];rfl
theorem Gr.uV(f:N1)(bD:Int)(n:Nat):Gr.findFrom f bD (n-n) n=-1:=by
 rw[Nat.sub_self];rfl
theorem qX(B:Nat)(a:Option Addr)(len aG:Nat)(f:N1)(bD:Int)(w:World)(h:il B w a len (aZ f))(hf:∀i,0<=f i/\f i<=255)(ap:len<=aG):Calls prog 78 #[.slice a len aG,.int .i64 bD] w fun e w'=>e=.returned (.int .i64 (Gr.an len f bD))/\w'=w:=by
 have hm:len<=9223372036854775807:=h.1;have fb:=aa hf;clear hf;by_cases hl:len<=384
 ·have xp:=fun wx=>tP a len aG len wx ap;have hv:=aa h;have hR:Hid (Gr.an len f bD=Gr.findFrom f bD (len-0) 0):=by
   show Gr.an len f bD=_;unfold Gr.an;rw[show min len 384=len-0 by omega]
  have sO:(len:Int)<=384:=by omega
  clear h;go_enter func78,ntmps78;go_wp2_with fail;go_loop [13] (fun i=>∃k:Nat,k<=len/\i=.int .i64 k/\Gr.findFrom f bD (len-k) k=Gr.an len f bD) (fun i=>len-(intOf i).toNat)
  case atStart=>exact⟨0,Nat.zero_le _,rfl,(uh hR).symm⟩
  case round =>
   obtain⟨k,hk,rfl,hr⟩:=hrel;have M1:=aa hr;clear hr;by_cases hlt:k<len
   ·obtain⟨b,off,rfl,_,hc⟩:=(uh hv).at hlt;have fD:w.cell? ⟨b,off+k,none⟩=some (.int .u8 (f k)):=hc;obtain⟨f1,f2⟩:=(uh fb) k;clear hc;have hlt':(k:Int)<(len:Int):=(by omega);have tw:=aa (Gr.zl f bD len k hlt);by_cases he:f k=bD
    ·have xn:(f k==bD)=true:=by simpa using he
     have hH:=aa he;clear he;go_wp2;go_ret;refine⟨rti ?_,rfl⟩;rw[<-uh M1,uh tw,abP (uh hH)]
    ·have xn:(f k==bD)=false:=by simpa using he
     go_wp2
     go_round
     case rel =>
      refine⟨k+1,by omega,by go_num,?_⟩;rw[<-uh M1,uh tw,abO he]
     case measure=>simp[intOf];omega
   ·have hge:(len:Int)<=(k:Int):=(by omega);go_wp2;go_ret;refine⟨rti ?_,rfl⟩;rw[<-uh M1];obtain rfl:k=len:=(by omega);exact(Gr.uV f bD _).symm
 ·have xp:∀wx,(Instr.slice 25 (.slice a len aG) none (some (.int .i64 384)) none).run prog wx=.ok (.slice a 384 aG) wx:=fun wx=>tP a len aG 384 wx (by omega);have hv:=aa (h.ia 384 (by omega));have hR:Hid (Gr.an len f bD=Gr.findFrom f bD (384-0) 0):=by
   show Gr.an len f bD=_;unfold Gr.an;rw[show min len 384=384-0 by omega]
  have sO:¬(len:Int)<=384:=by omega
  clear h;go_enter func78,ntmps78;go_wp2_with fail;go_loop [13] (fun i=>∃k:Nat,k<=384/\i=.int .i64 k/\Gr.findFrom f bD (384-k) k=Gr.an len f bD) (fun i=>384-(intOf i).toNat)
  case atStart=>exact⟨0,Nat.zero_le _,rfl,(uh hR).symm⟩
  case round =>
   obtain⟨k,hk,rfl,hr⟩:=hrel;have M1:=aa hr;clear hr;by_cases hlt:k<384
   ·obtain⟨b,off,rfl,_,hc⟩:=(uh hv).at hlt;have fD:w.cell? ⟨b,off+k,none⟩=some (.int .u8 (f k)):=hc;obtain⟨f1,f2⟩:=(uh fb) k;clear hc;have hlt':(k:Int)<(384:Int):=(by omega);have tw:=aa (Gr.zl f bD 384 k hlt);by_cases he:f k=bD
    ·have xn:(f k==bD)=true:=by simpa using he
     have hH:=aa he;clear he;go_wp2;go_ret;refine⟨rti ?_,rfl⟩;rw[<-uh M1,uh tw,abP (uh hH)]
    ·have xn:(f k==bD)=false:=by simpa using he
     go_wp2
     go_round
     case rel =>
      refine⟨k+1,by omega,by go_num,?_⟩;rw[<-uh M1,uh tw,abO he]
     case measure=>simp[intOf];omega
   ·have Oe:k=384:=(by omega);have ah:Hid (Gr.an len f bD=-1):=by
     show Gr.an len f bD=-1;rw[<-uh M1,Oe];exact Gr.uV f bD 384
    have hge:¬(k:Int)<384:=(by omega);clear Oe hk hlt M1 hR;go_wp2;go_ret;exact⟨rti (uh ah).symm,rfl⟩
theorem mD(B:Nat)(a:Option Addr)(len aG:Nat)(f:N1)(bD:Int)(w:World)(h:il B w a len (aZ f))(hf:∀i,0<=f i/\f i<=255):Calls prog 23 #[.slice a len aG,.int .i64 bD] w fun e w'=>e=.returned (.int .i64 (Gr.an len f bD))/\w'=w:=by
 have hm:len<=9223372036854775807:=h.1;have fb:=aa hf;have hv:=aa h;obtain⟨n,hn⟩:∃n:Nat,n=min len 384:=⟨_,rfl⟩;have hR:Hid (Gr.an len f bD=Gr.findFrom f bD (n-0) 0):=by
  show Gr.an len f bD=_;unfold Gr.an;rw[hn];rfl
 have hn1:n<=len:=by omega
 have P4:n<=384:=by omega
 have UE:¬n<len->n=len:=by omega
 have hN:=aa hn;clear hf h hn;go_enter func23,ntmps23;go_wp2_with fail;go_loop [5] (fun i=>∃k:Nat,k<=n/\i=.int .i64 k/\Gr.findFrom f bD (n-k) k=Gr.an len f bD) (fun i=>n-(intOf i).toNat)
 case atStart=>exact⟨0,Nat.zero_le _,rfl,(uh hR).symm⟩
 case round =>
  obtain⟨k,hk,rfl,hr⟩:=hrel;have M1:=aa hr;clear hr UE;by_cases hlt:k<n
  ·obtain⟨b,off,rfl,_,hc⟩:=((uh hv).ia n hn1).at hlt;have fD:w.cell? ⟨b,off+k,none⟩=some (.int .u8 (f k)):=hc;obtain⟨f1,f2⟩:=(uh fb) k;clear hc;have hlt':(k:Int)<(len:Int):=by omega
   have aai:(k:Int)<384:=by omega
   have tw:=aa (Gr.zl f bD n k hlt);by_cases he:f k=bD
   ·have xn:(f k==bD)=true:=by simpa using he
    have hH:=aa he;clear he;go_wp2;go_ret;refine⟨rti ?_,rfl⟩;rw[<-uh M1,uh tw,abP (uh hH)]
   ·have xn:(f k==bD)=false:=by simpa using he
    go_wp2
    go_round
    case rel =>
     refine⟨k+1,by omega,by go_num,?_⟩;rw[<-uh M1,uh tw,abO he]
    case measure=>simp[intOf];omega
  ·have KU:k=n:=by omega
   have ah:Hid (Gr.an len f bD=-1):=by
    show Gr.an len f bD=-1;rw[<-uh M1,KU];exact Gr.uV f bD n
   by_cases LU:(k:Int)<(len:Int)
   ·have Oe:¬(k:Int)<384:=by have:=uh hN;omega
    clear KU;go_wp2;go_ret;exact⟨rti (uh ah).symm,rfl⟩
   ·clear KU;go_wp2;go_ret;exact⟨rti (uh ah).symm,rfl⟩
theorem Gr.Ki(a n:Int)(hn:0<n)(h:a.tmod n<0):a.tmod n+n=a%n:=by
 have:=Int.emod_nonneg a (b:=n) (by omega);have:=Int.emod_lt_of_pos a hn;have e:=Int.emod_eq_tmod (a:=a) (b:=n);by_cases hc:0<=a\/n∣a
 ·rw[abP hc]at e;omega
 ·rw[abO hc]at e;omega
theorem Gr.Kj(a n:Int)(hn:0<n)(h:¬a.tmod n<0):a.tmod n=a%n:=by
 have:=Int.emod_lt_of_pos a hn;have e:=Int.emod_eq_tmod (a:=a) (b:=n);by_cases hc:0<=a\/n∣a
 ·rw[abP hc]at e;omega
 ·rw[abO hc]at e;omega
def Made(w:World)(T:TypeId)(n:Nat)(F:Nat->Value)(e:Ending)(w':World):Prop :=
 ∃g,e=.returned (.slice (some ⟨g,0,none⟩) n n)/\w.heap.size<=g/\ax w' g T n F/\Below w.heap.size w w'
theorem kX:(prog.info? 5).map (fun i=>(i.zero,i.size,i.bytes))=some (some (.int .u8 0),1,1):=by kernel_rfl
def Gr.wX(len:Nat)(f:N1)(x0 y0 x1 y1:Int):Prop :=
 Gr.iS x0 y0=true/\Gr.iS x1 y1=true/\∀k,0<k->k<Gr.kF x0 y0 x1 y1->Gr.iF (Gr.bD len f (Gr.ln x0 y0 x1 y1 k))=true
def Sg(w:World)(p:Prop)(e:Ending)(w':World):Prop:=∃b,e=.returned (.bool b)/\(b=true↔p)/\Below w.heap.size w w'
theorem Gr.Lj{len:Nat}{f:N1}{x0 y0 x1 y1:Int}(h:Gr.iS x0 y0=true->Gr.iS x1 y1=false):¬Gr.wX len f x0 y0 x1 y1:=by
 rintro⟨h0,h1,_⟩;rw[h h0]at h1;cases h1
theorem Pu(a:Option Addr)(len aG:Nat)(f:N1)(x0 y0 x1 y1:Int)(w:World)(h:il w.heap.size w a len (aZ f))(hf:∀i,0<=f i/\f i<=255):Calls prog 216 #[.slice a len aG,.int .i64 x0,.int .i64 y0,.int .i64 x1,.int .i64 y1] w (Sg w (Gr.wX len f x0 y0 x1 y1)):=by
 have hv:=aa h;have fb:=aa hf;clear h hf;by_cases cU:Gr.iS x0 y0=true/\Gr.iS x1 y1=true
 ·obtain⟨h0,h1⟩:=cU;have Jq:=Gr.uC x0 y0 x1 y1 h0 h1;go_enter func216,ntmps216;go_wp2_with fail;refine(Mk _ _ _ _ _ h0 h1).mono ?_;rintro e w1 ⟨a1,cap1,rfl,SW,_,xY⟩;have hl:=aa SW;have Rj:=aa ((uh hv).kept xY);obtain⟨n,hn⟩:∃n:Nat,n=Gr.kF x0 y0 x1 y1:=⟨_,rfl⟩;rw[<-hn]at Jq hl|-;have ju:=aa hn;have hz:((n:Int)+1==0)=false:=by simp;omega
  clear hv SW hn;go_wp2_with fail;go_loop [12] (fun i=>∃k:Nat,1<=k/\k<=n+1/\i=.int .i64 k/\∀j,0<j->j<k->j<n->Gr.iF (Gr.bD len f (Gr.ln x0 y0 x1 y1 j))=true) (fun i=>n+1-(intOf i).toNat)
  case atStart=>exact⟨1,by omega,by omega,rfl,fun j h1 h2 _=>by omega⟩
  case round =>
   obtain⟨k,rJ,hk,rfl,pD⟩:=hrel;have GI:=aa pD;clear pD;by_cases hlt:k<n
   ·obtain⟨b,off,rfl,_,hc⟩:=(uh hl).at (k:=k) (by omega);have fD:w1.cell? ⟨b,off+k,none⟩=some (.int .i64 (Gr.ln x0 y0 x1 y1 k)):=hc;obtain⟨l1,l2⟩:=Gr.S2 x0 y0 x1 y1 h0 h1 k (by have:=uh ju;omega);clear hc;have hlt':(k:Int)<(n:Int):=(by omega);by_cases iu:Gr.iF (Gr.bD len f (Gr.ln x0 y0 x1 y1 k))=true
    ·go_wp2_with (first| (go_at_call 176;refine abW (kg _ _ _ _ f _ _ (uh Rj) (uh fb) (by omega) (by omega)) ?_)|(go_at_call 223;refine abW (xN _ _) ?_))
     go_round
     case rel =>
      refine⟨k+1,by omega,by omega,by go_num,fun j g1 g2 g3=>?_⟩;by_cases pG:j=k
      ·rw[pG];exact iu
      ·exact(uh GI) j g1 (by omega) g3
     case measure=>simp[intOf];omega
    ·have LP:Gr.iF (Gr.bD len f (Gr.ln x0 y0 x1 y1 k))=false:=by simpa using iu
     have hno:Hid (¬Gr.wX len f x0 y0 x1 y1):=by
      show¬Gr.wX len f x0 y0 x1 y1;rintro⟨_,_,h⟩;exact iu (h k (by omega) (by have:=uh ju;omega))
     clear iu;go_wp2_with (first| (go_at_call 176;refine abW (kg _ _ _ _ f _ _ (uh Rj) (uh fb) (by omega) (by omega)) ?_)|(go_at_call 223;refine abW (xN _ _) ?_));go_ret;exact⟨false,rfl,⟨fun h=>(by cases h),fun h=>absurd h (uh hno)⟩,xY⟩
   ·have hge:¬(k:Int)<(n:Int):=(by omega);have gw:Hid (Gr.wX len f x0 y0 x1 y1):=⟨h0,h1,fun j g1 g2=>(uh GI) j g1 (by have:=uh ju;omega) (by have:=uh ju;omega)⟩;go_wp2;go_ret;exact⟨true,rfl,⟨fun _=>uh gw,fun _=>rfl⟩,xY⟩
 ·have hno:Gr.iS x0 y0=true->Gr.iS x1 y1=false:=fun h0=>by simpa using fun h1=>cU ⟨h0,h1⟩
  have hns:=aa (Gr.Lj (len:=len) (f:=f) hno);clear cU;go_enter func216,ntmps216;go_wp2_with fail;refine abW (Mj _ _ _ _ _ hno) ?_;go_wp2;go_ret;exact⟨false,rfl,⟨fun h=>(by cases h),fun h=>absurd h (uh hns)⟩,Below.refl _ _⟩
theorem Ii(a:Option Addr)(len aG:Nat)(f:N1)(x0 y0 x1 y1:Int)(w:World)(h:il w.heap.size w a len (aZ f))(hf:∀i,0<=f i/\f i<=255):Calls prog 90 #[.slice a len aG,.int .i64 x0,.int .i64 y0,.int .i64 x1,.int .i64 y1] w (Sg w (Gr.wX len f x0 y0 x1 y1)):=by
 have hv:=aa h;have fb:=aa hf;clear h hf;by_cases cU:Gr.iS x0 y0=true/\Gr.iS x1 y1=true
 ·obtain⟨h0,h1⟩:=cU;have Jq:=Gr.uC x0 y0 x1 y1 h0 h1;go_enter func90,ntmps90;go_wp2_with fail;refine(FA _ _ _ _ _ h0 h1).mono ?_;rintro e w1 ⟨a1,cap1,rfl,SW,_,xY⟩;have hl:=aa SW;have Rj:=aa ((uh hv).kept xY);obtain⟨n,hn⟩:∃n:Nat,n=Gr.kF x0 y0 x1 y1:=⟨_,rfl⟩;rw[<-hn]at Jq hl|-;have ju:=aa hn;obtain⟨B1,pQ⟩:∃B,B=w1.heap.size:=⟨_,rfl⟩;rw[<-pQ]at hl;have hwB:w.heap.size<=B1:=by rw[pQ];exact xY.size
  clear hv SW hn pQ;go_wp2_with fail;go_loopw [12] (fun i wr=>∃k:Nat,1<=k/\k<=n+1/\i=.int .i64 k/\(∀j,0<j->j<k->j<n->Gr.iF (Gr.bD len f (Gr.ln x0 y0 x1 y1 j))=true)/\il B1 wr a1 (n+1) (bB (Gr.ln x0 y0 x1 y1))/\il w.heap.size wr a len (aZ f)/\Below w.heap.size w wr) (fun i _=>n+1-(intOf i).toNat)
  case atStart=>exact⟨1,by omega,by omega,rfl,fun j h1 h2 _=>by omega,uh hl,uh Rj,xY⟩
  case round =>
   obtain⟨k,rJ,hk,rfl,pD,KV,SW,Yv⟩:=hrel;have GI:=aa pD;have SO:=aa KV;have hv3:=aa SW;clear pD KV SW Rj hl xY;by_cases hlt:k<n
   ·obtain⟨b,off,rfl,_,hc⟩:=(uh SO).at (k:=k) (by omega);have fD:wr.cell? ⟨b,off+k,none⟩=some (.int .i64 (Gr.ln x0 y0 x1 y1 k)):=hc;obtain⟨l1,l2⟩:=Gr.S2 x0 y0 x1 y1 h0 h1 k (by have:=uh ju;omega);obtain⟨c,ya⟩:∃c,c=Gr.ln x0 y0 x1 y1 k:=⟨_,rfl⟩;rw[<-ya]at fD l1 l2;have Uy:=aa (Gr.zX len f c l1);have abe:c.tmod 24=c%24:=abS l1;have abq:IntKind.i64.wrap (c.tdiv 24)=c/24:=by rw[Int.tdiv_eq_ediv_of_nonneg l1];rw[abK];omega
    have hC:=aa ya;clear hc ya;have hlt':(k:Int)+1<(n:Int)+1:=(by omega);have aai:(k:Int)<(n:Int)+1:=(by omega);by_cases iu:Gr.iF (Gr.bD len f c)=true
    ·have QZ:Gr.iF (Gr.at len f (c%24) (c/24))=true:=by rw[uh Uy];exact iu
     go_wp2_with fail;go_quiet (first| (go_at_call 40;refine abU (bM w.heap.size _ _ _ f _ _ _ ?_ (uh fb));exact(uh hv3).drew _)|(go_at_call 125;refine abU (rT _ _)));go_wp2;go_roundw
     case rel =>
      refine⟨k+1,by omega,by omega,by go_num,fun j g1 g2 g3=>?_,(uh SO).drew _,(uh hv3).drew _,below_drewN Yv _⟩;by_cases pG:j=k
      ·rw[pG,<-uh hC];exact iu
      ·exact(uh GI) j g1 (by omega) g3
     case measure=>simp[intOf];omega
    ·have LP:Gr.iF (Gr.at len f (c%24) (c/24))=false:=by rw[uh Uy];simpa using iu
     have hno:Hid (¬Gr.wX len f x0 y0 x1 y1):=by
      show¬Gr.wX len f x0 y0 x1 y1;rintro⟨_,_,h⟩;exact iu (by rw[uh hC];exact h k (by omega) (by have:=uh ju;omega))
     clear iu;go_wp2_with fail;go_quiet (first| (go_at_call 40;refine abU (bM w.heap.size _ _ _ f _ _ _ ?_ (uh fb));exact(uh hv3).drew _)|(go_at_call 125;refine abU (rT _ _)));go_wp2;go_ret;exact⟨false,rfl,⟨fun h=>(by cases h),fun h=>absurd h (uh hno)⟩,below_drewN Yv _⟩
   ·have hge:¬(k:Int)+1<(n:Int)+1:=(by omega);have gw:Hid (Gr.wX len f x0 y0 x1 y1):=⟨h0,h1,fun j g1 g2=>(uh GI) j g1 (by have:=uh ju;omega) (by have:=uh ju;omega)⟩;have kf:(0:Int)<(n:Int)+1:=(by omega);go_wp2;go_ret;exact⟨true,rfl,⟨fun _=>uh gw,fun _=>rfl⟩,Yv⟩
 ·have hno:Gr.iS x0 y0=true->Gr.iS x1 y1=false:=fun h0=>by simpa using fun h1=>cU ⟨h0,h1⟩
  have hns:=aa (Gr.Lj (len:=len) (f:=f) hno);clear cU;go_enter func90,ntmps90;go_wp2_with fail;refine abW (Fz _ _ _ _ _ hno) ?_;go_wp2_with fail;refine wp_loop_rounds 1 ?_;rw[rounds_succ];go_wp2;go_ret;exact⟨false,rfl,⟨fun h=>(by cases h),fun h=>absurd h (uh hns)⟩,Below.refl _ _⟩
end Go.Proofs.YtbanjoflgoiegaaGreat
namespace Go.Proofs.YtbanjoflgoiegaaGreat
open Go.Proofs.Tryz
namespace Gr
variable{F:N1}{d i k:Nat}{op tg:Nat->Prop}{row:List Nat}
def dxOf:Nat->Int|1=>1|3=>-1|_=>0
def dyOf:Nat->Int|0=>-1|2=>1|_=>0
def iK(i d:Nat):Prop:=0<=(i%24:Nat)+dxOf d/\(i%24:Nat)+dxOf d<24/\0<=(i/24:Nat)+dyOf d/\(i/24:Nat)+dyOf d<16
def gA (i d:Nat):Nat:=(((i/24:Nat)+dyOf d)*24+((i%24:Nat)+dxOf d)).toNat
theorem tI(h:iK i d):((gA i d:Nat):Int)=((i/24:Nat)+dyOf d)*24+((i%24:Nat)+dxOf d):=by
 unfold iK at h;unfold gA;omega
theorem yr(h:iK i d):gA i d<384:=by
 have:=tI h;unfold iK at h;omega
def opp:Nat->Nat|0=>2|1=>3|2=>0|_=>1
theorem Vb(h:d<4):opp d<4:=by
 match d,h with
 | 0,_ | 1,_ | 2,_ | 3,_=>decide
theorem RE(hi:i<384)(hd:d<4)(h:iK i d):iK (gA i d) (opp d)/\gA (gA i d) (opp d)=i:=by
 have e:=tI h;have key:iK (gA i d) (opp d)/\((gA i d/24:Nat)+dyOf (opp d))*24+((gA i d%24:Nat)+dxOf (opp d))=(i:Int):=by
  unfold iK at *;generalize gA i d=n at *
  match d,hd with
  | 0,_=>simp only[dxOf,dyOf,opp]at *;omega
  | 1,_=>simp only[dxOf,dyOf,opp]at *;omega
  | 2,_=>simp only[dxOf,dyOf,opp]at *;omega
  | 3,_=>simp only[dxOf,dyOf,opp]at *;omega
 refine⟨key.1,?_⟩;have:=tI key.1;omega
structure dO(op tg:Nat->Prop)(F:N1):Prop where
 lo:∀i,i<384->-1<=F i
 zero:∀i,i<384->(F i=0↔tg i)
 back:∀i,i<384->0<F i->op i/\∃j d,j<384/\d<4/\iK j d/\gA j d=i/\F j=F i-1
 TK:∀j,j<384->0<=F j->∀d,d<4->iK j d->op (gA j d)->0<=F (gA j d)/\F (gA j d)<=F j+1
theorem dO.le{H:N1}(hF:dO op tg F)(hH:dO op tg H):∀(n:Nat)(i:Nat),i<384->F i=n->0<=H i/\H i<=n:=by
 intro n
 induction n with
 | zero =>
  intro i hi h;have:H i=0:=(hH.zero i hi).2 ((hF.zero i hi).1 h);omega
 | succ n ih =>
  intro i hi h;obtain⟨hop,j,d,hj,hd,hn,rfl,he⟩:=hF.back i hi (by omega);have sN:=ih j hj (by omega);have:=hH.TK j hj sN.1 d hd hn hop;omega
theorem dO.bo{H:N1}(hF:dO op tg F)(hH:dO op tg H)(i:Nat)(hi:i<384):F i=H i:=by
 have l1:=hF.lo i hi;have l2:=hH.lo i hi;by_cases h:0<=F i
 ·have a:=hF.le hH (F i).toNat i hi (by omega);have b:=hH.le hF (H i).toNat i hi (by omega);omega
 ·by_cases h2:0<=H i
  ·have b:=hH.le hF (H i).toNat i hi (by omega);omega
  ·omega
def cnt(F:N1):Nat->Nat
 | 0=>0
 | n+1=>cnt F n+if 0<=F n then 1 else 0
theorem I3(F:N1)(n:Nat):cnt F n<=n:=by
 induction n with
 | zero=>exact abL _
 | succ n ih=>unfold cnt;split <;> omega
theorem NA(F H:N1)(n:Nat)(h:∀i,i<n->(0<=F i↔0<=H i)):cnt F n=cnt H n:=by
 induction n with
 | zero=>rfl
 | succ n ih =>
  unfold cnt;rw[ih fun i hi=>h i (by omega)];have:=h n (by omega);by_cases hn:0<=F n
  ·rw[abP hn,abP (this.1 hn)]
  ·rw[abO hn,abO fun hh=>hn (this.2 hh)]
def dj(F:N1)(b:Nat)(v:Int)(i:Nat):Int:=if i=b then v else F i
theorem fV(F:N1)(b:Nat)(v:Int):dj F b v b=v:=abP rfl
theorem ic (F:N1) {b i:Nat} (v:Int) (h:i≠b):dj F b v i=F i:=abO h
theorem Kt(F:N1)(b:Nat)(v:Int)(n:Nat)(hb:b<n)(h0:F b<0)(hv:0<=v):cnt (dj F b v) n=cnt F n+1:=by
 induction n with
 | zero=>omega
 | succ n ih =>
  unfold cnt;by_cases hbn:b=n
  ·subst hbn;rw[fV,abP hv,abO (by omega),NA (dj F b v) F b fun i hi=>by rw[ic F v (by omega)]]
  ·rw[ih (by omega),ic F v (by omega)];omega
structure nH(op tg:Nat->Prop)(F:N1)(row:List Nat)(jo d:Nat):Prop where
 lo:∀i,i<384->-1<=F i
 zero:∀i,i<384->(F i=0↔tg i)
 back:∀i,i<384->0<F i->op i/\∃j d,j<384/\d<4/\iK j d/\gA j d=i/\F j=F i-1
 mem:∀i,i<384->(0<=F i↔i∈row)
 FF:∀i,i∈row->i<384
 cnt:row.length=cnt F 384
 FI:∀a b,a<=b->b<row.length->F (row[a]?.getD 0)<=F (row[b]?.getD 0)
 wD:jo<row.length->∀i,i<384->F i<=F (row[jo]?.getD 0)+1
 RT:∀a e,e<4->a<row.length->4*a+e<4*jo+d->iK (row[a]?.getD 0) e->op (gA (row[a]?.getD 0) e)->0<=F (gA (row[a]?.getD 0) e)/\F (gA (row[a]?.getD 0) e)<=F (row[a]?.getD 0)+1
theorem nH.len(h:nH op tg F row k d):row.length<=384:=by
 rw[h.cnt];exact I3 _ _
theorem nH.lt{a:Nat}(h:nH op tg F row k d)(ha:a<row.length):row[a]?.getD 0<384/\0<=F (row[a]?.getD 0):=by
 rw[abQ ha];have hm:row[a]∈row:=List.getElem_mem ha;have hr:=h.FF _ hm;exact⟨hr,(h.mem _ hr).2 hm⟩
theorem nH.Oc(h:nH op tg F row k d):∀(n:Nat) i,i<384->F i=n->n<=400:=by
 intro n i hi hn;have key:∀m:Nat,m<=n->∃j,j<384/\F j=m:=by
  intro m hm
  induction hnm:n-m generalizing m with
  | zero=>exact⟨i,hi,by omega⟩
  | succ q ih =>
   obtain⟨j,hj,he⟩:=ih (m+1) (by omega) (by omega);obtain⟨_,j',_,zK,_,_,_,xn⟩:=h.back j hj (by omega);exact⟨j',zK,by omega⟩
 by_cases hc:n<=400
 ·exact hc
 ·exfalso;have inj:∀m:Nat,m<=n+1->m<=(List.range 384).countP (fun i=>decide (0<=F i/\F i<m)):=by
   intro m
   induction m with
   | zero=>intro _;exact Nat.zero_le _
   | succ m ih =>
    intro hm;have h1:=ih (by omega);obtain⟨j,hj,he⟩:=key m (by omega);have h2:(List.range 384).countP (fun i=>decide (0<=F i/\F i<m))<(List.range 384).countP (fun i=>decide (0<=F i/\F i<((m+1:Nat):Int))):=by
     have hs:∀(l:List Nat),j∈l->l.countP (fun i=>decide (0<=F i/\F i<m))<l.countP (fun i=>decide (0<=F i/\F i<((m+1:Nat):Int))):=by
      intro l
      induction l with
      | nil=>intro hm;cases hm
      | cons x l ih =>
       intro hm;have hle:l.countP (fun i=>decide (0<=F i/\F i<m))<=l.countP (fun i=>decide (0<=F i/\F i<((m+1:Nat):Int))) :=
        List.countP_mono_left fun y _ hy=>by simp only[decide_eq_true_eq]at *;omega
       rw[List.countP_cons,List.countP_cons];rcases List.mem_cons.1 hm with rfl|hm
       ·rw[abO (by simp;omega),abP (by simp;omega)];omega
       ·have:=ih hm;by_cases hx:0<=F x/\F x<m
        ·rw[abP (by simpa using hx),abP (by simp;omega)];omega
        ·rw[abO (by simpa using hx)];omega
     exact hs _ (List.mem_range.2 hj)
    omega
  have:=inj 401 (by omega);have hle:(List.range 384).countP (fun i=>decide (0<=F i/\F i<((401:Nat):Int)))<=(List.range 384).length:=List.countP_le_length;rw[List.length_range]at hle;omega
theorem nH.skip(h:nH op tg F row k d)(hk:k<row.length)(hd:d<4)(hs:iK (row[k]?.getD 0) d->op (gA (row[k]?.getD 0) d)->0<=F (gA (row[k]?.getD 0) d)):nH op tg F row k (d+1):=by
 refine⟨h.lo,h.zero,h.back,h.mem,h.FF,h.cnt,h.FI,h.wD,fun a e he ha hl hn ho=>?_⟩;by_cases hc:4*a+e<4*k+d
 ·exact h.RT a e he ha hc hn ho
 ·obtain rfl:a=k:=by omega
  obtain rfl:e=d:=by omega
  exact⟨hs hn ho,h.wD hk _ (yr hn)⟩
theorem nH.mark(h:nH op tg F row k d)(htg:∀i,i<384->tg i->0<=F i)(hk:k<row.length)(hd:d<4)(hn:iK (row[k]?.getD 0) d)(ho:op (gA (row[k]?.getD 0) d))(dH:F (gA (row[k]?.getD 0) d)<0):nH op tg (dj F (gA (row[k]?.getD 0) d) (F (row[k]?.getD 0)+1)) (row++[gA (row[k]?.getD 0) d]) k (d+1):=by
 obtain⟨hc,qu⟩:=h.lt hk;have hb:=yr hn;have UT:=h.wD hk;have jP:=h.cnt;obtain⟨c,vu⟩:∃c,c=row[k]?.getD 0:=⟨_,rfl⟩;obtain⟨b,FW⟩:∃b,b=gA c d:=⟨_,rfl⟩;rw[<-vu]at hn ho dH hc qu hb UT|-;rw[<-FW]at ho dH hb|-;have Yv:b∉row:=fun hm=>by have:=(h.mem b hb).2 hm;omega
 have ne:∀i,i<384->0<=F i->i≠b:=fun i _ h0 e=>by rw[e]at h0;omega
 have jm:∀i,i<384->0<=F i->dj F b (F c+1) i=F i:=fun i hi h0=>ic F _ (ne i hi h0);have get:∀a,a<row.length->(row++[b])[a]?.getD 0=row[a]?.getD 0:=fun a ha=>by rw[List.getElem?_append_left ha]
 have Wc:(row++[b])[row.length]?.getD 0=b:=by simp
 refine⟨fun i hi=>?_,fun i hi=>?_,fun i hi hp=>?_,fun i hi=>?_,fun i hm=>?_,?_,fun x y tB hy=>?_,fun _ i hi=>?_,fun a e he ha hl ju Rd=>?_⟩
 ·by_cases e:i=b
  ·rw[e,fV];omega
  ·rw[ic F _ e];exact h.lo i hi
 ·by_cases e:i=b
  ·rw[e,fV];constructor
   ·intro hh;omega
   ·intro ht;have:=htg b hb ht;omega
  ·rw[ic F _ e];exact h.zero i hi
 ·by_cases e:i=b
  ·subst e;refine⟨ho,c,d,hc,hd,hn,FW.symm,?_⟩;rw[fV,jm c hc qu];omega
  ·rw[ic F _ e]at hp|-;obtain⟨o,j,d',hj,jL,ju,UG,xn⟩:=h.back i hi hp;exact⟨o,j,d',hj,jL,ju,UG,by rw[jm j hj (by omega)];exact xn⟩
 ·by_cases e:i=b
  ·rw[e,fV];simp;omega
  ·rw[ic F _ e,h.mem i hi];simp[e]
 ·rcases List.mem_append.1 hm with hm|hm
  ·exact h.FF i hm
  ·simp at hm;omega
 ·rw[Kt F b _ 384 hb dH (by omega),List.length_append,jP];rfl
 ·rw[List.length_append]at hy;have IN:y<row.length+1:=hy;by_cases e:y=row.length
  ·rw[e,Wc,fV];by_cases e2:x=row.length
   ·rw[e2,Wc,fV];exact Int.le_refl _
   ·have hx:x<row.length:=(by omega);obtain⟨h1,h2⟩:=h.lt hx;rw[get x hx,jm _ h1 h2];exact UT _ h1
  ·have L8:y<row.length:=by omega
   obtain⟨h1,h2⟩:=h.lt L8;obtain⟨h3,h4⟩:=h.lt (show x<row.length by omega);rw[get y L8,get x (by omega),jm _ h1 h2,jm _ h3 h4];exact h.FI x y tB L8
 ·rw[get k hk,<-vu,jm c hc qu];by_cases e:i=b
  ·rw[e,fV];omega
  ·rw[ic F _ e];exact UT i hi
 ·by_cases ea:a=row.length
  ·omega
  ·have ZZ:a<row.length:=by rw[List.length_append]at ha;have:a<row.length+1:=ha;omega
   rw[get a ZZ]at ju Rd|-;obtain⟨h1,h2⟩:=h.lt ZZ;rw[jm _ h1 h2];by_cases oS:4*a+e<4*k+d
   ·obtain⟨q1,q2⟩:=h.RT a e he ZZ oS ju Rd;rw[jm _ (yr ju) q1];exact⟨q1,q2⟩
   ·obtain rfl:a=k:=(by omega);obtain rfl:e=d:=(by omega);rw[<-vu,<-FW,fV];omega
theorem nH.next(h:nH op tg F row k 4):nH op tg F row (k+1) 0:=by
 refine⟨h.lo,h.zero,h.back,h.mem,h.FF,h.cnt,h.FI,fun hk i hi=>?_,fun a e he ha hl=>h.RT a e he ha (by omega)⟩;have h1:=h.wD (by omega) i hi;have h2:=h.FI k (k+1) (by omega) hk;omega
theorem nH.done(h:nH op tg F row k 0)(hk:row.length<=k):dO op tg F:=by
 refine⟨h.lo,h.zero,h.back,fun j hj h0 d hd hn ho=>?_⟩;obtain⟨a,ha,he⟩:=List.getElem_of_mem ((h.mem j hj).1 h0);have e:row[a]?.getD 0=j:=by rw[abQ ha];exact he
 have:=h.RT a d hd ha (by omega);rw[e]at this;exact this hn ho
theorem nH.start(NK:∀i,i<384->F i=0\/F i=-1)(hz:∀i,i<384->(F i=0↔tg i))(hm:∀i,i<384->(0<=F i↔i∈row))(hr:∀i,i∈row->i<384)(hc:row.length=Gr.cnt F 384):nH op tg F row 0 0:=by
 have z:∀a,a<row.length->F (row[a]?.getD 0)=0:=fun a ha=>by
  rw[abQ ha];have zN:row[a]∈row:=List.getElem_mem ha;have hl:=hr _ zN;have h0:=(hm _ hl).2 zN;rcases NK _ hl with h|h
  ·exact h
  ·simp only[Option.getD_some];omega
 refine⟨fun i hi=>?_,hz,fun i hi hp=>?_,hm,hr,hc,fun a b hab hb=>?_,fun hk i hi=>?_,fun a e he ha hl=>by omega⟩
 ·rcases NK i hi with h|h <;> omega
 ·rcases NK i hi with h|h <;> omega
 ·rw[z a (by omega),z b hb];exact Int.le_refl _
 ·rw[z 0 hk];rcases NK i hi with h|h <;> omega
end Gr
open Go.RowKit
variable{F:Nat->Value}{T:TypeId}{a b w:World}{f:N1}{g n:Nat}
def Gr.dt(f:N1)(blen:Nat)(g:Nat->Bool)(i:Nat):Bool:=Gr.aS (f i)&&!(decide (i<blen)&&g i)
theorem Gr.Fq{blen:Nat}{g:Nat->Bool}{i:Nat}(h:Gr.aS (f i)=false):Gr.dt f blen g i=false:=by simp[Gr.dt,h]
theorem Gr.sZ {f:N1} {blen:Nat} {g:Nat->Bool} {i:Nat} (h:Gr.aS (f i)=true) (hi:¬i<blen):Gr.dt f blen g i=true:=by simp[Gr.dt,h,hi]
theorem Gr.Fp {f:N1} {blen:Nat} {g:Nat->Bool} {i:Nat} (h:Gr.aS (f i)=true) (hi:i<blen):Gr.dt f blen g i=!(g i):=by simp[Gr.dt,h,hi]
theorem Gr.Nl{x y:Int}{k:Nat}(h:Gr.iS x y=true)(hk:y*24+x=(k:Int)):Gr.at 384 f x y=f k:=by
 have:=(Gr.bz x y).1 h;unfold Gr.at;rw[abP ⟨h,by omega⟩,hk,abG]
theorem Gr.Tv{len:Nat}{x y:Int}(h:Gr.iS x y=false):Gr.at len f x y=0:=by
 unfold Gr.at;rw[abO];rintro⟨h',_⟩;rw[h]at h';cases h'
theorem JK(B:Nat)(a b:Option Addr)(blen c1 c2:Nat)(f:N1)(x y:Int)(w:World)(h:il B w a 384 (aZ f))(hf:∀i,0<=f i/\f i<=255)(cU:Gr.iS x y=false):Calls prog 177 #[.slice a 384 c1,.slice b blen c2,.int .i64 x,.int .i64 y] w fun e w'=>e=.returned (.bool false)/\w'=w:=by
 have c:∀w':World,w'=w->Calls prog 116 #[.slice a 384 c1,.int .i64 x,.int .i64 y] w' fun e w1=>e=.returned (.int .i64 0)/\w1=w':=by
  rintro w' rfl;have:=nJ B a 384 c1 f x y w' h hf
  rwa [Gr.Tv cU]at this
 have cw:∀w':World,Calls prog 115 #[.int .i64 0] w' fun e w1=>e=.returned (.bool false)/\w1=w':=fun w'=>gm 0 w';clear h hf;go_enter func177,ntmps177;go_wp2_with (first| (go_at_call 116;refine abW (c _ rfl) ?_)|(go_at_call 115;refine abW (cw _) ?_));go_ret;exact⟨rfl,rfl⟩
theorem Ma(B:Nat)(a b:Option Addr)(blen c1 c2:Nat)(f:N1)(g:Nat->Bool)(x y:Int)(k:Nat)(w:World)(h:il B w a 384 (aZ f))(hf:∀i,0<=f i/\f i<=255)(hb:il B w b blen (mc g))(cU:Gr.iS x y=true)(hk:y*24+x=(k:Int)):Calls prog 177 #[.slice a 384 c1,.slice b blen c2,.int .i64 x,.int .i64 y] w fun e w'=>e=.returned (.bool (Gr.dt f blen g k))/\w'=w:=by
 have hm:blen<=9223372036854775807:=hb.1;obtain⟨b1,b2,b3,b4⟩:=(Gr.bz x y).1 cU;have c:∀w':World,w'=w->Calls prog 116 #[.slice a 384 c1,.int .i64 x,.int .i64 y] w' fun e w1=>e=.returned (.int .i64 (f k))/\w1=w':=by
  rintro w' rfl;have:=nJ B a 384 c1 f x y w' h hf
  rwa [Gr.Nl cU hk]at this
 clear h hf;by_cases sk:Gr.aS (f k)=true
 ·by_cases hl:k<blen
  ·have hd:=aa (Gr.Fp (g:=g) sk hl);obtain⟨bb,off,rfl,_,hc⟩:=hb.at hl;have fD:w.cell? ⟨bb,off+k,none⟩=some (.bool (g k)):=hc;have sO:(k:Int)<(blen:Int):=by omega
   clear hc hb;go_enter func177,ntmps177;go_wp2_with (first| (go_at_call 116;refine abW (c _ rfl) ?_)|(go_at_call 115;refine abW (gm _ _) ?_)|(go_at_call 153;refine abW (gY _ _ _ (by omega) (by omega) (by omega) (by omega)) ?_));go_ret;exact⟨aO (by rw[uh hd,abI (show¬blen<=k by omega)];rfl),rfl⟩
  ·have hd:=aa (Gr.sZ (g:=g) sk hl);have sO:(blen:Int)<=(k:Int):=by omega
   clear hb;go_enter func177,ntmps177;go_wp2_with (first| (go_at_call 116;refine abW (c _ rfl) ?_)|(go_at_call 115;refine abW (gm _ _) ?_)|(go_at_call 153;refine abW (gY _ _ _ (by omega) (by omega) (by omega) (by omega)) ?_));go_ret;exact⟨aO (uh hd).symm,rfl⟩
 ·have L5:Gr.aS (f k)=false:=by simpa using sk
  have hd:=aa (Gr.Fq (blen:=blen) (g:=g) L5);clear sk hb;go_enter func177,ntmps177;go_wp2_with (first| (go_at_call 116;refine abW (c _ rfl) ?_)|(go_at_call 115;refine abW (gm _ _) ?_));go_ret;exact⟨aO (uh hd).symm,rfl⟩
theorem gtr{c:World}{r:Option Nat}(h:a.grownBy b r)(k:b.grownBy c r):a.grownBy c r :=
 ⟨k.os.trans h.os,k.tape.trans h.tape,k.output.trans h.output,abM h.size k.size,fun i hi hr=>(k.block i (abR hi h.size) hr).trans (h.block i hi hr)⟩
theorem gow{c:World}{r s:Option Nat}(h:a.grownBy b r)(k:b.grownBy c s)(hs:∀n,s=some n->a.heap.size<=n):a.grownBy c r :=
 ⟨k.os.trans h.os,k.tape.trans h.tape,k.output.trans h.output,abM h.size k.size,fun i hi hr=>(k.block i (abR hi h.size) (fun e=>by have:=hs i e.symm;omega)).trans (h.block i hi hr)⟩
theorem gst(h:a.grownBy b (some g))(i:Nat)(u:Value):a.grownBy (b.setCell ⟨g,i,none⟩ u) (some g) :=
 gtr h ⟨rfl,rfl,rfl,by simp,fun k _ hk=>heap_setCell_other b ⟨g,i,none⟩ k u (fun e=>hk (by rw[e]))⟩
theorem gal{r:Option Nat}(h:a.grownBy b r)(o:Obj):a.grownBy (b.alloc o) r:=gtr h (abE b o r)
theorem gdw{r:Option Nat}(h:a.grownBy b r)(n:Nat):a.grownBy (b.drewN n) r:=by
 have k:=below_drewN (Below.refl b.heap.size b) n;exact gtr h ⟨k.os,k.tape,k.output,k.size,fun i hi _=>k.block i hi⟩
theorem jd(h:a.grownBy b (some g))(hg:g<=a.heap.size):Below g a b :=
 ⟨h.os,h.tape,h.output,h.size,fun i hi=>h.block i (by omega) (fun e=>by cases e;omega)⟩
def Vm(G:Nat)(w:World)(a:Option Addr)(len:Nat)(F:Nat->Value):Prop :=
 len<=maxLen/\(len=0\/∃b off,a=some ⟨b,off,none⟩/\b<w.heap.size/\b≠G/\∀i,i<len->w.cell? ⟨b,off+i,none⟩=some (F i))
theorem Vm.at{G:Nat}{wr:World}{a:Option Addr}{len:Nat}(h:Vm G w a len F)(hg:w.grownBy wr (some G)){k:Nat}(hk:k<len):∃b off,a=some ⟨b,off,none⟩/\wr.cell? ⟨b,off+k,none⟩=some (F k):=by
 obtain⟨_,h0|⟨b,off,ha,hlt,ow,hc⟩⟩:=h
 ·omega
 ·exact⟨b,off,ha,(World.cell?_of_block (a:=⟨b,off+k,none⟩) (hg.block b hlt (fun e=>ow (by cases e;rfl)))).trans (hc k hk)⟩
theorem eS(w:World)(x:Value)(t:TypeId)(B:Nat)(hB:B=w.heap.size):∀j u,[x][j]?=some u->(w.alloc (.cells #[x] t)).cell? ((⟨B,0,none⟩:Addr).add j)=some u:=by
 subst hB;exact cell_one_new w x t
def dD(l:List Nat):List Int:=l.map Int.ofNat
theorem fS(l:List Nat)(b:Nat):(dD l).map (Value.int .i64)++[.int .i64 (b:Int)]=(dD (l++[b])).map (Value.int .i64):=by
 simp[dD]
theorem mA(l:List Nat):(dD l).length=l.length:=by simp[dD]
theorem qB(l:List Nat)(i:Nat):(dD l)[i]?.getD 0=((l[i]?.getD 0:Nat):Int):=by
 unfold dD;rw[List.getElem?_map];cases l[i]? <;> rfl
theorem Fs{ar G:Nat}{v:Value}{l:List Nat}(h:w.ownsRow ar 3 1 v l.length ((dD l).map (Value.int .i64)))(hG:G<ar)(hm:l.length<=maxLen):∃a aG,v=.slice a l.length aG/\Vm G w a l.length (bB fun i=>((l[i]?.getD 0:Nat):Int)):=by
 rcases h.2 with⟨rfl,h0⟩|⟨g,aG,cD,rfl,hb,hg,_,_,_,_⟩
 ·exact⟨none,0,by rw[h0],hm,.inl h0⟩
 ·refine⟨_,aG,rfl,hm,.inr ⟨g,0,rfl,lt_of_block hg,by omega,fun i hi=>?_⟩⟩;rw[Nat.zero_add,h.cellAt i (by omega),List.getElem?_map];show _=some (Value.int .i64 ((l[i]?.getD 0:Nat):Int));rw[<-qB,abQ (by rw[mA];exact hi)];rfl
theorem ax.grown{w':World}{r:Option Nat}(h:ax w g T n F)(hg:w.grownBy w' r)(hr:r≠some g):ax w' g T n F:=by
 have hlt:=h.lt;obtain⟨cD,h1,hs,hc⟩:=h;exact⟨cD,(hg.block g hlt (fun e=>hr e.symm)).trans h1,hs,hc⟩
theorem ax.alloc(h:ax w g T n F)(o:Obj):ax (w.alloc o) g T n F:=h.grown (abE w o none) (by simp)
theorem ax.dj{i:Nat}{F:N1}(h:ax w g T n (bB F))(v:Int):ax (w.setCell ⟨g,i,none⟩ (.int .i64 v)) g T n (bB (Gr.dj F i v)):=by
 refine(h.store i _).congr fun j _=>?_;show(if j=i then Value.int .i64 v else .int .i64 (F j))=.int .i64 (if j=i then v else F j);split <;> rfl
def Dc.I5(x c:Int):Int:=bits BinOp.xor IntKind.u64 x (x/c)
def Dc.m(x:Int):Int :=
 Dc.I5 (IntKind.u64.wrap (Dc.I5 (IntKind.u64.wrap (Dc.I5 x 1073741824*13787848793156543929)) 134217728*10723151780598845931)) 2147483648
theorem Dc.XX(x:Int):0<=Dc.m x/\Dc.m x<18446744073709551616:=by
 have h:=wf_bits BinOp.xor IntKind.u64 (IntKind.u64.wrap (Dc.I5 (IntKind.u64.wrap (Dc.I5 x 1073741824*13787848793156543929)) 134217728*10723151780598845931)) (IntKind.u64.wrap (Dc.I5 (IntKind.u64.wrap (Dc.I5 x 1073741824*13787848793156543929)) 134217728*10723151780598845931)/2147483648);simp only[Lit.wf,Bool.and_eq_true,decide_eq_true_eq,show IntKind.u64.min=0 from by decide,show IntKind.u64.max=18446744073709551615 from by decide]at h;obtain⟨h1,h2⟩:=h;exact⟨h1,Int.lt_of_le_of_lt h2 (by decide)⟩
theorem wB(x:Int)(w:World):Calls prog 187 #[.int .u64 x] w fun e w'=>e=.returned (.int .u64 (Dc.m x))/\w'=w:=by
 go_enter func187,ntmps187;go_wp2;go_ret;exact⟨rfl,rfl⟩
theorem OS(x:Int)(w:World):Calls prog 159 #[.int .u64 x] w fun e w'=>e=.returned (.int .u64 (Dc.m x))/\w'=w:=by
 go_enter func159,ntmps159;go_wp2;go_ret;exact⟨rfl,rfl⟩
def Dc.step(x v:Int):Int:=Dc.m (IntKind.u64.wrap (bits BinOp.xor IntKind.u64 x (IntKind.u64.wrap v)+11400714819323198485))
def Dc.wV(seed:Int)(zs:List Int):Int:=zs.foldl Dc.step (Dc.m (IntKind.u64.wrap (IntKind.u64.wrap seed+11400714819323198485)))
theorem Dc.O1(seed:Int)(zs:List Int):0<=Dc.wV seed zs/\Dc.wV seed zs<18446744073709551616:=by
 unfold Dc.wV;generalize hx:Dc.m (IntKind.u64.wrap (IntKind.u64.wrap seed+11400714819323198485))=x;have h:0<=x/\x<18446744073709551616:=by rw[<-hx];exact Dc.XX _
 clear hx
 induction zs generalizing x with
 | nil=>exact h
 | cons z zs ih=>exact ih _ (Dc.XX _)
theorem Dc.Hq(seed:Int)(zs:List Int)(k:Nat)(h:k<zs.length):Dc.m (IntKind.u64.wrap (bits BinOp.xor IntKind.u64 (Dc.wV seed (zs.take k)) (IntKind.u64.wrap (zs[k]?.getD 0))+11400714819323198485))=Dc.wV seed (zs.take (k+1)):=by
 show Dc.step (Dc.wV seed (zs.take k)) (zs[k]?.getD 0)=_;have e:zs.take (k+1)=zs.take k++[zs[k]?.getD 0]:=by
  rw[List.take_add_one,abQ h];rfl
 rw[e];simp only[Dc.wV,List.foldl_append,List.foldl_cons,List.foldl_nil]
def qf(w:World)(a:Option Addr)(len:Nat)(zs:List Int):Prop :=
 zs.length=len/\len<=maxLen/\(len=0\/∃b off,a=some ⟨b,off,none⟩/\∀i,i<len->w.cell? ⟨b,off+i,none⟩=some (.int .i64 (zs[i]?.getD 0)))
theorem O2(seed:Int)(a:Option Addr)(aG:Nat)(w:World):Calls prog 174 #[.int .i64 seed,.slice a 0 aG] w fun e w'=>e=.returned (.int .u64 (Dc.wV seed []))/\w'=w:=by
 go_enter func174,ntmps174;go_wp2_with fail;refine(wB _ _).mono ?_;rintro e w1 ⟨rfl,rfl⟩;go_wp2_with fail;refine wp_loop_rounds 1 ?_;rw[rounds_succ];go_wp2;go_ret;exact⟨rfl,rfl⟩
theorem O3(seed:Int)(b off:Nat)(len aG:Nat)(zs:List Int)(w:World)(hz:zs.length=len)(hm:len<=9223372036854775807)(hc:∀i,i<len->w.cell? ⟨b,off+i,none⟩=some (.int .i64 (zs[i]?.getD 0))):Calls prog 174 #[.int .i64 seed,.slice (some ⟨b,off,none⟩) len aG] w fun e w'=>e=.returned (.int .u64 (Dc.wV seed zs))/\w'=w:=by
 go_enter func174,ntmps174;go_wp2_with fail;refine(wB _ _).mono ?_;rintro e w1 ⟨rfl,rfl⟩;go_wp2_with fail;go_loop [5,14] (fun x i=>∃k:Nat,k<=len/\i=.int .i64 k/\x=.int .u64 (Dc.wV seed (zs.take k))) (fun _ i=>len-(intOf i).toNat)
 case atStart=>exact⟨0,Nat.zero_le _,rfl,rfl⟩
 case round =>
  obtain⟨k,hk,rfl,rfl⟩:=hrel;have hcell:k<len->w1.cell? ⟨b,off+k,none⟩=some (.int .i64 (zs[k]?.getD 0)):=fun h=>hc k h;go_wp2_with fail
  ·refine(wB _ _).mono ?_;rintro e w2 ⟨rfl,rfl⟩;have hlt:k<len:=by assumption
   have dm:=aa (Dc.Hq seed zs k (by omega));go_wp2
   go_round
   case rel =>
    refine⟨k+1,by omega,by go_num,?_⟩;rw[<-uh dm,abQ (by omega)];rfl
   case measure=>simp[intOf];omega
  ·obtain rfl:k=len:=by omega
   go_ret;rw[List.take_of_length_le (by omega)];exact⟨rfl,rfl⟩
theorem Ie(seed:Int)(a:Option Addr)(aG:Nat)(w:World):Calls prog 126 #[.int .i64 seed,.slice a 0 aG] w fun e w'=>e=.returned (.int .u64 (Dc.wV seed []))/\w'=w:=by
 go_enter func126,ntmps126;go_wp2_with fail;refine(OS _ _).mono ?_;rintro e w1 ⟨rfl,rfl⟩;go_wp2_with fail;refine wp_loop_rounds 1 ?_;rw[rounds_succ];go_wp2;go_ret;exact⟨rfl,rfl⟩
theorem Ig(seed:Int)(b off:Nat)(len aG:Nat)(zs:List Int)(w:World)(hz:zs.length=len)(hm:len<=9223372036854775807)(hc:∀i,i<len->w.cell? ⟨b,off+i,none⟩=some (.int .i64 (zs[i]?.getD 0))):Calls prog 126 #[.int .i64 seed,.slice (some ⟨b,off,none⟩) len aG] w fun e w'=>e=.returned (.int .u64 (Dc.wV seed zs))/\w'=w:=by
 go_enter func126,ntmps126;go_wp2_with fail;refine(OS _ _).mono ?_;rintro e w1 ⟨rfl,rfl⟩;go_wp2_with fail;go_loop [5,6] (fun x i=>∃k:Nat,k<=len/\i=.int .i64 k/\x=.int .u64 (Dc.wV seed (zs.take k))) (fun _ i=>len-(intOf i).toNat)
 case atStart=>exact⟨0,Nat.zero_le _,rfl,rfl⟩
 case round =>
  obtain⟨k,hk,rfl,rfl⟩:=hrel;have hcell:k<len->w1.cell? ⟨b,off+k,none⟩=some (.int .i64 (zs[k]?.getD 0)):=fun h=>hc k h;go_wp2_with fail
  ·refine(OS _ _).mono ?_;rintro e w2 ⟨rfl,rfl⟩;have hlt:k<len:=by assumption
   have dm:=aa (Dc.Hq seed zs k (by omega));go_wp2
   go_round
   case rel =>
    refine⟨k+1,by omega,by go_num,?_⟩;rw[<-uh dm,abQ (by omega)];rfl
   case measure=>simp[intOf];omega
  ·obtain rfl:k=len:=by omega
   go_ret;rw[List.take_of_length_le (by omega)];exact⟨rfl,rfl⟩
theorem RA(seed:Int)(a:Option Addr)(len aG:Nat)(zs:List Int)(w:World)(h:qf w a len zs):Calls prog 174 #[.int .i64 seed,.slice a len aG] w fun e w'=>e=.returned (.int .u64 (Dc.wV seed zs))/\w'=w:=by
 obtain⟨hz,hm,rfl|⟨b,off,rfl,hc⟩⟩:=h
 ·obtain rfl:=List.eq_nil_of_length_eq_zero hz;exact O2 _ _ _ _
 ·exact O3 _ _ _ _ _ _ _ hz hm hc
theorem J2(seed:Int)(a:Option Addr)(len aG:Nat)(zs:List Int)(w:World)(h:qf w a len zs):Calls prog 126 #[.int .i64 seed,.slice a len aG] w fun e w'=>e=.returned (.int .u64 (Dc.wV seed zs))/\w'=w:=by
 obtain⟨hz,hm,rfl|⟨b,off,rfl,hc⟩⟩:=h
 ·obtain rfl:=List.eq_nil_of_length_eq_zero hz;exact Ie _ _ _ _
 ·exact Ig _ _ _ _ _ _ _ hz hm hc
def Dc.kK(n seed:Int)(zs:List Int):Int:=if n<1 then 0 else Dc.wV seed zs%n
theorem Dc.uU(n seed:Int)(zs:List Int)(h:1<=n):0<=Dc.kK n seed zs/\Dc.kK n seed zs<n:=by
 unfold Dc.kK;rw[abO (by omega)];exact⟨Int.emod_nonneg _ (by omega),Int.emod_lt_of_pos _ (by omega)⟩
theorem Dc.Kw(n seed:Int)(zs:List Int)(h:n<1):Dc.kK n seed zs=0:=abP h
theorem zh(n seed:Int)(a:Option Addr)(len aG:Nat)(zs:List Int)(w:World)(h:qf w a len zs)(hn:n<=9223372036854775807):Calls prog 160 #[.int .i64 n,.int .i64 seed,.slice a len aG] w fun e w'=>e=.returned (.int .i64 (Dc.kK n seed zs))/\w'=w:=by
 by_cases hl:n<1
 ·have hd:=aa (Dc.Kw n seed zs hl);clear h;go_enter func160,ntmps160;go_wp2;go_ret;rw[uh hd];exact⟨rfl,rfl⟩
 ·have hd:=aa (show Dc.kK n seed zs=Dc.wV seed zs%n from abO hl);have hb:=Dc.O1 seed zs;have h1:=Int.emod_nonneg (Dc.wV seed zs) (show n≠0 by omega);have h2:=Int.emod_lt_of_pos (Dc.wV seed zs) (show 0<n by omega);have hr:=aa h;clear h;obtain⟨xY,jf⟩:=hb;go_enter func160,ntmps160;go_wp2_with fail;refine(RA _ _ _ _ _ _ (uh hr)).mono ?_;rintro e w1 ⟨rfl,rfl⟩;go_wp2;go_ret;rw[uh hd];exact⟨rfl,rfl⟩
theorem nZ(n seed:Int)(a:Option Addr)(len aG:Nat)(zs:List Int)(w:World)(h:qf w a len zs)(hn:n<=9223372036854775807):Calls prog 92 #[.int .i64 n,.int .i64 seed,.slice a len aG] w fun e w'=>e=.returned (.int .i64 (Dc.kK n seed zs))/\w'=w:=by
 by_cases hl:n<1
 ·have hd:=aa (Dc.Kw n seed zs hl);clear h;go_enter func92,ntmps92;go_wp2;go_ret;rw[uh hd];exact⟨rfl,rfl⟩
 ·have hd:=aa (show Dc.kK n seed zs=Dc.wV seed zs%n from abO hl);have hb:=Dc.O1 seed zs;have h1:=Int.emod_nonneg (Dc.wV seed zs) (show n≠0 by omega);have h2:=Int.emod_lt_of_pos (Dc.wV seed zs) (show 0<n by omega);have hr:=aa h;clear h;obtain⟨xY,jf⟩:=hb;go_enter func92,ntmps92;go_wp2_with fail;refine(J2 _ _ _ _ _ _ (uh hr)).mono ?_;rintro e w1 ⟨rfl,rfl⟩;go_wp2;go_ret;rw[uh hd];exact⟨rfl,rfl⟩
theorem qf.ia{w:World}{a:Option Addr}{len:Nat}{zs:List Int}(h:qf w a len zs)(k:Nat)(hk:k<=len):qf w a k (zs.take k):=by
 obtain⟨hz,hm,h0|⟨b,off,ha,hc⟩⟩:=h
 ·exact⟨by simp;omega,abM hk hm,.inl (by omega)⟩
 ·exact⟨by simp;omega,abM hk hm,.inr ⟨b,off,ha,fun i hi=>by rw[hc i (by omega),List.getElem?_take,abP hi]⟩⟩
def Gn.D(s f a b n:Int):Int:=Dc.kK n s [f,a,b]
theorem Gn.Y2(s f a b n:Int)(h:1<=n):0<=Gn.D s f a b n/\Gn.D s f a b n<n:=Dc.uU n s [f,a,b] h
def aJ(w:World)(v:Value)(e:Ending)(w':World):Prop:=e=.returned v/\w.grownBy w' none
theorem qf.fF(w:World)(x y z:Int)(T:TypeId):qf (w.alloc (.cells #[.int .i64 x,.int .i64 y,.int .i64 z] T)) (some ⟨w.heap.size,0,none⟩) 3 [x,y,z]:=by
 refine⟨rfl,by decide,.inr ⟨_,_,rfl,fun i hi=>?_⟩⟩;rcases(show i=0\/i=1\/i=2 by omega)with rfl|rfl|rfl <;> simp
theorem gsr{a b:World}(h:a.grownBy b none)(p:Addr)(hp:a.heap.size<=p.block)(u:Value):a.grownBy (b.setCell p u) none :=
 ⟨h.os,h.tape,h.output,by simpa using h.size,fun k hk hr=>(heap_setCell_other b p k u (by omega)).trans (h.block k hk hr)⟩
theorem rP(x y:Int)(w:World)(h1:-1000<=x)(h2:x<=1000)(h3:-1000<=y)(h4:y<=1000):Calls prog 129 #[.agg #[.int .i64 x,.int .i64 y]] w (aJ w (.int .i64 (y*24+x))):=by
 go_enter func129,ntmps129;go_wp2;go_ret;exact⟨rfl,abE _ _ _⟩
theorem pa(c:Int)(w:World)(h1:0<=c)(h2:c<=1000):Calls prog 138 #[.int .i64 c] w (aJ w (.agg #[.int .i64 (c%24),.int .i64 (c/24)])):=by
 go_enter func138,ntmps138;go_wp2
 go_returns
 exact⟨rfl,abE _ _ _⟩
theorem gR(s f a b n:Int)(w:World)(hn:n<=9223372036854775807):Calls prog 128 #[.agg #[.int .i64 s,.int .i64 f],.int .i64 a,.int .i64 b,.int .i64 n] w (aJ w (.int .i64 (Gn.D s f a b n))):=by
 have c:∀(w':World)(B:Nat),B=w'.heap.size->Calls prog 160 #[.int .i64 n,.int .i64 s,.slice (some ⟨B,0,none⟩) 3 3] (w'.alloc (.cells #[.int .i64 f,.int .i64 a,.int .i64 b] 3)) fun e w1=>e=.returned (.int .i64 (Gn.D s f a b n))/\w1=w'.alloc (.cells #[.int .i64 f,.int .i64 a,.int .i64 b] 3):=by
  rintro w' B rfl;exact zh n s _ 3 3 [f,a,b] _ (qf.fF w' f a b 3) hn
 go_enter func128,ntmps128;go_wp2_with fail;refine(c _ _ (by simp)).mono ?_;rintro e w1 ⟨rfl,rfl⟩;go_wp2;go_ret;exact⟨rfl,gtr (abE _ _ _) (abE _ _ _)⟩
theorem iN(s f a b n:Int)(w:World)(hn:n<=9223372036854775807):Calls prog 59 #[.int .i64 s,.int .i64 f,.int .i64 a,.int .i64 b,.int .i64 n] w (aJ w (.int .i64 (Gn.D s f a b n))):=by
 have c:∀(w':World)(B:Nat),B=w'.heap.size->Calls prog 92 #[.int .i64 n,.int .i64 s,.slice (some ⟨B,0,none⟩) 3 3] (w'.alloc (.cells #[.int .i64 f,.int .i64 a,.int .i64 b] 3)) fun e w1=>e=.returned (.int .i64 (Gn.D s f a b n))/\w1=w'.alloc (.cells #[.int .i64 f,.int .i64 a,.int .i64 b] 3):=by
  rintro w' B rfl;exact nZ n s _ 3 3 [f,a,b] _ (qf.fF w' f a b 3) hn
 go_enter func59,ntmps59;go_wp2_with fail;refine(c _ _ (by simp)).mono ?_;rintro e w1 ⟨rfl,rfl⟩;go_wp2;go_ret;exact⟨rfl,abE _ _ _⟩
def Gn.mb(a b:Int):Int:=if a<b then a+1 else if b<a then a-1 else a
theorem By(x:Int)(w:World):Calls prog 188 #[.int .i64 x] w fun e w'=>e=.returned (.bool false)/\w'=w:=by
 go_enter func188,ntmps188;go_wp2;go_ret;exact⟨rfl,rfl⟩
def Gn.LA(x y:Int):Int:=if x<y then -1 else if y<x then 1 else 0
theorem uk(x y:Int)(w:World):Calls prog 175 #[.int .i64 x,.int .i64 y] w fun e w'=>e=.returned (.int .i64 (Gn.LA x y))/\w'=w:=by
 by_cases h1:x<y
 ·have hd:=aa (show Gn.LA x y=-1 from abP h1);go_enter func175,ntmps175;go_wp2_with (go_at_call 188;refine(By _ _).mono ?_;rintro e w' ⟨rfl,rfl⟩);go_ret;exact⟨rti (uh hd).symm,rfl⟩
 ·by_cases h2:y<x
  ·have hd:=aa (show Gn.LA x y=1 by unfold Gn.LA;rw[abO h1,abP h2]);go_enter func175,ntmps175;go_wp2_with (go_at_call 188;refine(By _ _).mono ?_;rintro e w' ⟨rfl,rfl⟩);go_ret;exact⟨rti (uh hd).symm,rfl⟩
  ·have hd:=aa (show Gn.LA x y=0 by unfold Gn.LA;rw[abO h1,abO h2]);go_enter func175,ntmps175;go_wp2_with (go_at_call 188;refine(By _ _).mono ?_;rintro e w' ⟨rfl,rfl⟩);go_ret;exact⟨rti (uh hd).symm,rfl⟩
theorem l4(a b:Int)(w:World)(h:a≠b)(h1:-1000<=a)(h2:a<=1000):Calls prog 61 #[.int .i64 a,.int .i64 b] w fun e w'=>e=.returned (.int .i64 (Gn.mb a b))/\w'=w:=by
 by_cases h3:a<b
 ·have hd:=aa (show Gn.mb a b=a+1 from abP h3);go_enter func61,ntmps61;go_wp2;go_ret;exact⟨rti (uh hd).symm,rfl⟩
 ·have hd:=aa (show Gn.mb a b=a-1 by unfold Gn.mb;rw[abO h3,abP (by omega)]);go_enter func61,ntmps61;go_wp2;go_ret;exact⟨rti (uh hd).symm,rfl⟩
def Gn.hp(k:Int):Int:=if k=2 then 4 else if k=3 then 9 else 6
def Gn.Y8 (k:Int):Int:=if k=2 then 2 else if k=3 then 4 else 3
def Gn.df (k:Int):Int:=if k=3 then 1 else 0
def Gn.kt (k x y:Int):Array Value:=#[.int .i64 k,.int .i64 0,.int .i64 0,.int .i64 x,.int .i64 y,.int .i64 (Gn.hp k),.int .i64 (Gn.hp k),.int .i64 (Gn.Y8 k),.int .i64 (Gn.df k),.int .i64 0,.int .i64 0]
theorem MG(k:Int)(w:World)(h1:2<=k)(h2:k<=4):Calls prog 137 #[.int .i64 k] w (aJ w (.agg (Gn.kt k 0 0))):=by
 rcases(show k=2\/k=3\/k=4 by omega)with rfl|rfl|rfl
 all_goals
  go_enter func137,ntmps137;go_wp2
  go_returns
  exact⟨rfl,abE _ _ _⟩
theorem FC(k:Int)(w:World)(h1:2<=k)(h2:k<=4):Calls prog 35 #[.int .i64 k] w (aJ w (.agg (Gn.kt k 0 0))):=by
 rcases(show k=2\/k=3\/k=4 by omega)with rfl|rfl|rfl
 all_goals
  go_enter func35,ntmps35;go_wp2
  go_returns
  exact⟨rfl,abE _ _ _⟩
theorem vO(p:Nat->Prop)(k:Nat)(h:p k):∃m,p m/\∀j,p j->m<=j:=by
 induction k using Nat.strongRecOn with
 | _ k ih =>
  by_cases hc:∃j,j<k/\p j
  ·obtain⟨j,hj,hp⟩:=hc;exact ih j hj hp
  ·exact⟨k,h,fun j hp=>by by_cases pG:k<=j;exact pG;exact absurd ⟨j,by omega,hp⟩ hc⟩
theorem vP(p:Nat->Prop)(k:Nat)(h:p k):p (@Classical.epsilon Nat ⟨0⟩ fun m=>p m/\∀j,p j->m<=j)/\∀j,p j->(@Classical.epsilon Nat ⟨0⟩ fun m=>p m/\∀j,p j->m<=j)<=j :=
 Classical.epsilon_spec (p:=fun m=>p m/\∀j,p j->m<=j) (vO p k h)
theorem l9{P:Program}{a:Act}{w:World}{Q:Exit->Act->World->Prop}{c rest:Code}(l:Nat)(J:Nat->Act->World->Prop)(hf:findLabel c l=some rest)(first:c.wp P (Exit.jump l (fun a w=>∃k,J k a w) Q) a w)(ue:∀k a w,J k a w->rest.wp P (Exit.jump l (fun a' w'=>∃k',k'<k/\J k' a' w') Q) a w):(Code.scope c).wp P Q a w:=by
 refine wp_scope_jumps l (fun a w=>∃k,J k a w) (fun a w=>@Classical.epsilon Nat ⟨0⟩ fun m=>J m a w/\∀j,J j a w->m<=j) hf first ?_
 rintro a w ⟨k,hk⟩;obtain⟨h1,h2⟩:=vP (fun k=>J k a w) k hk;refine Code.wp_mono ?_ (ue _ a w h1);intro e a' w' hq;cases e with
 | goto l' =>
  obtain⟨hl,k',jy,hJ⟩:=hq;exact⟨hl,⟨k',hJ⟩,Nat.lt_of_le_of_lt ((vP (fun k=>J k a' w') k' hJ).2 k' hJ) jy⟩
 | normal=>exact hq
 | exit _=>exact hq
 | ret=>exact hq
 | panic _=>exact hq
 | outgrown=>exact hq
