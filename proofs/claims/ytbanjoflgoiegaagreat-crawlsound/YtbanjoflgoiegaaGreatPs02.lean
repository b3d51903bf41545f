import Derived.Laws.BitsAllLaws
import Derived.Test.YtbanjoflgoiegaaGreatPs01
import Derived.Laws.AppendOwnNone
import Derived.Test.YtbanjoflgoiegaaGreatProg
import Derived.Deep.RegionHeld3
namespace Go.Proofs.YtbanjoflgoiegaaGreat.Fl
open Ieee

theorem log2_mul (m k:Nat) (h:m≠0):(m*2 ^ k).log2=m.log2+k:=by
 have hp:0<2 ^ k:=Nat.two_pow_pos k
 have hne:m*2 ^ k≠0:=Nat.mul_ne_zero h (by omega)
 apply Nat.le_antisymm
 ·have:(m*2 ^ k).log2<m.log2+1+k:=(Nat.log2_lt hne).2 (by rw [Nat.pow_add];exact Nat.mul_lt_mul_of_pos_right ((Nat.log2_lt h).1 (Nat.lt_succ_self _)) hp)
  omega
 ·exact (Nat.le_log2 hne).2 (by rw [Nat.pow_add];exact Nat.mul_le_mul_right _ (Nat.log2_self_le h))

theorem cut_exact (way:Toward) (hw:way=.even∨way=.zero) (neg:Bool) (q d:Nat):way.cut neg (q*2 ^ d) d=q:=by
 have key:∀g:Nat,0<g→g=2 ^ min d ((q*2 ^ d).log2+2)→q*2 ^ d / g=q∧q*2 ^ d % g=0:=by
  intro g hg e
  by_cases h:q=0
  ·subst h;simp
  ·rw [log2_mul q d h,Nat.min_eq_left (by omega)] at e
   subst e
   exact ⟨Nat.mul_div_cancel _ hg,Nat.mul_mod_left _ _⟩
 have hg:(1 <<< min d ((q*2 ^ d).log2+2))=2 ^ min d ((q*2 ^ d).log2+2):=by rw [Nat.shiftLeft_eq,Nat.one_mul]
 have hp:0<(1 <<< min d ((q*2 ^ d).log2+2)):=by rw [hg];exact Nat.two_pow_pos _
 obtain ⟨h1,h2⟩:=key _ hp hg
 unfold Toward.cut
 simp only [h1,h2]
 generalize (1 <<< min d ((q*2 ^ d).log2+2))=g at hp
 rcases hw with rfl | rfl
 ·have:¬(g<2*0):=by omega
  have e:(g == 2*0)=false:=by simp;omega
  simp [e]
 ·simp

def Rep (b:Nat) (n:Int):Prop:=∃(s:Bool) (m k:Nat),double.read b=.number s (m*2 ^ k) (-(k:Int))∧n=(if s then -(m:Int) else m)

theorem least:double.leastPlace=-1074:=by decide
theorem binade_eq:double.binade=4503599627370496:=by decide
theorem inf_eq:double.infRung=9218868437227405312:=by decide
theorem weight_eq:double.signWeight=9223372036854775808:=by decide

theorem read_word (neg:Bool) (L K:Nat) (h1:4503599627370496≤K) (h2:K<9007199254740992) (hL:L≤52) :
  double.read (double.word neg ((L+1022)*4503599627370496+K))=.number neg K ((L:Int) - 52):=by
 have hr:(L+1022)*4503599627370496+K<9218868437227405312:=by omega
 have e1:(double.word neg ((L+1022)*4503599627370496+K)) / 9223372036854775808 % 2=neg.toNat:=by
  unfold Format.word;rw [weight_eq]
  cases neg
  ·rw [if_neg (by decide)];show _=0;omega
  ·rw [if_pos rfl];show _=1;omega
 have e2:(double.word neg ((L+1022)*4503599627370496+K)) % 9223372036854775808=(L+1022)*4503599627370496+K:=by
  unfold Format.word;rw [weight_eq]
  cases neg
  ·rw [if_neg (by decide)];omega
  ·rw [if_pos rfl];omega
 have e3:(L+1022)*4503599627370496+K=(L+1023)*4503599627370496+(K - 4503599627370496):=by omega
 have e4:((L+1023)*4503599627370496+(K - 4503599627370496)) % 4503599627370496=K - 4503599627370496:=by omega
 have e5:((L+1023)*4503599627370496+(K - 4503599627370496)) / 4503599627370496=L+1023:=by omega
 unfold Format.read
 simp only [weight_eq,binade_eq,inf_eq,least,e1,e2]
 rw [if_neg (by omega),if_pos hr,e3,e4,e5]
 have e6:4503599627370496+(K - 4503599627370496)=K:=Nat.add_sub_of_le h1
 have e7:(-1074:Int)+((L+1023 - 1:Nat):Int)=(L:Int) - 52:=by omega
 rw [e6,e7]
 cases neg <;> rfl

theorem read_zero (neg:Bool):double.read (double.word neg 0)=.number neg 0 (-1074):=by
 cases neg <;> rfl

theorem read_zero' (neg:Bool) (K:Nat) (hK:K=1074):double.read (double.word neg 0)=.number neg (0*2 ^ K) (-(K:Int)):=by
 rw [read_zero,Nat.zero_mul,hK];rfl

theorem rep_zero (neg:Bool):Rep (double.word neg 0) (if neg then -((0:Nat):Int) else ((0:Nat):Int)):=by
 obtain ⟨K,hK⟩:∃K:Nat,K=1074:=⟨_,rfl⟩
 exact ⟨neg,0,K,read_zero' neg K hK,rfl⟩

theorem sgn (v c:Int) (hc:0<c):decide (v*c<0)=decide (v<0):=by
 by_cases hn:v<0
 ·have:v*c<0:=Int.mul_neg_of_neg_of_pos hn hc
  simp [this,hn]
 ·have:¬v*c<0:=by
   have:=Int.mul_nonneg (a:=v) (b:=c) (by omega) (by omega)
   omega
  simp [this,hn]

theorem nearest_eq (neg:Bool) (m k:Nat) (hm:m≠0) (hlt:m<9007199254740992) :
  double.nearest neg (m*2 ^ k) (-(k:Int))=double.word neg ((m.log2+1022)*4503599627370496+m*2 ^ (52 - m.log2))∧m.log2≤52∧4503599627370496≤m*2 ^ (52 - m.log2)∧m*2 ^ (52 - m.log2)<9007199254740992:=by
 have hL:m.log2≤52:=by
  have:=(Nat.log2_lt hm (k:=53)).2 (by simpa using hlt)
  omega
 have hp:∀a:Nat,0<2 ^ a:=Nat.two_pow_pos
 have k1:4503599627370496≤m*2 ^ (52 - m.log2):=by
  have h:=Nat.mul_le_mul_right (2 ^ (52 - m.log2)) (Nat.log2_self_le hm)
  rw [←Nat.pow_add,show m.log2+(52 - m.log2)=52 from by omega] at h
  simpa using h
 have k2:m*2 ^ (52 - m.log2)<9007199254740992:=by
  have h:=Nat.mul_lt_mul_of_pos_right ((Nat.log2_lt hm).1 (Nat.lt_succ_self m.log2)) (hp (52 - m.log2))
  rw [←Nat.pow_add,show m.log2+1+(52 - m.log2)=53 from by omega] at h
  simpa using h
 refine ⟨?_,hL,k1,k2⟩
 have hne:m*2 ^ k≠0:=Nat.mul_ne_zero hm (by have:=hp k;omega)
 unfold Format.nearest
 rw [if_neg hne]
 simp only [least,binade_eq,inf_eq,log2_mul m k hm]
 have hf:((double.fractionBits:Nat):Int)=52:=rfl
 have hlast:max (-(k:Int)+((m.log2+k:Nat):Int) - ((double.fractionBits:Nat):Int)) (-1074)=(m.log2:Int) - 52:=by rw [hf];omega
 rw [hlast]
 have ha:(-(k:Int) - ((m.log2:Int) - 52)).toNat=52 - m.log2 - k:=by omega
 have hb:((m.log2:Int) - 52 - -(k:Int)).toNat=k - (52 - m.log2):=by omega
 have hc:((m.log2:Int) - 52 - (-1074)).toNat=m.log2+1022:=by omega
 rw [ha,hb,hc]
 have hs:(m*2 ^ k) <<< (52 - m.log2 - k)=(m*2 ^ (52 - m.log2))*2 ^ (k - (52 - m.log2)):=by
  rw [Nat.shiftLeft_eq,Nat.mul_assoc,Nat.mul_assoc,←Nat.pow_add,←Nat.pow_add,show k+(52 - m.log2 - k)=52 - m.log2+(k - (52 - m.log2)) from by omega]
 rw [hs,cut_exact .even (Or.inl rfl),Nat.min_eq_left (by omega)]

theorem rep_write (neg:Bool) (m k:Nat) (hlt:m<9007199254740992):Rep (double.write (.number neg (m*2 ^ k) (-(k:Int)))) (if neg then -(m:Int) else m):=by
 show Rep (double.nearest neg (m*2 ^ k) (-(k:Int))) _
 by_cases hm:m=0
 ·subst hm
  have e:double.nearest neg (0*2 ^ k) (-(k:Int))=double.word neg 0:=by
   unfold Format.nearest;rw [if_pos (by simp)]
  rw [e]
  exact rep_zero neg
 ·obtain ⟨e,hL,k1,k2⟩:=nearest_eq neg m k hm hlt
  rw [e]
  refine ⟨neg,m,52 - m.log2,?_,rfl⟩
  rw [read_word neg _ _ k1 k2 hL,show (m.log2:Int) - 52=-((52 - m.log2:Nat):Int) from by omega]

theorem rep_int (n:Int) (h1:-9007199254740992<n) (h2:n<9007199254740992):Rep (floatOfInt .f64 n) n:=by
 have h:=rep_write (decide (n<0)) n.natAbs 0 (by omega)
 have e:(if decide (n<0)=true then -(n.natAbs:Int) else (n.natAbs:Int))=n:=by
  by_cases hn:n<0 <;> simp [hn] <;> omega
 rw [e] at h
 have h':Rep (double.write (.number (decide (n<0)) n.natAbs 0)) n:=by simpa using h
 exact h'

theorem shl (m k j:Nat) (h:k≤j):(m*2 ^ k) <<< (j - k)=m*2 ^ j:=by
 rw [Nat.shiftLeft_eq,Nat.mul_assoc,←Nat.pow_add,show k+(j - k)=j from by omega]

theorem signed_eq (s:Bool) (m k j:Nat) (h:k≤j):signed s (m*2 ^ k) (j - k)=(if s then -(m:Int) else m)*((2 ^ j:Nat):Int):=by
 unfold signed
 rw [shl m k j h]
 cases s
 ·simp
 ·simp [Int.neg_mul]

theorem sum_rep (s t:Bool) (m k n l:Nat) (x y:Int) (hx:x=(if s then -(m:Int) else m)) (hy:y=(if t then -(n:Int) else n)) (h1:-9007199254740992<x+y) (h2:x+y<9007199254740992) :
  ∃d,Datum.sum (.number s (m*2 ^ k) (-(k:Int))) (.number t (n*2 ^ l) (-(l:Int)))=some d∧Rep (double.write d) (x+y):=by
 have hj:(min (-(k:Int)) (-(l:Int)))=-((max k l:Nat):Int):=by omega
 have ek:(-(k:Int) - -((max k l:Nat):Int)).toNat=max k l - k:=by omega
 have el:(-(l:Int) - -((max k l:Nat):Int)).toNat=max k l - l:=by omega
 have et:signed s (m*2 ^ k) (max k l - k)+signed t (n*2 ^ l) (max k l - l)=(x+y)*((2 ^ max k l:Nat):Int):=by
  rw [signed_eq s m k _ (Nat.le_max_left _ _),signed_eq t n l _ (Nat.le_max_right _ _),←hx,←hy,Int.add_mul]
 refine ⟨_,rfl,?_⟩
 simp only [hj,ek,el,et]
 generalize hJ:max k l=j
 have hpos:0<((2 ^ j:Nat):Int):=by have:=Nat.two_pow_pos j;omega
 have hna:((x+y)*((2 ^ j:Nat):Int)).natAbs=(x+y).natAbs*2 ^ j:=by rw [Int.natAbs_mul,Int.natAbs_natCast]
 rw [hna]
 generalize hv:x+y=v at *
 by_cases h0:v=0
 ·subst h0
  simp only [Int.zero_mul,if_true]
  have h:=rep_write (s && t) 0 j (by omega)
  simpa using h
 ·have hne:v*((2 ^ j:Nat):Int)≠0:=Int.mul_ne_zero h0 (by omega)
  rw [if_neg hne]
  have hs:=sgn v _ hpos
  rw [hs]
  have h:=rep_write (decide (v<0)) v.natAbs j (by omega)
  have e:(if decide (v<0)=true then -(v.natAbs:Int) else (v.natAbs:Int))=v:=by
   by_cases hn:v<0 <;> simp [hn] <;> omega
  rw [e] at h
  exact h

theorem rep_add {a b:Nat} {x y:Int} (ha:Rep a x) (hb:Rep b y) (h1:-9007199254740992<x+y) (h2:x+y<9007199254740992):∃r,floatBits .add .f64 a b=some r∧Rep r (x+y):=by
 obtain ⟨s,m,k,ra,hx⟩:=ha
 obtain ⟨t,n,l,rb,hy⟩:=hb
 obtain ⟨d,hd,hr⟩:=sum_rep s t m k n l x y hx hy h1 h2
 refine ⟨double.write d,?_,hr⟩
 show double.add a b=_
 unfold Format.add
 rw [ra,rb,hd]
 rfl

theorem rep_sub {a b:Nat} {x y:Int} (ha:Rep a x) (hb:Rep b y) (h1:-9007199254740992<x - y) (h2:x - y<9007199254740992):∃r,floatBits .sub .f64 a b=some r∧Rep r (x - y):=by
 obtain ⟨s,m,k,ra,hx⟩:=ha
 obtain ⟨t,n,l,rb,hy⟩:=hb
 have hy':-y=(if (!t)=true then -(n:Int) else n):=by rw [hy];cases t <;> simp
 rw [Int.sub_eq_add_neg] at *
 obtain ⟨d,hd,hr⟩:=sum_rep s (!t) m k n l x (-y) hx hy' h1 h2
 refine ⟨double.write d,?_,hr⟩
 show double.sub a b=_
 unfold Format.sub
 rw [ra,rb]
 show (Datum.sum _ (.number (!t) (n*2 ^ l) (-(l:Int)))).map _=_
 rw [hd]
 rfl

theorem rep_mul {a b:Nat} {x y:Int} (ha:Rep a x) (hb:Rep b y) (h:(x*y).natAbs<9007199254740992):∃r,floatBits .mul .f64 a b=some r∧Rep r (x*y):=by
 obtain ⟨s,m,k,ra,hx⟩:=ha
 obtain ⟨t,n,l,rb,hy⟩:=hb
 have hn:(x*y).natAbs=m*n:=by
  rw [hx,hy,Int.natAbs_mul]
  cases s <;> cases t <;> simp
 have hxy:x*y=(if (s ^^ t)=true then -((m*n:Nat):Int) else ((m*n:Nat):Int)):=by
  rw [hx,hy]
  cases s <;> cases t <;> simp [Int.neg_mul,Int.mul_neg]
 refine ⟨double.write (.number (s ^^ t) ((m*n)*2 ^ (k+l)) (-((k+l:Nat):Int))),?_,?_⟩
 ·show double.mul a b=_
  unfold Format.mul
  rw [ra,rb]
  show some (double.write (.number (s ^^ t) (m*2 ^ k*(n*2 ^ l)) (-(k:Int) + -(l:Int))))=_
  rw [show m*2 ^ k*(n*2 ^ l)=m*n*2 ^ (k+l) from by rw [Nat.pow_add];ac_rfl,show -(k:Int) + -(l:Int)=-((k+l:Nat):Int) from by omega]
 ·rw [hxy]
  exact rep_write _ _ _ (by omega)

theorem rep_toInt {b:Nat} {n:Int} (h:Rep b n) (h1:-9007199254740992<n) (h2:n<9007199254740992):floatToIntVal .f64 b .i64=some n:=by
 obtain ⟨s,m,k,rb,hn⟩:=h
 have e:(FloatKind.f64.decode b).toInt .zero=some n:=by
  show (double.read b).toInt .zero=some n
  rw [rb]
  show some (signed s (Toward.zero.cut s ((m*2 ^ k) <<< (-(k:Int)).toNat) (- -(k:Int)).toNat) 0)=some n
  have e1:(-(k:Int)).toNat=0:=by omega
  have e2:(- -(k:Int)).toNat=k:=by omega
  rw [e1,e2,Nat.shiftLeft_zero,cut_exact .zero (Or.inr rfl)]
  unfold signed
  rw [Nat.shiftLeft_zero,hn]
 unfold floatToIntVal
 rw [e]
 have hmin:IntKind.i64.min=-9223372036854775808:=by decide
 have hmax:IntKind.i64.max=9223372036854775807:=by decide
 simp only [hmin,hmax]
 rw [if_pos ⟨by omega,by omega⟩]

theorem rep_0:Rep 0 0:=rep_zero false
theorem rep_1:Rep 4607182418800017408 1:=⟨false,1,52,by rfl,by rfl⟩

theorem times_i {a b:Nat} {x y:Int} (ha:Rep a x) (hb:Rep b y) (hx1:-9007199254740992<x) (hx2:x<9007199254740992) (hy1:-9007199254740992<y) (hy2:y<9007199254740992) :
  ∃r i,cMulBits a b 0 4607182418800017408=some (r,i)∧Rep r (0 - y)∧Rep i x:=by
 obtain ⟨ac,e1,r1⟩:=rep_mul ha rep_0 (by simp)
 obtain ⟨bd,e2,r2⟩:=rep_mul hb rep_1 (by rw [Int.mul_one];omega)
 obtain ⟨ad,e3,r3⟩:=rep_mul ha rep_1 (by rw [Int.mul_one];omega)
 obtain ⟨bc,e4,r4⟩:=rep_mul hb rep_0 (by simp)
 rw [Int.mul_zero] at r1 r4
 rw [Int.mul_one] at r2 r3
 obtain ⟨re,e5,r5⟩:=rep_sub r1 r2 (by omega) (by omega)
 obtain ⟨im,e6,r6⟩:=rep_add r3 r4 (by omega) (by omega)
 rw [Int.add_zero] at r6
 refine ⟨re,im,?_,r5,r6⟩
 unfold cMulBits
 simp [e1,e2,e3,e4,e5,e6]

end Go.Proofs.YtbanjoflgoiegaaGreat.Fl

namespace Go.Proofs.YtbanjoflgoiegaaGreat.Fx

theorem and3 (q:Int):bits .and .i64 q 3=q % 4:=by
 show IntKind.i64.wrap ((BitVec.ofInt 64 q &&& BitVec.ofInt 64 3).toNat:Int)=_
 have e3:(BitVec.ofInt 64 3).toNat=2 ^ 2 - 1:=by decide
 rw [BitVec.toNat_and,e3,Nat.and_two_pow_sub_one_eq_mod,BitVec.toNat_ofInt]
 have hw:∀x:Int,0≤x→x<4→IntKind.i64.wrap x=x:=by
  intro x h1 h2
  simp [IntKind.wrap,IntKind.bits,IntKind.signed]
  omega
 rw [hw _ (by omega) (by omega)]
 omega

def isRoot (n r:Int):Prop:=0≤r∧r*r≤n∧n<(r+1)*(r+1)

def RI (n P B:Int):Prop:=∃k q:Nat,k≤32∧P=((q*2 ^ k:Nat):Int)∧B=((2 ^ k / 2:Nat):Int)∧P*P≤n∧n<(((q+1)*2 ^ k:Nat):Int)*(((q+1)*2 ^ k:Nat):Int)∧(q+1)*2 ^ k≤4294967296

theorem RI_start (n:Int) (h0:0≤n) (h1:n<18446744073709551616):RI n 0 2147483648 :=
 ⟨32,0,by omega,by simp,by decide,by omega,by simpa using h1,by decide⟩

theorem pow_half (k:Nat):2 ^ (k+1) / 2=2 ^ k:=by rw [Nat.pow_succ];omega

theorem RI_bounds {n P B:Int} (h:RI n P B):0≤P∧P<4294967296∧0≤B∧B≤2147483648∧P+B<4294967296:=by
 obtain ⟨k,q,hk,rfl,rfl,_,_,hb⟩:=h
 have hp:=Nat.two_pow_pos k
 rw [Nat.add_mul,Nat.one_mul] at hb
 have h32:2 ^ k≤2 ^ 32:=Nat.pow_le_pow_right (by omega) hk
 have e32:2 ^ 32=4294967296:=by decide
 generalize q*2 ^ k=u at *
 generalize 2 ^ k=v at *
 refine ⟨by omega,by omega,by omega,by omega,?_⟩
 omega

theorem RI_succ {n P B:Int} (h:RI n P B) (hB:0<B):∃j q:Nat,j+1≤32∧P=((q*2 ^ (j+1):Nat):Int)∧B=((2 ^ j:Nat):Int)∧P*P≤n∧n<(((q+1)*2 ^ (j+1):Nat):Int)*(((q+1)*2 ^ (j+1):Nat):Int)∧(q+1)*2 ^ (j+1)≤4294967296:=by
 obtain ⟨k,q,hk,hP,hb,r⟩:=h
 cases k with
 | zero=>exfalso;rw [hb] at hB;simp at hB
 | succ j=>exact ⟨j,q,hk,hP,by rw [hb,pow_half],r⟩

theorem RI_or {n P B:Int} (h:RI n P B) (hB:0<B):bits .or .u64 P B=P+B:=by
 have hb:=RI_bounds h
 obtain ⟨j,q,hj,rfl,rfl,_⟩:=RI_succ h hB
 rw [u64_or_nat _ _ (by omega) (by omega),nat_join (j+1) _ _ (by rw [Nat.mul_mod_left]) (by have:=Nat.two_pow_pos j;rw [Nat.pow_succ];omega)]
 omega

theorem RI_sq {n P B:Int} (h:RI n P B):0≤(P+B)*(P+B)∧(P+B)*(P+B)≤18446744073709551615:=by
 obtain ⟨h1,h2,h3,h4,h5⟩:=RI_bounds h
 have a:=Int.mul_nonneg (a:=P+B) (b:=P+B) (by omega) (by omega)
 have b:=Int.mul_self_le_mul_self (a:=P+B) (b:=4294967295) (by omega) (by omega)
 omega

theorem half_pow (j:Nat):((2 ^ j:Nat):Int) / 2=((2 ^ j / 2:Nat):Int):=by omega

theorem RI_yes {n P B:Int} (h:RI n P B) (hB:0<B) (hy:(P+B)*(P+B)≤n):RI n (P+B) (B / 2):=by
 obtain ⟨j,q,hj,rfl,rfl,_,hu,hb⟩:=RI_succ h hB
 have e1:(2*q+1)*2 ^ j=q*2 ^ (j+1)+2 ^ j:=by rw [Nat.pow_succ,Nat.add_mul,Nat.one_mul];ac_rfl
 have e2:(2*q+1+1)*2 ^ j=(q+1)*2 ^ (j+1):=by rw [Nat.pow_succ,show 2*q+1+1=2*(q+1) from by omega];ac_rfl
 refine ⟨j,2*q+1,by omega,by rw [e1];omega,half_pow j,hy,?_,?_⟩
 ·rw [e2];exact hu
 ·rw [e2];exact hb

theorem RI_no {n P B:Int} (h:RI n P B) (hB:0<B) (hy:n<(P+B)*(P+B)):RI n P (B / 2):=by
 obtain ⟨j,q,hj,rfl,rfl,hp,hu,hb⟩:=RI_succ h hB
 have e1:(2*q)*2 ^ j=q*2 ^ (j+1):=by rw [Nat.pow_succ];ac_rfl
 have e2:(2*q+1)*2 ^ j=q*2 ^ (j+1)+2 ^ j:=by rw [Nat.pow_succ,Nat.add_mul,Nat.one_mul];ac_rfl
 have e3:(q+1)*2 ^ (j+1)=q*2 ^ (j+1)+2 ^ j+2 ^ j:=by rw [Nat.pow_succ,Nat.add_mul,Nat.one_mul];omega
 refine ⟨j,2*q,by omega,by rw [e1],half_pow j,hp,?_,?_⟩
 ·rw [e2,Int.natCast_add];exact hy
 ·rw [e2];rw [e3] at hb;omega

theorem RI_end {n P B:Int} (h:RI n P B) (hB:B≤0):isRoot n P:=by
 have hb:=RI_bounds h
 obtain ⟨k,q,hk,hP,hb',hp,hu,_⟩:=h
 cases k with
 | zero=>
  refine ⟨hb.1,hp,?_⟩
  simp only [Nat.pow_zero,Nat.mul_one] at hP hu
  rw [hP]
  exact hu
 | succ j=>
  have:=Nat.two_pow_pos j
  rw [pow_half] at hb'
  omega

theorem mul_bd (a b m:Int) (hm:0≤m) (a1:-m≤a) (a2:a≤m) (b1:-m≤b) (b2:b≤m):-(m*m)≤a*b∧a*b≤m*m:=by
 have h:(a*b).natAbs≤m.natAbs*m.natAbs:=by
  rw [Int.natAbs_mul]
  exact Nat.mul_le_mul (by omega) (by omega)
 have e:((m.natAbs*m.natAbs:Nat):Int)=m*m:=by
  rw [Int.natCast_mul,Int.natAbs_of_nonneg hm]
 generalize m*m=M at *
 generalize a*b=p at *
 generalize m.natAbs*m.natAbs=q at *
 omega

def turned:Nat→Int × Int→Int × Int
 | 0,p=>p
 | k+1,p=>(0 - (turned k p).2,(turned k p).1)

theorem turned_bd (k:Nat) (p:Int × Int) (m:Int) (h1:-m≤p.1) (h2:p.1≤m) (h3:-m≤p.2) (h4:p.2≤m):-m≤(turned k p).1∧(turned k p).1≤m∧-m≤(turned k p).2∧(turned k p).2≤m:=by
 induction k with
 | zero=>exact ⟨h1,h2,h3,h4⟩
 | succ k ih=>
  simp only [turned]
  omega

def way (n:Int):Int × Int:=if n=1 then (0,-1) else if n=2 then (1,0) else if n=3 then (0,1) else if n=4 then (-1,0) else (0,0)

theorem way_turned (n:Int) (h1:1≤n) (h2:n≤4):turned ((n - 1) % 4).toNat (0,-1)=way n:=by
 have:n=1∨n=2∨n=3∨n=4:=by omega
 rcases this with rfl | rfl | rfl | rfl <;> decide

theorem way_none (n:Int) (h:n<1∨4<n):way n=(0,0):=by
 unfold way
 rw [if_neg (by omega),if_neg (by omega),if_neg (by omega),if_neg (by omega)]

theorem way_bd (n:Int):-1≤(way n).1∧(way n).1≤1∧-1≤(way n).2∧(way n).2≤1:=by
 unfold way
 split
 ·decide
 ·split
  ·decide
  ·split
   ·decide
   ·split <;> decide

end Go.Proofs.YtbanjoflgoiegaaGreat.Fx

namespace Go.Proofs.YtbanjoflgoiegaaGreat
open Go.RowKit

set_option maxHeartbeats 400000 in
theorem root_any (n:Int) (w:World) (h1:0≤n) (h2:n≤9223372036854775807) :
  Calls Tryz.prog 224 #[.int .i64 n] w fun e w'=>∃r,e=.returned (.int .i64 r)∧Fx.isRoot n r∧w'=w:=by
 go_enter Tryz.func224,Tryz.ntmps224
 go_wp2
 go_loop [3,4] (fun r b=>∃p q:Int,Fx.RI n p q∧r=.int .u64 p∧b=.int .u64 q) (fun _ b=>(intOf b).toNat)
 case atStart=>exact ⟨0,_,Fx.RI_start n h1 (by omega),rfl,rfl⟩
 case round =>
  obtain ⟨p,q,hri,rfl,rfl⟩:=hrel
  obtain ⟨hp0,hp1,hq0,hq1,hpq⟩:=Fx.RI_bounds hri
  obtain ⟨hs0,hs1⟩:=Fx.RI_sq hri
  by_cases hq:0<q
  ·have hor:=Fx.RI_or hri hq
   by_cases hy:(p+q)*(p+q)≤n
   ·go_wp2
    go_round
    case rel=>exact ⟨_,_,Fx.RI_yes hri hq hy,rfl,rfl⟩
    case measure=>simp [intOf];omega
   ·go_wp2
    go_round
    case rel=>exact ⟨_,_,Fx.RI_no hri hq (by omega),rfl,rfl⟩
    case measure=>simp [intOf];omega
  ·go_wp2
   go_ret
   exact ⟨p,rfl,Fx.RI_end hri (by omega),rfl⟩

set_option maxHeartbeats 400000 in
theorem turn_any (x y q:Int) (w:World) (h1:-1125899906842624≤x) (h2:x≤1125899906842624) (h3:-1125899906842624≤y) (h4:y≤1125899906842624) :
  Calls Tryz.prog 148 #[.int .i64 x,.int .i64 y,.int .i64 q] w fun e w'=>e=.returned (.tuple #[.int .i64 (Fx.turned (q % 4).toNat (x,y)).1,.int .i64 (Fx.turned (q % 4).toNat (x,y)).2])∧w'=w:=by
 have ha:=Fx.and3 q
 obtain ⟨m,hm⟩:∃m:Nat,(m:Int)=q % 4:=⟨(q % 4).toNat,by omega⟩
 have hm4:m<4:=by omega
 have hmt:(q % 4).toNat=m:=by omega
 rw [←hm] at ha
 rw [hmt]
 have HM:=hide hm
 clear hm hmt
 go_enter Tryz.func148,Tryz.ntmps148
 go_wp2
 go_loop [8,16] (fun s i=>∃(a b k:Nat),k≤m∧s=.complex .f64 a b∧i=.int .i64 k∧Fl.Rep a (Fx.turned k (x,y)).1∧Fl.Rep b (Fx.turned k (x,y)).2) (fun _ i=>(m - (intOf i).toNat))
 case atStart=>exact ⟨_,_,0,by omega,rfl,rfl,Fl.rep_int x (by omega) (by omega),Fl.rep_int y (by omega) (by omega)⟩
 case round =>
  obtain ⟨a,b,k,hk,rfl,rfl,ra,rb⟩:=hrel
  obtain ⟨b1,b2,b3,b4⟩:=Fx.turned_bd k (x,y) 1125899906842624 h1 h2 h3 h4
  by_cases hlt:k<m
  ·obtain ⟨r,i,hmul,rr,ri⟩:=Fl.times_i ra rb (by omega) (by omega) (by omega) (by omega)
   have hrun:=fun w:World=>run_complex_mul (P:=Tryz.prog) w 173 a b 0 4607182418800017408 r i hmul
   have HR:=hide rr
   have HI:=hide ri
   clear ra rb rr ri hmul
   go_wp2
   go_round
   case rel=>exact ⟨r,i,k+1,by omega,rfl,by go_num,uh HR,uh HI⟩
   case measure=>simp [intOf];omega
  ·have e:k=m:=by omega
   subst e
   have t1:=Fl.rep_toInt ra (by omega) (by omega)
   have t2:=Fl.rep_toInt rb (by omega) (by omega)
   have hr1:=fun w:World=>run_convert_float_int (P:=Tryz.prog) w 176 3 .f64 .i64 a _ (by kernel_rfl) (by kernel_rfl) t1
   have hr2:=fun w:World=>run_convert_float_int (P:=Tryz.prog) w 176 3 .f64 .i64 b _ (by kernel_rfl) (by kernel_rfl) t2
   clear t1 t2 ra rb
   go_wp2
   go_ret2
   exact ⟨rfl,rfl⟩


open Go.RowKit

theorem sq_bd (dx dy:Int) (h1:-1048576≤dx) (h2:dx≤1048576) (h3:-1048576≤dy) (h4:dy≤1048576):0≤dx*dx∧dx*dx≤1099511627776∧0≤dy*dy∧dy*dy≤1099511627776:=by
 have a:=Fx.mul_bd dx dx 1048576 (by omega) h1 h2 h1 h2
 have b:=Fx.mul_bd dy dy 1048576 (by omega) h3 h4 h3 h4
 have c:0≤dx*dx:=by rcases Int.le_total 0 dx with h | h;exact Int.mul_nonneg h h;exact Int.mul_nonneg_of_nonpos_of_nonpos h h
 have d:0≤dy*dy:=by rcases Int.le_total 0 dy with h | h;exact Int.mul_nonneg h h;exact Int.mul_nonneg_of_nonpos_of_nonpos h h
 omega

set_option maxHeartbeats 400000 in
theorem dist_any (dx dy:Int) (w:World) (h1:-1048576≤dx) (h2:dx≤1048576) (h3:-1048576≤dy) (h4:dy≤1048576) :
  Calls Tryz.prog 217 #[.int .i64 dx,.int .i64 dy] w fun e w'=>∃r,e=.returned (.int .i64 r)∧Fx.isRoot ((dx*dx+dy*dy)*65536) r∧w'=w:=by
 obtain ⟨a,b,c,d⟩:=sq_bd dx dy h1 h2 h3 h4
 go_enter Tryz.func217,Tryz.ntmps217
 go_wp2_with (go_at_call 224;refine (root_any _ _ (by omega) (by omega)).mono ?_;rintro e w' ⟨r,rfl,hr,rfl⟩)
 go_ret
 exact ⟨r,rfl,hr,rfl⟩

set_option maxHeartbeats 400000 in
theorem way_any (n:Int) (w:World) :
  Calls Tryz.prog 113 #[.int .i64 n] w fun e w'=>e=.returned (.tuple #[.int .i64 (Fx.way n).1,.int .i64 (Fx.way n).2])∧w'=w:=by
 by_cases h1:n<1
 ·rw [Fx.way_none n (Or.inl h1)]
  go_enter Tryz.func113,Tryz.ntmps113
  go_wp2
  go_ret2
  exact ⟨rfl,rfl⟩
 ·by_cases h2:4<n
  ·rw [Fx.way_none n (Or.inr h2)]
   go_enter Tryz.func113,Tryz.ntmps113
   go_wp2
   go_ret2
   exact ⟨rfl,rfl⟩
  ·rw [←Fx.way_turned n (by omega) (by omega)]
   go_enter Tryz.func113,Tryz.ntmps113
   go_wp2_with (go_at_call 148;refine (turn_any 0 (-1) _ _ (by omega) (by omega) (by omega) (by omega)).mono ?_;rintro e w' ⟨rfl,rfl⟩)
   go_ret2
   exact ⟨rfl,rfl⟩

end Go.Proofs.YtbanjoflgoiegaaGreat

namespace Go.Proofs.YtbanjoflgoiegaaGreat.Fl
open Ieee

theorem compare_mul (x y c:Int) (hc:0<c):compare (x*c) (y*c)=compare x y:=by
 have h1:(x*c<y*c)↔x<y:=⟨fun h=>Int.lt_of_mul_lt_mul_right h (Int.le_of_lt hc),fun h=>Int.mul_lt_mul_of_pos_right h hc⟩
 have h2:(x*c=y*c)↔x=y:=⟨fun h=>Int.eq_of_mul_eq_mul_right (by omega) h,fun h=>by rw [h]⟩
 show compareOfLessAndEq _ _=compareOfLessAndEq _ _
 unfold compareOfLessAndEq
 by_cases hlt:x<y
 ·rw [if_pos hlt,if_pos (h1.2 hlt)]
 ·rw [if_neg hlt,if_neg (fun h=>hlt (h1.1 h))]
  by_cases he:x=y
  ·rw [if_pos he,if_pos (h2.2 he)]
  ·rw [if_neg he,if_neg (fun h=>he (h2.1 h))]

theorem order_rep {a b:Nat} {x y:Int} (ha:Rep a x) (hb:Rep b y):double.order a b=some (compare x y):=by
 obtain ⟨s,m,k,ra,hx⟩:=ha
 obtain ⟨t,n,l,rb,hy⟩:=hb
 have hj:(min (-(k:Int)) (-(l:Int)))=-((max k l:Nat):Int):=by omega
 have ek:(-(k:Int) - -((max k l:Nat):Int)).toNat=max k l - k:=by omega
 have el:(-(l:Int) - -((max k l:Nat):Int)).toNat=max k l - l:=by omega
 unfold Format.order
 rw [ra,rb]
 show some (compare (signed s (m*2 ^ k) (-(k:Int) - min (-(k:Int)) (-(l:Int))).toNat) (signed t (n*2 ^ l) (-(l:Int) - min (-(k:Int)) (-(l:Int))).toNat))=_
 rw [hj,ek,el,signed_eq s m k _ (Nat.le_max_left _ _),signed_eq t n l _ (Nat.le_max_right _ _),←hx,←hy]
 have hpos:0<((2 ^ max k l:Nat):Int):=by have:=Nat.two_pow_pos (max k l);omega
 rw [compare_mul _ _ _ hpos]

theorem cmp_lt {x y:Int} (h:x<y):compare x y=.lt:=by
 show compareOfLessAndEq _ _=_
 unfold compareOfLessAndEq;rw [if_pos h]

theorem cmp_gt {x y:Int} (h:y<x):compare x y=.gt:=by
 show compareOfLessAndEq _ _=_
 unfold compareOfLessAndEq;rw [if_neg (by omega),if_neg (by omega)]

theorem cmp_eq {x y:Int} (h:x=y):compare x y=.eq:=by
 show compareOfLessAndEq _ _=_
 unfold compareOfLessAndEq;rw [if_neg (by omega),if_pos h]

def Big (b:Nat) (s:Bool):Prop:=∃(K E:Nat),double.read b=.number s K (E:Int)∧4503599627370496≤K

theorem far_mul (K c:Nat) (y:Int) (P:Nat) (hP:0<P) (hK:4503599627370496≤K) (hc:P≤c) (h1:-4503599627370496<y) (h2:y<4503599627370496):y*(P:Int)<((K*c:Nat):Int)∧-((K*c:Nat):Int)<y*(P:Int):=by
 have h:4503599627370496*P≤K*c:=Nat.mul_le_mul hK hc
 have h':((4503599627370496*P:Nat):Int)≤((K*c:Nat):Int):=by omega
 have e1:y*(P:Int)≤4503599627370495*(P:Int):=Int.mul_le_mul_of_nonneg_right (by omega) (by omega)
 have e2:-4503599627370495*(P:Int)≤y*(P:Int):=Int.mul_le_mul_of_nonneg_right (by omega) (by omega)
 constructor <;> omega

theorem order_big {a b:Nat} {s:Bool} {y:Int} (ha:Big a s) (hb:Rep b y) (h1:-4503599627370496<y) (h2:y<4503599627370496) :
  double.order a b=some (if s then .lt else .gt)∧double.order b a=some (if s then .gt else .lt):=by
 obtain ⟨K,E,ra,hK⟩:=ha
 obtain ⟨t,n,l,rb,hy⟩:=hb
 have m1:min (E:Int) (-(l:Int))=-(l:Int):=by omega
 have m2:min (-(l:Int)) (E:Int)=-(l:Int):=by omega
 have e1:((E:Int) - -(l:Int)).toNat=E+l:=by omega
 have e2:(-(l:Int) - -(l:Int)).toNat=l - l:=by omega
 have hs:signed t (n*2 ^ l) (l - l)=y*((2 ^ l:Nat):Int):=by rw [signed_eq t n l l (Nat.le_refl _),←hy]
 have hbg:signed s K (E+l)=(if s then -((K*2 ^ (E+l):Nat):Int) else ((K*2 ^ (E+l):Nat):Int)):=by
  unfold signed
  rw [Nat.shiftLeft_eq]
 have hf:=far_mul K (2 ^ (E+l)) y (2 ^ l) (Nat.two_pow_pos _) hK (Nat.pow_le_pow_right (by omega) (by omega)) h1 h2
 constructor
 ·unfold Format.order
  rw [ra,rb]
  show some (compare (signed s K ((E:Int) - min (E:Int) (-(l:Int))).toNat) (signed t (n*2 ^ l) (-(l:Int) - min (E:Int) (-(l:Int))).toNat))=_
  rw [m1,e1,e2,hs,hbg]
  cases s
  ·rw [if_neg (by decide),if_neg (by decide),cmp_gt hf.1]
  ·rw [if_pos rfl,if_pos rfl,cmp_lt hf.2]
 ·unfold Format.order
  rw [ra,rb]
  show some (compare (signed t (n*2 ^ l) (-(l:Int) - min (-(l:Int)) (E:Int)).toNat) (signed s K ((E:Int) - min (-(l:Int)) (E:Int)).toNat))=_
  rw [m2,e1,e2,hs,hbg]
  cases s
  ·rw [if_neg (by decide),if_neg (by decide),cmp_lt hf.1]
  ·rw [if_pos rfl,if_pos rfl,cmp_gt hf.2]

theorem cut_bd (neg:Bool) (m d:Nat) (hm:m≠0) (hd:m.log2=d+52):4503599627370496≤Toward.even.cut neg m d∧Toward.even.cut neg m d≤9007199254740992:=by
 have hg:(1 <<< min d (m.log2+2))=2 ^ d:=by rw [Nat.shiftLeft_eq,Nat.one_mul,Nat.min_eq_left (by omega)]
 have lo:4503599627370496≤m / 2 ^ d:=by
  rw [Nat.le_div_iff_mul_le (Nat.two_pow_pos d)]
  have h:=Nat.log2_self_le hm
  rw [hd,Nat.pow_add] at h
  have e:(2:Nat) ^ 52=4503599627370496:=by decide
  rw [e] at h
  rw [Nat.mul_comm];exact h
 have hi:m / 2 ^ d<9007199254740992:=by
  rw [Nat.div_lt_iff_lt_mul (Nat.two_pow_pos d)]
  have h:=(Nat.log2_lt hm).1 (Nat.lt_succ_self m.log2)
  rw [hd,show (d+52).succ=d+53 from rfl,Nat.pow_add] at h
  have e:(2:Nat) ^ 53=9007199254740992:=by decide
  rw [e] at h
  rw [Nat.mul_comm];exact h
 unfold Toward.cut
 simp only [hg]
 have:∀b:Bool,b.toNat≤1:=by decide
 have h1:=this (decide (2 ^ d<2*(m % 2 ^ d)) || (2 ^ d == 2*(m % 2 ^ d) && m / 2 ^ d % 2 == 1))
 constructor <;> omega

theorem big_int (n:Int) (h:9007199254740992≤n.natAbs) (h2:n.natAbs≤9223372036854775808):Big (floatOfInt .f64 n) (decide (n<0)):=by
  show Big (double.nearest (decide (n<0)) n.natAbs 0) _
  generalize n.natAbs=m at *
  generalize decide (n<0)=neg at *
  have hm:m≠0:=by omega
  have l1:53≤m.log2:=(Nat.le_log2 hm).2 (by simpa using h)
  have l2 : m.log2 < 64 := (Nat.log2_lt hm).2 (by have e : (2 : Nat) ^ 64 = 18446744073709551616 := by decide
                                                  omega)
  obtain ⟨d,hd⟩:∃d,m.log2=d+52:=⟨m.log2 - 52,by omega⟩
  have hb:=cut_bd neg m d hm hd
  have hf:((double.fractionBits:Nat):Int)=52:=rfl
  unfold Format.nearest
  rw [if_neg hm]
  simp only [least,binade_eq,inf_eq]
  have hlast:max ((0:Int)+((m.log2:Nat):Int) - ((double.fractionBits:Nat):Int)) (-1074)=(d:Int):=by rw [hf,hd];omega
  rw [hlast]
  have e1:((0:Int) - (d:Int)).toNat=0:=by omega
  have e2:((d:Int) - 0).toNat=d:=by omega
  have e3:((d:Int) - (-1074)).toNat=d+1074:=by omega
  rw [e1,e2,e3,Nat.shiftLeft_zero]
  generalize Toward.even.cut neg m d=q at hb
  rw [Nat.min_eq_left (by omega)]
  generalize hR:(d+1074)*4503599627370496+q=R
  have r1:1076*4503599627370496≤R:=by omega
  have r2:R<9218868437227405312:=by omega
  have w1:(double.word neg R) / 9223372036854775808 % 2=neg.toNat:=by
    unfold Format.word;rw [weight_eq]
    cases neg
    · rw [if_neg (by decide)];show _=0;omega
    · rw [if_pos rfl];show _=1;omega
  have w2:(double.word neg R) % 9223372036854775808=R:=by
    unfold Format.word;rw [weight_eq]
    cases neg
    · rw [if_neg (by decide)];omega
    · rw [if_pos rfl];omega
  refine ⟨4503599627370496+R % 4503599627370496,R / 4503599627370496 - 1075,?_,by omega⟩
  unfold Format.read
  simp only [weight_eq,binade_eq,inf_eq,least,w1,w2]
  rw [if_neg (by omega),if_pos r2]
  have e7:(-1074:Int)+((R / 4503599627370496 - 1:Nat):Int)=((R / 4503599627370496 - 1075:Nat):Int):=by omega
  rw [e7]
  cases neg <;> rfl

theorem order_int (n:Int) (h1:-9223372036854775808≤n) (h2:n≤9223372036854775807) {b:Nat} {y:Int} (hb:Rep b y) (h3:-4503599627370496<y) (h4:y<4503599627370496) :
  double.order (floatOfInt .f64 n) b=some (compare n y)∧double.order b (floatOfInt .f64 n)=some (compare y n):=by
 by_cases hs:n.natAbs<9007199254740992
 ·exact ⟨order_rep (rep_int n (by omega) (by omega)) hb,order_rep hb (rep_int n (by omega) (by omega))⟩
 ·obtain ⟨e1,e2⟩:=order_big (big_int n (by omega) (by omega)) hb h3 h4
  rw [e1,e2]
  by_cases hn:n<0
  ·simp only [hn,decide_true,if_true]
   rw [cmp_lt (show n<y by omega),cmp_gt (show n<y by omega)]
   exact ⟨rfl,rfl⟩
  ·simp only [hn,decide_false]
   rw [cmp_gt (show y<n by omega),cmp_lt (show y<n by omega)]
   exact ⟨rfl,rfl⟩

theorem rep_24:Rep 4627448617123184640 24:=⟨false,24,48,by rfl,by rfl⟩
theorem rep_16:Rep 4625196817309499392 16:=⟨false,16,48,by rfl,by rfl⟩

theorem beq_lt (x y:Int):((some (compare x y):Option Ordering) == some .lt)=decide (x<y):=by
 by_cases h:x<y
 ·rw [cmp_lt h,decide_eq_true h];rfl
 ·rw [decide_eq_false h]
  by_cases he:x=y
  ·rw [cmp_eq he];rfl
  ·rw [cmp_gt (by omega)];rfl

theorem beq_ge (x y:Int):((some (compare x y):Option Ordering) == some .gt || (some (compare x y):Option Ordering) == some .eq)=decide (y≤x):=by
 by_cases h:x<y
 ·rw [cmp_lt h,decide_eq_false (by omega)];rfl
 ·rw [decide_eq_true (by omega)]
  by_cases he:x=y
  ·rw [cmp_eq he];rfl
  ·rw [cmp_gt (by omega)];rfl

theorem beq_eq (x y:Int):((some (compare x y):Option Ordering) == some .eq)=decide (x=y):=by
 by_cases h:x<y
 ·rw [cmp_lt h,decide_eq_false (by omega)];rfl
 ·by_cases he:x=y
  ·rw [cmp_eq he,decide_eq_true he];rfl
  ·rw [cmp_gt (by omega),decide_eq_false he];rfl

end Go.Proofs.YtbanjoflgoiegaaGreat.Fl

namespace Go.Proofs.YtbanjoflgoiegaaGreat
open Go.RowKit

def Arr (w:World) (g:Nat) (T:TypeId) (n:Nat) (F:Nat→Value):Prop :=
 ∃cur:Array Value,w.heap[g]?=some (.cells cur T (0,0))∧cur.size=n∧∀i,i<n→cur[i]?=some (F i)

theorem Arr.cell {w:World} {g:Nat} {T:TypeId} {n:Nat} {F:Nat→Value} (h:Arr w g T n F) {i:Nat} (hi:i<n):w.cell? ⟨g,i,none⟩=some (F i):=by
 obtain ⟨cur,hg,_,hc⟩:=h
 rw [cell_of_row w g i cur T (0,0) hg]
 exact hc i hi

theorem Arr.free {w:World} {g:Nat} {T:TypeId} {n:Nat} {F:Nat→Value} (h:Arr w g T n F) (i:Nat):w.frozen? ⟨g,i,none⟩=false:=by
 obtain ⟨cur,hg,_,_⟩:=h
 exact frozen_of_row w g i cur T hg

theorem Arr.lt {w:World} {g:Nat} {T:TypeId} {n:Nat} {F:Nat→Value} (h:Arr w g T n F):g<w.heap.size:=by
 obtain ⟨cur,hg,_,_⟩:=h
 exact lt_of_block hg

theorem Arr.congr {w:World} {g:Nat} {T:TypeId} {n:Nat} {F G:Nat→Value} (h:Arr w g T n F) (he:∀i,i<n→F i=G i):Arr w g T n G:=by
 obtain ⟨cur,hg,hs,hc⟩:=h
 exact ⟨cur,hg,hs,fun i hi=>by rw [hc i hi,he i hi]⟩

theorem Arr.kept {w w':World} {B g:Nat} {T:TypeId} {n:Nat} {F:Nat→Value} (h:Arr w g T n F) (hb:Below B w w') (hlt:g<B):Arr w' g T n F:=by
 obtain ⟨cur,hg,hs,hc⟩:=h
 exact ⟨cur,(hb.block g hlt).trans hg,hs,hc⟩

theorem Arr.store {w:World} {g:Nat} {T:TypeId} {n:Nat} {F:Nat→Value} (h:Arr w g T n F) (i:Nat) (u:Value):Arr (w.setCell ⟨g,i,none⟩ u) g T n (fun j=>if j=i then u else F j):=by
 obtain ⟨cur,hg,hs,hc⟩:=h
 refine ⟨cur.setIfInBounds i u,heap_setCell_same w g i cur T u hg,by simpa using hs,fun j hj=>?_⟩
 show _=some (if j=i then u else F j)
 by_cases hji:j=i
 ·subst hji
  rw [if_pos rfl]
  simp [hs,hj]
 ·rw [if_neg hji,Array.getElem?_setIfInBounds_ne (by omega)]
  exact hc j hj

theorem Arr.vec {w:World} {g:Nat} {T:TypeId} {n:Nat} {F:Nat→Value} (h:Arr w g T n F) (B:Nat) (hB:g<B) (hm:n≤maxLen):Vec B w (some ⟨g,0,none⟩) n F :=
 ⟨hm,.inr ⟨g,0,rfl,hB,fun i hi=>by rw [Nat.zero_add];exact h.cell hi⟩⟩

theorem Arr.made {w:World} {base g:Nat} {T:TypeId} {n:Nat} {xs:List Value} (h:w.ownsRow base T 1 (.slice (some ⟨g,0,none⟩) n n) n xs) (u:Value):Arr w g T n (fun i=>xs[i]?.getD u):=by
 have hl:=h.1
 rcases h.2 with ⟨h',_⟩ | ⟨g',cap',cur,h',_,hg,_,_,hcs,htake⟩
 ·simp at h'
 ·simp only [Value.slice.injEq,Option.some.injEq,Addr.mk.injEq,and_true,true_and] at h'
  obtain ⟨rfl,rfl⟩:=h'
  refine ⟨cur,hg,by simpa using hcs,fun i hi=>?_⟩
  show _=some (xs[i]?.getD u)
  rw [←htake]
  rw [Nat.mul_one,List.getElem?_take,if_pos hi,Array.getElem?_toList,Array.getElem?_eq_getElem (by omega)]
  rfl

theorem Arr.zero {w:World} {base g:Nat} {T:TypeId} {n:Nat} {z:Value} (h:w.ownsRow base T 1 (.slice (some ⟨g,0,none⟩) n n) n (madeCells #[z] n).toList):Arr w g T n (fun _=>z):=by
 refine (Arr.made h z).congr fun i hi=>?_
 rw [toList_madeCells_one,List.getElem?_replicate,if_pos (by omega)]
 rfl

theorem fill_more {g:Nat→Int} {z:Int} {k:Nat} {v:Int} (hv:v=g k) (j:Nat):(if j=k then Value.int .i64 v else .int .i64 (if j<k then g j else z))=.int .i64 (if j<k+1 then g j else z):=by
 by_cases h:j=k
 ·rw [if_pos h,if_pos (by omega),hv,h]
 ·rw [if_neg h]
  by_cases h2:j<k
  ·rw [if_pos h2,if_pos (by omega)]
  ·rw [if_neg h2,if_neg (by omega)]

def Gives (w:World) (n:Nat) (F:Nat→Value) (e:Ending) (w':World):Prop :=
 ∃a cap,e=.returned (.slice a n cap)∧Vec w'.heap.size w' a n F∧n≤cap∧Below w.heap.size w w'

theorem info_int:(Tryz.prog.info? 3).map (fun i=>(i.zero,i.size,i.bytes))=some (some (.int .i64 0),1,8):=by kernel_rfl

end Go.Proofs.YtbanjoflgoiegaaGreat

namespace Go.Proofs.YtbanjoflgoiegaaGreat

namespace Gr

theorem near_up (p n d:Int) (hn:0<n) (h0:0≤p) (h1:p≤n*d):0≤near p n∧near p n≤d:=by
 unfold near
 refine ⟨Int.ediv_nonneg (by omega) (by omega),?_⟩
 have:(2*p+n) / (2*n)<d+1:=Int.ediv_lt_of_lt_mul (by omega) (by
  have:(d+1)*(2*n)=2*(n*d)+2*n:=by rw [Int.add_mul,Int.one_mul,Int.mul_comm d,Int.mul_assoc]
  omega)
 omega

theorem near_down (p n d:Int) (hn:0<n) (h0:p≤0) (h1:n*d≤p):d≤near p n∧near p n≤0:=by
 unfold near
 constructor
 ·refine Int.le_ediv_of_mul_le (by omega) ?_
  have:d*(2*n)=2*(n*d):=by rw [Int.mul_comm d,Int.mul_assoc]
  omega
 ·have:(2*p+n) / (2*n)<1:=Int.ediv_lt_of_lt_mul (by omega) (by omega)
  omega

theorem near_mul (n d:Int) (hn:0<n):near (n*d) n=d:=by
 unfold near
 have h1:d≤(2*(n*d)+n) / (2*n):=by
  refine Int.le_ediv_of_mul_le (by omega) ?_
  have:d*(2*n)=2*(n*d):=by rw [Int.mul_comm d,Int.mul_assoc]
  omega
 have h2:(2*(n*d)+n) / (2*n)<d+1:=Int.ediv_lt_of_lt_mul (by omega) (by
  have:(d+1)*(2*n)=2*(n*d)+2*n:=by rw [Int.add_mul,Int.one_mul,Int.mul_comm d,Int.mul_assoc]
  omega)
 omega

def span (x0 y0 x1 y1:Int):Nat:=(max (max (x1 - x0) (x0 - x1)) (max (y1 - y0) (y0 - y1))).toNat

def ln (x0 y0 x1 y1:Int) (k:Nat):Int :=
 (y0+near (k*(y1 - y0)) (span x0 y0 x1 y1))*24+(x0+near (k*(x1 - x0)) (span x0 y0 x1 y1))

theorem part (d n:Int) (k:Nat) (hn:0<n) (hk:(k:Int)≤n):(0≤d∧0≤near (k*d) n∧near (k*d) n≤d)∨(d≤0∧d≤near (k*d) n∧near (k*d) n≤0):=by
 by_cases h:0≤d
 ·left
  have a:0≤(k:Int)*d:=Int.mul_nonneg (by omega) h
  have b:(k:Int)*d≤n*d:=Int.mul_le_mul_of_nonneg_right hk h
  exact ⟨h,near_up _ _ _ hn a b⟩
 ·right
  have a:(k:Int) * -d≤n * -d:=Int.mul_le_mul_of_nonneg_right hk (by omega)
  have b:0≤(k:Int) * -d:=Int.mul_nonneg (by omega) (by omega)
  rw [Int.mul_neg] at a b
  rw [Int.mul_neg] at a
  exact ⟨by omega,near_down _ _ _ hn (by omega) (by omega)⟩

theorem mul_bd (k:Nat) (d:Int) (hk:k≤23) (h1:-23≤d) (h2:d≤23):-1000≤(k:Int)*d∧(k:Int)*d≤1000:=by
 have a:(k:Int)*d≤(k:Int)*23:=Int.mul_le_mul_of_nonneg_left h2 (by omega)
 have b:(k:Int)*(-23)≤(k:Int)*d:=Int.mul_le_mul_of_nonneg_left h1 (by omega)
 omega

theorem ln_parts (x0 y0 x1 y1:Int) (h0:inB x0 y0=true) (h1:inB x1 y1=true) (k:Nat) (hk:k≤span x0 y0 x1 y1) :
  ∃x y:Int,ln x0 y0 x1 y1 k=y*24+x∧x=x0+near (k*(x1 - x0)) (span x0 y0 x1 y1)∧y=y0+near (k*(y1 - y0)) (span x0 y0 x1 y1)∧0≤x∧x<24∧0≤y∧y<16:=by
 rw [inB_iff] at h0 h1
 refine ⟨_,_,rfl,rfl,rfl,?_⟩
 by_cases hn:span x0 y0 x1 y1=0
 ·obtain rfl:k=0:=by omega
  rw [hn]
  have e:∀p,near p ((0:Nat):Int)=0:=fun p=>by simp [near]
  rw [e,e]
  omega
 ·have hs:-(span x0 y0 x1 y1:Int)≤x1 - x0∧x1 - x0≤span x0 y0 x1 y1∧-(span x0 y0 x1 y1:Int)≤y1 - y0∧y1 - y0≤span x0 y0 x1 y1:=by unfold span;omega
  have a:=part (x1 - x0) (span x0 y0 x1 y1) k (by omega) (by omega)
  have b:=part (y1 - y0) (span x0 y0 x1 y1) k (by omega) (by omega)
  omega

theorem span_bd (x0 y0 x1 y1:Int) (h0:inB x0 y0=true) (h1:inB x1 y1=true):span x0 y0 x1 y1≤23:=by
 rw [inB_iff] at h0 h1
 unfold span
 omega

theorem ln_bd (x0 y0 x1 y1:Int) (h0:inB x0 y0=true) (h1:inB x1 y1=true) (k:Nat) (hk:k≤span x0 y0 x1 y1):0≤ln x0 y0 x1 y1 k∧ln x0 y0 x1 y1 k<384:=by
 obtain ⟨x,y,e,_,_,_,_,_,_⟩:=ln_parts x0 y0 x1 y1 h0 h1 k hk
 omega

theorem near_0 (n:Int) (hn:0≤n):near 0 n=0:=by
 by_cases h:n=0
 ·subst h;rfl
 ·have:=near_mul n 0 (by omega)
  rwa [Int.mul_zero] at this

theorem ln_first (x0 y0 x1 y1:Int):ln x0 y0 x1 y1 0=y0*24+x0:=by
 unfold ln
 rw [show ((0:Nat):Int)=0 from rfl,Int.zero_mul,Int.zero_mul,near_0 _ (by omega)]
 omega

end Gr


open Go.RowKit

theorem line_none (x0 y0 x1 y1:Int) (w:World) (h:Gr.inB x0 y0=true→Gr.inB x1 y1=false) :
  Calls Tryz.prog 222 #[.int .i64 x0,.int .i64 y0,.int .i64 x1,.int .i64 y1] w fun e w'=>e=.returned (.slice none 0 0)∧w'=w:=by
 by_cases h0:Gr.inB x0 y0=true
 ·have h1:=h h0
  clear h
  go_enter Tryz.func222,Tryz.ntmps222
  go_wp2_with (go_at_call 152;refine (isCell_any _ _ _).mono ?_;rintro e w' ⟨rfl,rfl⟩)
  go_ret
  exact ⟨rfl,rfl⟩
 ·have h0':Gr.inB x0 y0=false:=by simpa using h0
  clear h h0
  go_enter Tryz.func222,Tryz.ntmps222
  go_wp2_with (go_at_call 152;refine (isCell_any _ _ _).mono ?_;rintro e w' ⟨rfl,rfl⟩)
  go_ret
  exact ⟨rfl,rfl⟩

theorem max4 (ts:Array TypeId) (t:TypeId) (a b c d n:Int) (w:World) (h:max (max a b) (max c d)=n) :
  (Builtin.max_ ts t #[.int .i64 a,.int .i64 b,.int .i64 c,.int .i64 d]).run Tryz.prog w=.ok (.int .i64 n) w:=by
 have e:(Builtin.max_ ts t #[.int .i64 a,.int .i64 b,.int .i64 c,.int .i64 d]).run Tryz.prog w=.ok (.int .i64 (if d > (if c > (if b > a then b else a) then c else (if b > a then b else a)) then d else (if c > (if b > a then b else a) then c else (if b > a then b else a)))) w:=by
  simp [Builtin.max_,Builtin.max2]
 rw [e]
 congr 2
 omega

set_option maxRecDepth 4000 in
set_option maxHeartbeats 800000 in
theorem line_some (x0 y0 x1 y1:Int) (w:World) (h0:Gr.inB x0 y0=true) (h1:Gr.inB x1 y1=true) :
  Calls Tryz.prog 222 #[.int .i64 x0,.int .i64 y0,.int .i64 x1,.int .i64 y1] w
   (Gives w (Gr.span x0 y0 x1 y1+1) (Ints (Gr.ln x0 y0 x1 y1))):=by
 have hn23:=Gr.span_bd x0 y0 x1 y1 h0 h1
 obtain ⟨b1,b2,b3,b4⟩:=(Gr.inB_iff x0 y0).1 h0
 obtain ⟨b5,b6,b7,b8⟩:=(Gr.inB_iff x1 y1).1 h1
 obtain ⟨n,hn⟩:∃n:Nat,n=Gr.span x0 y0 x1 y1:=⟨_,rfl⟩
 obtain ⟨dx,hdx⟩:∃d:Int,x1 - x0=d:=⟨_,rfl⟩
 obtain ⟨dy,hdy⟩:∃d:Int,y1 - y0=d:=⟨_,rfl⟩
 have hmx:∀ts t w,(Builtin.max_ ts t #[.int .i64 dx,.int .i64 (-dx),.int .i64 dy,.int .i64 (-dy)]).run Tryz.prog w=.ok (.int .i64 (n:Int)) w:=by
  intro ts t w
  refine max4 ts t _ _ _ _ _ w ?_
  rw [hn];unfold Gr.span;omega
 have hn':=hide hn
 have d1:-23≤dx:=by omega
 have d2:dx≤23:=by omega
 have d3:-23≤dy:=by omega
 have d4:dy≤23:=by omega
 obtain ⟨i0,hi,hz0,hz1,hz2⟩:=info_parts info_int
 rw [←hn] at hn23 ⊢
 clear hn
 by_cases hz:n=0
 ·subst hz
  go_enter Tryz.func222,Tryz.ntmps222
  go_wp2_with (first | (go_at_call 152;refine (isCell_any _ _ _).mono ?_;rintro e w' ⟨rfl,hw⟩;subst w') | (go_at_call 153;refine (number_any _ _ _ (by omega) (by omega) (by omega) (by omega)).mono ?_;rintro e w' ⟨rfl,hw⟩;subst w'))
  go_ret
  have hf:=hide (Gr.ln_first x0 y0 x1 y1)
  refine ⟨_,_,rfl,⟨by decide,.inr ⟨_,_,rfl,by simp,?_⟩⟩,by omega,(Below.refl _ _).alloc (Nat.le_refl _) _⟩
  intro i hi1
  obtain rfl:i=0:=by omega
  show _=some (Value.int .i64 (Gr.ln x0 y0 x1 y1 0))
  rw [uh hf]
  simp
 ·have hz':((n:Int) == 0)=false:=by simp;omega
  go_enter Tryz.func222,Tryz.ntmps222
  go_wp2_with (first | (go_at_call 152;refine (isCell_any _ _ _).mono ?_;rintro e w' ⟨rfl,hw⟩;subst w') | (at_make;refine wpList_make_full _ rfl _ _ 38 rfl w.heap.size 3 i0 (.int .i64 0) 1 Tryz.underlying38 hi hz0 hz1 .i64 .i64 _ _ (n+1) rfl rfl ?q1 ?q2 ?q3 ?q4 (Nat.le_refl _) ?_))
  case q1=>omega
  case q2=>omega
  case q3=>rw [hz2];omega
  case q4=>unfold maxLen;omega
  intro w2 hown hgrow
  have hA:=hide (Arr.zero hown)
  have hB:Below w.heap.size w w2:=(Below.refl _ _).grown hgrow (Nat.le_refl _) (by intro k hk;cases hk)
  clear hown hgrow hi hz0 hz1 hz2 hmx
  obtain ⟨G,hG⟩:∃G,G=w.heap.size:=⟨_,rfl⟩
  rw [←hG] at hA hB ⊢
  have hG':=hide hG
  clear hG
  go_wp2_with fail
  go_loopw [48] (fun i wr=>∃k:Nat,k≤n+1∧i=.int .i64 k∧Arr wr G 3 (n+1) (fun j=>.int .i64 (if j<k then Gr.ln x0 y0 x1 y1 j else 0))∧Below G w wr) (fun i _=>n+1 - (intOf i).toNat)
  case atStart=>exact ⟨0,Nat.zero_le _,rfl,(uh hA).congr fun j _=>by rw [if_neg (Nat.not_lt_zero _)],hB⟩
  case round =>
   obtain ⟨k,hk,rfl,hA1,hB1⟩:=hrel
   have hA2:=hide hA1
   clear hA1 hA hB
   by_cases hlt:k<n+1
   ·obtain ⟨X,Y,eln,eX,eY,c1,c2,c3,c4⟩:=Gr.ln_parts x0 y0 x1 y1 h0 h1 k (by have:=uh hn';omega)
    rw [hdx,←uh hn'] at eX
    rw [hdy,←uh hn'] at eY
    subst eX
    subst eY
    have eln':=hide eln
    clear eln
    obtain ⟨m1,m2⟩:=Gr.mul_bd k dx (by omega) d1 d2
    obtain ⟨m3,m4⟩:=Gr.mul_bd k dy (by omega) d3 d4
    have hc:=(uh hA2).cell hlt
    have hf:=(uh hA2).free k
    have hlt':(k:Int)<(n:Int)+1:=by omega
    go_wp2_with (first | (go_at_call 225;refine (nearest_any _ _ _ (by omega) (by omega) (by omega) (by omega)).mono ?_;rintro e w' ⟨rfl,hw⟩;subst w') | (go_at_call 153;refine (number_any _ _ _ (by omega) (by omega) (by omega) (by omega)).mono ?_;rintro e w' ⟨rfl,hw⟩;subst w'))
    go_roundw
    case rel=>exact ⟨k+1,by omega,by go_num,((uh hA2).store k _).congr fun j _=>fill_more (uh eln').symm j,hB1.setCell (Nat.le_refl _) _⟩
    case measure=>simp [intOf];omega
   ·have hge:¬(k:Int)<(n:Int)+1:=by omega
    have hk1:k=n+1:=by omega
    have hA3:=hide ((uh hA2).congr (G:=Ints (Gr.ln x0 y0 x1 y1)) fun j hj=>by rw [if_pos (by omega)];rfl)
    clear hk1 hA2
    go_wp2
    go_ret
    exact ⟨_,_,rfl,(uh hA3).vec _ (uh hA3).lt (by unfold maxLen;omega),Nat.le_refl _,by rw [←uh hG'];exact hB1⟩

section
attribute [-go_sem] run_max_int2

end

end Go.Proofs.YtbanjoflgoiegaaGreat

namespace Go.Proofs.YtbanjoflgoiegaaGreat

def wpTill (P:Program) (md:Region.Mode) (ops:Array Oper) (Q:Exit→Act→World→Prop) (S:World→Prop) (h:Nat):Nat→Array Bool→Act→World→Prop
 | 0,up,a,w=>Region.ready md ops up=[]∧Q .normal a w
 | n+1,up,a,w=>(Region.ready md ops up=[]→Q .normal a w)∧∀i∈Region.ready md ops up,wpOp P ops Q i (fun b x=>((up.setIfInBounds i true).getD h true=false→S x)∧wpTill P md ops Q S h n (up.setIfInBounds i true) b x) a w

theorem wpAny_of_till {P:Program} {ops:Array Oper} {Q:Exit→Act→World→Prop} {md:Region.Mode} {S:World→Prop} {h:Nat}:∀(n:Nat) (up:Array Bool) (a:Act) (w:World),wpTill P md ops Q S h n up a w→wpAny P md ops Q n up a w
 | 0,_,_,_,g=>g
 | n+1,_,_,_,g=>⟨g.1,fun i hi=>wpOp_mono (fun b x k=>wpAny_of_till n _ b x k.2) (g.2 i hi)⟩

def Region.waits (md:Region.Mode) (ops:Array Oper) (up:Array Bool) (i h:Nat) (ch:List Nat):Bool :=
 ch.contains h && ch.all fun c=>!(up.getD c true) && match ops[c]? with
  | some o=>o.after.any fun e=>Region.binds md e && (e.on == i || ch.contains e.on)
  | none=>false

theorem Region.waits_spec {ops:Array Oper} {md:Region.Mode} {up:Array Bool} {i h:Nat} {ch:List Nat} (hw:Region.waits md ops up i h ch=true) :
  h∈ch∧(∀c∈ch,up.getD c true=false)∧∀c∈ch,∀o,ops[c]?=some o→∃e∈o.after,Region.binds md e=true∧(e.on=i∨e.on∈ch):=by
 unfold Region.waits at hw
 simp only [Bool.and_eq_true,List.contains_iff_mem,List.all_eq_true,Bool.not_eq_true'] at hw
 refine ⟨hw.1,fun c hc=>(hw.2 c hc).1,fun c hc o ho=>?_⟩
 have h2:=(hw.2 c hc).2
 rw [ho] at h2
 obtain ⟨e,he,hb⟩:=Array.any_eq_true'.1 h2
 simp only [Bool.and_eq_true,Bool.or_eq_true,beq_iff_eq,List.contains_iff_mem] at hb
 exact ⟨e,he,hb.1,hb.2⟩

theorem wpTill_first {P:Program} {ops:Array Oper} {Q:Exit→Act→World→Prop} {md:Region.Mode} {S:World→Prop} {i h:Nat} {oi:Oper} {v:Value} {ch:List Nat} (hi:ops[i]?=some oi) (hsel:∀(j:Nat) (o:Oper) cs b,ops[j]?=some o→o.op≠.select cs b)
    (hQ:∀c a w,Q (.panic c) (a.put oi.dst v) w→Q (.panic c) a w) (hh:h∈ch)
    (hch:∀c∈ch,∀o,ops[c]?=some o→∃e∈o.after,Region.binds md e=true∧(e.on=i∨e.on∈ch)) :
    ∀(n:Nat) (up:Array Bool) (a:Act) (w:World),
      (∀j oj,ops[j]?=some oj→j≠i→up.getD j true=false→(∀e∈oj.after,Region.binds md e=true→e.on≠i)→oi.apart ops oj=true) →
      i∈Region.ready md ops up→(∀c∈ch,up.getD c true=false)→YieldsIf P ops S oi v a→S w →
      wpTill P md ops Q S h n (up.setIfInBounds i true) (a.put oi.dst v) w→wpTill P md ops Q S h (n+1) up a w:=by
  have key:∀(up:Array Bool) (j:Nat),i∈Region.ready md ops up→(∀c∈ch,up.getD c true=false)→j∈Region.ready md ops up→j ∉ ch:=by
    intro up j hr hc hj hm
    obtain ⟨_,oj,hoj,hall⟩:=mem_ready.1 hj
    obtain ⟨e,he,hb,hon⟩:=hch j hm oj hoj
    have h1:=hall e he hb
    have h0:up.getD e.on true=false:=by
      rcases hon with hon | hon
      · rw [hon];exact (mem_ready.1 hr).1
      · exact hc _ hon
    rcases Nat.lt_or_ge e.on up.size with h' | h'
    · simp [h'] at h0 h1;rw [h0] at h1;cases h1
    · simp [Array.getElem?_eq_none h'] at h1
  intro n
  induction n with
  | zero =>
    intro up a w _ hr hc hy hS H
    refine ⟨fun g=>(by rw [g] at hr;cases hr),fun j hj=>?_⟩
    by_cases hji:j=i
    · subst hji;exact hy.wpOp hi hS ⟨fun _=>hS,H⟩
    · have:=ready_mono hj hji
      rw [H.1] at this
      cases this
  | succ n ih =>
    intro up a w hfree hr hc hy hS H
    refine ⟨fun g=>(by rw [g] at hr;cases hr),fun j hj=>?_⟩
    by_cases hji:j=i
    · subst hji;exact hy.wpOp hi hS ⟨fun _=>hS,H⟩
    · have h1:=H.2 j (ready_mono hj hji)
      have hjc:=key up j hr hc hj
      have hic:=key up i hr hc hr
      obtain ⟨hjun,oj,hoj,hall⟩:=mem_ready.1 hj
      have hnot:∀e∈oj.after,Region.binds md e=true→e.on≠i:=fun e he hb heq=>by
        have h1:=hall e he hb
        have h0:=(mem_ready.1 hr).1
        rw [heq] at h1
        rcases Nat.lt_or_ge i up.size with h' | h'
        · simp [h'] at h0 h1;rw [h0] at h1;cases h1
        · simp [Array.getElem?_eq_none h'] at h1
      have h2:=wpOp_putIf hoj (hfree j oj hoj hji hjun hnot) (fun cs b=>hsel i oi cs b hi) (fun cs b=>hsel j oj cs b hoj) hQ hy h1
      have hc':∀c∈ch,(up.setIfInBounds j true).getD c true=false:=fun c hm=>by
        rw [getD_set_ne true (show j≠c from fun e=>hjc (e ▸ hm))]
        exact hc c hm
      have hfree' : ∀ k ok, ops[k]? = some ok → k ≠ i → (up.setIfInBounds j true).getD k true = false →
          (∀e∈ok.after,Region.binds md e=true→e.on≠i)→oi.apart ops ok=true:=fun k ok hk hki hun hno=>by
        refine hfree k ok hk hki ?_ hno
        by_cases hjk:j=k
        · subst hjk;exact hjun
        · rw [getD_set_ne true hjk] at hun;exact hun
      refine wpOp_mono (fun b x h3=>?_) h2
      have hS':S x:=h3.2.1 (by
        rw [getD_set_ne true (show j≠h from fun e=>hjc (e ▸ hh)),getD_set_ne true (show i≠h from fun e=>hic (e ▸ hh))]
        exact hc h hh)
      refine ⟨fun _=>hS',ih (up.setIfInBounds j true) b x hfree' (ready_mono hr (Ne.symm hji)) hc' h3.1 hS' ?_⟩
      rw [Array.setIfInBounds_comm _ _ hji]
      exact h3.2.2

theorem wtk {P:Program} {ops:Array Oper} {Q:Exit→Act→World→Prop} {md:Region.Mode} {S:World→Prop} {i h:Nat} {oi:Oper} {v:Value} {n:Nat} {up:Array Bool} {a:Act} {w:World} (ch:List Nat) (hi:ops[i]?=some oi)
  (hs:Region.noSelect ops=true) (hf:Region.free md ops up i=true) (hr:(Region.ready md ops up).contains i=true) (hw:Region.waits md ops up i h ch=true)
  (hQ:∀c a w,Q (.panic c) (a.put oi.dst v) w→Q (.panic c) a w) (hS:S w) (hy:YieldsIf P ops S oi v a)
  (H:wpTill P md ops Q S h n (up.setIfInBounds i true) (a.put oi.dst v) w):wpTill P md ops Q S h (n+1) up a w:=by
 obtain ⟨hh,hc,hch⟩:=Region.waits_spec hw
 exact wpTill_first hi (Region.noSelect_spec hs) hQ hh hch n up a w (Region.free_spec hi hf) (by simpa using hr) hc hy hS H

theorem wto {P:Program} {ops:Array Oper} {Q:Exit→Act→World→Prop} {md:Region.Mode} {S:World→Prop} {j h:Nat} {o:Oper} {n:Nat} {up:Array Bool} {a:Act} {w:World} (hr:Region.ready md ops up=[j]) (ho:ops[j]?=some o)
  (H:∀K:Act→World→Prop,Shut (∀b x,((up.setIfInBounds j true).getD h true=false→S x)→wpTill P md ops Q S h n (up.setIfInBounds j true) b x→K b x)→if Region.wanted o (yielded ops a.tmps)=true then Oper.wp P o a w K Q else K (a.put o.dst undef) w) :
  wpTill P md ops Q S h (n+1) up a w:=by
 refine ⟨fun g=>(by rw [hr] at g;cases g),fun i hi=>?_⟩
 rw [hr] at hi
 obtain rfl:i=j:=by simpa using hi
 exact wpOp_step ho (fun K hK=>H K (fun b x h1 h2=>hK b x ⟨h1,h2⟩))

theorem wpTill_done {P:Program} {ops:Array Oper} {Q:Exit→Act→World→Prop} {md:Region.Mode} {S:World→Prop} {h:Nat} {up:Array Bool} {a:Act} {w:World} (hr:Region.ready md ops up=[]) (H:Q .normal a w):∀n,wpTill P md ops Q S h n up a w
 | 0=>⟨hr,H⟩
 | _+1=>⟨fun _=>H,by rw [hr];simp⟩

theorem wp_region_till {P:Program} {ops:Array Oper} {Q:Exit→Act→World→Prop} {S:World→Prop} {h id:Nat} {a:Act} {w:World} (hm:P.follows .mixedOrders=true)
  (H:wpTill P .any ops Q S h ops.size (Array.replicate ops.size false) a w.drew):(Code.region id ops true).wp P Q a w :=
 wp_region_any hm (wpAny_of_till _ _ _ _ H)

end Go.Proofs.YtbanjoflgoiegaaGreat
