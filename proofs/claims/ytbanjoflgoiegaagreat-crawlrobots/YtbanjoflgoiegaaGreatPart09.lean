import Derived.Test.YtbanjoflgoiegaaGreatPart08
import Derived.Deep.Quiet
import Derived.Deep.QuietTactic
set_option maxHeartbeats 1600000
set_option maxRecDepth 8000
namespace Go.Proofs.YtbanjoflgoiegaaGreat
open Go.Proofs.Tryz
open Go.RowKit
def Fl.Std(a:Nat)(x:Int):Prop :=
 (∀b y,Fl.mR b y->-4503599627370496<y->y<4503599627370496->Ieee.double.order a b=some (compare x y)/\Ieee.double.order b a=some (compare y x))/\(-9007199254740992<x->x<9007199254740992->floatToIntVal .f64 a .i64=some x)
theorem Fl.uD(x:Int)(h1:-9223372036854775808<=x)(h2:x<=9223372036854775807):Fl.Std (floatOfInt .f64 x) x :=
 ⟨fun _ _ hb h3 h4=>Fl.Ms x h1 h2 hb h3 h4,fun h3 h4=>Fl.lb (Fl.eZ x h3 h4) h3 h4⟩
theorem Fl.Ll{a:Nat}{x:Int}(h:Fl.mR a x):Fl.Std a x :=
 ⟨fun _ _ hb _ _=>⟨Fl.pq h hb,Fl.pq hb h⟩,fun h3 h4=>Fl.lb h h3 h4⟩
def Nv.bw(x y:Int):Int:=if Gr.iS x y=true then y*24+x else -1
theorem nr(x y:Int)(w:World):Calls prog 167 #[.int .i64 x,.int .i64 y] w fun e w'=>e=.returned (.complex .f64 (floatOfInt .f64 x) (floatOfInt .f64 y))/\w'=w:=by
 go_enter func167,ntmps167;go_wp2;go_ret;exact⟨rfl,rfl⟩
theorem pW(a b:Nat)(x y:Int)(w:World)(ha:Fl.Std a x)(hb:Fl.Std b y):Calls prog 166 #[.complex .f64 a b] w fun e w'=>e=.returned (.int .i64 (Nv.bw x y))/\w'=w:=by
 have k1:(FloatKind.f64.format.order a 0==some .lt)=decide (x<0):=by
  rw[show FloatKind.f64.format=Ieee.double from rfl,(ha.1 0 0 Fl.Li (by omega) (by omega)).1,Fl.Nq]
 have k2:(FloatKind.f64.format.order a 4627448617123184640==some .gt||FloatKind.f64.format.order a 4627448617123184640==some .eq)=decide (24<=x):=by
  rw[show FloatKind.f64.format=Ieee.double from rfl,(ha.1 _ 24 Fl.Vf (by omega) (by omega)).1,Fl.Np]
 have k3:(FloatKind.f64.format.order b 0==some .lt)=decide (y<0):=by
  rw[show FloatKind.f64.format=Ieee.double from rfl,(hb.1 0 0 Fl.Li (by omega) (by omega)).1,Fl.Nq]
 have k4:(FloatKind.f64.format.order b 4625196817309499392==some .gt||FloatKind.f64.format.order b 4625196817309499392==some .eq)=decide (16<=y):=by
  rw[show FloatKind.f64.format=Ieee.double from rfl,(hb.1 _ 16 Fl.Ve (by omega) (by omega)).1,Fl.Np]
 by_cases h1:x<0
 ·rw[abJ h1]at k1;have he:Hid (Nv.bw x y=-1):=abO (by rw[Gr.bz];omega);clear k2 k3 k4 ha hb;go_enter func166,ntmps166;go_wp2;go_ret;exact⟨rti (uh he).symm,rfl⟩
 ·rw[abI h1]at k1;by_cases h2:24<=x
  ·rw[abJ h2]at k2;have he:Hid (Nv.bw x y=-1):=abO (by rw[Gr.bz];omega);clear k3 k4 ha hb;go_enter func166,ntmps166;go_wp2;go_ret;exact⟨rti (uh he).symm,rfl⟩
  ·rw[abI h2]at k2;by_cases h3:y<0
   ·rw[abJ h3]at k3;have he:Hid (Nv.bw x y=-1):=abO (by rw[Gr.bz];omega);clear k4 ha hb;go_enter func166,ntmps166;go_wp2;go_ret;exact⟨rti (uh he).symm,rfl⟩
   ·rw[abI h3]at k3;by_cases h4:16<=y
    ·rw[abJ h4]at k4;have he:Hid (Nv.bw x y=-1):=abO (by rw[Gr.bz];omega);clear ha hb;go_enter func166,ntmps166;go_wp2;go_ret;exact⟨rti (uh he).symm,rfl⟩
    ·rw[abI h4]at k4;have he:Hid (Nv.bw x y=y*24+x):=abP (by rw[Gr.bz];omega);have t1:=ha.2 (by omega) (by omega);have t2:=hb.2 (by omega) (by omega);have Re:=fun w:World=>run_convert_float_int (P:=prog) w 176 3 .f64 .i64 a _ (by kernel_rfl) (by kernel_rfl) t1;have pk:=fun w:World=>run_convert_float_int (P:=prog) w 176 3 .f64 .i64 b _ (by kernel_rfl) (by kernel_rfl) t2;clear t1 t2 ha hb;go_enter func166,ntmps166;go_wp2;go_ret;exact⟨rti (uh he).symm,rfl⟩
theorem PA(n:Int)(w:World):Calls prog 221 #[.int .i64 n] w fun e w'=>e=.returned (.complex .f64 (floatOfInt .f64 (Fx.bh n).1) (floatOfInt .f64 (Fx.bh n).2))/\w'=w:=by
 go_enter func221,ntmps221;go_wp2_with (first| (go_at_call 113;refine abW (FN _ _) ?_)|(go_at_call 167;refine abW (nr _ _ _) ?_));go_ret;exact⟨rfl,rfl⟩
def Nv.besideFrom(dx dy:Int):Nat->Nat->Int
 | 0,_=>0
 | m+1,k=>if (Fx.bh (k:Int)).1=dx/\(Fx.bh (k:Int)).2=dy then(k:Int)else Nv.besideFrom dx dy m (k+1)
def Nv.ez(dx dy:Int):Int:=Nv.besideFrom dx dy 4 1
theorem nY(x y:Int)(w:World)(h1:-9223372036854775808<=x)(h2:x<=9223372036854775807)(h3:-9223372036854775808<=y)(h4:y<=9223372036854775807):Calls prog 166 #[.complex .f64 (floatOfInt .f64 x) (floatOfInt .f64 y)] w fun e w'=>e=.returned (.int .i64 (Nv.bw x y))/\w'=w :=
 pW _ _ x y w (Fl.uD x h1 h2) (Fl.uD y h3 h4)
theorem It(n:Int)(w:World):Calls prog 221 #[.int .i64 n] w fun e w'=>∃a b,e=.returned (.complex .f64 a b)/\Fl.mR a (Fx.bh n).1/\Fl.mR b (Fx.bh n).2/\w'=w:=by
 have hb:=Fx.oa n;refine(PA n w).mono ?_;rintro e w' ⟨rfl,rfl⟩;exact⟨_,_,rfl,Fl.eZ _ (by omega) (by omega),Fl.eZ _ (by omega) (by omega),rfl⟩
theorem py(n:Int)(h:-9223372036854775808<=n/\n<=9223372036854775807):wrap64 n=n:=by unfold wrap64;omega
theorem px(z:Int):-9223372036854775808<=wrap64 z/\wrap64 z<=9223372036854775807:=by unfold wrap64;omega
theorem Nv.mZ{dx dy:Int}:∀(m k i:Nat),(∀j,i<=j->j<k->¬((Fx.bh (j:Int)).1=dx/\(Fx.bh (j:Int)).2=dy))->((Fx.bh (k:Int)).1=dx/\(Fx.bh (k:Int)).2=dy)->i<=k->k<i+m->Nv.besideFrom dx dy m i=(k:Int)
  | 0,k,i,_,_,h1,h2=>by omega
  | m+1,k,i,hno,hk,h1,h2 => by
      unfold Nv.besideFrom
      by_cases e:i=k
      · rw[e,abP hk]
      · rw[abO (hno i (abL _) (by omega)),Nv.mZ m k (i+1) (fun j SM sN=>hno j (by omega) sN) hk (by omega) (by omega)]
theorem Nv.kV{dx dy:Int}:∀(m i:Nat),(∀j,i<=j->j<i+m->¬((Fx.bh (j:Int)).1=dx/\(Fx.bh (j:Int)).2=dy))->Nv.besideFrom dx dy m i=0
  | 0,_,_=>rfl
  | m+1,i,hno => by
      unfold Nv.besideFrom
      rw[abO (hno i (abL _) (by omega)),Nv.kV m (i+1) (fun j SM sN=>hno j (by omega) (by omega))]
theorem IV(x0 y0 x1 y1:Int)(w:World):Calls prog 214 #[.int .i64 x0,.int .i64 y0,.int .i64 x1,.int .i64 y1] w fun e w'=>e=.returned (.int .i64 (Nv.ez (wrap64 (x1-x0)) (wrap64 (y1-y0))))/\w'=w:=by
 obtain⟨DX,hx⟩:∃D,D=wrap64 (x1-x0):=⟨_,rfl⟩;obtain⟨DY,hy⟩:∃D,D=wrap64 (y1-y0):=⟨_,rfl⟩;have bx:=aa (Fl.uD DX (by rw[hx];exact(px _).1) (by rw[hx];exact(px _).2));have by':=aa (Fl.uD DY (by rw[hy];exact(px _).1) (by rw[hy];exact(px _).2))
 have K8:=aa hx;have IN:=aa hy;rw[<-hx,<-hy];clear hx hy;go_enter func214,ntmps214;go_wp2_with (go_at_call 167;refine abW (nr _ _ _) ?_;rw[<-uh K8,<-uh IN]);generalize hA:floatOfInt FloatKind.f64 DX=A at bx;generalize hB:floatOfInt FloatKind.f64 DY=B at by'
 go_loop [10] (fun i=>∃k:Nat,1<=k/\k<=5/\i=.int .i64 (k:Int)/\∀j:Nat,1<=j->j<k->¬((Fx.bh (j:Int)).1=DX/\(Fx.bh (j:Int)).2=DY)) (fun i=>5-(intOf i).toNat)
 case atStart=>exact⟨1,by omega,by omega,rfl,fun j h1 h2=>by omega⟩
 case round =>
  obtain⟨k,h1,h5,rfl,hno⟩:=hrel;have aT:=aa hno;clear hno hA hB;by_cases hlt:k<=4
  ·have hlt':(k:Int)<=4:=by omega
   have HL:=aa hlt;have H1:=aa h1;clear hlt h1 h5;have tA:=aa (Fx.oa (k:Int));go_wp2_with fail;refine(It _ _).mono ?_;rintro e w1 ⟨a,b,rfl,ra,rb,rfl⟩;have wb:=uh tA;have k1:(FloatKind.f64.format.order a A==some .eq)=decide ((Fx.bh (k:Int)).1=DX):=by
    rw[show FloatKind.f64.format=Ieee.double from rfl,((uh bx).1 _ _ ra (by omega) (by omega)).2,Fl.No]
   have k2:(FloatKind.f64.format.order b B==some .eq)=decide ((Fx.bh (k:Int)).2=DY):=by
    rw[show FloatKind.f64.format=Ieee.double from rfl,((uh by').1 _ _ rb (by omega) (by omega)).2,Fl.No]
   clear ra rb wb;by_cases hq:(Fx.bh (k:Int)).1=DX/\(Fx.bh (k:Int)).2=DY
   ·rw[abJ hq.1]at k1;rw[abJ hq.2]at k2;have he:Hid (Nv.ez DX DY=(k:Int)):=Nv.mZ 4 k 1 (uh aT) hq (uh H1) (by have:=uh HL;omega);clear hq;go_wp2;go_ret;exact⟨rti (uh he).symm,rfl⟩
   ·have k3:(FloatKind.f64.format.order a A==some .eq&&FloatKind.f64.format.order b B==some .eq)=false:=by
     rw[k1,k2];by_cases h:(Fx.bh (k:Int)).1=DX
     ·rw[abI (fun h2=>hq ⟨h,h2⟩),Bool.and_false]
     ·rw[abI h,Bool.false_and]
    have kp:=aa hq;clear k1 k2 hq;go_wp2
    go_round
    case rel=>exact⟨k+1,by have:=uh H1;omega,by have:=uh HL;omega,by go_num,fun j h1 h2=>by
     by_cases e:j=k
     ·rw[e];exact uh kp
     ·exact uh aT j h1 (by omega)⟩
    case measure=>have:=uh HL;simp[intOf];omega
  ·have hge:¬(k:Int)<=4:=by omega
   have he:Hid (Nv.ez DX DY=0):=Nv.kV 4 1 fun j h1 h2=>uh aT j h1 (by omega);go_wp2;go_ret;exact⟨rti (uh he).symm,rfl⟩
variable{E:N2}{n:Nat}
theorem nU(e:N1)(w:World):Calls prog 142 #[.agg (En.cells e)] w (aJ w (.bool (decide (e 0=0)))):=by
 unfold En.cells;go_enter func142,ntmps142;go_wp2;go_ret;exact⟨rfl,abE _ _ _⟩
theorem J6(a:Option Addr)(len aG k:Nat)(w:World)(hk:k<=aG):(Instr.slice 26 (.slice a len aG) none (some (.int .i64 (k:Int))) none).run prog w=.ok (.slice a k aG) w:=by
 have hs:(sizeOf (prog.elem 26)).run prog w=.ok 11 w:=by kernel_rfl
 rw[run_slice_h w 26 a len aG (by kernel_rfl) .i64 (k:Int) (by omega) (by omega),hs];have e:a.map (fun x=>x.add (0*11))=a:=by
  cases a with
  | none=>rfl
  | some x=>simp[Addr.add]
 simp only[Result.andThen,sliced,e,abG,Nat.sub_zero,ite_self]
theorem nu(a:Option Addr)(n c:Nat)(w:World)(hn:n<=32)(hc:n<=c):Calls prog 141 #[.slice a n c] w fun e w'=>e=.returned (.slice a n c)/\w'=w:=by
 have hs:=fun wx=>J6 a n c n wx hc;have hm:min (n:Int) 32=(n:Int):=by omega
 go_enter func141,ntmps141;go_wp2;go_ret;exact⟨rfl,rfl⟩
def En.tC(n:Nat)(row:Int):Bool:=decide (0<=row/\row<n)
theorem yi(a:Option Addr)(n c:Nat)(row:Int)(w:World)(hn:n<=32)(hc:n<=c):Calls prog 145 #[.slice a n c,.int .i64 row] w fun e w'=>e=.returned (.bool (En.tC n row))/\w'=w:=by
 have ju:(n:Int)<=32:=by omega
 by_cases h:0<=row
 ·by_cases h2:row<(n:Int)
  ·have hd:Hid (En.tC n row=true):=abJ (show 0<=row/\row<(n:Int) from⟨h,h2⟩);go_enter func145,ntmps145;go_wp2_with (go_at_call 141;refine abW (nu _ _ _ _ hn hc) ?_);go_ret;exact⟨aO (uh hd).symm,rfl⟩
  ·have hd:Hid (En.tC n row=false):=abI (show¬(0<=row/\row<(n:Int)) by omega);go_enter func145,ntmps145;go_wp2_with (go_at_call 141;refine abW (nu _ _ _ _ hn hc) ?_);go_ret;exact⟨aO ((abI (show¬row<(n:Int) by omega)).trans (uh hd).symm),rfl⟩
 ·have hd:Hid (En.tC n row=false):=abI (show¬(0<=row/\row<(n:Int)) by omega);go_enter func145,ntmps145;go_wp2;go_ret;exact⟨aO (uh hd).symm,rfl⟩
def En.id(n:Nat)(E:N2)(row:Int):Int:=if 0<=row/\row<n/\E row.toNat 0≠0 then row+32*E row.toNat 1 else -1
theorem En.SZ{k:Nat}(hk:k<n)(h:E k 0≠0):En.id n E (k:Int)=(k:Int)+32*E k 1:=by
 unfold En.id;rw[abG,abP ⟨by omega,by omega,h⟩]
theorem En.K9{k:Nat}(h:E k 0=0):En.id n E (k:Int)=-1:=by
 unfold En.id;rw[abG,abO (by rintro⟨_,_,h'⟩;exact h' h)]
theorem En.JF{row:Int}(h:¬(0<=row/\row<n)):En.id n E row=-1:=by
 unfold En.id;rw[abO (by rintro⟨h1,h2,_⟩;exact h ⟨h1,h2⟩)]
def En.sn(n:Nat)(E:N2):Prop:=∀i,i<n->0<=E i 1/\E i 1<=255
theorem OD(b n c:Nat)(E:N2)(row:Int)(w:World)(hE:fG w b n E)(hc:n<=c)(hG:En.sn n E):Calls prog 154 #[.slice (some ⟨b,0,none⟩) n c,.int .i64 row] w (aJ w (.int .i64 (En.id n E row))):=by
 have hn:=hE.1;have cr:∀x:World,Calls prog 145 #[.slice (some ⟨b,0,none⟩) n c,.int .i64 row] x fun e w'=>e=.returned (.bool (En.tC n row))/\w'=x:=fun x=>yi _ n c row x hn hc;by_cases h:0<=row/\row<(n:Int)
 ·obtain⟨k,rfl⟩:∃k:Nat,row=(k:Int):=⟨row.toNat,by omega⟩;have hk:k<n:=by omega
  have jy:(k:Int)<(n:Int):=by omega
  have abk:(k:Int)<32:=by omega
  obtain⟨g0,g1⟩:=hG k hk;have hd:En.tC n (k:Int)=true:=abJ h;rw[hd]at cr;have u:∀j,j<11->w.cell? ⟨b,k*11+j,none⟩=some (.int .i64 (E k j)):=fun j hj=>hE.2.2 k j hk hj;have u0:=u 0 (by omega);rw[Nat.add_zero]at u0;have u1:=u 1 (by omega);have u2:=u 2 (by omega);have u3:=u 3 (by omega);have u4:=u 4 (by omega);have u5:=u 5 (by omega);have u6:=u 6 (by omega);have u7:=u 7 (by omega);have u8:=u 8 (by omega);have u9:=u 9 (by omega);have iO:=u 10 (by omega);have iQ:=aa hE;have cf:=aa (nU (E k) w);have dc:Hid (∀x,w.grownBy x none->x.cell? ⟨b,k*11+1,none⟩=some (.int .i64 (E k 1))):=fun x hg=>(hE.on hg).2.2 k 1 hk (by omega);clear hE hG hd u h;by_cases hf:E k 0=0
  ·have he:=aa (En.K9 (n:=n) hf);have xo:=aa (abJ hf);clear hf;go_enter func154,ntmps154;go_wp2_with (go_at_call 145;refine abW (cr _) ?_);refine aaR (uh cf) fun w1 hg=>?_;rw[uh xo];have nQ:=aa hg;clear u0 u1 u2 u3 u4 u5 u6 u7 u8 u9 iO hg;go_wp2;go_ret;exact⟨rti (uh he).symm,uh nQ⟩
  ·have he:=aa (En.SZ hk hf);have xo:=aa (abI hf);clear hf;go_enter func154,ntmps154;go_wp2_with (go_at_call 145;refine abW (cr _) ?_);refine aaR (uh cf) fun w1 hg=>?_;rw[uh xo];have u:=uh dc w1 hg;have nQ:=aa hg;clear u0 u1 u2 u3 u4 u5 u6 u7 u8 u9 iO hg;go_wp2;go_ret;exact⟨rti (uh he).symm,uh nQ⟩
 ·have he:=aa (En.JF (E:=E) h);have hd:En.tC n row=false:=abI h;rw[hd]at cr;clear hE hG hd h;go_enter func154,ntmps154;go_wp2_with (go_at_call 145;refine abW (cr _) ?_);go_ret;exact⟨rti (uh he).symm,abF _ _⟩
variable{n:Nat}{q:Nat->Bool}
def En.firstFrom(q:Nat->Bool):Nat->Nat->Int
 | 0,_=>-1
 | m+1,k=>if q k=true then(k:Int)else En.firstFrom q m (k+1)
def En.first(q:Nat->Bool)(n:Nat):Int:=En.firstFrom q n 0
theorem En.mZ{q:Nat->Bool}:∀(m k i:Nat),(∀j,i<=j->j<k->q j=false)->q k=true->i<=k->k<i+m->En.firstFrom q m i=(k:Int)
  | 0,k,i,_,_,h1,h2=>by omega
  | m+1,k,i,hno,hk,h1,h2 => by
      unfold En.firstFrom
      by_cases e:i=k
      · rw[e,abP hk]
      · rw[abO (by rw[hno i (abL _) (by omega)];simp),En.mZ m k (i+1) (fun j SM sN=>hno j (by omega) sN) hk (by omega) (by omega)]
theorem En.kV{q:Nat->Bool}:∀(m i:Nat),(∀j,i<=j->j<i+m->q j=false)->En.firstFrom q m i=-1
  | 0,_,_=>rfl
  | m+1,i,hno => by
      unfold En.firstFrom
      rw[abO (by rw[hno i (abL _) (by omega)];simp),En.kV m (i+1) (fun j SM sN=>hno j (by omega) (by omega))]
theorem En.cG{k:Nat}(hno:∀j,j<k->q j=false)(hk:q k=true)(hn:k<n):En.first q n=(k:Int) :=
 En.mZ n k 0 (fun j _ h=>hno j h) hk (by omega) (by omega)
theorem En.bt(hno:∀j,j<n->q j=false):En.first q n=-1 :=
 En.kV n 0 (fun j _ h=>hno j (by omega))
theorem En.aw(q:Nat->Bool)(n:Nat):(En.first q n=-1/\∀j,j<n->q j=false)\/∃k,k<n/\En.first q n=(k:Int)/\q k=true/\∀j,j<k->q j=false:=by
 induction n with
 | zero=>exact .inl ⟨rfl,fun j h=>by omega⟩
 | succ n ih =>
  rcases ih with⟨_,hno⟩|⟨k,hk,_,hq,hno⟩
  ·by_cases hq:q n=true
   ·exact .inr ⟨n,by omega,En.cG hno hq (by omega),hq,hno⟩
   ·have h:∀j,j<n+1->q j=false:=fun j hj=>by
     by_cases e:j=n
     ·rw[e];simpa using hq
     ·exact hno j (by omega)
    exact .inl ⟨En.bt h,h⟩
  ·exact .inr ⟨k,by omega,En.cG hno hq (by omega),hq,hno⟩
theorem En.tn{r:Nat->Bool}(h:∀j,j<n->q j=r j):En.first q n=En.first r n:=by
 rcases En.aw q n with⟨h1,hno⟩|⟨k,hk,h1,hq,hno⟩
 ·rw[h1,En.bt (fun j hj=>(h j hj).symm.trans (hno j hj))]
 ·rw[h1,En.cG (fun j hj=>(h j (by omega)).symm.trans (hno j hj)) ((h k hk).symm.trans hq) hk]
def En.gS(E:N2):Nat->Bool:=fun i=>decide (E i 0=0)
def En.eM (E:N2) (x y:Int):Nat->Bool:=fun i=>!(decide (E i 0=0))&&(decide (E i 3=x)&&decide (E i 4=y))
def En.dg (E:N2) (s:Int):Nat->Bool:=fun i=>decide (E i 0=1)&&decide (E i 2=s)
def En.ofQ (E:N2) (id:Int):Nat->Bool:=fun i=>!(decide (E i 0=0))&&decide ((i:Int)+32*E i 1=id)
theorem fG.row{w:World}{b:Nat}{E:N2}(h:fG w b n E){k:Nat}(hk:k<n):w.cell? ⟨b,k*11,none⟩=some (.int .i64 (E k 0))/\w.cell? ⟨b,k*11+1,none⟩=some (.int .i64 (E k 1))/\w.cell? ⟨b,k*11+2,none⟩=some (.int .i64 (E k 2))/\w.cell? ⟨b,k*11+3,none⟩=some (.int .i64 (E k 3)) /\
  w.cell? ⟨b,k*11+4,none⟩=some (.int .i64 (E k 4))/\w.cell? ⟨b,k*11+5,none⟩=some (.int .i64 (E k 5))/\w.cell? ⟨b,k*11+6,none⟩=some (.int .i64 (E k 6))/\w.cell? ⟨b,k*11+7,none⟩=some (.int .i64 (E k 7)) /\
  w.cell? ⟨b,k*11+8,none⟩=some (.int .i64 (E k 8))/\w.cell? ⟨b,k*11+9,none⟩=some (.int .i64 (E k 9))/\w.cell? ⟨b,k*11+10,none⟩=some (.int .i64 (E k 10)) :=
 ⟨h.2.2 k 0 hk (by omega),h.2.2 k 1 hk (by omega),h.2.2 k 2 hk (by omega),h.2.2 k 3 hk (by omega),h.2.2 k 4 hk (by omega),h.2.2 k 5 hk (by omega),h.2.2 k 6 hk (by omega),h.2.2 k 7 hk (by omega),h.2.2 k 8 hk (by omega),h.2.2 k 9 hk (by omega),h.2.2 k 10 hk (by omega)⟩
theorem Qq(b n c p0 p1 p2 k:Nat)(E:N2)(x y:Int)(w:World)(hE:fG w b n E)(hk:k<n)(ub:w.cell? ⟨p0,0,none⟩=some (.slice (some ⟨b,0,none⟩) n c))(IM:w.cell? ⟨p1,0,none⟩=some (.int .i64 x))(Xp:w.cell? ⟨p2,0,none⟩=some (.int .i64 y)):Calls prog 140 #[.int .i64 (k:Int),.pointer (some ⟨p0,0,none⟩),.pointer (some ⟨p1,0,none⟩),.pointer (some ⟨p2,0,none⟩)] w (aJ w (.bool (decide (E k 3=x)&&decide (E k 4=y)))):=by
 obtain⟨_,_,_,u3,u4,_⟩:=hE.row hk;have jy:(k:Int)<(n:Int):=by omega
 have fC:Hid (∀m,w.grownBy (w.drewN m) none):=fun m=>gdw (abF _ _) m;clear hE;by_cases h3:E k 3=x
 ·by_cases h4:E k 4=y
  ·have hd:=aa (show(decide (E k 3=x)&&decide (E k 4=y))=true by simp[h3,h4]);rw[h3]at u3;rw[h4]at u4;clear h3 h4;go_enter func140,ntmps140;go_wp2_with fail;go_quiet (fail);go_wp2;go_ret;exact⟨aO (uh hd).symm,uh fC _⟩
  ·have hd:=aa (show(decide (E k 3=x)&&decide (E k 4=y))=false by simp[h4]);rw[h3]at u3;clear h3;go_enter func140,ntmps140;go_wp2_with fail;go_quiet (fail);go_wp2;go_ret;exact⟨aO (uh hd).symm,uh fC _⟩
 ·have hd:=aa (show(decide (E k 3=x)&&decide (E k 4=y))=false by simp[h3]);go_enter func140,ntmps140;go_wp2_with fail;go_quiet (fail);go_wp2;go_ret;exact⟨aO (uh hd).symm,uh fC _⟩
theorem LQ(b n c p0 p1 k:Nat)(E:N2)(ag:Int)(w:World)(hE:fG w b n E)(hk:k<n)(ub:w.cell? ⟨p0,0,none⟩=some (.slice (some ⟨b,0,none⟩) n c))(IM:w.cell? ⟨p1,0,none⟩=some (.int .i64 ag)):Calls prog 109 #[.int .i64 (k:Int),.pointer (some ⟨p0,0,none⟩),.pointer (some ⟨p1,0,none⟩)] w (aJ w (.bool (decide (E k 0=1)&&decide (E k 2=ag)))):=by
 obtain⟨u0,_,u2,_⟩:=hE.row hk;have jy:(k:Int)<(n:Int):=by omega
 have fC:Hid (∀m,w.grownBy (w.drewN m) none):=fun m=>gdw (abF _ _) m;clear hE;by_cases h1:E k 0=1
 ·have hd:=aa (abJ h1);have ot:(E k 0==1)=true:=by simp[h1]
  clear h1;go_enter func109,ntmps109;go_wp2_with fail;go_quiet (fail);go_wp2;go_ret;exact⟨aO (by rw[uh hd,Bool.true_and];rfl),uh fC _⟩
 ·have hd:=aa (abI h1);have ot:(E k 0==1)=false:=by simp[h1]
  clear h1;go_enter func109,ntmps109;go_wp2_with fail;go_quiet (fail);go_wp2;go_ret;exact⟨aO (by rw[uh hd];simp),uh fC _⟩
end Go.Proofs.YtbanjoflgoiegaaGreat
namespace Go.Proofs.YtbanjoflgoiegaaGreat
open Go.Proofs.Tryz
namespace Gd
variable{I:N2}{ag x y:Int}{c r:N1}{n:Nat}
def row(k w a b:Int):Nat->Int
 | 0=>k
 | 1=>w
 | 2=>a
 | 3=>b
 | _=>0
def mN:Nat->Int:=fun _=>0
def OG(I:N2)(w a b:Int):Nat->Bool:=fun i=>decide (I i 1=w)&&(decide (I i 2=a)&&decide (I i 3=b))
def an(I:N2)(n:Nat)(w a b:Int):Int:=En.first (OG I w a b) n
def cY(I:N2)(n:Nat)(ag:Int):Int:=En.first (fun b=>decide (an I n 2 ag (b:Int)<0)) 4
def GJ(I:N2)(n:Nat)(ag lo hi:Int):Nat->Bool:=fun b=>decide (0<=an I n 2 ag (b:Int))&&(decide (lo<=I (an I n 2 ag (b:Int)).toNat 0)&&decide (I (an I n 2 ag (b:Int)).toNat 0<=hi))
def lF(I:N2)(n:Nat)(ag lo hi:Int):Int:=if 0<=En.first (GJ I n ag lo hi) 4 then an I n 2 ag (En.first (GJ I n ag lo hi) 4)else -1
def ja(I:N2)(n:Nat):Int:=if 0<=En.first (fun k=>decide (0<=an I n 4 (k:Int) 0)) 3 then an I n 4 (En.first (fun k=>decide (0<=an I n 4 (k:Int) 0)) 3) 0 else -1
theorem fL(I:N2)(n:Nat)(w a b:Int):(an I n w a b=-1/\∀j,j<n->¬(I j 1=w/\I j 2=a/\I j 3=b))\/∃k:Nat,k<n/\an I n w a b=(k:Int)/\I k 1=w/\I k 2=a/\I k 3=b/\∀j,j<k->¬(I j 1=w/\I j 2=a/\I j 3=b):=by
 have conv:∀j,OG I w a b j=false->¬(I j 1=w/\I j 2=a/\I j 3=b):=fun j h ⟨h1,h2,h3⟩=>by simp[OG,h1,h2,h3]at h
 rcases En.aw (OG I w a b) n with⟨h,hno⟩|⟨k,hk,h,hq,hno⟩
 ·exact .inl ⟨h,fun j hj=>conv j (hno j hj)⟩
 ·simp only[OG,Bool.and_eq_true,decide_eq_true_eq]at hq;exact .inr ⟨k,hk,h,hq.1,hq.2.1,hq.2.2,fun j hj=>conv j (hno j hj)⟩
theorem mY{w a b:Int}(h:an I n w a b<0):an I n w a b=-1/\∀j,j<n->¬(I j 1=w/\I j 2=a/\I j 3=b):=by
 rcases fL I n w a b with h'|⟨k,_,h',_⟩
 ·exact h'
 ·omega
theorem gd{w a b:Int}(h:0<=an I n w a b):∃k:Nat,k<n/\an I n w a b=(k:Int)/\I k 1=w/\I k 2=a/\I k 3=b:=by
 rcases fL I n w a b with⟨h',_⟩|⟨k,hk,h',h1,h2,h3,_⟩
 ·omega
 ·exact⟨k,hk,h',h1,h2,h3⟩
theorem wu(h:0<=cY I n ag):cY I n ag<4/\∀j,j<n->¬(I j 1=2/\I j 2=ag/\I j 3=cY I n ag):=by
 unfold cY at *;rcases En.aw (fun b=>decide (an I n 2 ag (b:Int)<0)) 4 with⟨h',_⟩|⟨k,hk,h',hq,_⟩
 ·omega
 ·rw[h'];exact⟨by omega,(mY (by simpa using hq)).2⟩
theorem kO{lo hi:Int}(h:0<=lF I n ag lo hi):∃k:Nat,k<n/\lF I n ag lo hi=(k:Int)/\I k 1=2/\I k 2=ag/\0<=I k 3/\I k 3<4/\lo<=I k 0/\I k 0<=hi:=by
 unfold lF at *;rcases En.aw (GJ I n ag lo hi) 4 with⟨h',_⟩|⟨b,hb,h',hq,_⟩
 ·rw[abO (by omega)]at h;omega
 ·rw[abP (by omega),h']at *;simp only[GJ,Bool.and_eq_true,decide_eq_true_eq]at hq;obtain⟨k,hk,e,h1,h2,h3⟩:=gd hq.1;rw[e,abG]at hq;exact⟨k,hk,e,h1,h2,by omega,by omega,hq.2.1,hq.2.2⟩
theorem wI(h:0<=ja I n):∃k:Nat,k<n/\ja I n=(k:Int)/\I k 1=4:=by
 unfold ja at *;rcases En.aw (fun k=>decide (0<=an I n 4 (k:Int) 0)) 3 with⟨h',_⟩|⟨b,hb,h',hq,_⟩
 ·rw[abO (by omega)]at h;omega
 ·rw[abP (by omega)]at h|-;obtain⟨k,hk,e,h1,_⟩:=gd h;exact⟨k,hk,e,h1⟩
def Tt(r:N1):Prop:=r 0=0/\r 1=0/\r 2=0/\r 3=0
def lk(c:N1)(r:N1):Prop:=1<=r 0/\r 0<=4 /\
  ((r 1 = 1 /\ Gr.iS (r 2) (r 3) = true /\ Gr.aS (Gr.at 384 c (r 2) (r 3)) = true) \/
   (r 1 = 2 /\ 0 <= r 2 /\ r 2<4 /\ 0 <= r 3 /\ r 3<4 /\ r 0 ≠ 4) \/
   (r 1 = 3 /\ 0 <= r 2 /\ r 2<4 /\ (r 0 = 2 /\ r 3 = 0 \/ r 0 = 3 /\ r 3 = 1)) \/
   (r 1=4/\0<=r 2/\r 2<3/\r 3=0/\r 0≠4))
def mi(r s:N1):Prop:=r 1=s 1/\r 2=s 2/\r 3=s 3
structure Ok(c:N1)(n:Nat)(I:N2):Prop where
 LB:∀i,i<n->Tt (I i)\/lk c (I i)
 bo:∀i k,i<n->k<n->i≠k->I i 1≠0->¬mi (I k) (I i)
theorem lk.PQ(h:lk c r):r 1≠0:=by
 obtain⟨_,_,h|h|h|h⟩:=h <;> omega
theorem Ok.put(h:Ok c n I){i:Nat}(hr:Tt r\/(lk c r/\∀k,k<n->k≠i->¬mi (I k) r)):Ok c n (En.put I i r):=by
 refine⟨fun k hk=>?_,fun j k hj hk pG hw hs=>?_⟩
 ·by_cases e:k=i
  ·rw[e,En.aB];exact hr.imp id And.left
  ·rw[En.ak e];exact h.LB k hk
 ·by_cases ej:j=i
  ·rw[ej,En.aB]at hw hs;rw[En.ak (by omega)]at hs;rcases hr with hz|⟨_,hno⟩
   ·exact hw hz.2.1
   ·exact hno k hk (by omega) hs
  ·rw[En.ak ej]at hw hs;by_cases ek:k=i
   ·rw[ek,En.aB]at hs;rcases hr with hz|⟨_,hno⟩
    ·exact hw (by rw[<-hs.1];exact hz.2.1)
    ·exact hno j hj ej ⟨hs.1.symm,hs.2.1.symm,hs.2.2.symm⟩
   ·rw[En.ak ek]at hs;exact h.bo j k hj hk pG hw hs
theorem Ok.swap(h:Ok c n I){i j:Nat}(rH:i≠j){s:N1}(hi:i<n)(hj:j<n)(hwi:I i 1≠0)(hwj:I j 1≠0)(hr:lk c r)(hs:lk c s)(ri:mi r (I j))(sj:mi s (I i)):Ok c n (En.put (En.put I j s) i r):=by
 have at_i:En.put (En.put I j s) i r i=r:=En.aB _ _ _;have at_j:En.put (En.put I j s) i r j=s:=by rw[En.ak (by omega),En.aB]
 have at_k:∀k,k≠i->k≠j->En.put (En.put I j s) i r k=I k:=fun k h1 h2=>by rw[En.ak h1,En.ak h2]
 have tr:∀{a b d:N1},mi a b->mi b d->mi a d:=fun h1 h2=>⟨h1.1.trans h2.1,h1.2.1.trans h2.2.1,h1.2.2.trans h2.2.2⟩;have sy:∀{a b:N1},mi a b->mi b a:=fun h1=>⟨h1.1.symm,h1.2.1.symm,h1.2.2.symm⟩;have jM:¬mi r s:=fun e=>h.bo i j hi hj rH hwi (tr (sy ri) (tr e sj));have hk:∀k,k<n->k≠i->k≠j->¬mi (I k) r/\¬mi (I k) s:=fun k hk h1 h2 =>
  ⟨fun e=>h.bo j k hj hk (by omega) hwj (tr e ri),fun e=>h.bo i k hi hk (by omega) hwi (tr e sj)⟩
 refine⟨fun k hk=>?_,fun a b ha hb hab hw he=>?_⟩
 ·by_cases e1:k=i
  ·rw[e1,at_i];exact .inr hr
  ·by_cases e2:k=j
   ·rw[e2,at_j];exact .inr hs
   ·rw[at_k k e1 e2];exact h.LB k hk
 ·by_cases a1:a=i
  ·rw[a1,at_i]at he;by_cases b2:b=j
   ·rw[b2,at_j]at he;exact jM (sy he)
   ·rw[at_k b (by omega) b2]at he;exact(hk b hb (by omega) b2).1 he
  ·by_cases a2:a=j
   ·rw[a2,at_j]at he;by_cases b1:b=i
    ·rw[b1,at_i]at he;exact jM he
    ·rw[at_k b b1 (by omega)]at he;exact(hk b hb b1 (by omega)).2 he
   ·rw[at_k a a1 a2]at he hw;by_cases b1:b=i
    ·rw[b1,at_i]at he;exact(hk a ha a1 a2).1 (sy he)
    ·by_cases b2:b=j
     ·rw[b2,at_j]at he;exact(hk a ha a1 a2).2 (sy he)
     ·rw[at_k b b1 b2]at he;exact h.bo a b ha hb hab hw he
def pick(I:N2)(n:Nat)(ag x y:Int):Nat->Nat->Int :=
 if 0<=an I n 1 x y/\I (an I n 1 x y).toNat 0=4 then En.put I (an I n 1 x y).toNat mN
 else if 0<=an I n 1 x y/\0<=cY I n ag then En.put I (an I n 1 x y).toNat (row (I (an I n 1 x y).toNat 0) 2 ag (cY I n ag))
 else I
def use(I:N2)(n:Nat)(ag:Int):Nat->Nat->Int:=if 0<=lF I n ag 1 1 then En.put I (lF I n ag 1 1).toNat mN else I
def l7(I:N2)(n:Nat)(ag:Int)(i:Nat):Nat->Nat->Int :=
 if 0<=an I n 3 ag (I i 0-2)then En.put (En.put I (an I n 3 ag (I i 0-2)).toNat (row (I (an I n 3 ag (I i 0-2)).toNat 0) 2 (I (an I n 3 ag (I i 0-2)).toNat 2) (I i 3))) i (row (I i 0) 3 (I i 2) (I i 0-2))
 else En.put I i (row (I i 0) 3 (I i 2) (I i 0-2))
def FP(I:N2)(n:Nat)(ag:Int):Nat->Nat->Int:=if 0<=lF I n ag 2 3 then l7 I n ag (lF I n ag 2 3).toNat else I
def drop(I:N2)(n:Nat)(ag x y:Int):Nat->Nat->Int:=if 0<=lF I n ag 1 3/\an I n 1 x y<0 then En.put I (lF I n ag 1 3).toNat (row (I (lF I n ag 1 3).toNat 0) 1 x y)else I
def ze(I:N2)(n:Nat)(ag:Int)(jK:Bool)(ir:Int):Bool:=jK&&(decide (5<=ir)&&(decide (0<=cY I n ag)&&decide (0<=ja I n)))
def Qw(I:N2)(n:Nat)(ag:Int)(jK:Bool)(ir:Int):Nat->Nat->Int:=if ze I n ag jK ir=true then En.put I (ja I n).toNat (row (I (ja I n).toNat 0) 2 ag (cY I n ag))else I
def dQ(I:N2)(n:Nat)(ag x y:Int)(jK:Bool)(ir input:Int):Nat->Nat->Int :=
 if input=5 then pick I n ag x y else if input=6 then use I n ag else if input=7 then FP I n ag else if input=8 then drop I n ag x y else if input=10 then Qw I n ag jK ir else I
theorem Ok.of(h:Ok c n I){k:Nat}(hk:k<n)(hw:I k 1≠0):lk c (I k):=by
 rcases h.LB k hk with hz|hp
 ·exact absurd hz.2.1 hw
 ·exact hp
theorem tf:Tt mN:=⟨rfl,rfl,rfl,rfl⟩
theorem Ok.pick(h:Ok c n I)(s0:0<=ag)(s4:ag<4):Ok c n (pick I n ag x y):=by
 unfold Gd.pick;split
 ·exact h.put (.inl tf)
 ·rename_i hg;split
  ·rename_i hf;obtain⟨k,hk,e,h1,h2,h3⟩:=gd hf.1;obtain⟨f4,hno⟩:=wu hf.2;have hp:=h.of hk (by omega);have nQ:I k 0≠4:=fun e4=>hg ⟨hf.1,by rw[e,abG];exact e4⟩;rw[e,abG];refine h.put (.inr ⟨⟨hp.1,hp.2.1,.inr (.inl ⟨rfl,s0,s4,hf.2,f4,nQ⟩)⟩,fun j hj _ hs=>hno j hj ⟨hs.1,hs.2.1,hs.2.2⟩⟩)
  ·exact h
theorem Ok.use(h:Ok c n I)(ag:Int):Ok c n (use I n ag):=by
 unfold Gd.use;split
 ·exact h.put (.inl tf)
 ·exact h
theorem Ok.drop(h:Ok c n I)(cU:Gr.iS x y=true)(hw:Gr.aS (Gr.at 384 c x y)=true):Ok c n (drop I n ag x y):=by
 unfold Gd.drop;split
 ·rename_i hf;obtain⟨k,hk,e,h1,h2,h3,h4,k1,k3⟩:=kO hf.1;rw[e,abG];refine h.put (.inr ⟨⟨k1,by show I k 0<=4;omega,.inl ⟨rfl,cU,hw⟩⟩,fun j hj _ hs=>(mY hf.2).2 j hj ⟨hs.1,hs.2.1,hs.2.2⟩⟩)
 ·exact h
theorem Ok.Qw(h:Ok c n I)(s0:0<=ag)(s4:ag<4)(jK:Bool)(ir:Int):Ok c n (Qw I n ag jK ir):=by
 unfold Gd.Qw;split
 ·rename_i hb;simp only[ze,Bool.and_eq_true,decide_eq_true_eq]at hb;obtain⟨_,_,hs,hw⟩:=hb;obtain⟨k,hk,e,h1⟩:=wI hw;obtain⟨f4,hno⟩:=wu hs;rw[e,abG];have hp:=h.of hk (by omega);have hg:I k 0≠4:=by
   obtain⟨_,_,h'|h'|h'|h'⟩:=hp <;> omega
  refine h.put (.inr ⟨⟨hp.1,hp.2.1,.inr (.inl ⟨rfl,s0,s4,hs,f4,hg⟩)⟩,fun j hj _ hs=>hno j hj ⟨hs.1,hs.2.1,hs.2.2⟩⟩)
 ·exact h
theorem Ok.FP(h:Ok c n I)(s0:0<=ag)(s4:ag<4):Ok c n (FP I n ag):=by
 unfold Gd.FP;split
 ·rename_i hf;obtain⟨k,hk,e,h1,h2,h3,h4,k2,k3⟩:=kO hf;rw[e,abG];unfold l7
  have hr:lk c (row (I k 0) 3 (I k 2) (I k 0-2)):=⟨by show 1<=I k 0;omega,by show I k 0<=4;omega,.inr (.inr (.inl ⟨rfl,by show 0<=I k 2;omega,by show I k 2<4;omega,by
   show I k 0=2/\I k 0-2=0\/I k 0=3/\I k 0-2=1
   omega⟩))⟩
  split
  ·rename_i hw;obtain⟨j,hj,ej,j1,j2,j3⟩:=gd hw;rw[ej,abG];have hpj:=h.of hj (by omega)
   have hs:lk c (row (I j 0) 2 (I j 2) (I k 3)):=⟨hpj.1,hpj.2.1,.inr (.inl ⟨rfl,by show 0<=I j 2;omega,by show I j 2<4;omega,h3,h4,by
    show I j 0≠4
    obtain⟨_,_,h'|h'|h'|h'⟩:=hpj <;> omega⟩)⟩
   exact h.swap (i:=k) (j:=j) (by rintro rfl;omega) hk hj (by omega) (by omega) hr hs ⟨j1.symm,by show I k 2=I j 2;omega,j3.symm⟩ ⟨h1.symm,by show I j 2=I k 2;omega,rfl⟩
  ·rename_i hw;have hno:=(mY (I:=I) (n:=n) (w:=3) (a:=ag) (b:=I k 0-2) (by omega)).2;exact h.put (.inr ⟨hr,fun j hj _ hs=>hno j hj ⟨hs.1,hs.2.1.trans h2,hs.2.2⟩⟩)
 ·exact h
theorem Ok.dQ(h:Ok c n I)(s0:0<=ag)(s4:ag<4)(cU:Gr.iS x y=true)(hw:Gr.aS (Gr.at 384 c x y)=true)(jK:Bool)(ir input:Int):Ok c n (dQ I n ag x y jK ir input):=by
 unfold Gd.dQ;split
 ·exact h.pick s0 s4
 ·split
  ·exact h.use ag
  ·split
   ·exact h.FP s0 s4
   ·split
    ·exact h.drop cU hw
    ·split
     ·exact h.Qw s0 s4 jK ir
     ·exact h
def lZ(I:N2)(ag:Int):Nat->Nat->Int:=fun i=>if (I i 1=2\/I i 1=3)/\I i 2=ag then mN else I i
theorem Ok.lZ(h:Ok c n I)(ag:Int):Ok c n (Gd.lZ I ag):=by
 have z:∀{i},((I i 1=2\/I i 1=3)/\I i 2=ag)->Gd.lZ I ag i=mN:=fun h=>abP h;have o:∀{i},¬((I i 1=2\/I i 1=3)/\I i 2=ag)->Gd.lZ I ag i=I i:=fun h=>abO h;refine⟨fun i hi=>?_,fun i k hi hk hik hw hs=>?_⟩
 ·by_cases e:(I i 1=2\/I i 1=3)/\I i 2=ag
  ·rw[z e];exact .inl tf
  ·rw[o e];exact h.LB i hi
 ·by_cases e:(I i 1=2\/I i 1=3)/\I i 2=ag
  ·rw[z e]at hw;exact hw rfl
  ·rw[o e]at hw hs;by_cases ek:(I k 1=2\/I k 1=3)/\I k 2=ag
   ·rw[z ek]at hs;exact hw hs.1.symm
   ·rw[o ek]at hs;exact h.bo i k hi hk hik hw hs
end Gd
open Go.RowKit
theorem Gn.R6(c:N1)(k:Nat)(u v:Int):Gr.dj (Gr.dj c k u) k v=Gr.dj c k v:=by
 funext i;unfold Gr.dj;split <;> rfl
theorem kh(G:Nat)(st:(Nat->Int) × Bool)(x y:Int)(k:Nat)(w:World)(hA:ax w G 5 384 (aZ st.1))(h5:∀i,0<=st.1 i/\st.1 i<=5)(hx:(1<=x/\x<=22)/\1<=y/\y<=14)(hk:y*24+x=(k:Int)):Calls prog 60 #[.slice (some ⟨G,0,none⟩) 384 384,.int .i64 x,.int .i64 y,.bool st.2] w
   fun e w'=>e=.returned (.bool (Gn.bG st k).2)/\ax w' G 5 384 (aZ (Gn.bG st k).1)/\w.grownBy w' (some G):=by
 have LU:k<384:=by omega
 have jy:(k:Int)<384:=by omega
 have q1:w.cell? ⟨G,k,none⟩=some (.int .u8 (st.1 k)):=hA.cell LU;have q2:=hA.free k;have h5k:=h5 k;obtain⟨v,hv⟩:∃v,v=st.1 k:=⟨_,rfl⟩;rw[<-hv]at q1 h5k;obtain⟨⟨x1,x2⟩,x3,x4⟩:=hx;by_cases hz:v=0
 ·have iG:=Gn.yZ (st:=st) (c:=k) (by rw[<-hv];exact hz);have kW:(v !=0)=false:=by simpa using hz
  have dP:=hA.w9 k 1;cases hb:st.2 with
  | true =>
   have ah:Hid (ax (w.setCell ⟨G,k,none⟩ (.int .u8 1)) G 5 384 (aZ (Gn.bG st k).1)):=by rw[iG,hb];exact dP
   have jf:Hid ((Gn.bG st k).2=true):=by rw[iG];exact(rfl:true=true)
   have hg:=aa (gpt w G k (.int .u8 1));clear dP iG hA hz hv;go_enter func60,ntmps60;go_wp2;go_ret;exact⟨aO (uh jf).symm,uh ah,uh hg⟩
  | false =>
   have dF:=dP.w9 k 2;have q3:=dP.cell LU;have q4:=dP.free k;obtain⟨w1,FZ⟩:=abV (w.setCell ⟨G,k,none⟩ (.int .u8 1));rw[FZ]at dF q3 q4;have ah:Hid (ax (w1.setCell ⟨G,k,none⟩ (.int .u8 2)) G 5 384 (aZ (Gn.bG st k).1)):=by
    rw[iG,hb];rw[Gn.R6]at dF;exact dF
   have jf:Hid ((Gn.bG st k).2=true):=by rw[iG];exact(rfl:true=true)
   have hg:Hid (w.grownBy (w1.setCell ⟨G,k,none⟩ (.int .u8 2)) (some G)):=by rw[<-FZ];exact gst (gpt w G k (.int .u8 1)) k _
   clear dP dF iG hA hz hv;go_enter func60,ntmps60;go_wp2;go_ret;exact⟨aO (uh jf).symm,uh ah,uh hg⟩
 ·have iG:=Gn.yY (st:=st) (c:=k) (by rw[<-hv];exact hz);have kW:(v !=0)=true:=by simpa using hz
  have ah:Hid (ax w G 5 384 (aZ (Gn.bG st k).1)):=by rw[iG];exact hA
  have jf:Hid ((Gn.bG st k).2=st.2):=by rw[iG];exact(rfl:st.2=st.2)
  obtain⟨b,hb⟩:∃b,b=st.2:=⟨_,rfl⟩;rw[<-hb]at jf|-;clear iG hA hz hv hb;go_enter func60,ntmps60;go_wp2;go_ret;exact⟨aO (uh jf).symm,uh ah,abF _ _⟩
def Gn.free(c F:N1)(far:Int)(U:Nat->Bool)(i:Nat):Bool:=c i==1&&decide (far<=F i)&&!U i
def Gn.kD(d:Gn.aY)(a:Int)(l:List Nat):Int:=if l.length=0 then -1 else((l[(d a 0 (l.length:Int)).toNat]?.getD 0:Nat):Int)
theorem HA(s f:Int)(d:Gn.aY)(hd:∀a b n,Gn.D s f a b n=d a b n)(qn:Gn.gL d)(G gF gU:Nat)(c F:N1)(far a:Int)(U:Nat->Bool)(w:World)(hA:ax w G 5 384 (aZ c))(hF:ax w gF 3 384 (bB F))(hU:ax w gU 4 384 (mc U)):Calls prog 63 #[.slice (some ⟨G,0,none⟩) 384 384,.slice (some ⟨gF,0,none⟩) 384 384,.int .i64 far,.slice (some ⟨gU,0,none⟩) 384 384,.int .i64 s,.int .i64 f,.int .i64 a] w
   (aJ w (.int .i64 (Gn.kD d a (Gn.bi (Gn.free c F far U) 384)))):=by
 have jr:=aa hA;have iU:=aa hF;have hU':=aa hU;have jL:=aa hd;have kb:=aa qn;obtain⟨i0,hi,dJ,dz,ed⟩:=info_parts gX;clear hA hF hU hd qn;go_enter func63,ntmps63;go_wp2_with fail;go_loopw [15,16] (fun v i wr=>∃k:Nat,k<=384/\i=.int .i64 (k:Int)/\qM wr w.heap.size v (Gn.bi (Gn.free c F far U) k)/\w.grownBy wr none) (fun _ i _=>400-(intOf i).toNat)
 case atStart=>exact⟨0,by omega,rfl,World.ownsRow_nil _ _ _ _,abF _ _⟩
 case round =>
  obtain⟨k,hk,rfl,aH,hg⟩:=hrel;have aR:=aa aH;have hg1:=aa hg;have eC:=hg.size;have YN:=Gn.nA (Gn.free c F far U) k;clear aH hg;by_cases hlt:k<384
  ·have q1:wr.cell? ⟨G,k,none⟩=some (.int .u8 (c k)):=((uh jr).grown (uh hg1) (by simp)).cell hlt;have q2:wr.cell? ⟨gF,k,none⟩=some (.int .i64 (F k)):=((uh iU).grown (uh hg1) (by simp)).cell hlt;have q3:wr.cell? ⟨gU,k,none⟩=some (.bool (U k)):=((uh hU').grown (uh hg1) (by simp)).cell hlt;have hlt':(k:Int)<384:=by omega
   have HL:=aa hlt;clear hlt hk;by_cases hq:Gn.free c F far U k=true
   ·have gw:=aa (Gn.yJ hq);have FY:=hq;unfold Gn.free at FY;simp only[Bool.and_eq_true,decide_eq_true_eq,Bool.not_eq_true']at FY;obtain⟨⟨r1,r2⟩,r3⟩:=FY;obtain⟨l,hl⟩:∃l,l=Gn.bi (Gn.free c F far U) k:=⟨_,rfl⟩;rw[<-hl]at aR YN gw;clear hl hq;go_wp2_with (at_builtin;refine wpList_append_own _ rfl _ _ 38 rfl w.heap.size 3 i0 (.int .i64 0) 1 8 underlying38 hi dJ dz ed rfl (by decide) _ _ _ rfl ((uh aR).alloc _) ⟨wr.heap.size,0,none⟩ 1 1 [.int .i64 (k:Int)] rfl rfl ?_ ?_ ?_ ?_ ?_ ?_)
    ·exact eS _ _ _ _ rfl
    ·intro u hu;simp at hu;subst hu;rfl
    ·unfold maxLen;omega
    ·omega
    ·simp;omega
    intro v' w1 ev az _;rw[fS]at ev;have gj:Hid (qM w1 w.heap.size v' (Gn.bi (Gn.free c F far U) (k+1))):=by
     rw[uh gw];show w1.ownsRow _ _ _ _ _ _;rw[List.length_append];exact ev
    have hg2:=aa (gow (gal (uh hg1) _) az (fun n e=>((uh aR).lt n e).1));clear ev az aR hg1;go_wp2;go_roundw
    case rel=>exact⟨k+1,by have:=uh HL;omega,by go_num,uh gj,uh hg2⟩
    case measure=>simp[intOf];omega
   ·have kp:Gn.free c F far U k=false:=by simpa using hq
    have hno:=aa (Gn.Ix kp);have fp:(c k==1)=false\/((c k==1)=true/\¬far<=F k)\/((c k==1)=true/\far<=F k/\U k=true):=by
     unfold Gn.free at kp;cases h1:(c k==1)with
     | false=>exact .inl rfl
     | true =>
      rw[h1]at kp;by_cases h2:far<=F k
      ·right;right;refine⟨rfl,h2,?_⟩
       simpa [h2] using kp
      ·exact .inr (.inl ⟨rfl,h2⟩)
    clear hq kp;rcases fp with r1|⟨r1,r2⟩|⟨r1,r2,r3⟩
    ·go_wp2;go_roundw
     case rel=>exact⟨k+1,by have:=uh HL;omega,by go_num,by rw[uh hno];exact uh aR,uh hg1⟩
     case measure=>simp[intOf];omega
    ·have r2':decide (far<=F k)=false:=by simpa using r2
     clear r2;go_wp2;go_roundw
     case rel=>exact⟨k+1,by have:=uh HL;omega,by go_num,by rw[uh hno];exact uh aR,uh hg1⟩
     case measure=>simp[intOf];omega
    ·go_wp2;go_roundw
     case rel=>exact⟨k+1,by have:=uh HL;omega,by go_num,by rw[uh hno];exact uh aR,uh hg1⟩
     case measure=>simp[intOf];omega
  ·have hge:¬(k:Int)<384:=by omega
   obtain rfl:k=384:=by omega
   obtain⟨l,hl⟩:∃l,l=Gn.bi (Gn.free c F far U) 384:=⟨_,rfl⟩;rw[<-hl]at aR YN;have sO:=aa hl;clear hlt hk hl;rcases(uh aR).zm with⟨rfl,h0⟩|⟨g,aG,H,rfl,hb,MS,P3,hm,hH⟩
   ·have aM:Hid (Gn.kD d a (Gn.bi (Gn.free c F far U) 384)=-1):=by
     show Gn.kD d a (Gn.bi (Gn.free c F far U) 384)=-1;rw[<-uh sO,h0];rfl
    clear h0;go_wp2;go_ret;exact⟨rti (uh aM).symm,uh hg1⟩
   ·by_cases h0:l.length=0
    ·have aM:Hid (Gn.kD d a (Gn.bi (Gn.free c F far U) 384)=-1):=by
      show Gn.kD d a (Gn.bi (Gn.free c F far U) 384)=-1;rw[<-uh sO];unfold Gn.kD;rw[abP h0]
     rw[h0];clear MS hH;go_wp2;go_ret;exact⟨rti (uh aM).symm,uh hg1⟩
    ·obtain⟨N,hN⟩:∃x,x=d a 0 (l.length:Int):=⟨_,rfl⟩;obtain⟨n1,n2⟩:0<=N/\N<(l.length:Int):=by rw[hN];exact uh kb _ _ _ (by omega)
     obtain⟨n,hn⟩:∃n:Nat,N=(n:Int):=⟨N.toNat,by omega⟩;have sP:n<l.length:=(by omega);have Xk:(n:Int)<(l.length:Int):=(by omega);have VF:=iN s f a 0 (l.length:Int) wr (by omega);rw[uh jL,<-hN,hn]at VF;obtain⟨cl,iu⟩:∃cl,cl=l[n]?.getD 0:=⟨_,rfl⟩;have aM:Hid (Gn.kD d a (Gn.bi (Gn.free c F far U) 384)=(cl:Int)):=by
      show Gn.kD d a (Gn.bi (Gn.free c F far U) 384)=(cl:Int);rw[<-uh sO];unfold Gn.kD;rw[abO h0,<-hN,hn,abG,iu]
     have Zr:=aa MS;have hq:Hid (H n=.int .i64 (cl:Int)):=by show H n=_;rw[hH n sP,iu]
     have hz:((l.length:Int)==0)=false:=by rw[beq_eq_false_iff_ne];omega
     clear MS hH hN hn iu h0 n1 n2;go_wp2_with fail;refine VF.mono ?_;rintro e wd ⟨rfl,hgd⟩;have oS:wd.cell? ⟨g,n,none⟩=some (.int .i64 (cl:Int)):=by rw[((uh Zr).grown hgd (by simp)).cell (by omega),uh hq]
     have hg2:=aa (cO (uh hg1) hgd);clear hgd;go_wp2;go_ret;exact⟨rti (uh aM).symm,uh hg2⟩
end Go.Proofs.YtbanjoflgoiegaaGreat
namespace Go.Proofs.YtbanjoflgoiegaaGreat
open Go.Proofs.Tryz
namespace Gn
variable{c:N1}
theorem Mu{x y w h r q:Int}(hc:∀i,0<=c i/\c i<=2)(i:Nat):0<=cH c x y w h r q i/\cH c x y w h r q i<=2:=by
 unfold cH;split
 ·omega
 ·exact hc i
theorem Kx{st:(Nat->Int) × Bool}{k:Nat}(hc:∀i,0<=st.1 i/\st.1 i<=2)(i:Nat):0<=(bG st k).1 i/\(bG st k).1 i<=2:=by
 unfold bG Gr.dj;split
 ·show 0<=(if i=k then _ else st.1 i)/\(if i=k then _ else st.1 i)<=2;split
  ·split <;> omega
  ·exact hc i
 ·exact hc i
theorem Gm(tx ty:Int)(first:Bool):∀(n:Nat) (st:(Nat->Int) × Bool) (x y:Int),(∀i,0<=st.1 i/\st.1 i<=2)->∀i,0<=(digRun tx ty first n st x y).1 i/\(digRun tx ty first n st x y).1 i<=2
 | 0,_,_,_,h=>Kx h
 | n+1,_,_,_,h=>Gm tx ty first n _ _ _ (Kx h)
theorem Im(d:aY):∀(n i:Nat),0<=roomed d n i/\roomed d n i<=2
 | 0,_=>by simp[roomed]
 | n+1,i=>Mu (Im d n) i
theorem NE(d:aY):∀(n i:Nat),0<=ks d n i/\ks d n i<=2
 | 0,i=>Im d 6 i
 | n+1,i=>by
  have h:=Gm (mx d (n+1)) (my d (n+1)) (d ((n+1:Nat):Int) 4 2==0) (dh (mx d n) (my d n) (mx d (n+1)) (my d (n+1))) (ks d n,false) (mx d n) (my d n) (NE d n) i
  rw[ks]
  exact h
def onPath(tx ty:Int)(first:Bool):Nat->Int->Int->Nat->Prop
 | 0,x,y,k=>k=(y*24+x).toNat
 | n+1,x,y,k=>k=(y*24+x).toNat\/onPath tx ty first n (dY x y tx ty first) (dZ x y tx ty first) k
theorem Gl(st:(Nat->Int) × Bool)(k i:Nat):(bG st k).1 i≠0↔st.1 i≠0\/i=k:=by
 unfold bG;split
 ·rename_i h0;show Gr.dj st.1 k _ i≠0↔_;by_cases e:i=k
  ·rw[e,Gr.fV];simp only[or_true,iff_true];split <;> omega
  ·rw[Gr.ic _ _ e];simp[e]
 ·rename_i h0;constructor
  ·exact fun h=>.inl h
  ·rintro(h|rfl)
   ·exact h
   ·exact h0
theorem xP(tx ty:Int)(first:Bool):∀(n:Nat) (st:(Nat->Int) × Bool) (x y:Int) (i:Nat),(digRun tx ty first n st x y).1 i≠0↔st.1 i≠0\/onPath tx ty first n x y i
 | 0,st,x,y,i=>Gl st _ i
 | n+1,st,x,y,i=>by
  rw[digRun,xP tx ty first n,Gl,onPath,or_assoc]
def sV(d:aY)(k i:Nat):Prop:=rx d k<=(i%24:Nat)/\((i%24:Nat):Int)<rx d k+rw d k/\ry d k<=(i/24:Nat)/\((i/24:Nat):Int)<ry d k+rh d k
theorem Pf(c:N1)(x y w h:Int)(i:Nat):Hz c x y w h i≠0↔c i≠0\/(x<=(i%24:Nat)/\((i%24:Nat):Int)<x+w/\y<=(i/24:Nat)/\((i/24:Nat):Int)<y+h):=by
 unfold Hz cH;by_cases hc:(x<=(i%24:Nat)/\((i%24:Nat):Int)<x+w/\y<=(i/24:Nat)/\((i/24:Nat):Int)<y+h)
 ·rw[abP ⟨hc,by omega⟩];exact⟨fun _=>.inr hc,fun _=>by omega⟩
 ·rw[abO (fun h=>hc h.1)];constructor
  ·exact fun h=>.inl h
  ·rintro(h|h)
   ·exact h
   ·exact absurd h hc
theorem yz(d:aY):∀(n i:Nat),roomed d n i≠0↔∃k,k<n/\sV d k i
 | 0,i=>by simp[roomed]
 | n+1,i=>by
  rw[roomed,Pf,yz d n i]
  constructor
  ·rintro(⟨k,hk,h⟩|h)
   ·exact⟨k,by omega,h⟩
   ·exact⟨n,by omega,h⟩
  ·rintro⟨k,hk,h⟩
   by_cases e:k=n
   ·subst e;exact .inr h
   ·exact .inl ⟨k,by omega,h⟩
def RM(d:aY)(n i:Nat):Prop:=onPath (mx d (n+1)) (my d (n+1)) (d ((n+1:Nat):Int) 4 2==0) (dh (mx d n) (my d n) (mx d (n+1)) (my d (n+1))) (mx d n) (my d n) i
theorem mM(d:aY):∀(n i:Nat),ks d n i≠0↔(∃k,k<6/\sV d k i)\/∃k,k<n/\RM d k i
 | 0,i=>by
  have h:ks d 0=roomed d 6:=rfl
  rw[h,yz]
  constructor
  ·exact fun h=>.inl h
  ·rintro(h|⟨k,hk,_⟩)
   ·exact h
   ·omega
 | n+1,i=>by
  rw[ks,xP,mM d n i]
  constructor
  ·rintro((h|⟨k,hk,h⟩)|h)
   ·exact .inl h
   ·exact .inr ⟨k,by omega,h⟩
   ·exact .inr ⟨n,by omega,h⟩
  ·rintro(h|⟨k,hk,h⟩)
   ·exact .inl (.inl h)
   ·by_cases e:k=n
    ·subst e;exact .inr h
    ·exact .inl (.inr ⟨k,by omega,h⟩)
def fc(c:N1)(P:Nat->Prop):Prop:=∀j e,j<384->e<4->P j->Gr.iK j e->c (Gr.gA j e)≠0->P (Gr.gA j e)
theorem fc.step{P:Nat->Prop}(h:fc c P){a b:Nat}(ha:a<384)(hb:b<384)(hP:P a)(hc:c b≠0)(hn:(b=a+1/\a/24=b/24)\/(a=b+1/\a/24=b/24)\/b=a+24\/a=b+24):P b:=by
 have key:∃e,e<4/\Gr.iK a e/\((a/24:Nat)+Gr.dyOf e)*24+((a%24:Nat)+Gr.dxOf e)=(b:Int):=by
  rcases hn with⟨h1,h2⟩|⟨h1,h2⟩|h1|h1
  ·exact⟨1,by omega,by unfold Gr.iK;simp only[Gr.dxOf,Gr.dyOf];omega,by simp only[Gr.dxOf,Gr.dyOf];omega⟩
  ·exact⟨3,by omega,by unfold Gr.iK;simp only[Gr.dxOf,Gr.dyOf];omega,by simp only[Gr.dxOf,Gr.dyOf];omega⟩
  ·exact⟨2,by omega,by unfold Gr.iK;simp only[Gr.dxOf,Gr.dyOf];omega,by simp only[Gr.dxOf,Gr.dyOf];omega⟩
  ·exact⟨0,by omega,by unfold Gr.iK;simp only[Gr.dxOf,Gr.dyOf];omega,by simp only[Gr.dxOf,Gr.dyOf];omega⟩
 obtain⟨e,he,cU,hv⟩:=key;have jf:Gr.gA a e=b:=by have:=Gr.tI cU;omega
 have:=h a e ha he hP cU (by rw[jf];exact hc)
 rwa [jf]at this
theorem MH(x y tx ty:Int)(first:Bool)(h:¬(x=tx/\y=ty)):(dY x y tx ty first=x+1/\dZ x y tx ty first=y)\/(dY x y tx ty first=x-1/\dZ x y tx ty first=y)\/(dY x y tx ty first=x/\dZ x y tx ty first=y+1)\/(dY x y tx ty first=x/\dZ x y tx ty first=y-1):=by
 unfold dY dZ mb;by_cases hw:bh x y tx ty first=true
 ·rw[abP hw,abP hw];have hx:x≠tx:=by
   unfold bh at hw;intro e;simp only[Bool.or_eq_true,beq_iff_eq,Bool.and_eq_true,bne_iff_ne,ne_eq]at hw;rcases hw with hw|⟨_,hw⟩
   ·exact h ⟨e,hw⟩
   ·exact hw e
  split
  ·exact .inl ⟨rfl,rfl⟩
  ·split
   ·exact .inr (.inl ⟨rfl,rfl⟩)
   ·omega
 ·rw[abO hw,abO hw];have hy:y≠ty:=by
   unfold bh at hw;intro e;simp[e]at hw
  split
  ·exact .inr (.inr (.inl ⟨rfl,rfl⟩))
  ·split
   ·exact .inr (.inr (.inr ⟨rfl,rfl⟩))
   ·omega
theorem fc.Km{c:N1}{P:Nat->Prop}(h:fc c P)(tx ty:Int)(first:Bool)(ht:(1<=tx/\tx<=22)/\1<=ty/\ty<=14):∀(n:Nat)(x y:Int),n=dh x y tx ty->(1<=x/\x<=22)/\1<=y/\y<=14->P (y*24+x).toNat->(∀i,onPath tx ty first n x y i->c i≠0) ->
  (∀i,onPath tx ty first n x y i->P i)/\onPath tx ty first n x y (ty*24+tx).toNat
 | 0,x,y,hn,hb,hP,hc=>by
  have e:x=tx/\y=ty:=by unfold dh at hn;omega
  refine⟨fun i hi=>?_,?_⟩
  ·have GR:i=(y*24+x).toNat:=hi;rw[GR];exact hP
  ·show(ty*24+tx).toNat=(y*24+x).toNat;rw[e.1,e.2]
 | n+1,x,y,hn,hb,hP,hc=>by
  have ow:¬(x=tx/\y=ty):=by
   rintro⟨rfl,rfl⟩;unfold dh at hn;omega
  have hl:=cJ x y tx ty first ow
  have pF:=iT x y tx ty first hb ht
  have P9:=MH x y tx ty first ow
  have hPn:P (dZ x y tx ty first*24+dY x y tx ty first).toNat:=by
   refine h.step (a:=(y*24+x).toNat) (by omega) (by omega) hP (hc _ (.inr ?_)) (by omega);cases n with
   | zero=>rfl
   | succ m=>exact .inl rfl
  obtain⟨h1,h2⟩:=fc.Km h tx ty first ht n (dY x y tx ty first) (dZ x y tx ty first) (by omega) pF hPn (fun i hi=>hc i (.inr hi))
  refine⟨fun i hi=>?_,.inr h2⟩;rcases hi with rfl|hi
  ·exact hP
  ·exact h1 i hi
theorem fc.Ps{c:N1}{P:Nat->Prop}(h:fc c P)(x0 y0 w0 h0:Int)(hb:1<=x0/\x0+w0<=23/\1<=y0/\y0+h0<=15)(hc:∀x y,x0<=x->x<x0+w0->y0<=y->y<y0+h0->c (y*24+x).toNat≠0):∀(n:Nat)(x y x':Int),n=(x'-x).natAbs->x0<=x->x<x0+w0->x0<=x'->x'<x0+w0->y0<=y->y<y0+h0->P (y*24+x).toNat->P (y*24+x').toNat
 | 0,x,y,x',hn,_,_,_,_,_,_,hP=>by
  have:x'=x:=by omega
  rw[this];exact hP
 | n+1,x,y,x',hn,h1,h2,h3,h4,h5,h6,hP=>by
  by_cases hlt:x<x'
  ·refine fc.Ps h x0 y0 w0 h0 hb hc n (x+1) y x' (by omega) (by omega) (by omega) h3 h4 h5 h6 ?_;exact h.step (a:=(y*24+x).toNat) (by omega) (by omega) hP (hc _ _ (by omega) (by omega) h5 h6) (by omega)
  ·refine fc.Ps h x0 y0 w0 h0 hb hc n (x-1) y x' (by omega) (by omega) (by omega) h3 h4 h5 h6 ?_;exact h.step (a:=(y*24+x).toNat) (by omega) (by omega) hP (hc _ _ (by omega) (by omega) h5 h6) (by omega)
theorem fc.NB{c:N1}{P:Nat->Prop}(h:fc c P)(x0 y0 w0 h0:Int)(hb:1<=x0/\x0+w0<=23/\1<=y0/\y0+h0<=15)(hc:∀x y,x0<=x->x<x0+w0->y0<=y->y<y0+h0->c (y*24+x).toNat≠0):∀(n:Nat)(x y y':Int),n=(y'-y).natAbs->x0<=x->x<x0+w0->y0<=y->y<y0+h0->y0<=y'->y'<y0+h0->P (y*24+x).toNat->P (y'*24+x).toNat
 | 0,x,y,y',hn,_,_,_,_,_,_,hP=>by
  have:y'=y:=by omega
  rw[this];exact hP
 | n+1,x,y,y',hn,h1,h2,h3,h4,h5,h6,hP=>by
  by_cases hlt:y<y'
  ·refine fc.NB h x0 y0 w0 h0 hb hc n x (y+1) y' (by omega) h1 h2 (by omega) (by omega) h5 h6 ?_;exact h.step (a:=(y*24+x).toNat) (by omega) (by omega) hP (hc _ _ h1 h2 (by omega) (by omega)) (by omega)
  ·refine fc.NB h x0 y0 w0 h0 hb hc n x (y-1) y' (by omega) h1 h2 (by omega) (by omega) h5 h6 ?_;exact h.step (a:=(y*24+x).toNat) (by omega) (by omega) hP (hc _ _ h1 h2 (by omega) (by omega)) (by omega)
theorem pn{d:aY}(hd:gL d){k:Nat}{x y:Int}(h1:rx d k<=x)(h2:x<rx d k+rw d k)(h3:ry d k<=y)(h4:y<ry d k+rh d k):sV d k (y*24+x).toNat:=by
 have:=mF hd k;unfold sV;omega
theorem O0{d:aY}(hd:gL d)(k:Nat):rx d k<=mx d k/\mx d k<rx d k+rw d k/\ry d k<=my d k/\my d k<ry d k+rh d k:=by
 have:=mF hd k;unfold mx my;omega
theorem SC{d:aY}(hd:gL d)(hz:∀i,i<384->(c i≠0↔ks d 5 i≠0)){P:Nat->Prop}(hC:fc c P)(hP:P (up d))(i:Nat)(hi:i<384)(hc:c i≠0):P i:=by
 have Ou:∀k,k<6->∀x y,rx d k<=x->x<rx d k+rw d k->ry d k<=y->y<ry d k+rh d k->c (y*24+x).toNat≠0:=by
  intro k hk x y h1 h2 h3 h4;have hb:=mF hd k;exact(hz _ (by omega)).2 ((mM d 5 _).2 (.inl ⟨k,hk,pn hd h1 h2 h3 h4⟩))
 have zO:∀k,∀i,RM d k i->i<384:=by
  intro k;have key:∀(n:Nat)(x y:Int),(1<=x/\x<=22)/\1<=y/\y<=14->∀i,onPath (mx d (k+1)) (my d (k+1)) (d ((k+1:Nat):Int) 4 2==0) n x y i->i<384:=by
   have ht:=gz hd (k+1);intro n
   induction n with
   | zero =>
    intro x y hb i hi;have GR:i=(y*24+x).toNat:=hi;omega
   | succ n ih =>
    intro x y hb i hi;rcases hi with rfl|hi
    ·omega
    ·exact ih _ _ (iT x y _ _ _ hb (by omega)) i hi
  have hb:=gz hd k;exact key _ _ _ (by omega)
 have vB:∀k,k<6->P (my d k*24+mx d k).toNat/\(k<5->∀i,RM d k i->P i):=by
  intro k
  induction k with
  | zero =>
   intro _;have hb:=gz hd 0;have xY:=gz hd 1;refine⟨hP,fun h5 i hi=>?_⟩;exact(fc.Km hC (mx d 1) (my d 1) (d ((1:Nat):Int) 4 2==0) (by omega) _ (mx d 0) (my d 0) rfl (by omega) hP (fun j hj=>(hz j (zO 0 j hj)).2 ((mM d 5 j).2 (.inr ⟨0,by omega,hj⟩)))).1 i hi
  | succ k ih =>
   intro hk;obtain⟨ih1,_⟩:=ih (by omega);have hb:=gz hd k;have xY:=gz hd (k+1);have jf:=gz hd (k+1+1);have VB:=fc.Km hC (mx d (k+1)) (my d (k+1)) (d ((k+1:Nat):Int) 4 2==0) (by omega) _ (mx d k) (my d k) rfl (by omega) ih1 (fun j hj=>(hz j (zO k j hj)).2 ((mM d 5 j).2 (.inr ⟨k,by omega,hj⟩)));have hPm:=VB.1 _ VB.2;refine⟨hPm,fun h5 i hi=>?_⟩;exact(fc.Km hC (mx d (k+1+1)) (my d (k+1+1)) (d ((k+1+1:Nat):Int) 4 2==0) (by omega) _ (mx d (k+1)) (my d (k+1)) rfl (by omega) hPm (fun j hj=>(hz j (zO (k+1) j hj)).2 ((mM d 5 j).2 (.inr ⟨k+1,by omega,hj⟩)))).1 i hi
 rcases(mM d 5 i).1 ((hz i hi).1 hc)with⟨k,hk,cU⟩|⟨k,hk,hpa⟩
 ·have hb:=mF hd k;have hm:=O0 hd k;have h0:=(vB k hk).1;unfold sV at cU;have h1:=fc.Ps hC (rx d k) (ry d k) (rw d k) (rh d k) (by omega) (Ou k hk) _ (mx d k) (my d k) ((i%24:Nat):Int) rfl hm.1 hm.2.1 cU.1 cU.2.1 hm.2.2.1 hm.2.2.2 h0;have h2:=fc.NB hC (rx d k) (ry d k) (rw d k) (rh d k) (by omega) (Ou k hk) _ ((i%24:Nat):Int) (my d k) ((i/24:Nat):Int) rfl cU.1 cU.2.1 hm.2.2.1 hm.2.2.2 cU.2.2.1 cU.2.2.2 h1
  rwa [show(((i/24:Nat):Int)*24+((i%24:Nat):Int)).toNat=i by omega]at h2
 ·exact(vB k (by omega)).2 hk i hpa
end Gn
end Go.Proofs.YtbanjoflgoiegaaGreat
namespace Go.Proofs.YtbanjoflgoiegaaGreat
open Go.Proofs.Tryz
namespace Gn
variable{c:N1}
theorem RN{d:aY}(hd:gL d)(k i:Nat)(h:RM d k i):i<384/\1<=i%24/\i%24<=22/\1<=i/24/\i/24<=14:=by
 have key:∀(n:Nat)(x y:Int),(1<=x/\x<=22)/\1<=y/\y<=14->∀i,onPath (mx d (k+1)) (my d (k+1)) (d ((k+1:Nat):Int) 4 2==0) n x y i->i<384/\1<=i%24/\i%24<=22/\1<=i/24/\i/24<=14:=by
  have ht:=gz hd (k+1);intro n
  induction n with
  | zero =>
   intro x y hb i hi;have GR:i=(y*24+x).toNat:=hi;omega
  | succ n ih =>
   intro x y hb i hi;rcases hi with rfl|hi
   ·omega
   ·exact ih _ _ (iT x y _ _ _ hb (by omega)) i hi
 have hb:=gz hd k;exact key _ _ _ (by omega) i h
theorem TG{d:aY}(hd:gL d)(i:Nat)(h:ks d 5 i≠0):1<=i%24/\i%24<=22/\1<=i/24/\i/24<=14:=by
 rcases(mM d 5 i).1 h with⟨k,_,cU⟩|⟨k,_,hp⟩
 ·have hb:=mF hd k;unfold sV at cU;omega
 ·exact(RN hd k i hp).2
theorem To{d:aY}(hd:gL d):up d<384:=by
 have:=gz hd 0;unfold up;omega
theorem xH{d:aY}(hd:gL d):ks d 5 (up d-1)≠0/\ks d 5 (up d)≠0/\1<=up d/\(up d-1)/24=up d/24:=by
 have hb:=mF hd 0;have hm:=O0 hd 0;have hu:=PI hd;have YQ:=gz hd 0;have hx:rx d 0<=mx d 0-1:=by unfold mx;omega
 refine⟨(mM d 5 _).2 (.inl ⟨0,by omega,?_⟩),(mM d 5 _).2 (.inl ⟨0,by omega,?_⟩),by omega,by omega⟩
 ·have h:=pn hd (k:=0) (x:=mx d 0-1) (y:=my d 0) hx (by omega) hm.2.2.1 hm.2.2.2
  rwa [show(my d 0*24+(mx d 0-1)).toNat=up d-1 by omega]at h
 ·have h:=pn hd (k:=0) (x:=mx d 0) (y:=my d 0) hm.1 hm.2.1 hm.2.2.1 hm.2.2.2
  rwa [show(my d 0*24+mx d 0).toNat=up d by omega]at h
theorem zb(d:aY):ar d (up d)=3:=Gr.fV _ _ _
theorem Kn (d:aY) {i:Nat} (h:i≠up d):ar d i=ks d 5 i:=Gr.ic _ _ h
theorem uf{d:aY}(hd:gL d)(i:Nat):ar d i≠0↔ks d 5 i≠0:=by
 by_cases e:i=up d
 ·rw[e,zb];have:=(xH hd).2.1;constructor
  ·exact fun _=>this
  ·exact fun _=>by omega
 ·rw[Kn d e]
theorem kT{c:Int}(h:0<=c/\c<=5):Gr.aS c=true↔c≠0:=by
 rw[Gr.yM];omega
structure uE(d:aY)(c F:N1)(far:Nat):Prop where
 ku:∀i,0<=c i/\c i<=5
 nz:∀i,c i≠0↔ks d 5 i≠0
 Y0:up d<384
 Wb:far<384
 is3:∀i,c i=3↔i=up d
 is4:∀i,c i=4↔i=far
 door:∀i,c i=2->ks d 5 i=2
 qZ:Gr.dO (fun i=>Gr.aS (c i)=true) (fun i=>i=up d) F
 pos:0<F far
 five1:(∀i,c i≠5)\/∃k,k<384/\∀i,c i=5↔i=k
theorem fH.Kz{d:aY}(hd:gL d){F:N1}(h:fH d c F):∃far,uE d c F far:=by
 have h5:=h.ku;obtain⟨far,hF,oU,hc⟩:=h;refine⟨far,?_⟩;have K7:=To hd;obtain⟨b1,b2,b3,b4⟩:=xH hd;have sI:F (up d)=0:=(hF.is.zero _ K7).2 rfl
 -- the cell left of it is bo step away
 have Oi:0<F (up d-1):=by
  have cU:Gr.iK (up d) 3/\((up d/24:Nat)+Gr.dyOf 3)*24+((up d%24:Nat)+Gr.dxOf 3)=((up d-1:Nat):Int):=by
   have hdi:=TG hd _ b2;unfold Gr.iK;simp only[Gr.dxOf,Gr.dyOf];omega
  have UG:Gr.gA (up d) 3=up d-1:=by have:=Gr.tI cU.1;omega
  have WX:=hF.is.TK (up d) K7 (by omega) 3 (by omega) cU.1 (by rw[UG];exact(kT (uM d _)).2 ((uf hd _).2 b1));rw[UG]at WX;have ow:F (up d-1)≠0:=fun e=>by have:=(hF.is.zero (up d-1) (by omega)).1 e;omega
  omega
 have kf:0<F far:=by have:=oU.wD (up d-1) (by omega);omega
 have sL:far≠up d:=fun e=>by rw[e]at kf;omega
 -- the furthest cell is no wall
 have hfn:ar d far≠0:=(kT (uM d far)).1 ((hF.is.back far oU.lt kf).1);obtain⟨c2,oS⟩:∃c2,c2=Gr.dj (ar d) far 4:=⟨_,rfl⟩;have xL:c2 far=4:=by rw[oS];exact Gr.fV _ _ _
 have Tz:∀i,i≠far->c2 i=ar d i:=fun i hi=>by rw[oS];exact Gr.ic _ _ hi
 have Nt:c2 (up d)=3:=by rw[Tz _ (fun e=>sL e.symm),zb]
 have Kp:∀i,i≠far->i≠up d->c2 i=ks d 5 i:=fun i h1 h2=>by rw[Tz i h1,Kn d h2]
 -- what the jK eU
 have G3:(∀i,c i=c2 i)\/∃k,k<384/\c2 k=1/\∀i,c i=if i=k then 5 else c2 i:=by
  rw[hc];unfold bp;rw[<-oS];split
  ·cases hs:jK c2 F (F far/2)with
   | none=>exact .inl fun i=>rfl
   | some k =>
    right;unfold jK at hs;rw[List.find?_range_eq_some]at hs;obtain⟨hp,hk,_⟩:=hs;rw[Bool.and_eq_true]at hp;exact⟨k,List.mem_range.1 hk,by simpa using hp.2,fun i=>rfl⟩
  ·exact .inl fun i=>rfl
 have NM:∀i,0<=ks d 5 i/\ks d 5 i<=2:=NE d 5;have TA:∀i,c2 i≠0↔ks d 5 i≠0:=by
  intro i;by_cases e1:i=far
  ·rw[e1,xL];exact⟨fun _=>(uf hd far).1 hfn,fun _=>by omega⟩
  ·rw[Tz i e1];exact uf hd i
 have c3:∀i,c2 i=3↔i=up d:=by
  intro i;constructor
  ·intro h;by_cases e2:i=up d
   ·exact e2
   ·by_cases e1:i=far
    ·rw[e1,xL]at h;omega
    ·rw[Kp i e1 e2]at h;have:=NM i;omega
  ·intro e;rw[e];exact Nt
 have c4:∀i,c2 i=4↔i=far:=by
  intro i;constructor
  ·intro h;by_cases e1:i=far
   ·exact e1
   ·by_cases e2:i=up d
    ·rw[e2,Nt]at h;omega
    ·rw[Kp i e1 e2]at h;have:=NM i;omega
  ·intro e;rw[e];exact xL
 have c5:∀i,c2 i≠5:=by
  intro i;by_cases e1:i=far
  ·rw[e1,xL];omega
  ·by_cases e2:i=up d
   ·rw[e2,Nt];omega
   ·rw[Kp i e1 e2];have:=NM i;omega
 have Sk:∀i,c2 i=2->ks d 5 i=2:=by
  intro i h;by_cases e1:i=far
  ·rw[e1,xL]at h;omega
  ·by_cases e2:i=up d
   ·rw[e2,Nt]at h;omega
   ·rw[Kp i e1 e2]at h;exact h
 have hnz:∀i,c i≠0↔ks d 5 i≠0:=by
  intro i;rcases G3 with hs|⟨k,hk,gv,hs⟩
  ·rw[hs i];exact TA i
  ·rw[hs i];by_cases e:i=k
   ·rw[abP e];have:=(TA k).1 (by omega);rw[e];exact⟨fun _=>this,fun _=>by omega⟩
   ·rw[abO e];exact TA i
 refine⟨h5,hnz,K7,oU.lt,?_,?_,?_,?_,kf,?_⟩
 ·intro i;rcases G3 with hs|⟨k,hk,gv,hs⟩
  ·rw[hs i];exact c3 i
  ·rw[hs i];by_cases e:i=k
   ·rw[abP e];constructor
    ·intro h;omega
    ·intro e2;rw[<-e,e2,Nt]at gv;omega
   ·rw[abO e];exact c3 i
 ·intro i;rcases G3 with hs|⟨k,hk,gv,hs⟩
  ·rw[hs i];exact c4 i
  ·rw[hs i];by_cases e:i=k
   ·rw[abP e];constructor
    ·intro h;omega
    ·intro e2;rw[<-e,e2,xL]at gv;omega
   ·rw[abO e];exact c4 i
 ·intro i hi;rcases G3 with hs|⟨k,hk,gv,hs⟩
  ·rw[hs i]at hi;exact Sk i hi
  ·rw[hs i]at hi;by_cases e:i=k
   ·rw[abP e]at hi;omega
   ·rw[abO e]at hi;exact Sk i hi
 ·refine pU hF.is (fun i _=>?_) (fun _ _=>Iff.rfl) (fun _ _=>rfl);rw[kT (uM d i),kT (h5 i),uf hd i,hnz i]
 ·rcases G3 with hs|⟨k,hk,gv,hs⟩
  ·left;intro i;rw[hs i];exact c5 i
  ·right;refine⟨k,hk,fun i=>?_⟩;rw[hs i];by_cases e:i=k
   ·rw[abP e];simp[e]
   ·rw[abO e];constructor
    ·intro h;exact absurd h (c5 i)
    ·intro h;exact absurd h e
theorem uE.Pn{d:aY}(hd:gL d){F:N1}{far:Nat}(h:uE d c F far)(i:Nat)(hi:i<384):0<=F i↔c i≠0:=by
 constructor
 ·intro h0;by_cases e:F i=0
  ·have:=(h.qZ.zero i hi).1 e;rw[this,(h.is3 _).2 rfl];omega
  ·exact(kT (h.ku i)).1 (h.qZ.back i hi (by omega)).1
 ·intro hc;refine SC hd (c:=c) (fun j _=>h.nz j) (P:=fun j=>0<=F j) ?_ ?_ i hi hc
  ·intro j e hj he hP cU hcn;exact(h.qZ.TK j hj hP e he cU ((kT (h.ku _)).2 hcn)).1
  ·have:=(h.qZ.zero _ h.Y0).2 rfl;omega
theorem tl(c:N1)(v:Int)(k:Nat)(hk:c k=v)(hn:∀i,i<k->c i≠v):∀(n m:Nat),m<=k->k<m+n->Gr.findFrom c v n m=(k:Int)
 | 0,m,h1,h2=>by omega
 | n+1,m,h1,h2=>by
  unfold Gr.findFrom
  by_cases e:m=k
  ·rw[e,abP hk]
  ·rw[abO (hn m (by omega))]
   exact tl c v k hk hn n (m+1) (by omega) (by omega)
theorem tm(c:N1)(v:Int)(hn:∀i,c i≠v):∀(n m:Nat),Gr.findFrom c v n m=-1
 | 0,m=>rfl
 | n+1,m=>by
  unfold Gr.findFrom
  rw[abO (hn m)]
  exact tm c v hn n (m+1)
theorem QI{v:Int}{k:Nat}(hk:k<384)(h:∀i,c i=v↔i=k):Gr.an 384 c v=(k:Int):=by
 unfold Gr.an;rw[show min 384 384=384 by omega];exact tl c v k ((h k).2 rfl) (fun i hi e=>by have:=(h i).1 e;omega) 384 0 (by omega) (by omega)
theorem KB{v:Int}(h:∀i,c i≠v):Gr.an 384 c v=-1:=tm c v h _ _
end Gn
open Go.RowKit
def pP:Nat->Code->Code
 | 0,c=>c
 | n+1,.seq _ b=>pP n b
 | _+1,c=>c
namespace Gn
variable{l:List Nat}
def mark(U:Nat->Bool)(k i:Nat):Bool:=if i=k then true else U i
theorem qW:∀(l:List Nat)(n:Nat)(h:n<l.length),l.Nodup->l.filter (fun i=>decide (i≠l[n]))=l.eraseIdx n
 | x :: l,0,_,hn=>by
  have hx:x∉l:=(List.nodup_cons.1 hn).1
  show(x :: l).filter (fun i=>decide (i≠x))=l
  rw[List.filter_cons_of_neg (by simp)]
  refine List.filter_eq_self.2 fun a ha=>?_
  simp only[decide_eq_true_eq]
  rintro rfl
  exact hx ha
 | x :: l,n+1,h,hn=>by
  have hx:=List.nodup_cons.1 hn
  have hl:n<l.length:=by simpa using h
  show(x :: l).filter (fun i=>decide (i≠l[n]))=x :: l.eraseIdx n;rw[List.filter_cons_of_pos,qW l n hl hx.2];simp only[decide_eq_true_eq];intro e;exact hx.1 (e▸List.getElem_mem hl)
theorem Iy(p:Nat->Bool)(n:Nat):(bi p n).Nodup:=List.Pairwise.filter _ List.nodup_range
theorem xS(c F:N1)(far:Int)(U:Nat->Bool)(n:Nat)(hn:n<(bi (free c F far U) 384).length):bi (free c F far (mark U ((bi (free c F far U) 384)[n]?.getD 0))) 384=(bi (free c F far U) 384).eraseIdx n:=by
 rw[<-qW _ n hn (Iy _ _),abQ hn,Option.getD_some];generalize (bi (free c F far U) 384)[n]=x;unfold bi;rw[List.filter_filter]
 congr 1
 funext i;unfold free mark;by_cases e:i=x
 ·subst e;simp
 ·simp[e]
theorem Gu(c F:N1):bi (free c F 4 (fun _=>false)) 384=(bi (fun i=>c i==1) 384).filter (eB F):=by
 unfold bi;rw[List.filter_filter]
 congr 1
 funext i;unfold free eB;have h:decide (4<=F i)=!decide (F i<4):=by
  by_cases h:F i<4
  ·rw[abJ h,abI (by omega)];rfl
  ·rw[abI h,abJ (by omega)];rfl
 rw[h];cases (c i==1) <;> simp
theorem Gt{c F:N1}(h:∀i,i<384->c i=1->0<=F i):bi (free c F 0 (fun _=>false)) 384=bi (fun i=>c i==1) 384:=by
 unfold bi;refine List.filter_congr fun i hi=>?_;have GR:=List.mem_range.1 hi;unfold free;by_cases e:c i=1
 ·rw[abJ (h i GR e),e];rfl
 ·rw[show(c i==1)=false by simpa using e];rfl
theorem Iw{p:Nat->Bool}{m n:Nat}(hn:n<(bi p m).length):(bi p m)[n]?.getD 0<m:=by
 rw[abQ hn];exact List.mem_range.1 (List.mem_filter.1 (List.getElem_mem hn)).1
theorem tL{d:aY}{a:Int}(h:l.length=0):kD d a l=-1:=abP h
theorem tM{d:aY}{a:Int}{n:Nat}(h:l.length≠0)(hn:d a 0 (l.length:Int)=(n:Int)):kD d a l=((l[n]?.getD 0:Nat):Int):=by
 unfold kD;rw[abO h,hn,abG]
theorem Ld{d:aY}(h:l.length=0)(m k:Nat):lie d m k l=[]:=by
 cases m with
 | zero=>rfl
 | succ m=>unfold lie;rw[abP h]
theorem O4{d:aY}{f:Int}(h:l.length=0)(m k:Nat):mons d f m k l=[]:=by
 cases m with
 | zero=>rfl
 | succ m=>unfold mons;rw[abP h]
end Gn
theorem ax.mark{w:World}{g n:Nat}{T:TypeId}{U:Nat->Bool}(h:ax w g T n (mc U))(i:Nat):ax (w.setCell ⟨g,i,none⟩ (.bool true)) g T n (mc (Gn.mark U i)):=by
 refine(h.store i (.bool true)).congr fun j _=>?_;unfold mc Gn.mark;by_cases e:j=i
 ·rw[abP e,abP e]
 ·rw[abO e,abO e]
theorem yh:(prog.info? 4).map (fun i=>(i.zero,i.size,i.bytes))=some (some (.bool false),1,1):=by kernel_rfl
def qN(w:World)(d:Gn.aY)(f:Int)(e:Ending)(w':World):Prop :=
 ∃(c F:N1)(G nE nI cE cI:Nat)(aE aI:Option Addr),Gn.fH d c F/\e=.returned (.agg #[.slice (some ⟨G,0,none⟩) 384 384,.slice aE nE cE,.slice aI nI cI])/\w.heap.size<=G/\ax w' G 5 384 (aZ c) /\
  nE=(Gn.ai d f c F).length/\nI=(Gn.aj d c).length/\w'.ownsRow w.heap.size 54 11 (.slice aE nE cE) nE (Gn.aL (Gn.ai d f c F))/\w'.ownsRow w.heap.size 62 4 (.slice aI nI cI) nI (Gn.jc (Gn.aj d c))/\w.grownBy w' none
structure eL(w:World)(B G gF L:Nat)(c F:N1)(vE:Value)(nE:Nat)(xs:List Value)(vI:Value)(wr:World):Prop where
 cells:ax wr G 5 384 (aZ c)
 qZ:ax wr gF 3 384 (bB F)
 bl:ax wr B 58 3 (fun _=>.slice none 0 0)
 box:ax wr L 58 3 (fun j=>if j=0 then .slice (some ⟨G,0,none⟩) 384 384 else if j=1 then vE else vI)
 ai:wr.ownsRow (L+1) 54 11 vE nE xs
 grown:w.grownBy wr none
 o0:w.heap.size<=B
 o1:B<G
 o2:G<gF
 o3:gF<L
theorem eL.own{w:World}{B G gF L:Nat}{c F:N1}{vE:Value}{nE:Nat}{xs:List Value}{vI:Value}{wr wx:World}{r:Option Nat}(h:eL w B G gF L c F vE nE xs vI wr)(hg:wr.grownBy wx r)(hr:∀n,r=some n->L<n/\vE.ownBlock≠some n):eL w B G gF L c F vE nE xs vI wx:=by
 have h0:=h.o0;have h1:=h.o1;have h2:=h.o2;have h3:=h.o3;refine⟨h.cells.grown hg (fun e=>?_),h.qZ.grown hg (fun e=>?_),h.bl.grown hg (fun e=>?_),h.box.grown hg (fun e=>?_),h.ai.kept hg ?_,gow h.grown hg (fun n e=>?_),h0,h1,h2,h3⟩
 ·have:=(hr _ e).1;omega
 ·have:=(hr _ e).1;omega
 ·have:=(hr _ e).1;omega
 ·have:=(hr _ e).1;omega
 ·cases hv:vE.ownBlock with
  | none=>exact .inl rfl
  | some n=>exact .inr fun e=>(hr n e.symm).2 hv
 ·have:=(hr _ e).1;omega
theorem eL.on{w:World}{B G gF L:Nat}{c F:N1}{vE:Value}{nE:Nat}{xs:List Value}{vI:Value}{wr wx:World}(h:eL w B G gF L c F vE nE xs vI wr)(hg:wr.grownBy wx none):eL w B G gF L c F vE nE xs vI wx :=
 h.own hg (fun n e=>by cases e)
theorem eL.aaQ{w:World}{B G gF L:Nat}{c F:N1}{vE:Value}{nE:Nat}{xs:List Value}{vI:Value}{wr:World}(h:eL w B G gF L c F vE nE xs vI wr)(vN:Value):eL w B G gF L c F vE nE xs vN (wr.setCell ⟨L,2,none⟩ vN):=by
 have h0:=h.o0;have h1:=h.o1;have h2:=h.o2;have h3:=h.o3;have hg:=gpt wr L 2 vN;refine⟨h.cells.grown hg (by simp;omega),h.qZ.grown hg (by simp;omega),h.bl.grown hg (by simp;omega),(h.box.store 2 vN).congr fun j hj=>?_,h.ai.kept hg ?_,gow h.grown hg (fun n e=>by cases e;omega),h0,h1,h2,h3⟩
 ·rcases(show j=0\/j=1\/j=2 by omega)with rfl|rfl|rfl <;> rfl
 ·cases hv:vE.ownBlock with
  | none=>exact .inl rfl
  | some n=>exact .inr fun e=>by have:=(h.ai.lt n hv).1;cases e;omega
theorem eL.aaP{w:World}{B G gF L:Nat}{c F:N1}{vE:Value}{nE:Nat}{xs:List Value}{vI:Value}{wr wx:World}(h:eL w B G gF L c F vE nE xs vI wr)(hg:wr.grownBy wx vE.ownBlock){vN:Value}{n':Nat}{xs':List Value}(hN:wx.ownsRow (L+1) 54 11 vN n' xs'):eL w B G gF L c F vN n' xs' vI (wx.setCell ⟨L,1,none⟩ vN):=by
 have h0:=h.o0;have h1:=h.o1;have h2:=h.o2;have h3:=h.o3;have hp:=gpt wx L 1 vN;have hL:∀n,vE.ownBlock=some n->L<n:=fun n e=>(h.ai.lt n e).1;refine⟨(h.cells.grown hg (fun e=>?_)).grown hp (by simp;omega),(h.qZ.grown hg (fun e=>?_)).grown hp (by simp;omega),(h.bl.grown hg (fun e=>?_)).grown hp (by simp;omega),((h.box.grown hg (fun e=>?_)).store 1 vN).congr fun j hj=>?_,hN.kept hp ?_,gow (gow h.grown hg (fun n e=>?_)) hp (fun n e=>by cases e;omega),h0,h1,h2,h3⟩
 ·have:=hL _ e;omega
 ·have:=hL _ e;omega
 ·have:=hL _ e;omega
 ·have:=hL _ e;omega
 ·rcases(show j=0\/j=1\/j=2 by omega)with rfl|rfl|rfl <;> rfl
 ·cases hv:vN.ownBlock with
  | none=>exact .inl rfl
  | some n=>exact .inr fun e=>by have:=(hN.lt n hv).1;cases e;omega
 ·have:=hL _ e;omega
structure eP(w:World)(B G gF L U bI:Nat)(c F:N1)(vE:Value)(nE:Nat)(xs:List Value)(vI:Value)(M:Nat->Bool)(acc:List Gn.li)(wr:World):Prop where
 ar:eL w B G gF L c F vE nE xs vI wr
 td:ax wr U 4 384 (mc M)
 aj:wr.ownsRow bI 62 4 vI acc.length (Gn.jc acc)
 F1:∀n,vE.ownBlock=some n->n<U
 o4:L<U
 o5:U<bI
 o6:bI<=wr.heap.size
theorem eP.on{w:World}{B G gF L U bI:Nat}{c F:N1}{vE:Value}{nE:Nat}{xs:List Value}{vI:Value}{M:Nat->Bool}{acc:List Gn.li}{wr wx:World}(h:eP w B G gF L U bI c F vE nE xs vI M acc wr)(hg:wr.grownBy wx none):eP w B G gF L U bI c F vE nE xs vI M acc wx :=
 ⟨h.ar.on hg,h.td.grown hg (by simp),h.aj.kept hg (by cases vI.ownBlock <;> simp),h.F1,h.o4,h.o5,abM h.o6 hg.size⟩
theorem eP.mark{w:World}{B G gF L U bI:Nat}{c F:N1}{vE:Value}{nE:Nat}{xs:List Value}{vI:Value}{M:Nat->Bool}{acc:List Gn.li}{wr:World}(h:eP w B G gF L U bI c F vE nE xs vI M acc wr)(k:Nat):eP w B G gF L U bI c F vE nE xs vI (Gn.mark M k) acc (wr.setCell ⟨U,k,none⟩ (.bool true)):=by
 have hg:=gpt wr U k (.bool true);have h5:=h.o5;refine⟨h.ar.own hg (fun n e=>?_),h.td.mark k,h.aj.kept hg ?_,h.F1,h.o4,h.o5,abM h.o6 hg.size⟩
 ·cases e;exact⟨h.o4,fun e=>by have:=h.F1 _ e;omega⟩
 ·cases hv:vI.ownBlock with
  | none=>exact .inl rfl
  | some n=>exact .inr fun e=>by have:=(h.aj.lt n hv).1;cases e;omega
theorem eP.add{w:World}{B G gF L U bI:Nat}{c F:N1}{vE:Value}{nE:Nat}{xs:List Value}{vI vN:Value}{M:Nat->Bool}{acc:List Gn.li}{p:Gn.li}{wr wx:World}(h:eP w B G gF L U bI c F vE nE xs vI M acc wr)(hN:wx.ownsRow bI 62 4 vN (acc.length+1) (Gn.jc acc++Gn.jj p))(hg:wr.grownBy wx vI.ownBlock):eP w B G gF L U bI c F vE nE xs vN M (acc++[p]) (wx.setCell ⟨L,2,none⟩ vN):=by
 have h4:=h.o4;have h5:=h.o5;have hp:=gpt wx L 2 vN
 have hb:eL w B G gF L c F vE nE xs vI wx:=h.ar.own hg (fun n e=>by
  have:=(h.aj.lt n e).1;refine⟨by omega,fun e'=>?_⟩;have:=h.F1 n e'
  omega)
 refine⟨hb.aaQ vN,(h.td.grown hg (fun e=>?_)).grown hp (by simp;omega),?_,h.F1,h.o4,h.o5,abM h.o6 (abM hg.size hp.size)⟩
 ·have:=(h.aj.lt _ e).1;omega
 ·rw[Gn.uW,List.length_append];refine hN.kept hp ?_;cases hv:vN.ownBlock with
  | none=>exact .inl rfl
  | some n=>exact .inr fun e=>by have:=(hN.lt n hv).1;cases e;omega
structure gP(w:World)(B G gF L U bE:Nat)(c F:N1)(vE:Value)(M:Nat->Bool)(acc:List (Int × Nat))(wr:World):Prop where
 ar:eL w B G gF L c F vE acc.length (Gn.aL acc) (.slice none 0 0) wr
 td:ax wr U 4 384 (mc M)
 ai:wr.ownsRow bE 54 11 vE acc.length (Gn.aL acc)
 o4:L<U
 o5:U<bE
 o6:bE<=wr.heap.size
theorem gP.own{w:World}{B G gF L U bE:Nat}{c F:N1}{vE:Value}{M:Nat->Bool}{acc:List (Int × Nat)}{wr wx:World}{r:Option Nat}(h:gP w B G gF L U bE c F vE M acc wr)(hg:wr.grownBy wx r)(hr:∀n,r=some n->U<n/\vE.ownBlock≠some n):gP w B G gF L U bE c F vE M acc wx:=by
 have h4:=h.o4;refine⟨h.ar.own hg (fun n e=>⟨by have:=(hr n e).1;omega,(hr n e).2⟩),h.td.grown hg (fun e=>?_),h.ai.kept hg ?_,h.o4,h.o5,abM h.o6 hg.size⟩
 ·have:=(hr _ e).1;omega
 ·cases hv:vE.ownBlock with
  | none=>exact .inl rfl
  | some n=>exact .inr fun e=>(hr n e.symm).2 hv
theorem gP.on{w:World}{B G gF L U bE:Nat}{c F:N1}{vE:Value}{M:Nat->Bool}{acc:List (Int × Nat)}{wr wx:World}(h:gP w B G gF L U bE c F vE M acc wr)(hg:wr.grownBy wx none):gP w B G gF L U bE c F vE M acc wx :=
 h.own hg (fun n e=>by cases e)
theorem gP.mark{w:World}{B G gF L U bE:Nat}{c F:N1}{vE:Value}{M:Nat->Bool}{acc:List (Int × Nat)}{wr:World}(h:gP w B G gF L U bE c F vE M acc wr)(k:Nat):gP w B G gF L U bE c F vE (Gn.mark M k) acc (wr.setCell ⟨U,k,none⟩ (.bool true)):=by
 have hg:=gpt wr U k (.bool true);have h5:=h.o5;have hE:∀n,vE.ownBlock=some n->U<n:=fun n e=>by have:=(h.ai.lt n e).1;omega
 refine⟨h.ar.own hg (fun n e=>?_),h.td.mark k,h.ai.kept hg ?_,h.o4,h.o5,abM h.o6 hg.size⟩
 ·cases e;exact⟨h.o4,fun e=>by have:=hE _ e;omega⟩
 ·cases hv:vE.ownBlock with
  | none=>exact .inl rfl
  | some n=>exact .inr fun e=>by have:=hE n hv;cases e;omega
theorem gP.add{w:World}{B G gF L U bE:Nat}{c F:N1}{vE vN:Value}{M:Nat->Bool}{acc:List (Int × Nat)}{p:Int × Nat}{wr wx:World}(h:gP w B G gF L U bE c F vE M acc wr)(hN:wx.ownsRow bE 54 11 vN (acc.length+1) (Gn.aL acc++Gn.eF p))(hg:wr.grownBy wx vE.ownBlock):gP w B G gF L U bE c F vN M (acc++[p]) (wx.setCell ⟨L,1,none⟩ vN):=by
 have h4:=h.o4;have h5:=h.o5;have hp:=gpt wx L 1 vN;have hN':wx.ownsRow bE 54 11 vN (acc++[p]).length (Gn.aL (acc++[p])):=by
  rw[Gn.xR,List.length_append];exact hN
 refine⟨h.ar.aaP hg (gp hN' (by omega)),(h.td.grown hg (fun e=>?_)).grown hp (by simp;omega),hN'.kept hp ?_,h.o4,h.o5,abM h.o6 (abM hg.size hp.size)⟩
 ·have:=(h.ai.lt _ e).1;omega
 ·cases hv:vN.ownBlock with
  | none=>exact .inl rfl
  | some n=>exact .inr fun e=>by have:=(hN.lt n hv).1;cases e;omega
theorem Kv(s f:Int):∃d:Gn.aY,(∀a b n,Gn.D s f a b n=d a b n)/\Gn.gL d:=⟨fun a b n=>Gn.D s f a b n,fun _ _ _=>rfl,fun a b n h=>Gn.Y2 s f a b n h⟩
