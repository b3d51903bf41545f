import Derived.Test.YtbanjoflgoiegaaGreatPart01
import Derived.Deep.RegionHeld3
import Derived.Deep.LoopGhost
set_option maxHeartbeats 2000000
set_option maxRecDepth 8000
namespace Go.Proofs.YtbanjoflgoiegaaGreat
open Go.Proofs.Tryz
open Go.RowKit
def Gn.bh(x y tx ty:Int)(first:Bool):Bool:=(y==ty)||(first&&x !=tx)
def Gn.dY (x y tx ty:Int) (first:Bool):Int:=if Gn.bh x y tx ty first then Gn.mb x tx else x
def Gn.dZ (x y tx ty:Int) (first:Bool):Int:=if Gn.bh x y tx ty first then y else Gn.mb y ty
theorem Gn.Ks(a b:Int):a+Gn.LA b a=Gn.mb a b:=by
 unfold Gn.LA Gn.mb;split
 ·split <;> omega
 ·split <;> omega
theorem Gn.Ny(a b:Int):-1<=Gn.LA a b/\Gn.LA a b<=1:=by
 unfold Gn.LA;split
 ·omega
 ·split <;> omega
theorem gd1{a b:World}{r:Option Nat}(h:a.grownBy b r):a.grownBy b.drew r:=⟨h.os,h.tape,h.output,h.size,h.block⟩
theorem mq(w:World)(o1 o2 o3:Obj):w.grownBy (((w.alloc o1).alloc o2).alloc o3).drew none:=gd1 (gal (gal (abE _ _ _) _) _)
theorem nX(x y tx ty:Int)(first:Bool)(w:World)(h1:-1000<=x)(h2:x<=1000)(h3:-1000<=y)(h4:y<=1000):Calls prog 161 #[.agg #[.int .i64 x,.int .i64 y],.agg #[.int .i64 tx,.int .i64 ty],.bool first] w
   (aJ w (.agg #[.int .i64 (Gn.dY x y tx ty first),.int .i64 (Gn.dZ x y tx ty first)])):=by
 obtain⟨b1,b2⟩:=Gn.Ny tx x;obtain⟨b3,b4⟩:=Gn.Ny ty y;by_cases hw:Gn.bh x y tx ty first=true
 ·have e1:Gn.dY x y tx ty first=x+Gn.LA tx x:=by unfold Gn.dY;rw[abP hw,Gn.Ks]
  have e2:Gn.dZ x y tx ty first=y:=by unfold Gn.dZ;rw[abP hw]
  rw[e1,e2];unfold Gn.bh at hw;clear e1 e2;by_cases hy:(y==ty)=true
  ·clear hw;go_enter func161,ntmps161;go_wp2
   go_region_with (go_at_call 175;refine(uk _ _ _).mono ?_;rintro e w' ⟨rfl,rfl⟩)
   all_goals go_wp2
   all_goals go_returns
   all_goals exact⟨rfl,mq _ _ _ _⟩
  ·have IN:(y==ty)=false:=by simpa using hy
   rw[IN,Bool.false_or,Bool.and_eq_true]at hw;obtain⟨rfl,hx⟩:=hw;clear hy;go_enter func161,ntmps161;go_wp2
   go_region_with (go_at_call 175;refine(uk _ _ _).mono ?_;rintro e w' ⟨rfl,rfl⟩)
   all_goals go_wp2
   all_goals go_returns
   all_goals exact⟨rfl,mq _ _ _ _⟩
 ·have e1:Gn.dY x y tx ty first=x:=by unfold Gn.dY;rw[abO hw]
  have e2:Gn.dZ x y tx ty first=y+Gn.LA ty y:=by unfold Gn.dZ;rw[abO hw,Gn.Ks]
  rw[e1,e2];have XN:Gn.bh x y tx ty first=false:=by simpa using hw
  unfold Gn.bh at XN;rw[Bool.or_eq_false_iff]at XN;obtain⟨hy,hf⟩:=XN;clear e1 e2 hw;cases first with
  | false =>
   clear hf;go_enter func161,ntmps161;go_wp2
   go_region_with (go_at_call 175;refine(uk _ _ _).mono ?_;rintro e w' ⟨rfl,rfl⟩)
   all_goals go_wp2
   all_goals go_returns
   all_goals exact⟨rfl,mq _ _ _ _⟩
  | true =>
   rw[Bool.true_and]at hf;go_enter func161,ntmps161;go_wp2
   go_region_with (go_at_call 175;refine(uk _ _ _).mono ?_;rintro e w' ⟨rfl,rfl⟩)
   all_goals go_wp2
   all_goals go_returns
   all_goals exact⟨rfl,mq _ _ _ _⟩
end Go.Proofs.YtbanjoflgoiegaaGreat
namespace Go.Proofs.YtbanjoflgoiegaaGreat
open Go.Proofs.Tryz
namespace Gn
abbrev aY:=Int->Int->Int->Int
def gL(d:aY):Prop:=∀a b n,1<=n->0<=d a b n/\d a b n<n
def rw(d:aY)(i:Nat):Int:=3+d i 0 5
def rh (d:aY) (i:Nat):Int:=2+d i 1 4
def rx (d:aY) (i:Nat):Int:=1+d i 2 (23-rw d i)
def ry (d:aY) (i:Nat):Int:=1+d i 3 (15-rh d i)
def mx (d:aY) (i:Nat):Int:=rx d i+rw d i/2
def my (d:aY) (i:Nat):Int:=ry d i+rh d i/2
theorem mF{d:aY}(hd:gL d)(i:Nat):(3<=rw d i/\rw d i<=7)/\(2<=rh d i/\rh d i<=5)/\(1<=rx d i/\rx d i+rw d i<=23)/\(1<=ry d i/\ry d i+rh d i<=15):=by
 have hw:=hd i 0 5 (by omega);have hh:=hd i 1 4 (by omega);have h1:3<=rw d i/\rw d i<=7:=by unfold rw;omega
 have h2:2<=rh d i/\rh d i<=5:=by unfold rh;omega
 have hx:=hd i 2 (23-rw d i) (by omega);have hy:=hd i 3 (15-rh d i) (by omega);refine⟨h1,h2,?_,?_⟩
 ·unfold rx;omega
 ·unfold ry;omega
theorem gz{d:aY}(hd:gL d)(i:Nat):1<=mx d i/\mx d i<=22/\1<=my d i/\my d i<=14:=by
 have:=mF hd i;unfold mx my;omega
def cH(c:N1)(x y w h r q:Int)(i:Nat):Int :=
 if (x<=(i%24:Nat)/\((i%24:Nat):Int)<x+w/\y<=(i/24:Nat)/\((i/24:Nat):Int)<y+h)/\(((i/24:Nat):Int)<r\/((i/24:Nat):Int)=r/\((i%24:Nat):Int)<q)then 1 else c i
def Hz(c:N1)(x y w h:Int)(i:Nat):Int:=cH c x y w h (y+h) x i
theorem tK(c:N1)(x y w h:Int)(i:Nat):cH c x y w h y x i=c i:=by
 unfold cH;rw[abO (by omega)]
theorem yw(c:N1)(x y w h r:Int)(i:Nat):cH c x y w h r (x+w) i=cH c x y w h (r+1) x i:=by
 unfold cH;by_cases hc:(x<=(i%24:Nat)/\((i%24:Nat):Int)<x+w/\y<=(i/24:Nat)/\((i/24:Nat):Int)<y+h)/\(((i/24:Nat):Int)<r\/((i/24:Nat):Int)=r/\((i%24:Nat):Int)<x+w)
 ·rw[abP hc,abP (by omega)]
 ·rw[abO hc,abO (by omega)]
theorem yv(c:N1)(x y w h r q:Int)(k:Nat)(h1:x<=q)(h2:q<x+w)(h3:y<=r)(h4:r<y+h)(h5:0<=x)(h6:x+w<=24)(hk:r*24+q=(k:Int))(i:Nat):Gr.dj (cH c x y w h r q) k 1 i=cH c x y w h r (q+1) i:=by
 unfold Gr.dj cH;by_cases e:i=k
 ·subst e;rw[abP rfl,abP (by omega)]
 ·rw[abO e];by_cases hc:(x<=(i%24:Nat)/\((i%24:Nat):Int)<x+w/\y<=(i/24:Nat)/\((i/24:Nat):Int)<y+h)/\(((i/24:Nat):Int)<r\/((i/24:Nat):Int)=r/\((i%24:Nat):Int)<q)
  ·rw[abP hc,abP (by omega)]
  ·rw[abO hc,abO (by omega)]
def roomed(d:aY):Nat->Nat->Int
 | 0=>fun _=>0
 | n+1=>Hz (roomed d n) (rx d n) (ry d n) (rw d n) (rh d n)
def bG(st:(Nat->Int) × Bool)(k:Nat):(Nat->Int) × Bool:=if st.1 k=0 then(Gr.dj st.1 k (if st.2 then 1 else 2),true)else st
def digRun(tx ty:Int)(first:Bool):Nat->(Nat->Int) × Bool->Int->Int->(Nat->Int) × Bool
 | 0,st,x,y=>bG st (y*24+x).toNat
 | n+1,st,x,y=>digRun tx ty first n (bG st (y*24+x).toNat) (dY x y tx ty first) (dZ x y tx ty first)
def dh(x y tx ty:Int):Nat:=(tx-x).natAbs+(ty-y).natAbs
theorem cJ(x y tx ty:Int)(first:Bool)(h:¬(x=tx/\y=ty)):dh (dY x y tx ty first) (dZ x y tx ty first) tx ty+1=dh x y tx ty:=by
 unfold dh dY dZ bh mb;by_cases hy:y=ty
 ·have hx:x≠tx:=fun e=>h ⟨e,hy⟩;simp only[hy,beq_self_eq_true,Bool.true_or,ite_true];split
  ·omega
  ·split <;> omega
 ·have e:(y==ty)=false:=by simpa using hy
  rw[e,Bool.false_or];split
  ·rename_i hh;have hx:x≠tx:=by simp at hh;exact hh.2
   split
   ·omega
   ·split <;> omega
  ·split
   ·omega
   ·split <;> omega
theorem iT(x y tx ty:Int)(first:Bool)(h:(1<=x/\x<=22)/\1<=y/\y<=14)(ht:(1<=tx/\tx<=22)/\1<=ty/\ty<=14):(1<=dY x y tx ty first/\dY x y tx ty first<=22)/\1<=dZ x y tx ty first/\dZ x y tx ty first<=14:=by
 unfold dY dZ mb;split
 ·split
  ·omega
  ·split <;> omega
 ·split
  ·omega
  ·split <;> omega
def ks(d:aY):Nat->Nat->Int
 | 0=>roomed d 6
 | n+1=>(digRun (mx d (n+1)) (my d (n+1)) (d ((n+1:Nat):Int) 4 2==0) (dh (mx d n) (my d n) (mx d (n+1)) (my d (n+1))) (ks d n,false) (mx d n) (my d n)).1
theorem Pe{c:N1}{x y w h r q:Int}(hc:∀i,0<=c i/\c i<=5)(i:Nat):0<=cH c x y w h r q i/\cH c x y w h r q i<=5:=by
 unfold cH;split
 ·omega
 ·exact hc i
theorem wH{c:N1}{k:Nat}{v:Int}(hc:∀i,0<=c i/\c i<=5)(hv:0<=v/\v<=5)(i:Nat):0<=Gr.dj c k v i/\Gr.dj c k v i<=5:=by
 unfold Gr.dj;split
 ·exact hv
 ·exact hc i
theorem gJ{st:(Nat->Int) × Bool}{k:Nat}(hc:∀i,0<=st.1 i/\st.1 i<=5)(i:Nat):0<=(bG st k).1 i/\(bG st k).1 i<=5:=by
 unfold bG;split
 ·exact wH hc (by split <;> omega) i
 ·exact hc i
theorem Gp(tx ty:Int)(first:Bool):∀(n:Nat) (st:(Nat->Int) × Bool) (x y:Int),(∀i,0<=st.1 i/\st.1 i<=5)->∀i,0<=(digRun tx ty first n st x y).1 i/\(digRun tx ty first n st x y).1 i<=5
 | 0,_,_,_,h=>gJ h
 | n+1,_,_,_,h=>Gp tx ty first n _ _ _ (gJ h)
theorem Io(d:aY):∀(n i:Nat),0<=roomed d n i/\roomed d n i<=5
 | 0,_=>by simp[roomed]
 | n+1,i=>Pe (Io d n) i
theorem xQ(d:aY):∀(n i:Nat),0<=ks d n i/\ks d n i<=5
 | 0,i=>Io d 6 i
 | n+1,i=>by
  have h:=Gp (mx d (n+1)) (my d (n+1)) (d ((n+1:Nat):Int) 4 2==0) (dh (mx d n) (my d n) (mx d (n+1)) (my d (n+1))) (ks d n,false) (mx d n) (my d n) (xQ d n) i
  rw[ks]
  exact h
end Gn
open Go.RowKit
variable{w:World}
theorem cO{a b c:World}{r:Option Nat}(h:a.grownBy b r)(k:b.grownBy c none):a.grownBy c r:=gow h k (fun _ e=>by cases e)
theorem bF{P:Program}{id:Nat}{Q:Exit->Act->World->Prop}{a:Act}{l:List Oper}(hm:P.follows .mixedOrders=true)(hB:Region.lexB .any l.toArray=true)(h:∀(St:Type),Nonempty St->∀(W:St->World),(∀σ,w.grownBy (W σ) none)->(∀x,w.grownBy x none->∃σ,x=W σ) ->
   wpQuiet P l.toArray (fun w'=>∃σ,w'=W σ) (fun a'=>∀w',(∃σ,w'=W σ)->Q .normal a' w') l a):(Code.region id l.toArray true).wp P Q a w:=by
 have h1:=h { x // w.grownBy x none } ⟨⟨_,abF w none⟩⟩ (fun σ=>σ.val) (fun σ=>σ.property) (fun x hx=>⟨⟨x,hx⟩,rfl⟩);exact wp_region_quiet (C:=fun w'=>∃σ:{ x // w.grownBy x none },w'=σ.val) hm hB ⟨⟨_,gd1 (abF _ _)⟩,rfl⟩ (by simpa using h1)
theorem bQ{P:Program}{f:FuncId}{args:Array Value}{St:Type}{W:St->World}{σ:St}{v:Value}(hI:∀σ,w.grownBy (W σ) none)(hx:∀x,w.grownBy x none->∃σ,x=W σ)(h:Calls P f args (W σ) (aJ (W σ) v)):Calls P f args (W σ) fun e sc=>e=.returned v/\∃σ',sc=W σ' :=
 h.mono fun _ w' ⟨he,hg⟩=>⟨he,hx w' (gtr (hI σ) hg)⟩
theorem gce{w':World}{r:Option Nat}(h:w.grownBy w' r)(b i:Nat)(hb:b<w.heap.size)(hr:r≠some b):w'.cell? ⟨b,i,none⟩=w.cell? ⟨b,i,none⟩ :=
 World.cell?_of_block (a:=⟨b,i,none⟩) (h.block b hb (fun e=>hr e.symm))
def Gn.most(F:N1):Nat->Int
 | 0=>F 0
 | n+1=>if F (n+1)>Gn.most F n then F (n+1)else Gn.most F n
theorem Gn.Lf(F:N1)(n i:Nat)(h:i<=n):F i<=Gn.most F n:=by
 induction n with
 | zero =>
  obtain rfl:i=0:=by omega
  exact Int.le_refl _
 | succ n ih =>
  unfold Gn.most;by_cases e:i=n+1
  ·subst e;split <;> omega
  ·have:=ih (by omega);split <;> omega
theorem Gn.RB(F:N1)(n:Nat):∃i,i<=n/\F i=Gn.most F n:=by
 induction n with
 | zero=>exact⟨0,abL _,rfl⟩
 | succ n ih =>
  obtain⟨i,hi,he⟩:=ih;by_cases h:F (n+1)>Gn.most F n
  ·exact⟨n+1,abL _,by rw[Gn.most,abP h]⟩
  ·exact⟨i,by omega,by rw[Gn.most,abO h];exact he⟩
theorem Rw(B:Nat)(a:Option Addr)(aG:Nat)(F:N1)(w:World)(h:il B w a 384 (bB F)):Calls prog 132 #[.slice a 384 aG] w fun e w'=>e=.returned (.int .i64 (Gn.most F 383))/\w'=w:=by
 obtain⟨b,off,rfl,_,qu⟩:=h.at (k:=0) (by omega);have Uh:w.cell? ⟨b,off,none⟩=some (.int .i64 (F 0)):=qu;have hv:=aa h;clear h qu;go_enter func132,ntmps132;go_wp2_with fail;go_loop [3,4] (fun m i=>∃k j:Nat,j=k+1/\k<=383/\i=.int .i64 (j:Int)/\m=.int .i64 (Gn.most F k)) (fun _ i=>400-(intOf i).toNat)
 case atStart=>exact⟨0,1,rfl,by omega,rfl,rfl⟩
 case round =>
  obtain⟨k,j,hj,hk,rfl,rfl⟩:=hrel;obtain⟨M,hM⟩:∃M,M=Gn.most F k:=⟨_,rfl⟩;rw[<-hM];by_cases hlt:k<383
  ·obtain⟨b',abC,GM,_,WM⟩:=(uh hv).at (k:=j) (by omega);simp only[Option.some.injEq,Addr.mk.injEq,and_true]at GM;obtain⟨rfl,rfl⟩:=GM;have abf:w.cell? ⟨b,off+j,none⟩=some (.int .i64 (F j)):=WM;have hlt':(j:Int)<384:=by omega
   have aK:Gn.most F j=if F j>M then F j else M:=by rw[hM,hj,Gn.most]
   have nk:=aa aK;have zK:=aa hj;have HL:=aa hlt;clear WM hM aK hlt hj hk Uh;by_cases hgt:M<F j
   ·have e:=aa (show Gn.most F j=F j by rw[uh nk,abP hgt]);go_wp2
    go_round
    case rel=>exact⟨j,j+1,rfl,by have:=uh zK;have:=uh HL;omega,by go_num,by rw[uh e]⟩
    case measure=>simp[intOf];omega
   ·have e:=aa (show Gn.most F j=M by rw[uh nk,abO (by omega)]);go_wp2
    go_round
    case rel=>exact⟨j,j+1,rfl,by have:=uh zK;have:=uh HL;omega,by go_num,by rw[uh e]⟩
    case measure=>simp[intOf];omega
  ·have hge:¬(j:Int)<384:=by omega
   obtain rfl:k=383:=by omega
   have FT:=aa hM;clear hlt hk hj hM;go_wp2;go_ret;exact⟨rti (uh FT),rfl⟩
theorem L9(B:Nat)(a:Option Addr)(aG:Nat)(F:N1)(v:Int)(far:Nat)(w:World)(h:il B w a 384 (bB F))(hf:far<384)(he:F far=v)(hn:∀i,i<far->F i≠v):Calls prog 133 #[.slice a 384 aG,.int .i64 v] w fun e w'=>e=.returned (.int .i64 (far:Int))/\w'=w:=by
 have hv:=aa h;have ju:=aa hn;have xn:=aa he;clear h hn he;go_enter func133,ntmps133;go_wp2_with fail;go_loop [8] (fun i=>∃k:Nat,k<=far/\i=.int .i64 (k:Int)) (fun i=>400-(intOf i).toNat)
 case atStart=>exact⟨0,by omega,rfl⟩
 case round =>
  obtain⟨k,hk,rfl⟩:=hrel;obtain⟨b,off,rfl,_,hc⟩:=(uh hv).at (k:=k) (by omega);have fD:w.cell? ⟨b,off+k,none⟩=some (.int .i64 (F k)):=hc;have hlt':(k:Int)<384:=by omega
  clear hc;by_cases W9:k=far
  ·subst W9;have hq:(v==F k)=true:=by rw[uh xn];simp
   go_wp2;go_ret;exact⟨rfl,rfl⟩
  ·have hq:(v==F k)=false:=by
    have:=uh ju k (by omega);rw[beq_eq_false_iff_ne];exact fun e=>this e.symm
   have HK:=aa W9;clear W9;go_wp2
   go_round
   case rel=>exact⟨k+1,by have:=uh HK;omega,by go_num⟩
   case measure=>simp[intOf];omega
def Gn.bi(p:Nat->Bool)(n:Nat):List Nat:=(List.range n).filter p
theorem Gn.yJ{p:Nat->Bool}{n:Nat}(h:p n=true):Gn.bi p (n+1)=Gn.bi p n++[n]:=by
 unfold Gn.bi;rw[List.range_succ,List.filter_append,List.filter_cons_of_pos h,List.filter_nil]
theorem Gn.Ix{p:Nat->Bool}{n:Nat}(h:p n=false):Gn.bi p (n+1)=Gn.bi p n:=by
 unfold Gn.bi;rw[List.range_succ,List.filter_append,List.filter_cons_of_neg (by simp[h]),List.filter_nil,List.append_nil]
theorem Gn.nA(p:Nat->Bool)(n:Nat):(Gn.bi p n).length<=n:=by
 have h:=List.length_filter_le p (List.range n);rw[List.length_range]at h;exact h
def qM(w:World)(ar:Nat)(v:Value)(l:List Nat):Prop:=w.ownsRow ar 3 1 v l.length ((dD l).map (Value.int .i64))
theorem oQ(B:Nat)(a:Option Addr)(aG:Nat)(c:N1)(w:World)(h:il B w a 384 (aZ c))(hB:B<=w.heap.size):Calls prog 134 #[.slice a 384 aG] w fun e w'=>∃v,e=.returned v/\qM w' w.heap.size v (Gn.bi (fun i=>c i==1) 384)/\w.grownBy w' none:=by
 have hv:=aa h;obtain⟨i0,hi,dJ,dz,ed⟩:=info_parts gX;clear h;go_enter func134,ntmps134;go_wp2_with fail;go_loopw [3,8] (fun v i wr=>∃k:Nat,k<=384/\i=.int .i64 (k:Int)/\qM wr w.heap.size v (Gn.bi (fun i=>c i==1) k)/\w.grownBy wr none) (fun _ i _=>400-(intOf i).toNat)
 case atStart=>exact⟨0,by omega,rfl,World.ownsRow_nil _ _ _ _,abF _ _⟩
 case round =>
  obtain⟨k,hk,rfl,aH,hg⟩:=hrel;have aR:=aa aH;have hg1:=aa hg;have eC:=hg.size;have YN:=Gn.nA (fun i=>c i==1) k;clear aH hg;by_cases hlt:k<384
  ·obtain⟨b,off,rfl,hb,hc⟩:=((uh hv).kept (w':=wr) ⟨(uh hg1).os,(uh hg1).tape,(uh hg1).output,(uh hg1).size,fun i hi=>(uh hg1).block i (by omega) (by simp)⟩).at hlt;have fD:wr.cell? ⟨b,off+k,none⟩=some (.int .u8 (c k)):=hc;have hlt':(k:Int)<384:=by omega
   have HL:=aa hlt;clear hc hlt hk;by_cases hq:(c k==1)=true
   ·have gw:=aa (Gn.yJ (p:=fun i=>c i==1) hq);obtain⟨l,hl⟩:∃l,l=Gn.bi (fun i=>c i==1) k:=⟨_,rfl⟩;rw[<-hl]at aR YN gw;have sO:=aa hl;clear hl;go_wp2_with (at_builtin;refine wpList_append_own _ rfl _ _ 38 rfl w.heap.size 3 i0 (.int .i64 0) 1 8 underlying38 hi dJ dz ed rfl (by decide) _ _ _ rfl ((uh aR).alloc _) ⟨wr.heap.size,0,none⟩ 1 1 [.int .i64 (k:Int)] rfl rfl ?_ ?_ ?_ ?_ ?_ ?_)
    ·exact eS _ _ _ _ rfl
    ·intro u hu;simp at hu;subst hu;rfl
    ·unfold maxLen;omega
    ·omega
    ·simp;omega
    intro v' w1 ev az _;rw[fS]at ev;have gj:Hid (qM w1 w.heap.size v' (Gn.bi (fun i=>c i==1) (k+1))):=by
     rw[uh gw];show w1.ownsRow _ _ _ _ _ _;rw[List.length_append];exact ev
    have hg2:=aa (gow (gal (uh hg1) _) az (fun n e=>((uh aR).lt n e).1));clear ev az aR hg1;go_wp2;go_roundw
    case rel=>exact⟨k+1,by have:=uh HL;omega,by go_num,uh gj,uh hg2⟩
    case measure=>simp[intOf];omega
   ·have kp:(c k==1)=false:=by simpa using hq
    have hno:=aa (Gn.Ix (p:=fun i=>c i==1) kp);clear hq;go_wp2;go_roundw
    case rel=>exact⟨k+1,by have:=uh HL;omega,by go_num,by rw[uh hno];exact uh aR,uh hg1⟩
    case measure=>simp[intOf];omega
  ·have hge:¬(k:Int)<384:=by omega
   obtain rfl:k=384:=by omega
   clear hlt hk;go_wp2;go_ret;exact⟨_,rfl,uh aR,uh hg1⟩
