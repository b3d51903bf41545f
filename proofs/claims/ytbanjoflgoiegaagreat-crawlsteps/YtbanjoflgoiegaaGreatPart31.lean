import Derived.Test.YtbanjoflgoiegaaGreatPart30
set_option maxHeartbeats 6400000
namespace Go.Proofs.YtbanjoflgoiegaaGreat
open Go.Proofs.Tryz
open Go.RowKit
theorem J1(b cp n cm:Nat)(a:Option Addr)(I M:N2)(w:World)(hL:ay w b 62 160 (Gd.aL I))(hM:Gd.qP w a n M):Calls prog 64 #[.slice (some ⟨b,0,none⟩) 40 cp,.slice a n cm] w (Gd.nG w (Gd.lay I M n)):=by
 have hn:=hM.1;have mr:=aa hL;have FT:=aa hM;obtain⟨iI,YJ,Rm,Rn,Ro⟩:=info_parts jh;clear hL hM;go_enter func64,ntmps64;go_wp2_with (at_builtin;refine wpList_append_own _ rfl _ _ 27 rfl w.heap.size 62 iI (.agg #[.int .i64 0,.int .i64 0,.int .i64 0,.int .i64 0]) 4 32 underlying27 YJ Rm Rn Ro rfl (by decide) _ 0 [] rfl (World.ownsRow_made _ _ _ (abL _) (by decide) (by simp)) ⟨b,0,none⟩ 40 cp (Gd.fk 160 (Gd.aL I)) rfl (Gd.aX _ _) (Gd.fw fun q hq=>(gce (abE _ _ none) b q (uh mr).lt (by simp)).trans ((uh mr).cell hq)) (Gd.dK fun _=>rfl) ?c4 ?c5 ?c6 ?_)
 case c4=>unfold maxLen;omega
 case c5=>omega
 case c6=>simp
 intro v' w1 aH az ni;obtain⟨g,aG,rfl,iC,jP,oV⟩:=ay.jl (n:=40) (z:=4) (F:=Gd.aL I) aH (by simpa using ni);have hg1:=aa (gow (abE w _ none) az (fun k e=>by cases e;exact abL _));have KV:=aa oV;have qy:=aa iC;clear aH az ni oV iC jP YJ Rm Rn Ro;go_wp2_with fail;go_loopw [6] (fun i wr=>∃m:Nat,m<=n/\i=.int .i64 (m:Int)/\ay wr g 62 160 (Gd.aL (Gd.lay I M m))/\w.grownBy wr none) (fun i _=>200-(intOf i).toNat)
 case atStart=>exact⟨0,by omega,rfl,uh KV,uh hg1⟩
 case round =>
  obtain⟨m,hm,rfl,hJ,hgr⟩:=hrel;have oz:=aa hJ;have bV:=aa hgr;clear hJ hgr;by_cases hlt:m<n
  ·have hlt':(m:Int)<(n:Int):=by omega
   have HL:=aa hlt;obtain⟨bm,om,rfl,lbm,v0,v1,v2,v3⟩:=((uh FT).on (uh bV)).row hlt;have Yu:bm≠g:=by
    have h1:=uh qy;obtain⟨_,h0|⟨b',o',e,h3⟩⟩:=uh FT
    ·omega
    ·simp only[Option.some.injEq,Addr.mk.injEq]at e;have:=h3.2.1;omega
   have abd:=Yu.symm;clear hlt;go_wp2_with fail;go_loop [7] (fun i=>∃r:Nat,r<=40/\i=.int .i64 (r:Int)/\∀j,j<r->Gd.na (Gd.lay I M m) j=false) (fun i=>200-(intOf i).toNat)
   case atStart=>exact⟨0,by omega,rfl,fun j hj=>by omega⟩
   case round =>
    obtain⟨r,hr,rfl,hno⟩:=hrel;have aT:=aa hno;clear hno;by_cases zP:r<40
    ·have hr':(r:Int)<40:=(by omega);have HR:=aa zP;obtain⟨u0,u1,u2,u3⟩:=((uh oz).fo (n:=40) (by omega) (by omega)).row zP;have fI:=(uh oz).free;have kJ:=aa (show Gd.na (Gd.lay I M m) r=Gd.pd (Gd.lay I M m r 0) (Gd.lay I M m r 1) (Gd.lay I M m r 2) (Gd.lay I M m r 3) from rfl);by_cases hz:Gd.pd (Gd.lay I M m r 0) (Gd.lay I M m r 1) (Gd.lay I M m r 2) (Gd.lay I M m r 3)=true
     ·have hs:=aa (Gd.Hj (uh aT) ((uh kJ).trans hz) zP);obtain⟨e0,e1,e2,e3⟩:=(of_decide_eq_true hz:_/\_/\_/\_);rw[e0]at u0;rw[e1]at u1;rw[e2]at u2;rw[e3]at u3;have ZM:=aa ((uh oz).put r (M m 0) (M m 1) (M m 2) (M m 3));have zH:=aa (gow (uh bV) (gT (abF _ (some g)) r (.int .i64 (M m 0)) (.int .i64 (M m 1)) (.int .i64 (M m 2)) (.int .i64 (M m 3))) (fun k e=>by cases e;exact uh qy));clear hz e0 e1 e2 e3 kJ zP;go_wp2;go_roundw
      case rel=>exact⟨m+1,by have:=uh HL;omega,by go_num,by rw[uh hs];exact uh ZM,uh zH⟩
      case measure=>simp[intOf];omega
     ·have kW:Gd.pd (Gd.lay I M m r 0) (Gd.lay I M m r 1) (Gd.lay I M m r 2) (Gd.lay I M m r 3)=false:=by simpa using hz
      have hq:=aa ((uh kJ).trans kW);have WO:∀wx:World,(binOp .eql 62 (.agg #[.int .i64 (Gd.lay I M m r 0),.int .i64 (Gd.lay I M m r 1),.int .i64 (Gd.lay I M m r 2),.int .i64 (Gd.lay I M m r 3)]) (.agg #[.int .i64 0,.int .i64 0,.int .i64 0,.int .i64 0])).run prog wx=.ok (.bool false) wx:=fun wx=>by
       rw[run_eq_item];refine congrArg (fun z=>Result.ok (Value.bool z) wx) ?_;have h:=of_decide_eq_false kW;rw[<-Bool.not_eq_true];simp only[Bool.and_eq_true,decide_eq_true_eq];exact h
      clear hz kW kJ zP;go_wp2
      go_round
      case rel=>exact⟨r+1,by have:=uh HR;omega,by go_num,fun j hj=>by
       by_cases e:j=r
       ·rw[e];exact uh hq
       ·exact uh aT j (by omega)⟩
      case measure=>simp[intOf];omega
    ·have hge:¬(r:Int)<40:=(by omega);have hs:=aa (Gd.Hi (I:=I) (M:=M) (m:=m) (fun j hj=>uh aT j (by omega)));go_wp2;go_roundw
     case rel=>exact⟨m+1,by have:=uh HL;omega,by go_num,by rw[uh hs];exact uh oz,uh bV⟩
     case measure=>simp[intOf];omega
  ·have hge:¬(m:Int)<(n:Int):=by omega
   obtain rfl:m=n:=by omega
   go_wp2;go_ret;exact⟨g,aG,rfl,uh qy,uh oz,uh bV⟩
variable{k:Nat}
def rZ(x:World)(k:Nat):World:={ x with heap:=x.heap.extract 0 k }
theorem FK(x:World){b:Nat}(hb:b<k):(rZ x k).heap[b]?=x.heap[b]?:=by
 show(x.heap.extract 0 k)[b]?=x.heap[b]?;rw[Array.getElem?_extract];split
 ·rw[Nat.zero_add]
 ·rename_i h;rw[Array.getElem?_eq_none (by omega)]
theorem ld(x:World)(hk:k<=x.heap.size):(rZ x k).heap.size=k:=by
 show(x.heap.extract 0 k).size=k;rw[Array.size_extract];omega
theorem Kf(x:World)(hk:k<=x.heap.size):(rZ x k).grownBy x none :=
 ⟨rfl,rfl,rfl,by rw[ld x hk];exact hk,fun b hb _=>(FK x (by rw[ld x hk]at hb;exact hb)).symm⟩
theorem I6{v x:World}(h:v.grownBy x none)(h1:v.heap.size<=k)(hk:k<=x.heap.size):v.grownBy (rZ x k) none:=by
 obtain⟨a,b,c,d,e⟩:=h;exact⟨a,b,c,by rw[ld x hk];exact h1,fun i hi hn=>(FK x (by omega)).trans (e i hi hn)⟩
theorem ay.rZ{x:World}{g:Nat}{T:TypeId}{m:Nat}{F:Nat->Value}(h:ay x g T m F)(hg:g<k):ay (rZ x k) g T m F:=by
 obtain⟨M,G,⟨cD,hc,h1,h2⟩,h3,h4⟩:=h;exact⟨M,G,⟨cD,(FK x hg).trans hc,h1,h2⟩,h3,h4⟩
def Gd.lp(I:N2)(q:Nat)(iv:Int):Prop:=(iv=-1/\∀j:Nat,j<q->Gd.an I 40 4 (j:Int) 0<0)\/(0<=iv/\iv=Gd.ja I 40)
theorem Gd.lp.next{I:N2}{q:Nat}{iv:Int}(h:Gd.lp I q iv)(hn:iv<0)(hq:q<3):Gd.lp I (q+1) (Gd.an I 40 4 (q:Int) 0):=by
 rcases h with⟨_,hno⟩|⟨h0,_⟩
 ·by_cases hf:Gd.an I 40 4 (q:Int) 0<0
  ·refine .inl ⟨(Gd.mY hf).1,fun j hj=>?_⟩;by_cases e:j=q
   ·rw[e];exact hf
   ·exact hno j (by omega)
  ·refine .inr ⟨by omega,?_⟩;have he:En.first (fun k=>decide (0<=Gd.an I 40 4 (k:Int) 0)) 3=(q:Int):=En.cG (fun j hj=>abI (by have:=hno j hj;omega)) (abJ (by omega)) hq
   unfold Gd.ja;rw[he,abP (by omega)]
 ·omega
theorem Gd.lp.done{I:N2}{q:Nat}{iv:Int}(h:Gd.lp I q iv)(hd:0<=iv\/3<=q):iv=Gd.ja I 40:=by
 rcases h with⟨h1,hno⟩|⟨_,he⟩
 ·have he:En.first (fun k=>decide (0<=Gd.an I 40 4 (k:Int) 0)) 3=-1:=En.bt (fun j hj=>abI (by have:=hno j (by omega);omega))
  unfold Gd.ja;rw[he,abO (by omega)];exact h1
 ·exact he
end Go.Proofs.YtbanjoflgoiegaaGreat
namespace Go.Proofs.YtbanjoflgoiegaaGreat
open Go.Proofs.Tryz
open Go.RowKit Go.ChangeShapes Go.WideShapes
variable{a:Option Addr}{len:Nat}{w:World}
theorem Cr.PP{n:Int}(h:(Lit.int .i64 n).wf=true):-9223372036854775808<=n/\n<=9223372036854775807:=by
 simp only[Lit.wf,Bool.and_eq_true,decide_eq_true_eq,show IntKind.i64.min=-9223372036854775808 from by decide,show IntKind.i64.max=9223372036854775807 from by decide]at h;exact h
theorem Pd{H:Type}{enc:TypeId × Value->H}{ar:Nat}{sp:Nat->Bool}{held:Bool}{fuel:Nat}{aG:Nat}{x:DataW H × List MemPlace}(h:DataW.trod enc prog w ar sp held fuel 38 [.slice a len aG]=some x):∃z,len<=maxLen/\Cr.F5 w a len z:=by
 rcases Go.Deep.open_slice underlying38 h with⟨fp,_⟩|⟨a',XV,oN,m,n,D,Pl,fp,_,hl,hm,zN,_,hx⟩
 ·simp only[List.cons.injEq,Value.slice.injEq,and_true]at fp;obtain⟨rfl,rfl,rfl⟩:=fp;exact⟨fun _=>0,Nat.zero_le _,fun i hi=>absurd hi (Nat.not_lt_zero i)⟩
 ·simp only[List.cons.injEq,Value.slice.injEq,and_true]at fp;obtain⟨rfl,rfl,rfl⟩:=fp;have kx:prog.cellsOf 3=1:=by kernel_rfl
  rw[kx]at hx;have hlm:len<=m:=by rw[zN];split <;> omega
  obtain⟨z,hz⟩:∃z:N1,∀i,i<len->w.cell? (a'.add (i*1))=some (.int .i64 (z i))/\(Lit.int .i64 (z i)).wf=true:=by
   refine Go.Deep.choose_lt (α:=Int) (p:=fun i e=>w.cell? (a'.add (i*1))=some (.int .i64 e)/\(Lit.int .i64 e).wf=true) fun i hi=>?_;obtain⟨sB,h1,h2⟩:=hx i (by omega);obtain⟨_,hlen,hcell⟩:=World.cells?_some h1;obtain⟨e,rfl,_,hw⟩:=DataW.trod_int underlying3 h2;have h0:=hcell 0 (by omega);exact⟨e,by simpa [Addr.add] using h0,hw⟩
  refine⟨z,abM hl hm,fun i hi=>?_⟩;obtain⟨b,off,spot⟩:=a';have qu:=(hz i hi).1;have oY:spot=none:=by simpa [Addr.add] using World.cell?_spot (hz 0 (by omega)).1
  subst oY;rw[add_plain,Nat.mul_one]at qu;have hb:=Go.block_lt_of_cell qu;exact⟨b,off,rfl,hb,qu,Cr.PP (hz i hi).2⟩
def Cr.Lq(w:World)(a:Option Addr)(len:Nat)(V:Nat->Option Addr × Nat × Nat)(z:N2):Prop :=
 len<=maxLen/\∀i,i<len->∃b o,a=some ⟨b,o,none⟩/\b<w.heap.size/\w.cell? ⟨b,o+i,none⟩=some (.slice (V i).1 (V i).2.1 (V i).2.2)/\(V i).2.1<=maxLen/\Cr.F5 w (V i).1 (V i).2.1 (z i)
theorem Cr.Lq.on{w':World}{V:Nat->Option Addr × Nat × Nat}{z:N2}(h:Cr.Lq w a len V z)(hg:w.grownBy w' none):Cr.Lq w' a len V z :=
 ⟨h.1,fun i hi=>by
  obtain⟨b,o,ha,hb,hc,hn,hz⟩:=h.2 i hi
  exact⟨b,o,ha,abR hb hg.size,(gce hg b _ hb (by simp)).trans hc,hn,hz.on hg⟩⟩
theorem Mq{H:Type}{enc:TypeId × Value->H}{ar:Nat}{sp:Nat->Bool}{held:Bool}{fuel:Nat}{aG:Nat}{x:DataW H × List MemPlace}(h:DataW.trod enc prog w ar sp held fuel 22 [.slice a len aG]=some x):∃V z,Cr.Lq w a len V z:=by
 rcases Go.Deep.open_slice underlying22 h with⟨fp,_⟩|⟨a',XV,oN,m,n,D,Pl,fp,_,hl,hm,zN,_,hx⟩
 ·simp only[List.cons.injEq,Value.slice.injEq,and_true]at fp;obtain⟨rfl,rfl,rfl⟩:=fp;exact⟨fun _=>(none,0,0),fun _ _=>0,Nat.zero_le _,fun i hi=>absurd hi (Nat.not_lt_zero i)⟩
 ·simp only[List.cons.injEq,Value.slice.injEq,and_true]at fp;obtain⟨rfl,rfl,rfl⟩:=fp;have kx:prog.cellsOf 38=1:=by kernel_rfl
  rw[kx]at hx;have hlm:len<=m:=by rw[zN];split <;> omega
  obtain⟨q,hq⟩:∃q:Nat->(Option Addr × Nat × Nat) × (Nat->Int),∀i,i<len->w.cell? (a'.add (i*1))=some (.slice (q i).1.1 (q i).1.2.1 (q i).1.2.2)/\(q i).1.2.1<=maxLen/\Cr.F5 w (q i).1.1 (q i).1.2.1 (q i).2:=by
   refine Go.Deep.choose_lt (α:=(Option Addr × Nat × Nat) × (Nat->Int)) (p:=fun i e=>w.cell? (a'.add (i*1))=some (.slice e.1.1 e.1.2.1 e.1.2.2)/\e.1.2.1<=maxLen/\Cr.F5 w e.1.1 e.1.2.1 e.2) fun i hi=>?_;obtain⟨sB,h1,h2⟩:=hx i (by omega);obtain⟨_,hlen,hcell⟩:=World.cells?_some h1;have h0:=hcell 0 (by omega);obtain⟨r,l,k,rfl⟩:∃r l k,sB=[.slice r l k]:=by
    rcases Go.Deep.open_slice underlying38 h2 with⟨fp,_⟩|⟨a2,len2,cap2,_,_,_,_,fp,_⟩
    ·exact⟨none,0,0,fp⟩
    ·exact⟨some a2,len2,cap2,fp⟩
   obtain⟨z,dz,ed⟩:=Pd h2;exact⟨((r,l,k),z),by simpa [Addr.add] using h0,dz,ed⟩
  refine⟨fun i=>(q i).1,fun i=>(q i).2,abM hl hm,fun i hi=>?_⟩;obtain⟨b,off,spot⟩:=a';have qu:=(hq i hi).1;have oY:spot=none:=by simpa [Addr.add] using World.cell?_spot (hq 0 (by omega)).1
  subst oY;rw[add_plain,Nat.mul_one]at qu;exact⟨b,off,rfl,Go.block_lt_of_cell qu,qu,(hq i hi).2.1,(hq i hi).2.2⟩
