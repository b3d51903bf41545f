import Derived.Test.YtbanjoflgoiegaaGreatPart01
set_option maxHeartbeats 4000000
set_option maxRecDepth 8000
namespace Go.Proofs.YtbanjoflgoiegaaGreat
open Go.Proofs.Tryz
open Go.RowKit
variable{F:N1}{c d k:Nat}{ny pre ring:List Nat}{op tg:Nat->Prop}
def VW(G:Nat)(w:World)(op tg:Nat->Prop)(mN:List Nat)(e:Ending)(w':World):Prop :=
 ∃(nx:List Nat)(F:N1)(a:Option Addr)(aG:Nat),e=.returned (.slice a nx.length aG)/\Vm G w' a nx.length (bB fun i=>((nx[i]?.getD 0:Nat):Int))/\ax w' G 3 384 (bB F)/\Gr.nH op tg F (mN++nx) mN.length 0/\w.grownBy w' (some G)
theorem um(pre ring nx:List Nat)(k:Nat)(h:k<ring.length):(pre++ring++nx)[pre.length+k]?.getD 0=ring[k]?.getD 0:=by
 rw[List.getElem?_append_left (by simp;omega),List.getElem?_append_right (by omega)]
 congr 2
 omega
theorem Rp(w:World):(Instr.index 181 (.agg #[.int .i64 0,.int .i64 (-1),.int .i64 1,.int .i64 0,.int .i64 0,.int .i64 1,.int .i64 (-1),.int .i64 0]) (.int .i64 0)).run prog w=.ok (.agg #[.int .i64 0,.int .i64 (-1)]) w:=by kernel_rfl
theorem Rq(w:World):(Instr.index 181 (.agg #[.int .i64 0,.int .i64 (-1),.int .i64 1,.int .i64 0,.int .i64 0,.int .i64 1,.int .i64 (-1),.int .i64 0]) (.int .i64 1)).run prog w=.ok (.agg #[.int .i64 1,.int .i64 0]) w:=by kernel_rfl
theorem Rr(w:World):(Instr.index 181 (.agg #[.int .i64 0,.int .i64 (-1),.int .i64 1,.int .i64 0,.int .i64 0,.int .i64 1,.int .i64 (-1),.int .i64 0]) (.int .i64 2)).run prog w=.ok (.agg #[.int .i64 0,.int .i64 1]) w:=by kernel_rfl
theorem Rs(w:World):(Instr.index 181 (.agg #[.int .i64 0,.int .i64 (-1),.int .i64 1,.int .i64 0,.int .i64 0,.int .i64 1,.int .i64 (-1),.int .i64 0]) (.int .i64 3)).run prog w=.ok (.agg #[.int .i64 (-1),.int .i64 0]) w:=by kernel_rfl
theorem JH(d:Nat)(hd:d<4)(w:World):(Instr.index 181 (.agg #[.int .i64 0,.int .i64 (-1),.int .i64 1,.int .i64 0,.int .i64 0,.int .i64 1,.int .i64 (-1),.int .i64 0]) (.int .i64 (d:Int))).run prog w=.ok (.agg #[.int .i64 (Gr.dxOf d),.int .i64 (Gr.dyOf d)]) w:=by
 match d,hd with
 | 0,_=>exact Rp w
 | 1,_=>exact Rq w
 | 2,_=>exact Rr w
 | 3,_=>exact Rs w
theorem sX{b:Nat}(hI:Gr.nH op tg F (pre++ring++ny) (pre.length+k) d)(hk:k<ring.length)(hc:c=ring[k]?.getD 0)(hd:d<4)(hn:Gr.iK c d)(hb:b=Gr.gA c d)(ho:op b)(dH:F b<0):Gr.nH op tg (Gr.dj F b (F c+1)) (pre++ring++(ny++[b])) (pre.length+k) (d+1):=by
 have e:=um pre ring ny k hk;rw[<-hc]at e;have h:=hI.mark (fun i hi ht=>by have:=(hI.zero i hi).2 ht;omega) (by simp;omega) hd (by rw[e];exact hn) (by rw[e,<-hb];exact ho) (by rw[e,<-hb];exact dH);rw[e,<-hb,List.append_assoc]at h;exact h
theorem kj(hI:Gr.nH op tg F (pre++ring++ny) (pre.length+k) d)(hk:k<ring.length)(hc:c=ring[k]?.getD 0)(hd:d<4)(hs:Gr.iK c d->op (Gr.gA c d)->0<=F (Gr.gA c d)):Gr.nH op tg F (pre++ring++ny) (pre.length+k) (d+1):=by
 have e:=um pre ring ny k hk;rw[<-hc]at e;exact hI.skip (by simp;omega) hd (by rw[e];exact hs)
theorem OH(hI:Gr.nH op tg F (pre++ring++ny) (pre.length+k) d)(hk:k<ring.length)(hc:c=ring[k]?.getD 0):0<=F c/\F c<=400/\ny.length<384:=by
 have e:=um pre ring ny k hk;rw[<-hc]at e;have h:=hI.lt (a:=pre.length+k) (by simp;omega);rw[e]at h;have hl:=hI.len;simp at hl;refine⟨h.2,?_,by omega⟩;have:=hI.Oc (F c).toNat c h.1 (by omega);omega
theorem Gr.OF(c d:Nat)(dx dy:Int)(hx:dx=Gr.dxOf d)(hy:dy=Gr.dyOf d):Gr.iS ((c:Int)%24+dx) ((c:Int)/24+dy)=true↔Gr.iK c d:=by
 rw[Gr.bz,Gr.iK,hx,hy];omega
theorem Gr.Zj(d:Nat):-1<=Gr.dxOf d/\Gr.dxOf d<=1/\-1<=Gr.dyOf d/\Gr.dyOf d<=1:=by
 match d with
 | 0 | 1 | 2 | 3=>decide
 | n+4=>simp[Gr.dxOf,Gr.dyOf]
theorem tJ(G:Nat)(ca ba ra:Option Addr)(blen cc bc rc:Nat)(f:N1)(g:Nat->Bool)(tg:Nat->Prop)(pre ring:List Nat)(F0:N1)(w:World)(hc:il G w ca 384 (aZ f))(hf:∀i,0<=f i/\f i<=255)(hb:il G w ba blen (mc g))(hr:Vm G w ra ring.length (bB fun i=>((ring[i]?.getD 0:Nat):Int)))(hA:ax w G 3 384 (bB F0))(hI:Gr.nH (fun i=>Gr.dt f blen g i=true) tg F0 (pre++ring) pre.length 0):Calls prog 163 #[.slice ca 384 cc,.slice ba blen bc,.slice (some ⟨G,0,none⟩) 384 384,.slice ra ring.length rc] w
   (VW G w (fun i=>Gr.dt f blen g i=true) tg (pre++ring)):=by
 have hG:=hA.lt;have UP:ring.length<=384:=by have:=hI.len;simp at this;omega
 have fD:=aa hc;have fb:=aa hf;have pF:=aa hb;have hr':=aa hr;have jr:=aa hA;have mS:=aa hI;obtain⟨i0,hi,dJ,dz,ed⟩:=info_parts gX;obtain⟨W0,hW⟩:∃W0,W0=w.heap.size:=⟨_,rfl⟩;have hW':=aa hW;have Wq:G<W0:=by omega
 obtain⟨n,hn⟩:∃n,n=ring.length:=⟨_,rfl⟩;rw[<-hn]at UP|-;have ju:=aa hn;clear hc hf hb hr hA hI hW hn;go_enter func163,ntmps163;go_wp2_with fail;go_loopw [9,19] (fun v i wr=>∃(k:Nat)(nx:List Nat)(F:N1),k<=n/\i=.int .i64 k/\wr.ownsRow W0 3 1 v nx.length ((dD nx).map (Value.int .i64))/\ax wr G 3 384 (bB F)/\Gr.nH (fun i=>Gr.dt f blen g i=true) tg F (pre++ring++nx) (pre.length+k) 0/\w.grownBy wr (some G)) (fun _ i _=>n-(intOf i).toNat)
 case atStart=>exact⟨0,[],F0,Nat.zero_le _,rfl,World.ownsRow_nil _ _ _ _,uh jr,by rw[List.append_nil];exact uh mS,abF _ _⟩
 case round =>
  obtain⟨k,nx,F,hk,rfl,aH,hA,hI,hg⟩:=hrel;have oy:=aa hI;have dP:=aa hA;have hg1:=aa hg;have aR:=aa aH;clear hI hA hg jr mS aH;by_cases hlt:k<n
  ·have Og:k<ring.length:=by have:=uh ju;omega
   obtain⟨b,off,rfl,hcell⟩:=(uh hr').at (uh hg1) Og;obtain⟨c,vu⟩:∃c,c=ring[k]?.getD 0:=⟨_,rfl⟩;have vv:wr.cell? ⟨b,off+k,none⟩=some (.int .i64 (c:Int)):=by rw[vu];exact hcell
   have mw:c<384:=by
    have:=(uh oy).lt (a:=pre.length+k) (by simp;omega);rw[um pre ring nx k Og,<-vu]at this;exact this.1
   have hlt':(k:Int)<(n:Int):=by omega
   have nc:=aa vu;clear hcell vu;go_wp2_with fail;clear vv;go_loopw [9,32] (fun v i ws=>∃(d:Nat)(ny:List Nat)(F:N1),d<=4/\i=.int .i64 d/\ws.ownsRow W0 3 1 v ny.length ((dD ny).map (Value.int .i64))/\ax ws G 3 384 (bB F)/\Gr.nH (fun i=>Gr.dt f blen g i=true) tg F (pre++ring++ny) (pre.length+k) d/\w.grownBy ws (some G)) (fun _ i _=>4-(intOf i).toNat)
   case atStart=>exact⟨0,nx,F,by omega,rfl,uh aR,uh dP,uh oy,uh hg1⟩
   case round =>
    clear oy dP hg1 aR;obtain⟨d,ny,F,hd4,rfl,aH,hA,hI,hg⟩:=hrel;have oy:=aa hI;have dP:=aa hA;have hg1:=aa hg;have aR:=aa aH;clear hI hA hg aH;by_cases hd:d<4
    ·have GS:=fun w=>JH d hd w;obtain⟨dx,zE⟩:∃dx,dx=Gr.dxOf d:=⟨_,rfl⟩;obtain⟨dy,zF⟩:∃dy,dy=Gr.dyOf d:=⟨_,rfl⟩;obtain⟨e1,e2,e3,e4⟩:=Gr.Zj d;rw[<-zE]at GS e1 e2;rw[<-zF]at GS e3 e4;have jL:(d:Int)<4:=(by omega);have WS:=aa zE;have WT:=aa zF;clear zE zF;have sK:Hid (∀o,il G (wr.alloc o) ca 384 (aZ f)):=fun o=>(uh fD).kept (jd (gal (uh hg1) o) (by omega));have Jg:Hid (∀o,il G (wr.alloc o) ba blen (mc g)):=fun o=>(uh pF).kept (jd (gal (uh hg1) o) (by omega));have hGr:G<wr.heap.size:=(uh dP).lt;have zJ:=Gr.OF c d dx dy (uh WS) (uh WT);by_cases cU:Gr.iK c d
     ·have ua:=zJ.2 cU;obtain⟨bb,KR⟩:∃bb,bb=Gr.gA c d:=⟨_,rfl⟩;have NX:bb<384:=by rw[KR];exact Gr.yr cU
      have PZ:((c:Int)/24+dy)*24+((c:Int)%24+dx)=(bb:Int):=by
       have:=Gr.tI cU;rw[<-uh WS,<-uh WT,<-KR]at this;omega
      have zB:=aa KR;have LS:=aa cU;have Uj:∀o,(wr.alloc o).cell? ⟨G,bb,none⟩=some (.int .i64 (F bb)):=fun o=>((uh dP).alloc o).cell NX;have Um:∀o,(wr.alloc o).frozen? ⟨G,bb,none⟩=false:=fun o=>((uh dP).alloc o).free bb;have IJ:∀o,(wr.alloc o).cell? ⟨G,c,none⟩=some (.int .i64 (F c)):=fun o=>((uh dP).alloc o).cell mw;have jf:(bb:Int)<384:=(by omega);have oS:(c:Int)<384:=(by omega);obtain⟨f1,f2,f3⟩:=OH (uh oy) Og (uh nc);clear KR cU zJ;go_wp2_with (go_at_call 153;refine abW (gY _ _ _ (by omega) (by omega) (by omega) (by omega)) ?_);refine abW (Ma G _ _ _ _ _ f g _ _ bb _ (uh sK _) (uh fb) (uh Jg _) ua PZ) ?_;by_cases ho:Gr.dt f blen g bb=true
      ·by_cases dH:F bb<0
       ·have Xf:=aa (sX (uh oy) Og (uh nc) hd (uh LS) (uh zB) ho dH);go_wp2_with (at_builtin;refine wpList_append_own _ rfl _ _ 38 rfl W0 3 i0 (.int .i64 0) 1 8 underlying38 hi dJ dz ed rfl (by decide) _ _ _ rfl (((ownsRow_setCell_below (uh aR) Wq _).alloc _).alloc _) ⟨wr.heap.size+1,0,none⟩ 1 1 [.int .i64 (bb:Int)] rfl rfl ?c1 ?c2 ?c3 ?c4 ?c5 ?_)
        case c1=>exact eS _ _ _ _ (by simp)
        case c2=>intro u hu;simp at hu;subst hu;rfl
        case c3=>unfold maxLen;omega
        case c4=>omega
        case c5=>have:=(uh hg1).size;have:=uh hW';simp;omega
        intro v' w1 ev az _;rw[fS]at ev;have gj:Hid (w1.ownsRow W0 3 1 v' (ny++[bb]).length ((dD (ny++[bb])).map (Value.int .i64))):=by rw[List.length_append];exact ev
        have dF:=aa (((((uh dP).dj (F c+1)).alloc _).alloc _).grown az (fun e=>by have:=((uh aR).lt _ e).1;omega));have hg2:=aa (gow (gal (gal (gst (uh hg1) bb _) _) _) az (fun m hm=>by rw[<-uh hW'];exact((uh aR).lt m hm).1));clear ev az aR dP hg1 oy Uj Um IJ sK Jg;go_wp2;go_roundw
        case rel=>exact⟨d+1,ny++[bb],_,by omega,by go_num,uh gj,uh dF,uh Xf,uh hg2⟩
        case measure=>simp[intOf];omega
       ·have LZ:=aa (kj (uh oy) Og (uh nc) hd (fun _ _=>by rw[<-uh zB];omega));go_wp2;go_roundw
        case rel=>exact⟨d+1,ny,F,by omega,by go_num,(uh aR).alloc _,(uh dP).alloc _,uh LZ,gal (uh hg1) _⟩
        case measure=>simp[intOf];omega
      ·have Rd:Gr.dt f blen g bb=false:=by simpa using ho
       have LZ:=aa (kj (uh oy) Og (uh nc) hd (fun _ h=>absurd h (by rw[<-uh zB];exact ho)));clear ho;go_wp2;go_roundw
       case rel=>exact⟨d+1,ny,F,by omega,by go_num,(uh aR).alloc _,(uh dP).alloc _,uh LZ,gal (uh hg1) _⟩
       case measure=>simp[intOf];omega
     ·have ua:Gr.iS ((c:Int)%24+dx) ((c:Int)/24+dy)=false:=by
       cases hh:Gr.iS ((c:Int)%24+dx) ((c:Int)/24+dy)with
       | false=>rfl
       | true=>exact absurd (zJ.1 hh) cU
      have LZ:=aa (kj (uh oy) Og (uh nc) hd (fun h _=>absurd h cU));clear cU zJ;go_wp2_with (go_at_call 153;refine abW (gY _ _ _ (by omega) (by omega) (by omega) (by omega)) ?_);refine abW (JK G _ _ _ _ _ f _ _ _ (uh sK _) (uh fb) ua) ?_;go_wp2;go_roundw
      case rel=>exact⟨d+1,ny,F,by omega,by go_num,(uh aR).alloc _,(uh dP).alloc _,uh LZ,gal (uh hg1) _⟩
      case measure=>simp[intOf];omega
    ·have jL:¬(d:Int)<4:=(by omega);have SG:d=4:=(by omega);have gM:Hid (Gr.nH (fun i=>Gr.dt f blen g i=true) tg F (pre++ring++ny) (pre.length+(k+1)) 0):=by
      have h:=uh oy;rw[SG]at h;exact h.next
     clear SG oy;go_wp2;go_roundw
     case rel=>exact⟨k+1,ny,F,by omega,by go_num,uh aR,uh dP,uh gM,uh hg1⟩
     case measure=>simp[intOf];omega
  ·have hge:¬(k:Int)<(n:Int):=by omega
   have KU:k=ring.length:=by have:=uh ju;omega
   have ah:Hid (Gr.nH (fun i=>Gr.dt f blen g i=true) tg F ((pre++ring)++nx) (pre++ring).length 0):=by
    have h:=uh oy;rw[KU]at h;rw[List.length_append];exact h
   obtain⟨a,aG,rfl,yg⟩:=Fs (G:=G) (uh aR) Wq (by have h:=(uh oy).len;simp at h;unfold maxLen;omega);have UW:=aa yg;clear yg KU aR;go_wp2;go_ret;exact⟨nx,F,a,aG,rfl,uh UW,uh dP,uh ah,uh hg1⟩
variable{F f t:N1}{k:Nat}{ring:List Nat}
structure Gr.lm(f t:N1)(k:Nat)(F:N1)(ring:List Nat):Prop where
 jS:∀i,i<384->F i=0\/F i=-1
 zero:∀i,i<384->(F i=0↔Gr.aS (f i)=true/\∃j,j<k/\t j=(i:Int))
 mem:∀i,i<384->(0<=F i↔i∈ring)
 FF:∀i,i∈ring->i<384
 cnt:ring.length=Gr.cnt F 384
theorem Gr.Nz(n:Nat):Gr.cnt (fun _=>-1) n=0:=by
 induction n with
 | zero=>rfl
 | succ n ih=>unfold Gr.cnt;rw[ih];rfl
theorem Gr.lm.none(f t:N1):Gr.lm f t 0 (fun _=>-1) []:=by
 refine⟨fun _ _=>.inr rfl,fun i hi=>?_,fun i hi=>?_,fun i hi=>?_,(Gr.Nz 384).symm⟩
 ·constructor
  ·intro h;cases h
  ·rintro⟨_,j,hj,_⟩;omega
 ·simp
 ·cases hi
theorem Gr.lm.ue(h:Gr.lm f t k F ring)(hs:∀c:Nat,c<384->t k=(c:Int)->Gr.aS (f c)=true->0<=F c):Gr.lm f t (k+1) F ring:=by
 refine⟨h.jS,fun i hi=>?_,h.mem,h.FF,h.cnt⟩;rw[h.zero i hi];constructor
 ·rintro⟨hw,j,hj,he⟩;exact⟨hw,j,by omega,he⟩
 ·rintro⟨hw,j,hj,he⟩;by_cases pG:j=k
  ·subst pG;have h0:=hs i hi he hw;have:F i=0:=by rcases h.jS i hi with h|h <;> omega
   exact(h.zero i hi).1 this
  ·exact⟨hw,j,by omega,he⟩
theorem Gr.lm.ps{c:Nat}(h:Gr.lm f t k F ring)(ht:t k=(c:Int))(hs:Gr.aS (f c)=true->0<=F c):Gr.lm f t (k+1) F ring:=by
 refine h.ue fun c' _ h' hw=>?_;obtain rfl:c'=c:=by omega
 exact hs hw
theorem Gr.lm.add{c:Nat}(h:Gr.lm f t k F ring)(hc:c<384)(ht:t k=(c:Int))(hw:Gr.aS (f c)=true)(dH:F c<0):Gr.lm f t (k+1) (Gr.dj F c 0) (ring++[c]):=by
 refine⟨fun i hi=>?_,fun i hi=>?_,fun i hi=>?_,fun i hi=>?_,?_⟩
 ·by_cases e:i=c
  ·rw[e,Gr.fV];exact .inl rfl
  ·rw[Gr.ic F _ e];exact h.jS i hi
 ·by_cases e:i=c
  ·subst e;rw[Gr.fV];exact⟨fun _=>⟨hw,k,by omega,ht⟩,fun _=>rfl⟩
  ·rw[Gr.ic F _ e,h.zero i hi];constructor
   ·rintro⟨hw,j,hj,he⟩;exact⟨hw,j,by omega,he⟩
   ·rintro⟨hw,j,hj,he⟩;exact⟨hw,j,by by_cases pG:j=k;(subst pG;omega);omega,he⟩
 ·by_cases e:i=c
  ·rw[e,Gr.fV];simp
  ·rw[Gr.ic F _ e,h.mem i hi];simp[e]
 ·rcases List.mem_append.1 hi with hi|hi
  ·exact h.FF i hi
  ·simp at hi;omega
 ·rw[Gr.Kt F c 0 384 hc dH (by omega),List.length_append,h.cnt];rfl
def Gr.FJ(f t:N1)(cv:Nat)(i:Nat):Prop:=Gr.aS (f i)=true/\∃j,j<cv/\t j=(i:Int)
theorem Gr.lm.inv{op:Nat->Prop}(h:Gr.lm f t k F ring):Gr.nH op (Gr.FJ f t k) F ring 0 0 :=
 Gr.nH.start h.jS h.zero h.mem h.FF h.cnt
theorem Gr.Lc(f:N1)(c:Nat)(h:c<384):Gr.bD 384 f (c:Int)=f c:=by
 unfold Gr.bD;rw[abP (by omega),abG]
theorem Gr.OM(f:N1)(z:Int)(h:¬(0<=z/\z<384)):Gr.bD 384 f z=0:=by
 unfold Gr.bD;rw[abO (by omega)]
theorem JI(G:Nat)(ca ta:Option Addr)(cv cc tc:Nat)(f t:N1)(op:Nat->Prop)(w:World)(hc:il G w ca 384 (aZ f))(hf:∀i,0<=f i/\f i<=255)(ht:il G w ta cv (bB t))(K6:∀i,-9223372036854775808<=t i/\t i<=9223372036854775807)(hA:ax w G 3 384 (bB fun _=>-1)):Calls prog 162 #[.slice ca 384 cc,.slice (some ⟨G,0,none⟩) 384 384,.slice ta cv tc] w (VW G w op (Gr.FJ f t cv) []):=by
 have hG:=hA.lt;have hm:cv<=9223372036854775807:=ht.1;have fD:=aa hc;have fb:=aa hf;have oA:=aa ht;have zQ:=aa K6;have jr:=aa hA;obtain⟨i0,hi,dJ,dz,ed⟩:=info_parts gX;obtain⟨W0,hW⟩:∃W0,W0=w.heap.size:=⟨_,rfl⟩;have hW':=aa hW;have Wq:G<W0:=by omega
 have aD:Gr.aS 0=false:=by decide
 clear hc hf ht hA hW K6;go_enter func162,ntmps162;go_wp2_with fail;go_loopw [7,12] (fun v i wr=>∃(k:Nat)(ring:List Nat)(F:N1),k<=cv/\i=.int .i64 k/\wr.ownsRow W0 3 1 v ring.length ((dD ring).map (Value.int .i64))/\ax wr G 3 384 (bB F)/\Gr.lm f t k F ring/\w.grownBy wr (some G)) (fun _ i _=>cv-(intOf i).toNat)
 case atStart=>exact⟨0,[],_,Nat.zero_le _,rfl,World.ownsRow_nil _ _ _ _,uh jr,Gr.lm.none f t,abF _ _⟩
 case round =>
  obtain⟨k,ring,F,hk,rfl,aH,hA,hS,hg⟩:=hrel;have ko:=aa hS;have dP:=aa hA;have hg1:=aa hg;have aR:=aa aH;have UP:ring.length<=384:=by rw[hS.cnt];exact Gr.I3 _ _
  clear hS hA hg jr aH;by_cases hlt:k<cv
  ·have nb:Below G w wr:=jd (uh hg1) (by omega);have sK:=aa ((uh fD).kept nb);obtain⟨b,off,rfl,_,hcell⟩:=((uh oA).kept nb).at hlt;have hlt':(k:Int)<(cv:Int):=by omega
   obtain⟨tb1,tb2⟩:=(uh zQ) k;obtain⟨z,hz⟩:∃z,z=t k:=⟨_,rfl⟩;have vv:wr.cell? ⟨b,off+k,none⟩=some (.int .i64 z):=by rw[hz];exact hcell
   rw[<-hz]at tb1 tb2;have kW:=aa hz;clear hcell hz nb;by_cases cU:0<=z/\z<384
   ·obtain⟨c,nM⟩:∃c:Nat,z=(c:Int):=⟨z.toNat,by omega⟩;subst nM;have mw:c<384:=(by omega);have Uy:=Gr.Lc f c mw;have Uj:=(uh dP).cell mw;have WJ:wr.cell? ⟨G,c,none⟩=some (.int .i64 (F c)):=Uj;have Um:=(uh dP).free c;have oS:(c:Int)<384:=(by omega);clear cU Uj;by_cases sk:Gr.aS (f c)=true
    ·by_cases dH:F c<0
     ·have LM:=aa ((uh ko).add mw (uh kW).symm sk dH);go_wp2_with (first| (go_at_call 176;refine abW (kg _ _ _ _ f _ _ (uh sK) (uh fb) (by omega) (by omega)) ?_)|(go_at_call 115;refine abW (gm _ _) ?_)|(at_builtin;refine wpList_append_own _ rfl _ _ 38 rfl W0 3 i0 (.int .i64 0) 1 8 underlying38 hi dJ dz ed rfl (by decide) _ _ _ rfl ((ownsRow_setCell_below (uh aR) Wq _).alloc _) ⟨wr.heap.size,0,none⟩ 1 1 [.int .i64 (c:Int)] rfl rfl ?c1 ?c2 ?c3 ?c4 ?c5 ?_))
      case c1=>exact eS _ _ _ _ (by simp)
      case c2=>intro u hu;simp at hu;subst hu;rfl
      case c3=>unfold maxLen;omega
      case c4=>omega
      case c5=>have:=(uh hg1).size;have:=uh hW';simp;omega
      intro v' w1 ev az _;rw[fS]at ev;have gj:Hid (w1.ownsRow W0 3 1 v' (ring++[c]).length ((dD (ring++[c])).map (Value.int .i64))):=by rw[List.length_append];exact ev
      have dF:=aa ((((uh dP).dj 0).alloc _).grown az (fun e=>by have:=((uh aR).lt _ e).1;omega));have hg2:=aa (gow (gal (gst (uh hg1) c _) _) az (fun m hm=>by rw[<-uh hW'];exact((uh aR).lt m hm).1));clear ev az aR dP hg1 ko WJ Um sK;go_wp2;go_roundw
      case rel=>exact⟨k+1,ring++[c],_,by omega,by go_num,uh gj,uh dF,uh LM,uh hg2⟩
      case measure=>simp[intOf];omega
     ·have LM:=aa ((uh ko).ps (uh kW).symm (fun _=>by omega));go_wp2_with (first| (go_at_call 176;refine abW (kg _ _ _ _ f _ _ (uh sK) (uh fb) (by omega) (by omega)) ?_)|(go_at_call 115;refine abW (gm _ _) ?_));go_roundw
      case rel=>exact⟨k+1,ring,F,by omega,by go_num,uh aR,uh dP,uh LM,uh hg1⟩
      case measure=>simp[intOf];omega
    ·have L5:Gr.aS (f c)=false:=by simpa using sk
     have LM:=aa ((uh ko).ps (uh kW).symm (fun hw=>absurd hw sk));clear sk;go_wp2_with (first| (go_at_call 176;refine abW (kg _ _ _ _ f _ _ (uh sK) (uh fb) (by omega) (by omega)) ?_)|(go_at_call 115;refine abW (gm _ _) ?_));go_roundw
     case rel=>exact⟨k+1,ring,F,by omega,by go_num,uh aR,uh dP,uh LM,uh hg1⟩
     case measure=>simp[intOf];omega
   ·have Uy:=Gr.OM f z cU;have LM:=aa ((uh ko).ue (fun c hc h _=>absurd (show 0<=z/\z<384 by have:=uh kW;omega) cU));clear cU;go_wp2_with (first| (go_at_call 176;refine abW (kg _ _ _ _ f _ _ (uh sK) (uh fb) (by omega) (by omega)) ?_)|(go_at_call 115;refine abW (gm _ _) ?_));go_roundw
    case rel=>exact⟨k+1,ring,F,by omega,by go_num,uh aR,uh dP,uh LM,uh hg1⟩
    case measure=>simp[intOf];omega
  ·have hge:¬(k:Int)<(cv:Int):=by omega
   obtain rfl:k=cv:=by omega
   have ah:=aa ((uh ko).inv (op:=op));obtain⟨a,aG,rfl,yg⟩:=Fs (G:=G) (uh aR) Wq (by unfold maxLen;omega);have UW:=aa yg;clear yg aR;go_wp2;go_ret;exact⟨ring,F,a,aG,rfl,uh UW,uh dP,uh ah,uh hg1⟩
def xB(w:World)(op tg:Nat->Prop)(e:Ending)(w':World):Prop:=∃F,Made w 3 384 (bB F) e w'/\Gr.dO op tg F
theorem sC(ca ba ta:Option Addr)(blen cv cc bc tc:Nat)(f t:N1)(g:Nat->Bool)(w:World)(hc:il w.heap.size w ca 384 (aZ f))(hf:∀i,0<=f i/\f i<=255)(hb:il w.heap.size w ba blen (mc g))(ht:il w.heap.size w ta cv (bB t))(K6:∀i,-9223372036854775808<=t i/\t i<=9223372036854775807):Calls prog 131 #[.slice ca 384 cc,.slice ba blen bc,.slice ta cv tc] w (xB w (fun i=>Gr.dt f blen g i=true) (Gr.FJ f t cv)):=by
 have fD:=aa hc;have fb:=aa hf;have pF:=aa hb;have oA:=aa ht;have zQ:=aa K6;obtain⟨i0,hi,dJ,dz,ed⟩:=info_parts gX;clear hc hf hb ht K6;go_enter func131,ntmps131;obtain⟨G,hG⟩:∃G,G=w.heap.size:=⟨_,rfl⟩;rw[<-hG]at fD pF oA;have kw:=aa hG;clear hG;go_wp2_with fail;refine l9 0 (fun m a' w'=>∃(ra:Option Addr)(RP:Nat)(pre ring:List Nat)(F:N1)(u3 u4 u5 u6 u8 iO S7 S8 S9 Ta Tb u16 Tc Td Te Tf Tg Ti Tj Tk Tl Tm Tn X3 X4 X5 X6 u32:Value),a'={ tmps:=#[.slice ca 384 cc,.slice ba blen bc,.slice ta cv tc,u3,u4,u5,u6,.slice (some ⟨G,0,none⟩) 384 384,u8,.slice ra ring.length RP,iO,S7,S8,S9,Ta,Tb,u16,Tc,Td,Te,Tf,Tg,Ti,Tj,Tk,Tl,Tm,Tn,X3,X4,X5,X6,u32],defers:=[] }/\Vm G w' ra ring.length (bB fun i=>((ring[i]?.getD 0:Nat):Int))/\ax w' G 3 384 (bB F)/\Gr.nH (fun i=>Gr.dt f blen g i=true) (Gr.FJ f t cv) F (pre++ring) pre.length 0/\Below G w w'/\m=384-pre.length) rfl ?_ ?_
 ·go_wp2_with (at_make;refine wpList_make_full _ rfl _ _ 38 rfl G 3 i0 (.int .i64 0) 1 underlying38 hi dJ dz .i64 .i64 _ _ 384 rfl rfl rfl rfl ?q3 ?q4 (Nat.le_of_eq (uh kw)) ?_)
  case q3=>rw[ed];omega
  case q4=>unfold maxLen;omega
  intro w2 aH az;rw[<-uh kw]at aH|-;have hA:=aa (ax.zero aH);have hB0:Below G w w2:=(Below.refl _ _).grown az (Nat.le_of_eq (uh kw)) (by intro k hk;cases hk);clear aH az hi dJ dz ed;go_wp2_with fail;go_loopw [13] (fun i wr=>∃k:Nat,k<=384/\i=.int .i64 k/\ax wr G 3 384 (fun j=>.int .i64 (if j<k then -1 else 0))/\Below G w wr) (fun i _=>384-(intOf i).toNat)
  case atStart=>exact⟨0,Nat.zero_le _,rfl,(uh hA).congr fun j _=>by rw[abO (Nat.not_lt_zero _)],hB0⟩
  case round =>
   obtain⟨k,hk,rfl,dP,pQ⟩:=hrel;have dF:=aa dP;clear dP hA hB0;by_cases hlt:k<384
   ·have ya:=(uh dF).cell hlt;have Jm:=(uh dF).free k;have hlt':(k:Int)<384:=(by omega);have HL:=aa hlt;clear hlt hk;go_wp2;go_roundw
    case rel=>exact⟨k+1,by have:=uh HL;omega,by go_num,((uh dF).store k _).congr fun j _=>mX (g:=fun _=>-1) rfl j,pQ.setCell (abL _) _⟩
    case measure=>have:=uh HL;simp[intOf];omega
   ·have hge:¬(k:Int)<384:=(by omega);have hA:=aa ((uh dF).congr (G:=bB fun _=>-1) fun j hj=>by rw[abP (by omega)];rfl);clear dF hk hlt;go_wp2_with fail;refine(JI G _ _ _ _ _ f t (fun i=>Gr.dt f blen g i=true) _ ((uh fD).kept pQ) (uh fb) ((uh oA).kept pQ) (uh zQ) (uh hA)).mono ?_;rintro e w3 ⟨ring,F,ra,RP,rfl,yg,fa,Ja,dl⟩;have hB:=pQ.trans (jd dl (Nat.le_of_lt (uh hA).lt));have yg:=aa yg;have hI:=aa Ja;have hA:=aa fa;obtain⟨pre,UO⟩:∃pre:List Nat,pre=[]:=⟨_,rfl⟩;rw[<-UO]at hI;have aaX:=aa UO;clear Ja fa dl pQ UO;go_wp2_with fail
    go_step3
    by_cases hz:ring.length=0
    ·obtain rfl:=List.eq_nil_of_length_eq_zero hz;have ah:=aa ((uh hI).done (by simp));have kW:(((([]:List Nat).length:Nat):Int)==0)=true:=(by simp);clear hz;go_wp2;simp only[Exit.jump];go_ret;exact⟨F,⟨G,rfl,Nat.le_of_eq (uh kw).symm,uh hA,by rw[<-uh kw];exact hB⟩,uh ah⟩
    ·have kW:((ring.length:Int)==0)=false:=by rw[beq_eq_false_iff_ne];omega
     have hpl:pre.length+ring.length<=384:=by have h:=(uh hI).len;simp at h;omega
     go_wp2_with fail;refine(tJ G _ _ _ _ _ _ _ f g (Gr.FJ f t cv) pre ring F _ ((uh fD).kept hB) (uh fb) ((uh pF).kept hB) (uh yg) (uh hA) (uh hI)).mono ?_;rintro e w3 ⟨nx,F2,ra2,Pm,rfl,Oy,dF,zt,hg2⟩;have pA:=hB.trans (jd hg2 (Nat.le_of_lt (uh hA).lt));have Oz:=aa Oy;have T3:=aa zt;have TP:=aa dF;clear Oy zt dF hg2;go_wp2_with fail
     go_step3
     exact⟨rfl,384-(pre++ring).length,ra2,Pm,pre++ring,nx,F2,_,_,_,_,_,_,_,_,_,_,_,_,_,_,_,_,_,_,_,_,_,_,_,_,_,_,_,_,rfl,uh Oz,uh TP,uh T3,pA,rfl⟩
 ·rintro m a' w2 ⟨ra,RP,pre,ring,F,u3,u4,u5,u6,u8,iO,S7,S8,S9,Ta,Tb,u16,Tc,Td,Te,Tf,Tg,Ti,Tj,Tk,Tl,Tm,Tn,X3,X4,X5,X6,u32,rfl,yg,hA,hI,hB,rfl⟩;have yg:=aa yg;have hI:=aa hI;have hA:=aa hA;clear hi dJ dz ed;by_cases hz:ring.length=0
  ·obtain rfl:=List.eq_nil_of_length_eq_zero hz;have ah:=aa ((uh hI).done (by simp));have kW:(((([]:List Nat).length:Nat):Int)==0)=true:=by simp
   clear hz;go_wp2;simp only[Exit.jump];go_ret;exact⟨F,⟨G,rfl,Nat.le_of_eq (uh kw).symm,uh hA,by rw[<-uh kw];exact hB⟩,uh ah⟩
  ·have kW:((ring.length:Int)==0)=false:=by rw[beq_eq_false_iff_ne];omega
   have hpl:pre.length+ring.length<=384:=by have h:=(uh hI).len;simp at h;omega
   go_wp2_with fail;refine(tJ G _ _ _ _ _ _ _ f g (Gr.FJ f t cv) pre ring F _ ((uh fD).kept hB) (uh fb) ((uh pF).kept hB) (uh yg) (uh hA) (uh hI)).mono ?_;rintro e w3 ⟨nx,F2,ra2,Pm,rfl,Oy,dF,zt,hg2⟩;have pA:=hB.trans (jd hg2 (Nat.le_of_lt (uh hA).lt));have Oz:=aa Oy;have T3:=aa zt;have TP:=aa dF;clear Oy zt dF hg2;go_wp2_with fail
   go_step3
   exact⟨rfl,384-(pre++ring).length,by simp;omega,ra2,Pm,pre++ring,nx,F2,_,_,_,_,_,_,_,_,_,_,_,_,_,_,_,_,_,_,_,_,_,_,_,_,_,_,_,_,rfl,uh Oz,uh TP,uh T3,pA,rfl⟩
