import Derived.Test.YtbanjoflgoiegaaGreatPart11
set_option maxHeartbeats 3200000
set_option maxRecDepth 8000
namespace Go.Proofs.YtbanjoflgoiegaaGreat
open Go.Proofs.Tryz
open Go.RowKit
theorem En.F8{E:N2}{x y:Int}{k:Nat}(h:E k 0=0):En.eM E x y k=false:=by simp[En.eM,h]
theorem En.qQ {E:N2} {x y:Int} {k:Nat} (h:¬E k 0=0):En.eM E x y k=(decide (E k 3=x)&&decide (E k 4=y)):=by simp[En.eM,h]
theorem En.Jj {E:N2} {s:Int} {k:Nat} (h:E k 0=0):En.dg E s k=false:=by simp[En.dg,h]
theorem En.Jk {E:N2} {s:Int} {k:Nat} (_:¬E k 0=0):En.dg E s k=(decide (E k 0=1)&&decide (E k 2=s)):=rfl
theorem En.ofQ_free {E:N2} {id:Int} {k:Nat} (h:E k 0=0):En.ofQ E id k=false:=by simp[En.ofQ,h]
theorem En.ofQ_some {E:N2} {id:Int} {k:Nat} (h:¬E k 0=0):En.ofQ E id k=decide ((k:Int)+32*E k 1=id):=by simp[En.ofQ,h]
theorem Mm(b n c p0 p1 p2:Nat)(E:N2)(x y:Int)(w:World)(hE:fG w b n E)(hc:n<=c)(ub:w.cell? ⟨p0,0,none⟩=some (.slice (some ⟨b,0,none⟩) n c))(IM:w.cell? ⟨p1,0,none⟩=some (.int .i64 x))(Xp:w.cell? ⟨p2,0,none⟩=some (.int .i64 y))(Jp:p0<w.heap.size)(KV:p1<w.heap.size)(SO:p2<w.heap.size):Calls prog 108 #[.slice (some ⟨b,0,none⟩) n c,.func (.func 140) #[] #[.pointer (some ⟨p0,0,none⟩),.pointer (some ⟨p1,0,none⟩),.pointer (some ⟨p2,0,none⟩)]] w (aJ w (.int .i64 (En.first (En.eM E x y) n))):=by
 have hn:=hE.1;have cd:Hid (∀wx,w.grownBy wx none->∀k:Nat,k<n->Calls prog 140 #[.int .i64 (k:Int),.pointer (some ⟨p0,0,none⟩),.pointer (some ⟨p1,0,none⟩),.pointer (some ⟨p2,0,none⟩)] wx (aJ wx (.bool (decide (E k 3=x)&&decide (E k 4=y))))):=fun wx hg k hk =>
  Qq b n c p0 p1 p2 k E x y wx (hE.on hg) hk ((gce hg p0 0 Jp (by simp)).trans ub) ((gce hg p1 0 KV (by simp)).trans IM) ((gce hg p2 0 SO (by simp)).trans Xp)
 have iQ:=aa hE;clear hE ub Jp IM KV Xp SO;go_enter func108,ntmps108;go_wp2_with (go_at_call 141;refine abW (nu _ _ _ _ hn hc) ?_);go_loopw [10] (fun i wr=>∃k:Nat,k<=n/\i=.int .i64 (k:Int)/\(∀j,j<k->En.eM E x y j=false)/\w.grownBy wr none) (fun i _=>40-(intOf i).toNat)
 case atStart=>exact⟨0,by omega,rfl,fun j hj=>by omega,abF _ _⟩
 case round =>
  obtain⟨k,hk,rfl,hno,hgr⟩:=hrel;have aT:=aa hno;have bV:=aa hgr;clear hno hgr;by_cases hlt:k<n
  ·obtain⟨u0,u1,u2,u3,u4,u5,u6,u7,u8,u9,iO⟩:=((uh iQ).on (uh bV)).row hlt;have hlt':(k:Int)<(n:Int):=by omega
   have HL:=aa hlt;clear hlt;go_wp2_with fail;refine aaR (nU (E k) _) fun w1 aN=>?_;have hg1:=gtr (uh bV) (gtr (abE _ _ _) aN);have sM:=aa hg1;clear u0 u1 u2 u3 u4 u5 u6 u7 u8 u9 iO aN;by_cases hf:E k 0=0
   ·have hq:Hid (En.eM E x y k=false):=En.F8 hf;rw[abJ hf];clear hf hg1;go_wp2;go_roundw
    case rel=>exact⟨k+1,by have:=uh HL;omega,by go_num,fun j hj=>by
     by_cases e:j=k
     ·rw[e];exact uh hq
     ·exact uh aT j (by omega),uh sM⟩
    case measure=>simp[intOf];omega
   ·have hq:Hid (En.eM E x y k=(decide (E k 3=x)&&decide (E k 4=y))):=En.qQ hf;have Ul:=aa hf;rw[abI hf];have TB:=aa (uh cd w1 hg1 k (uh HL));obtain⟨r,hr⟩:∃r:Bool,r=(decide (E k 3=x)&&decide (E k 4=y)):=⟨_,rfl⟩;rw[<-hr]at TB hq;clear hf hg1 hr;go_wp2_with fail;refine aaR (uh TB) fun w2 hg2=>?_;have gu:=aa (gtr (uh sM) hg2);clear hg2 TB;cases r
    ·go_wp2;go_roundw
     case rel=>exact⟨k+1,by have:=uh HL;omega,by go_num,fun j hj=>by
      by_cases e:j=k
      ·rw[e];exact uh hq
      ·exact uh aT j (by omega),uh gu⟩
     case measure=>simp[intOf];omega
    ·have he:=aa (En.cG (uh aT) (uh hq) (uh HL));go_wp2;go_ret;exact⟨rti (uh he).symm,uh gu⟩
  ·have hge:¬(k:Int)<(n:Int):=by omega
   have he:=aa (En.bt (n:=n) (fun j hj=>uh aT j (by omega)));go_wp2;go_ret;exact⟨rti (uh he).symm,uh bV⟩
theorem Hn(b n c p0 p1:Nat)(E:N2)(ag:Int)(w:World)(hE:fG w b n E)(hc:n<=c)(ub:w.cell? ⟨p0,0,none⟩=some (.slice (some ⟨b,0,none⟩) n c))(IM:w.cell? ⟨p1,0,none⟩=some (.int .i64 ag))(Jp:p0<w.heap.size)(KV:p1<w.heap.size):Calls prog 108 #[.slice (some ⟨b,0,none⟩) n c,.func (.func 109) #[] #[.pointer (some ⟨p0,0,none⟩),.pointer (some ⟨p1,0,none⟩)]] w (aJ w (.int .i64 (En.first (En.dg E ag) n))):=by
 have hn:=hE.1;have cd:Hid (∀wx,w.grownBy wx none->∀k:Nat,k<n->Calls prog 109 #[.int .i64 (k:Int),.pointer (some ⟨p0,0,none⟩),.pointer (some ⟨p1,0,none⟩)] wx (aJ wx (.bool (decide (E k 0=1)&&decide (E k 2=ag))))):=fun wx hg k hk =>
  LQ b n c p0 p1 k E ag wx (hE.on hg) hk ((gce hg p0 0 Jp (by simp)).trans ub) ((gce hg p1 0 KV (by simp)).trans IM)
 have iQ:=aa hE;clear hE ub Jp IM KV;go_enter func108,ntmps108;go_wp2_with (go_at_call 141;refine abW (nu _ _ _ _ hn hc) ?_);go_loopw [10] (fun i wr=>∃k:Nat,k<=n/\i=.int .i64 (k:Int)/\(∀j,j<k->En.dg E ag j=false)/\w.grownBy wr none) (fun i _=>40-(intOf i).toNat)
 case atStart=>exact⟨0,by omega,rfl,fun j hj=>by omega,abF _ _⟩
 case round =>
  obtain⟨k,hk,rfl,hno,hgr⟩:=hrel;have aT:=aa hno;have bV:=aa hgr;clear hno hgr;by_cases hlt:k<n
  ·obtain⟨u0,u1,u2,u3,u4,u5,u6,u7,u8,u9,iO⟩:=((uh iQ).on (uh bV)).row hlt;have hlt':(k:Int)<(n:Int):=by omega
   have HL:=aa hlt;clear hlt;go_wp2_with fail;refine aaR (nU (E k) _) fun w1 aN=>?_;have hg1:=gtr (uh bV) (gtr (abE _ _ _) aN);have sM:=aa hg1;clear u0 u1 u2 u3 u4 u5 u6 u7 u8 u9 iO aN;by_cases hf:E k 0=0
   ·have hq:Hid (En.dg E ag k=false):=En.Jj hf;rw[abJ hf];clear hf hg1;go_wp2;go_roundw
    case rel=>exact⟨k+1,by have:=uh HL;omega,by go_num,fun j hj=>by
     by_cases e:j=k
     ·rw[e];exact uh hq
     ·exact uh aT j (by omega),uh sM⟩
    case measure=>simp[intOf];omega
   ·have hq:Hid (En.dg E ag k=(decide (E k 0=1)&&decide (E k 2=ag))):=En.Jk hf;have Ul:=aa hf;rw[abI hf];have TB:=aa (uh cd w1 hg1 k (uh HL));obtain⟨r,hr⟩:∃r:Bool,r=(decide (E k 0=1)&&decide (E k 2=ag)):=⟨_,rfl⟩;rw[<-hr]at TB hq;clear hf hg1 hr;go_wp2_with fail;refine aaR (uh TB) fun w2 hg2=>?_;have gu:=aa (gtr (uh sM) hg2);clear hg2 TB;cases r
    ·go_wp2;go_roundw
     case rel=>exact⟨k+1,by have:=uh HL;omega,by go_num,fun j hj=>by
      by_cases e:j=k
      ·rw[e];exact uh hq
      ·exact uh aT j (by omega),uh gu⟩
     case measure=>simp[intOf];omega
    ·have he:=aa (En.cG (uh aT) (uh hq) (uh HL));go_wp2;go_ret;exact⟨rti (uh he).symm,uh gu⟩
  ·have hge:¬(k:Int)<(n:Int):=by omega
   have he:=aa (En.bt (n:=n) (fun j hj=>uh aT j (by omega)));go_wp2;go_ret;exact⟨rti (uh he).symm,uh bV⟩
theorem mW(b n c:Nat)(E:N2)(x y:Int)(w:World)(hE:fG w b n E)(hc:n<=c):Calls prog 102 #[.slice (some ⟨b,0,none⟩) n c,.int .i64 x,.int .i64 y] w (aJ w (.int .i64 (En.first (En.eM E x y) n))):=by
 obtain⟨W,hW⟩:∃W,W=(((w.alloc (.cells #[.slice (some ⟨b,0,none⟩) n c] 26)).alloc (.cells #[.int .i64 x] 3)).alloc (.cells #[.int .i64 y] 3)):=⟨_,rfl⟩;have hg:w.grownBy W none:=by
  rw[hW]
  repeat (refine gal ?_ _)
  exact abF _ _
 have hs:W.heap.size=w.heap.size+3:=by rw[hW];simp
 have q0:W.cell? ⟨w.heap.size,0,none⟩=some (.slice (some ⟨b,0,none⟩) n c):=by rw[hW];exact sx _ (by simp;omega) (sx _ (by simp) (nL _ _ _ _ rfl))
 have q1:W.cell? ⟨w.heap.size+1,0,none⟩=some (.int .i64 x):=by rw[hW];exact sx _ (by simp) (nL _ _ _ _ (by simp))
 have q2:W.cell? ⟨w.heap.size+2,0,none⟩=some (.int .i64 y):=by rw[hW];exact nL _ _ _ _ (by simp)
 have hl:=aa (Mm b n c w.heap.size (w.heap.size+1) (w.heap.size+2) E x y W (hE.on hg) hc q0 q1 q2 (by omega) (by omega) (by omega));have nQ:=aa hg;have hW':=aa hW;clear hE hW hg hs q0 q1 q2;go_enter func102,ntmps102;go_wp2_with fail;rw[<-uh hW'];refine aaR (uh hl) fun w1 hg1=>?_;have hg2:=aa (gtr (uh nQ) hg1);clear hg1;go_wp2;go_ret;exact⟨rfl,uh hg2⟩
theorem nh(b n c:Nat)(E:N2)(ag:Int)(w:World)(hE:fG w b n E)(hc:n<=c):Calls prog 68 #[.slice (some ⟨b,0,none⟩) n c,.int .i64 ag] w (aJ w (.int .i64 (En.first (En.dg E ag) n))):=by
 obtain⟨W,hW⟩:∃W,W=((w.alloc (.cells #[.slice (some ⟨b,0,none⟩) n c] 26)).alloc (.cells #[.int .i64 ag] 3)):=⟨_,rfl⟩;have hg:w.grownBy W none:=by
  rw[hW]
  repeat (refine gal ?_ _)
  exact abF _ _
 have hs:W.heap.size=w.heap.size+2:=by rw[hW];simp
 have q0:W.cell? ⟨w.heap.size,0,none⟩=some (.slice (some ⟨b,0,none⟩) n c):=by rw[hW];simp
 have q1:W.cell? ⟨w.heap.size+1,0,none⟩=some (.int .i64 ag):=by rw[hW];simp
 have hl:=aa (Hn b n c w.heap.size (w.heap.size+1) E ag W (hE.on hg) hc q0 q1 (by omega) (by omega));have nQ:=aa hg;have hW':=aa hW;clear hE hW hg hs q0 q1;go_enter func68,ntmps68;go_wp2_with fail;rw[<-uh hW'];refine aaR (uh hl) fun w1 hg1=>?_;have hg2:=aa (gtr (uh nQ) hg1);clear hg1;go_wp2;go_ret;exact⟨rfl,uh hg2⟩
theorem eA(b n c:Nat)(E:N2)(x y:Int)(w:World)(hE:fG w b n E):Calls prog 24 #[.slice (some ⟨b,0,none⟩) n c,.int .i64 x,.int .i64 y] w fun e w'=>e=.returned (.int .i64 (En.first (En.eM E x y) n))/\w'=w:=by
 have hn:=hE.1;have iQ:=aa hE
 skip
 clear hE;go_enter func24,ntmps24;go_wp2_with fail;go_loop [7] (fun i=>∃k:Nat,k<=n/\i=.int .i64 (k:Int)/\∀j,j<k->En.eM E x y j=false) (fun i=>40-(intOf i).toNat)
 case atStart=>exact⟨0,by omega,rfl,fun j hj=>by omega⟩
 case round =>
  obtain⟨k,hk,rfl,hno⟩:=hrel;have aT:=aa hno;clear hno;by_cases hlt:k<n
  ·obtain⟨u0,_,_,u3,u4,_⟩:=(uh iQ).row hlt;have hlt':(k:Int)<(n:Int):=by omega
   have HL:=aa hlt
   skip
   clear hlt;by_cases hf:E k 0=0
   ·have hq:Hid (En.eM E x y k=false):=En.F8 hf;go_wp2
    go_round
    case rel=>exact⟨k+1,by have:=uh HL;omega,by go_num,fun j hj=>by
     by_cases e:j=k
     ·rw[e];exact uh hq
     ·exact uh aT j (by omega)⟩
    case measure=>simp[intOf];omega
   ·have fb:(E k 0==0)=false:=(by simp[hf]);by_cases h3:E k 3=x
    ·by_cases h4:E k 4=y
     ·have hq:Hid (En.eM E x y k=true):=by show En.eM E x y k=true;rw[En.qQ hf];simp[h3,h4]
      have he:=aa (En.cG (uh aT) (uh hq) (uh HL));go_wp2;go_ret;exact⟨rti (uh he).symm,rfl⟩
     ·have hq:Hid (En.eM E x y k=false):=by show En.eM E x y k=false;rw[En.qQ hf];simp[h4]
      have I7:(E k 4==y)=false:=(by simp[h4]);go_wp2
      go_round
      case rel=>exact⟨k+1,by have:=uh HL;omega,by go_num,fun j hj=>by
       by_cases e:j=k
       ·rw[e];exact uh hq
       ·exact uh aT j (by omega)⟩
      case measure=>simp[intOf];omega
    ·have hq:Hid (En.eM E x y k=false):=by show En.eM E x y k=false;rw[En.qQ hf];simp[h3]
     have Sm:(E k 3==x)=false:=(by simp[h3]);go_wp2
     go_round
     case rel=>exact⟨k+1,by have:=uh HL;omega,by go_num,fun j hj=>by
      by_cases e:j=k
      ·rw[e];exact uh hq
      ·exact uh aT j (by omega)⟩
     case measure=>simp[intOf];omega
  ·have hge:¬(k:Int)<(n:Int):=by omega
   have he:=aa (En.bt (n:=n) (fun j hj=>uh aT j (by omega)));go_wp2;go_ret;exact⟨rti (uh he).symm,rfl⟩
theorem zj(b n c:Nat)(E:N2)(x y:Int)(w:World)(hE:fG w b n E):Calls prog 24 #[.slice (some ⟨b,0,none⟩) n c,.int .i64 x,.int .i64 y] w (aJ w (.int .i64 (En.first (En.eM E x y) n))) :=
 (eA b n c E x y w hE).mono fun _ _ ⟨h1,h2⟩=>⟨h1,by rw[h2];exact abF _ _⟩
def Nv.st(E:N2)(n:Nat)(c:Nat):Bool:=decide (0<=En.first (En.eM E ((c%24:Nat):Int) ((c/24:Nat):Int)) n)
def Nv.stTo(E:N2)(n:Nat):Nat->Nat->Bool
 | 0,_=>false
 | k+1,c=>if Nv.bw (E k 3) (E k 4)=(c:Int)then decide (0<=En.first (En.eM E (E k 3) (E k 4)) n)else Nv.stTo E n k c
theorem Nv.lV{x y:Int}{c:Nat}(h:Nv.bw x y=(c:Int)):x=((c%24:Nat):Int)/\y=((c/24:Nat):Int)/\c<384:=by
 unfold Nv.bw at h;split at h
 ·rename_i cU;rw[Gr.bz]at cU;omega
 ·omega
theorem Nv.O8{c:Nat}(hc:c<384):Nv.bw ((c%24:Nat):Int) ((c/24:Nat):Int)=(c:Int):=by
 unfold Nv.bw;rw[abP (by rw[Gr.bz];omega)];omega
theorem Nv.Lk(E:N2)(n:Nat)(c:Nat):∀k,(Nv.stTo E n k c=true->Nv.st E n c=true)/\((∃j,j<k/\Nv.bw (E j 3) (E j 4)=(c:Int))->Nv.stTo E n k c=Nv.st E n c)
  | 0=>⟨fun h=>by simp[Nv.stTo]at h,fun ⟨j,h,_⟩=>by omega⟩
  | k+1 => by
      obtain⟨h1,h2⟩:=Nv.Lk E n c k
      unfold Nv.stTo
      by_cases e:Nv.bw (E k 3) (E k 4)=(c:Int)
      · rw[abP e]
        obtain⟨ex,ey,_⟩:=Nv.lV e
        have:decide (0<=En.first (En.eM E (E k 3) (E k 4)) n)=Nv.st E n c:=by unfold Nv.st;rw[<-ex,<-ey]
        rw[this];exact⟨id,fun _=>rfl⟩
      · rw[abO e]
        refine⟨h1,fun ⟨j,hj,he⟩=>h2 ⟨j,?_,he⟩⟩;by_cases ej:j=k
        · subst ej;exact absurd he e
        · omega
theorem Nv.Pz(E:N2)(n:Nat)(c:Nat)(hc:c<384):Nv.stTo E n n c=Nv.st E n c:=by
 obtain⟨h1,h2⟩:=Nv.Lk E n c n;by_cases h:Nv.st E n c=true
 ·refine h2 ?_;unfold Nv.st at h;rw[decide_eq_true_eq]at h;rcases En.aw (En.eM E ((c%24:Nat):Int) ((c/24:Nat):Int)) n with⟨h0,_⟩|⟨k,hk,_,hq,_⟩
  ·omega
  ·refine⟨k,hk,?_⟩;simp only[En.eM,Bool.and_eq_true,decide_eq_true_eq]at hq;rw[hq.2.1,hq.2.2];exact Nv.O8 hc
 ·have hn:¬Nv.stTo E n n c=true:=fun e=>h (h1 e);rw[Bool.not_eq_true]at h hn;rw[h,hn]
def Nv.qM(w:World)(a:Option Addr)(n c:Nat)(E:N2):Prop:=n<=32/\n<=c/\(n=0\/∃b,a=some ⟨b,0,none⟩/\fG w b n E)
def Nv.uJ(n:Nat)(E:N2):Prop:=∀i,i<n->(-9223372036854775808<=E i 3/\E i 3<=9223372036854775807)/\(-9223372036854775808<=E i 4/\E i 4<=9223372036854775807)
theorem vM:(prog.info? 4).map (fun i=>(i.zero,i.size,i.bytes))=some (some (.bool false),1,1):=by kernel_rfl
theorem Nv.RY{E:N2}{n k m:Nat}(hm:Nv.bw (E k 3) (E k 4)=(m:Int))(j:Nat):(if j=m then Value.bool (decide (0<=En.first (En.eM E (E k 3) (E k 4)) n))else .bool (Nv.stTo E n k j))=.bool (Nv.stTo E n (k+1) j):=by
 show _=Value.bool (if Nv.bw (E k 3) (E k 4)=(j:Int)then _ else _);rw[hm];by_cases e:j=m
 ·rw[abP e,abP (by omega)]
 ·rw[abO e,abO (by omega)]
theorem Nv.RZ{E:N2}{n k:Nat}(hm:Nv.bw (E k 3) (E k 4)=-1)(j:Nat):Nv.stTo E n k j=Nv.stTo E n (k+1) j:=by
 show _=if Nv.bw (E k 3) (E k 4)=(j:Int)then _ else _;rw[hm,abO (by omega)]
theorem Nv.kZ(x y:Int):Nv.bw x y=-1\/∃m:Nat,m<384/\Nv.bw x y=(m:Int):=by
 unfold Nv.bw;by_cases h:Gr.iS x y=true
 ·rw[abP h];rw[Gr.bz]at h;exact .inr ⟨(y*24+x).toNat,by omega,by omega⟩
 ·rw[abO h];exact .inl rfl
theorem yH(a:Option Addr)(n c:Nat)(E:N2)(w:World)(hL:Nv.qM w a n c E)(hW:Nv.uJ n E):Calls prog 165 #[.slice a n c] w (Made w 4 384 (mc (Nv.st E n))):=by
 have hn:=hL.1;have mr:=aa hL;have hW':=aa hW;obtain⟨i0,hi,dJ,dz,ed⟩:=info_parts vM;clear hL hW;go_enter func165,ntmps165;obtain⟨G,hG⟩:∃G,G=w.heap.size:=⟨_,rfl⟩;have kw:=aa hG;clear hG;go_wp2_with (at_make;refine wpList_make_full _ rfl _ _ 93 rfl G 4 i0 (.bool false) 1 underlying93 hi dJ dz .i64 .i64 _ _ 384 rfl rfl rfl rfl ?q3 ?q4 (Nat.le_of_eq (uh kw)) ?_)
 case q3=>rw[ed];omega
 case q4=>unfold maxLen;omega
 intro w2 aH az;rw[<-uh kw]at aH|-;have hA:=aa (ax.zero aH);have hB0:Below G w w2:=(Below.refl _ _).grown az (Nat.le_of_eq (uh kw)) (by intro k hk;cases hk);clear aH az hi dJ dz ed;go_wp2_with fail;go_loopw [10] (fun i wr=>∃k:Nat,k<=n/\i=.int .i64 (k:Int)/\ax wr G 4 384 (mc (Nv.stTo E n k))/\Below G w wr) (fun i _=>40-(intOf i).toNat)
 case atStart=>exact⟨0,Nat.zero_le _,rfl,uh hA,hB0⟩
 case round =>
  obtain⟨k,hk,rfl,dP,pQ⟩:=hrel;have dF:=aa dP;have pA:=aa pQ;clear dP hA hB0 pQ;by_cases hlt:k<n
  ·obtain⟨_,jP,h0|⟨b,rfl,hE⟩⟩:=uh mr
   ·omega
   have hgr:w.grownBy wr none:=dV (by rw[<-uh kw];exact uh pA);obtain⟨u0,u1,u2,u3,u4,u5,u6,u7,u8,u9,iO⟩:=(hE.on hgr).row hlt;have iQ:=aa (hE.on hgr);have hlt':(k:Int)<(n:Int):=by omega
   have HL:=aa hlt;have UX:=aa (uh hW' k hlt);obtain⟨X,hX⟩:∃X,X=E k 3:=⟨_,rfl⟩;obtain⟨Y,hY⟩:∃Y,Y=E k 4:=⟨_,rfl⟩;rw[<-hX]at u3;rw[<-hY]at u4;rw[<-hX,<-hY]at UX;have xX:=aa hX;have MV:=aa hY;clear hE hgr hlt hX hY;go_wp2_with fail;refine(nr _ _ _).mono ?_;rintro e w1 ⟨rfl,rfl⟩;go_wp2_with fail;obtain⟨⟨x1,x2⟩,y1,y2⟩:=uh UX;refine(nY X Y _ x1 x2 y1 y2).mono ?_;rintro e w1 ⟨rfl,rfl⟩;clear x1 x2 y1 y2;clear u0 u1 u2 u3 u4 u5 u6 u7 u8 u9 iO;rcases Nv.kZ X Y with hm|⟨m,hm,zM⟩
   ·rw[hm];have hs:Hid (∀j,Nv.stTo E n k j=Nv.stTo E n (k+1) j):=fun j=>Nv.RZ (by rw[<-uh xX,<-uh MV];exact hm) j;clear hm;go_wp2;go_roundw
    case rel=>exact⟨k+1,by have:=uh HL;omega,by go_num,((uh dF).alloc _).congr fun j _=>by show Value.bool _=Value.bool _;rw[uh hs j],(uh pA).alloc (Nat.le_of_lt (uh dF).lt) _⟩
    case measure=>have:=uh HL;simp[intOf];omega
   ·rw[zM];have hs:Hid (∀j,(if j=m then Value.bool (decide (0<=En.first (En.eM E X Y) n))else .bool (Nv.stTo E n k j))=.bool (Nv.stTo E n (k+1) j)):=fun j=>by
     rw[uh xX,uh MV];exact Nv.RY (by rw[<-uh xX,<-uh MV];exact zM) j
    have mf:(m:Int)<384:=(by omega);have HM:=aa hm;clear hm zM;go_wp2_with fail;refine(mW b n c E X Y _ ((uh iQ).on (abE _ _ _)) jP).mono ?_;rintro e w1 ⟨rfl,hg⟩;have hg1:=gtr (abE _ _ _) hg;have fa:=aa ((uh dF).grown hg1 (by simp));have qF:Hid (Below G w w1):=(uh pA).trans (lU hg1 |>.mono (Nat.le_of_lt (uh dF).lt));have ya:=(uh fa).cell (uh HM);have Jm:=(uh fa).free m;generalize En.first (En.eM E X Y) n=r at hs
    clear hg hg1;go_wp2;go_roundw
    case rel=>exact⟨k+1,by have:=uh HL;omega,by go_num,((uh fa).store m _).congr fun j _=>uh hs j,(uh qF).setCell (abL _) _⟩
    case measure=>have:=uh HL;simp[intOf];omega
  ·have hge:¬(k:Int)<(n:Int):=by omega
   obtain rfl:k=n:=by omega
   have fa:=aa ((uh dF).congr (G:=mc (Nv.st E k)) fun j hj=>by show Value.bool _=Value.bool _;rw[Nv.Pz E k j hj]);clear dF hk hlt;go_wp2;go_ret;exact⟨G,rfl,Nat.le_of_eq (uh kw).symm,uh fa,by rw[<-uh kw];exact uh pA⟩
variable{F:N1}{k m:Nat}{st:Nat->Bool}
def Nv.Qv(E:N2)(n m:Nat)(c:Nat):Bool:=if c=m then false else Nv.st E n c
def Nv.wayFrom(q:Nat->Bool):Nat->Nat->Int
 | 0,_=>0
 | m+1,k=>if q k=true then(k:Int)else Nv.wayFrom q m (k+1)
theorem Nv.sd{q:Nat->Bool}:∀(m k i:Nat),(∀j,i<=j->j<k->q j=false)->q k=true->i<=k->k<i+m->Nv.wayFrom q m i=(k:Int)
  | 0,k,i,_,_,h1,h2=>by omega
  | m+1,k,i,hno,hk,h1,h2 => by
      unfold Nv.wayFrom
      by_cases e:i=k
      · rw[e,abP hk]
      · rw[abO (by rw[hno i (abL _) (by omega)];simp),Nv.sd m k (i+1) (fun j SM sN=>hno j (by omega) sN) hk (by omega) (by omega)]
theorem Nv.ie{q:Nat->Bool}:∀(m i:Nat),(∀j,i<=j->j<i+m->q j=false)->Nv.wayFrom q m i=0
  | 0,_,_=>rfl
  | m+1,i,hno => by
      unfold Nv.wayFrom
      rw[abO (by rw[hno i (abL _) (by omega)];simp),Nv.ie m (i+1) (fun j SM sN=>hno j (by omega) (by omega))]
theorem Nv.yN{q r:Nat->Bool}:∀(m i:Nat),(∀j,i<=j->j<i+m->q j=r j)->Nv.wayFrom q m i=Nv.wayFrom r m i
  | 0,_,_=>rfl
  | m+1,i,h => by
      unfold Nv.wayFrom
      rw[h i (abL _) (by omega),Nv.yN m (i+1) (fun j SM sN=>h j (by omega) (by omega))]
def Nv.next(m k:Nat):Int:=Nv.bw (((m%24:Nat):Int)+(Fx.bh (k:Int)).1) (((m/24:Nat):Int)+(Fx.bh (k:Int)).2)
def Nv.IQ(F:N1)(st:Nat->Bool)(m k:Nat):Bool:=decide (0<=Nv.next m k)&&(decide (F (Nv.next m k).toNat=F m-1)&&!(st (Nv.next m k).toNat))
def Nv.step(F:N1)(st:Nat->Bool)(m:Nat):Int:=if F m<1 then 0 else Nv.wayFrom (Nv.IQ F st m) 4 1
theorem Nv.Kc{H:N1}(hm:m<384)(h:∀i,i<384->F i=H i):Nv.step F st m=Nv.step H st m:=by
 unfold Nv.step;rw[h m hm];by_cases h1:H m<1
 ·rw[abP h1,abP h1]
 ·rw[abO h1,abO h1];refine Nv.yN 4 1 fun j _ _=>?_;unfold Nv.IQ;rcases Nv.kZ (((m%24:Nat):Int)+(Fx.bh (j:Int)).1) (((m/24:Nat):Int)+(Fx.bh (j:Int)).2)with hn|⟨p,hp,hn⟩
  ·have:¬0<=Nv.next m j:=by unfold Nv.next;rw[hn];omega
   simp[this]
  ·have e:Nv.next m j=(p:Int):=hn
   rw[e,abG,h p hp,h m hm]
theorem Nv.JW(m k:Nat):Nv.next m k=-1\/∃p:Nat,p<384/\Nv.next m k=(p:Int):=Nv.kZ _ _
theorem Nv.RG{p:Nat}(hk:1<=k)(VJ:k<=4)(h:Nv.next m k=(p:Int)):p≠m:=by
 obtain⟨e1,e2,_⟩:=Nv.lV h;rintro rfl;rcases(show k=1\/k=2\/k=3\/k=4 by omega)with rfl|rfl|rfl|rfl
 ·rw[show(Fx.bh ((1:Nat):Int)).2=-1 from rfl]at e2;omega
 ·rw[show(Fx.bh ((2:Nat):Int)).1=1 from rfl]at e1;omega
 ·rw[show(Fx.bh ((3:Nat):Int)).2=1 from rfl]at e2;omega
 ·rw[show(Fx.bh ((4:Nat):Int)).1=-1 from rfl]at e1;omega
theorem Nv.Le(h:Nv.next m k=-1):Nv.IQ F st m k=false:=by
 unfold Nv.IQ;rw[h];rfl
theorem Nv.OW{p:Nat}(h:Nv.next m k=(p:Int)):Nv.IQ F st m k=(decide (F p=F m-1)&&!(st p)):=by
 unfold Nv.IQ;rw[h,abG,abJ (by omega),Bool.true_and]
def Nv.aW(f t:N1)(cv:Nat)(E:N2)(n:Nat)(x y v:Int):Prop :=
 (Nv.bw x y=-1/\v=0)\/∃(m:Nat)(F:N1),Nv.bw x y=(m:Int)/\Gr.dO (fun i=>Gr.dt f 384 (Nv.Qv E n m) i=true) (Gr.FJ f t cv) F/\v=Nv.step F (Nv.st E n) m
theorem Nv.aW.at{f t:N1}{cv:Nat}{E:N2}{n:Nat}{x y v:Int}(h:Nv.aW f t cv E n x y v)(hm:Nv.bw x y=(m:Int)):∃F:N1,Gr.dO (fun i=>Gr.dt f 384 (Nv.Qv E n m) i=true) (Gr.FJ f t cv) F/\v=Nv.step F (Nv.st E n) m:=by
 rcases h with⟨h1,_⟩|⟨k,F,hk,hF,hv⟩
 ·omega
 ·obtain rfl:k=m:=by omega
  exact⟨F,hF,hv⟩
theorem Nv.aW.bo{f t:N1}{cv:Nat}{E:N2}{n:Nat}{x y v v':Int}(h:Nv.aW f t cv E n x y v)(h':Nv.aW f t cv E n x y v'):v'=v:=by
 rcases Nv.kZ x y with hm|⟨m,hm,zM⟩
 ·rcases h with⟨_,rfl⟩|⟨k,F,hk,_⟩
  ·rcases h' with⟨_,rfl⟩|⟨k,F,hk,_⟩
   ·rfl
   ·omega
  ·omega
 ·obtain⟨F,hF,rfl⟩:=h.at zM;obtain⟨H,hH,rfl⟩:=h'.at zM;exact Nv.Kc hm fun i hi=>hH.bo hF i hi
def Nv.jV(w:World)(f t:N1)(cv:Nat)(E:N2)(n:Nat)(x y:Int)(e:Ending)(w':World):Prop:=∃v,Nv.aW f t cv E n x y v/\e=.returned (.int .i64 v)/\w.grownBy w' none
theorem pX(ca a ta:Option Addr)(cc n c cv tc:Nat)(f t:N1)(E:N2)(x y:Int)(w:World)(hc:il w.heap.size w ca 384 (aZ f))(hf:∀i,0<=f i/\f i<=255)(hL:Nv.qM w a n c E)(hW:Nv.uJ n E)(ht:il w.heap.size w ta cv (bB t))(K6:∀i,-9223372036854775808<=t i/\t i<=9223372036854775807)(x1:-9223372036854775808<=x)(x2:x<=9223372036854775807)(y1:-9223372036854775808<=y)(y2:y<=9223372036854775807):Calls prog 215 #[.slice ca 384 cc,.slice a n c,.int .i64 x,.int .i64 y,.slice ta cv tc] w (Nv.jV w f t cv E n x y):=by
 have fD:=aa hc;have fb:=aa hf;have mr:=aa hL;have hW':=aa hW;have oA:=aa ht;have zQ:=aa K6;have cn:=aa (fun w'=>nY x y w' x1 x2 y1 y2);clear hc hf hL hW ht K6;go_enter func215,ntmps215;go_wp2_with fail;refine(nr _ _ _).mono ?_;rintro e w1 ⟨rfl,rfl⟩;go_wp2_with fail;refine(uh cn _).mono ?_;rintro e w1 ⟨rfl,rfl⟩;rcases Nv.kZ x y with hm|⟨m,hm,zM⟩
 ·rw[hm];have he:Hid (Nv.aW f t cv E n x y 0):=.inl ⟨hm,rfl⟩;clear hm x1 x2 y1 y2;go_wp2;go_ret;exact⟨0,uh he,rfl,abF _ _⟩
 rw[zM];have On:=aa zM;obtain⟨ex,ey,_⟩:=Nv.lV zM;have mf:(m:Int)<384:=by omega
 have HM:=aa hm;have V9:=aa ex;have Wa:=aa ey;clear hm zM x1 x2 y1 y2 cn ex ey;go_wp2_with fail;refine(yH a n c E _ (uh mr) (uh hW')).mono ?_;rintro e w2 ⟨g,rfl,hg,hA,hB⟩;have ya:=hA.cell (uh HM);have Jm:=hA.free m;obtain⟨w3,nT⟩:∃w3,w3=w2.setCell ⟨g,m,none⟩ (.bool false):=⟨_,rfl⟩;have fa:ax w3 g 4 384 (mc (Nv.Qv E n m)):=by
  rw[nT];refine(hA.store m (.bool false)).congr fun j _=>?_;show _=Value.bool (if j=m then false else Nv.st E n j);by_cases e:j=m
  ·rw[abP e,abP e]
  ·rw[abO e,abO e];rfl
 have qF:Below w1.heap.size w1 w3:=by rw[nT];exact hB.setCell hg _
 have XP:=aa nT;have TQ:=aa fa;have TV:=aa qF;have cF:=aa (sC ca (some ⟨g,0,none⟩) ta 384 cv cc 384 tc f t (Nv.Qv E n m) w3 (((uh fD).kept qF).mono qF.size) (uh fb) (fa.lg _ fa.lt (by unfold maxLen;omega)) (((uh oA).kept qF).mono qF.size) (uh zQ));clear hA hB fa qF nT;go_wp2_with fail;rw[<-uh XP];refine(uh cF).mono ?_;rintro e w4 ⟨F,⟨g2,rfl,hg2,jN,GB⟩,hF⟩;have dm:Nv.aW f t cv E n x y (Nv.step F (Nv.st E n) m):=.inr ⟨m,F,uh On,hF,rfl⟩;have iR:w1.grownBy w4 none:=dV ((uh TV).trans (GB.mono (uh TV).size));have QR:=(uh TQ).kept GB (uh TQ).lt;have Q7:F m<=400:=by
  by_cases h0:0<=F m
  ·have:=pj hF (F m).toNat m (uh HM) (by omega);omega
  ·omega
 have TU:=aa QR;have xl:=aa jN;have vz:=aa iR;have nk:=aa dm;have Yx:w4.cell? ⟨g2,m,none⟩=some (.int .i64 (F m)):=jN.cell (uh HM);have rA:=aa (Fl.eZ x (by rw[uh V9];omega) (by rw[uh V9];omega));have rB:=aa (Fl.eZ y (by rw[uh Wa];omega) (by rw[uh Wa];omega));generalize floatOfInt FloatKind.f64 x=A at *;generalize floatOfInt FloatKind.f64 y=B at *;clear QR jN iR dm hg2 GB cF ya Jm XP TQ TV hF On;by_cases iC:F m<1
 ·have hr:Hid (Nv.aW f t cv E n x y 0):=by
   have h:=uh nk
   rwa [show Nv.step F (Nv.st E n) m=0 from abP iC]at h
  go_wp2;go_ret;exact⟨0,uh hr,rfl,uh vz⟩
 have hr:Hid (Nv.aW f t cv E n x y (Nv.wayFrom (Nv.IQ F (Nv.st E n) m) 4 1)):=by
  have h:=uh nk
  rwa [show Nv.step F (Nv.st E n) m=Nv.wayFrom (Nv.IQ F (Nv.st E n) m) 4 1 from abO iC]at h
 clear nk;go_wp2_with fail;go_loopw [15] (fun i wr=>∃k:Nat,1<=k/\k<=5/\i=.int .i64 (k:Int)/\(∀j:Nat,1<=j->j<k->Nv.IQ F (Nv.st E n) m j=false)/\w4.grownBy wr none) (fun i _=>5-(intOf i).toNat)
 case atStart=>exact⟨1,by omega,by omega,rfl,fun j h1 h2=>by omega,abF _ _⟩
 case round =>
  obtain⟨k,h1,h5,rfl,hno,hgr⟩:=hrel;have aT:=aa hno;have bV:=aa hgr;have SE:wr.cell? ⟨g2,m,none⟩=some (.int .i64 (F m)):=((uh xl).grown hgr (by simp)).cell (uh HM);clear hno hgr Yx;by_cases hlt:k<=4
  ·have hlt':(k:Int)<=4:=by omega
   have HL:=aa hlt;have H1:=aa h1;have wb:=aa (Fx.oa (k:Int));clear hlt h1 h5;go_wp2_with fail;refine(It _ _).mono ?_;rintro e wx ⟨a2,b2,rfl,ra,rb,rfl⟩;obtain⟨d1,d2,d3,d4⟩:=uh wb;obtain⟨ra3,ea,Ra⟩:=Fl.rW (uh rA) ra (by rw[uh V9];omega) (by rw[uh V9];omega);obtain⟨rb3,eb,Rb⟩:=Fl.rW (uh rB) rb (by rw[uh Wa];omega) (by rw[uh Wa];omega);have XH:=fun wq:World=>run_complex_sum (P:=prog) wq .add (.inl rfl) 173 .f64 A B a2 b2 ra3 rb3 (by unfold cSumBits;rw[ea,eb];rfl);have cN:=aa (fun wq=>pW ra3 rb3 _ _ wq (Fl.Ll Ra) (Fl.Ll Rb));have gM:Hid (Nv.bw (x+(Fx.bh (k:Int)).1) (y+(Fx.bh (k:Int)).2)=Nv.next m k):=by show _=Nv.bw _ _;rw[uh V9,uh Wa]
   rw[uh gM]at cN;clear ra rb ea eb Ra Rb d1 d2 d3 d4;go_wp2_with fail;refine(uh cN _).mono ?_;rintro e wy ⟨rfl,rfl⟩;clear XH cN gM wb;have L0:Hid (Nv.IQ F (Nv.st E n) m k=false->∀j:Nat,1<=j->j<k+1->Nv.IQ F (Nv.st E n) m j=false):=fun h j h1 h2=>by
    by_cases e:j=k
    ·rw[e];exact h
    ·exact uh aT j h1 (by omega)
   rcases Nv.JW m k with hn|⟨p,hp,hn⟩
   ·rw[hn];have oW:=aa (uh L0 (Nv.Le hn));clear hn;go_wp2_with fail;go_quiet (fail);go_wp2;go_roundw
    case rel=>exact⟨k+1,by have:=uh H1;omega,by have:=uh HL;omega,by go_num,uh oW,gdw (uh bV) _⟩
    case measure=>have:=uh HL;simp[intOf];omega
   ·rw[hn];have lN:=Nv.OW (F:=F) (st:=Nv.st E n) hn;have M0:=Nv.RG (uh H1) (uh HL) hn;have QY:wy.cell? ⟨g2,p,none⟩=some (.int .i64 (F p)):=((uh xl).grown (uh bV) (by simp)).cell hp;have Z8:wy.cell? ⟨g,p,none⟩=some (.bool (Nv.st E n p)):=by
     have h:wy.cell? ⟨g,p,none⟩=some (.bool (if p=m then false else Nv.st E n p)):=((uh TU).grown (uh bV) (by simp)).cell hp
     rwa [abO M0]at h
    have uu:(p:Int)<384:=(by omega);by_cases hq:F p=F m-1
    ·have kp:(F p==F m-1)=true:=by rw[beq_iff_eq];exact hq
     rw[abJ hq,Bool.true_and]at lN;clear hn M0 hq hp;by_cases hs:Nv.st E n p=true
     ·rw[hs]at Z8 lN;have oW:=aa (uh L0 lN);clear hs lN;go_wp2_with fail;go_quiet (fail);go_wp2;go_roundw
      case rel=>exact⟨k+1,by have:=uh H1;omega,by have:=uh HL;omega,by go_num,uh oW,gdw (uh bV) _⟩
      case measure=>have:=uh HL;simp[intOf];omega
     ·rw[Bool.not_eq_true]at hs;rw[hs]at Z8 lN;have pk:Hid (Nv.aW f t cv E n x y (k:Int)):=by
       have h:=uh hr
       rwa [Nv.sd 4 k 1 (uh aT) lN (uh H1) (by have:=uh HL;omega)]at h
      clear hs lN;go_wp2_with fail;go_quiet (fail);go_wp2;go_ret;exact⟨_,uh pk,rfl,gtr (uh vz) (gdw (uh bV) _)⟩
    ·have kp:(F p==F m-1)=false:=by rw[beq_eq_false_iff_ne];exact hq
     rw[abI hq,Bool.false_and]at lN;have oW:=aa (uh L0 lN);clear hn M0 hq hp lN Z8;go_wp2_with fail;go_quiet (fail);go_wp2;go_roundw
     case rel=>exact⟨k+1,by have:=uh H1;omega,by have:=uh HL;omega,by go_num,uh oW,gdw (uh bV) _⟩
     case measure=>have:=uh HL;simp[intOf];omega
  ·have hge:¬(k:Int)<=4:=by omega
   have pk:Hid (Nv.aW f t cv E n x y 0):=by
    have h:=uh hr
    rwa [Nv.ie 4 1 fun j h1 h2=>uh aT j h1 (by omega)]at h
   go_wp2;go_ret;exact⟨0,uh pk,rfl,gtr (uh vz) (uh bV)⟩
variable{F:N1}{k:Nat}{st:Nat->Bool}
def Nv.best(F:N1)(st:Nat->Bool):Nat->Int
 | 0=>-1
 | k+1=>if 0<=F k/\st k=false/\(Nv.best F st k<0\/F k<F (Nv.best F st k).toNat)then(k:Int)else Nv.best F st k
theorem Nv.jY(F:N1)(st:Nat->Bool):∀k,Nv.best F st k=-1\/∃p:Nat,p<k/\Nv.best F st k=(p:Int)
  | 0=>.inl rfl
  | k+1 => by
      unfold Nv.best
      split
      · exact .inr ⟨k,by omega,rfl⟩
      · rcases Nv.jY F st k with h|⟨p,hp,h⟩
        · exact .inl h
        · exact .inr ⟨p,by omega,h⟩
theorem Nv.uN{F H:N1}{st:Nat->Bool}:∀k,(∀i,i<k->F i=H i)->Nv.best F st k=Nv.best H st k
  | 0,_=>rfl
  | k+1,h => by
      have ih:=Nv.uN (st:=st) k fun i hi=>h i (by omega)
      unfold Nv.best
      rw[ih,h k (by omega)]
      rcases Nv.jY H st k with e|⟨p,hp,e⟩
      · rw[e];simp
      · rw[e,abG,h p (by omega)]
theorem Nv.xK{F:N1}{st:Nat->Bool}:∀k,(∀i,i<k->F i<0)->Nv.best F st k=-1
  | 0,_=>rfl
  | k+1,h => by
      unfold Nv.best
      rw[abO (by rintro⟨h1,_⟩;have:=h k (by omega);omega)]
      exact Nv.xK k fun i hi=>h i (by omega)
theorem Nv.pg(h:F k<0\/st k=true):Nv.best F st (k+1)=Nv.best F st k:=by
 show(if _ then _ else _)=_;rw[abO];rintro⟨h1,h2,_⟩;rcases h with h|h
 ·omega
 ·rw[h]at h2;cases h2
theorem Nv.uO(h1:0<=F k)(h2:st k=false)(h:Nv.best F st k=-1):Nv.best F st (k+1)=(k:Int):=by
 show(if _ then _ else _)=_;rw[abP ⟨h1,h2,.inl (by omega)⟩]
theorem Nv.xI{p:Nat}(h1:0<=F k)(h2:st k=false)(h:Nv.best F st k=(p:Int))(hlt:F k<F p):Nv.best F st (k+1)=(k:Int):=by
 show(if _ then _ else _)=_;rw[abP ⟨h1,h2,.inr (by rw[h,abG];exact hlt)⟩]
theorem Nv.xJ{p:Nat}(h:Nv.best F st k=(p:Int))(hlt:¬F k<F p):Nv.best F st (k+1)=Nv.best F st k:=by
 show(if _ then _ else _)=_;rw[abO];rintro⟨_,_,h3|h3⟩
 ·omega
 ·rw[h,abG]at h3;exact hlt h3
def Nv.dR(f:N1)(E:N2)(n:Nat)(x y v:Int):Prop :=
 ∃F:N1,Gr.dO (fun i=>Gr.dt f 0 (fun _=>false) i=true) (Gr.FJ f (fun _=>Nv.bw x y) 1) F/\v=Nv.best F (Nv.st E n) 384
theorem Nv.dR.bo{f:N1}{E:N2}{n:Nat}{x y v v':Int}(h:Nv.dR f E n x y v)(h':Nv.dR f E n x y v'):v'=v:=by
 obtain⟨F,hF,rfl⟩:=h;obtain⟨H,hH,rfl⟩:=h';exact Nv.uN 384 fun i hi=>hH.bo hF i hi
theorem Nv.Py{f:N1}{E:N2}{n:Nat}{x y:Int}(h:Nv.bw x y=-1):Nv.dR f E n x y (-1) :=
 ⟨fun _=>-1,
  { lo:=fun _ _=>(by omega),zero:=fun i _=>⟨fun e=>(by omega),fun ⟨_,j,_,e⟩=>(by simp only[h]at e;omega)⟩,back:=fun _ _ e=>(by omega),TK:=fun _ _ e=>(by omega) },
  (Nv.xK 384 fun _ _=>by omega).symm⟩
def Nv.qO(w:World)(f:N1)(E:N2)(n:Nat)(x y:Int)(e:Ending)(w':World):Prop:=∃v,Nv.dR f E n x y v/\e=.returned (.int .i64 v)/\w.grownBy w' none
theorem Nv.U9(x y:Int):-1<=Nv.bw x y/\Nv.bw x y<384:=by
 rcases Nv.kZ x y with h|⟨p,hp,h⟩ <;> omega
theorem Nv.mB(w:World)(v:Int)(T:TypeId):il (w.alloc (.cells #[.int .i64 v] T)).heap.size (w.alloc (.cells #[.int .i64 v] T)) (some ⟨w.heap.size,0,none⟩) 1 (bB fun _=>v) :=
 ⟨by unfold maxLen;omega,.inr ⟨_,0,rfl,by simp,fun i hi=>by
  obtain rfl:i=0:=by omega
  exact nL w _ T _ rfl⟩⟩
theorem Ht(ca a:Option Addr)(cc n c:Nat)(f:N1)(E:N2)(x y:Int)(w:World)(hc:il w.heap.size w ca 384 (aZ f))(hf:∀i,0<=f i/\f i<=255)(hL:Nv.qM w a n c E)(hW:Nv.uJ n E)(x1:-9223372036854775808<=x)(x2:x<=9223372036854775807)(y1:-9223372036854775808<=y)(y2:y<=9223372036854775807):Calls prog 144 #[.slice ca 384 cc,.slice a n c,.int .i64 x,.int .i64 y] w (Nv.qO w f E n x y):=by
 have fD:=aa hc;have fb:=aa hf;have mr:=aa hL;have hW':=aa hW;have cn:=aa (fun w'=>nY x y w' x1 x2 y1 y2);have hv:=aa (Nv.U9 x y);have wT:Hid (∀F,Gr.dO (fun i=>Gr.dt f 0 (fun _=>false) i=true) (Gr.FJ f (fun _=>Nv.bw x y) 1) F->Nv.dR f E n x y (Nv.best F (Nv.st E n) 384)):=fun F h=>⟨F,h,rfl⟩;generalize Nv.bw x y=v at *;clear hc hf hL hW x1 x2 y1 y2;go_enter func144,ntmps144;go_wp2_with fail;refine(yH a n c E _ (uh mr) (uh hW')).mono ?_;rintro e w2 ⟨g,rfl,hg,hA,hB⟩;have jr:=aa hA;have eu:=aa hB;clear hA hB;go_wp2_with fail;refine(nr _ _ _).mono ?_;rintro e w1 ⟨rfl,rfl⟩;go_wp2_with fail;refine(uh cn _).mono ?_;rintro e w1 ⟨rfl,rfl⟩;go_wp2_with fail;obtain⟨w3,nT⟩:∃w3,w3=w1.alloc (.cells #[.int .i64 v] 3):=⟨_,rfl⟩;have qF:Below w.heap.size w w3:=by rw[nT];exact(uh eu).alloc (uh eu).size _
 have fa:ax w3 g 4 384 (mc (Nv.st E n)):=by rw[nT];exact(uh jr).alloc _
 have hV:il w3.heap.size w3 (some ⟨w1.heap.size,0,none⟩) 1 (bB fun _=>v):=by rw[nT];exact Nv.mB w1 v _
 obtain⟨v1,v2⟩:=uh hv;rw[<-nT];refine(sC ca none (some ⟨w1.heap.size,0,none⟩) 0 1 cc 0 1 f (fun _=>v) (fun _=>false) w3 (((uh fD).kept qF).mono qF.size) (uh fb) ⟨by unfold maxLen;omega,.inl rfl⟩ hV (fun _=>⟨by omega,by omega⟩)).mono ?_;rintro e w4 ⟨F,⟨g2,rfl,hg2,jN,GB⟩,hF⟩;have oY:=aa (uh wT F hF);have vz:=aa (dV (qF.trans (GB.mono qF.size)));have TU:=aa (fa.kept GB fa.lt);have xl:=aa jN;clear jN GB fa hV qF nT hF wT v1 v2 cn jr eu hg2;go_wp2_with fail;go_loop [11,25] (fun s i=>∃k:Nat,k<=384/\s=.int .i64 (Nv.best F (Nv.st E n) k)/\i=.int .i64 (k:Int)) (fun _ i=>384-(intOf i).toNat)
 case atStart=>exact⟨0,by omega,rfl,rfl⟩
 case round =>
  obtain⟨k,hk,rfl,rfl⟩:=hrel;by_cases hlt:k<384
  ·have hlt':(k:Int)<384:=by omega
   have HL:=aa hlt;have WN:w4.cell? ⟨g2,k,none⟩=some (.int .i64 (F k)):=(uh xl).cell hlt;have fp:w4.cell? ⟨g,k,none⟩=some (.bool (Nv.st E n k)):=(uh TU).cell hlt;clear hlt hk;by_cases h1:F k<0
   ·have hb:=aa (Nv.pg (F:=F) (st:=Nv.st E n) (k:=k) (.inl h1));generalize Nv.best F (Nv.st E n) k=r at hb;go_wp2
    go_round
    case rel=>exact⟨k+1,by have:=uh HL;omega,by rw[uh hb],by go_num⟩
    case measure=>have:=uh HL;simp[intOf];omega
   ·by_cases h2:Nv.st E n k=true
    ·have hb:=aa (Nv.pg (F:=F) (st:=Nv.st E n) (k:=k) (.inr h2));rw[h2]at fp;generalize Nv.best F (Nv.st E n) k=r at hb;clear h2;go_wp2
     go_round
     case rel=>exact⟨k+1,by have:=uh HL;omega,by rw[uh hb],by go_num⟩
     case measure=>have:=uh HL;simp[intOf];omega
    ·rw[Bool.not_eq_true]at h2;rw[h2]at fp;rcases Nv.jY F (Nv.st E n) k with e|⟨p,hp,e⟩
     ·have hb:=aa (Nv.uO (by omega) h2 e);rw[e];clear h2 e;go_wp2
      go_round
      case rel=>exact⟨k+1,by have:=uh HL;omega,by rw[uh hb],by go_num⟩
      case measure=>have:=uh HL;simp[intOf];omega
     ·have Yy:w4.cell? ⟨g2,p,none⟩=some (.int .i64 (F p)):=(uh xl).cell (by have:=uh HL;omega);have uu:(p:Int)<384:=by have:=uh HL;omega
      by_cases h3:F k<F p
      ·have hb:=aa (Nv.xI (by omega) h2 e h3);rw[e];clear h2 e hp;go_wp2
       go_round
       case rel=>exact⟨k+1,by have:=uh HL;omega,by rw[uh hb],by go_num⟩
       case measure=>have:=uh HL;simp[intOf];omega
      ·have hb:=aa ((Nv.xJ (st:=Nv.st E n) e h3).trans e);rw[e];clear h2 e hp;go_wp2
       go_round
       case rel=>exact⟨k+1,by have:=uh HL;omega,by rw[uh hb],by go_num⟩
       case measure=>have:=uh HL;simp[intOf];omega
  ·have hge:¬(k:Int)<384:=by omega
   obtain rfl:k=384:=by omega
   generalize Nv.best F (Nv.st E n) 384=r at oY;go_wp2;go_ret;exact⟨_,uh oY,rfl,uh vz⟩
theorem Gd.PK{I:N2}{n k:Nat}(hno:∀j:Nat,j<k->decide (0<=Gd.an I n 4 (j:Int) 0)=false)(hk:0<=Gd.an I n 4 (k:Int) 0)(h3:k<3):Gd.ja I n=Gd.an I n 4 (k:Int) 0:=by
 unfold Gd.ja;rw[En.cG (q:=fun k:Nat=>decide (0<=Gd.an I n 4 (k:Int) 0)) hno (abJ hk) h3,abP (by omega)]
theorem Gd.MM{I:N2}{n:Nat}(hno:∀j:Nat,j<3->decide (0<=Gd.an I n 4 (j:Int) 0)=false):Gd.ja I n=-1:=by
 unfold Gd.ja;rw[En.bt (q:=fun k:Nat=>decide (0<=Gd.an I n 4 (k:Int) 0)) hno,abO (by omega)]
structure Gd.yS(x:World)(B gC gE gI cC cI k s:Nat)(X Y G:Int):Prop where
 lB:B<x.heap.size
 lE:gE<x.heap.size
 Hb:k<32
 s4:s<4
 b4:x.cell? ⟨B,4,none⟩=some (.slice (some ⟨gC,0,none⟩) 384 cC)
 b6:x.cell? ⟨B,6,none⟩=some (.slice (some ⟨gI,0,none⟩) 40 cI)
 b7:x.cell? ⟨B,7+s,none⟩=some (.int .i64 G)
 e2:x.cell? ⟨gE,k*11+2,none⟩=some (.int .i64 (s:Int))
 e3:x.cell? ⟨gE,k*11+3,none⟩=some (.int .i64 X)
 e4:x.cell? ⟨gE,k*11+4,none⟩=some (.int .i64 Y)
theorem Gd.yS.on{x y:World}{B gC gE gI cC cI k s:Nat}{X Y G:Int}(h:Gd.yS x B gC gE gI cC cI k s X Y G)(hg:x.grownBy y none):Gd.yS y B gC gE gI cC cI k s X Y G :=
 have t:=fun (b i:Nat) (hb:b<x.heap.size)=>gce hg b i hb (by simp)
 { lB:=abR h.lB hg.size,lE:=abR h.lE hg.size,Hb:=h.Hb,s4:=h.s4,b4:=(t _ _ h.lB).trans h.b4,b6:=(t _ _ h.lB).trans h.b6,b7:=(t _ _ h.lB).trans h.b7,e2:=(t _ _ h.lE).trans h.e2,e3:=(t _ _ h.lE).trans h.e3,e4:=(t _ _ h.lE).trans h.e4 }
theorem Gd.eE.eG{x:World}{B gC gE gI cC cE cI:Nat}{s g c:N1}{E I:N2}(h:Gd.eE x B gC gE gI cC cE cI s g c E I){k t:Nat}(hk:k<32)(ht:t<4)(he:E k 2=(t:Int)):Gd.yS x B gC gE gI cC cI k t (E k 3) (E k 4) (g t) :=
 have r:=h.ab.own.ai.row hk
 { lB:=h.box.lt,lE:=h.ab.ai.lt,Hb:=hk,s4:=ht,b4:=h.box.cell (c:=4) (by omega),b6:=h.box.cell (c:=6) (by omega),b7:=by rw[h.box.cell (c:=7+t) (by omega),Gd.jv _ _ _ _ _ _ _ _ t ht],e2:=by rw[<-he];exact r.2.2.1,e3:=r.2.2.2.1,e4:=r.2.2.2.2.1 }
theorem PM(B gC gE gI cC cI k s:Nat)(X Y G A:Int)(w:World)(hN:Gd.yS w B gC gE gI cC cI k s X Y G)(cA:∀m,Calls prog 116 #[.slice (some ⟨gC,0,none⟩) 384 cC,.int .i64 X,.int .i64 Y] (w.drewN m) fun e w'=>e=.returned (.int .i64 A)/\w'=w.drewN m)(hA:¬A=5):Calls prog 190 #[.pointer (some ⟨B,0,none⟩),.pointer (some ⟨gE,k*11,none⟩)] w (aJ w (.int .i64 (-1))):=by
 obtain⟨lB,lE,Hb,s4,b4,b6,b7,e2,e3,e4⟩:=hN;have s4':(s:Int)<4:=by omega
 have jr:(A==5)=false:=by simp[hA]
 have fC:Hid (∀m,w.grownBy (w.drewN m) none):=fun m=>gdw (abF _ _) m;go_enter func190,ntmps190;go_wp2_with fail;go_quiet ((go_at_call 116;exact abU (cA _)));go_wp2;go_ret;exact⟨rfl,uh fC _⟩
theorem MN(B gC gE gI cC cI k s:Nat)(X Y G:Int)(w:World)(hN:Gd.yS w B gC gE gI cC cI k s X Y G)(cA:∀m,Calls prog 116 #[.slice (some ⟨gC,0,none⟩) 384 cC,.int .i64 X,.int .i64 Y] (w.drewN m) fun e w'=>e=.returned (.int .i64 5)/\w'=w.drewN m)(hG:G<5):Calls prog 190 #[.pointer (some ⟨B,0,none⟩),.pointer (some ⟨gE,k*11,none⟩)] w (aJ w (.int .i64 (-1))):=by
 obtain⟨lB,lE,Hb,s4,b4,b6,b7,e2,e3,e4⟩:=hN;have s4':(s:Int)<4:=by omega
 have fC:Hid (∀m,w.grownBy (w.drewN m) none):=fun m=>gdw (abF _ _) m;go_enter func190,ntmps190;go_wp2_with fail;go_quiet ((go_at_call 116;exact abU (cA _)));go_wp2;go_ret;exact⟨rfl,uh fC _⟩
theorem MO(B gC gE gI cC cI k s:Nat)(X Y G:Int)(w:World)(hN:Gd.yS w B gC gE gI cC cI k s X Y G)(cA:∀m,Calls prog 116 #[.slice (some ⟨gC,0,none⟩) 384 cC,.int .i64 X,.int .i64 Y] (w.drewN m) fun e w'=>e=.returned (.int .i64 5)/\w'=w.drewN m)(hG:¬G<5)(I:N2)(hI:wN w gI 0 40 I):Calls prog 190 #[.pointer (some ⟨B,0,none⟩),.pointer (some ⟨gE,k*11,none⟩)] w (aJ w (.int .i64 (Gd.ja I 40))):=by
 have hN':=aa hN;have mS:=aa hI;obtain⟨lB,lE,Hb,s4,b4,b6,b7,e2,e3,e4⟩:=hN;have s4':(s:Int)<4:=by omega
 have fC:Hid (∀m,w.grownBy (w.drewN m) none):=fun m=>gdw (abF _ _) m;clear hI;go_enter func190,ntmps190;go_wp2_with fail;go_quiet ((go_at_call 116;exact abU (cA _)));obtain⟨wq,G7⟩:=abV (w.drewN nq);have kJ:=aa (uh fC nq);rw[G7]at kJ|-;clear b4 b6 b7 e2 e3 e4 cA fC G7;go_wp2_with fail;go_loopw [33] (fun i wr=>∃j:Nat,j<=3/\i=.int .i64 (j:Int)/\(∀t:Nat,t<j->decide (0<=Gd.an I 40 4 (t:Int) 0)=false)/\w.grownBy wr none) (fun i _=>200-(intOf i).toNat)
 case atStart=>exact⟨0,by omega,rfl,fun j hj=>by omega,uh kJ⟩
 case round =>
  obtain⟨j,hj,rfl,hno,hgr⟩:=hrel;have aT:=aa hno;have bV:=aa hgr;clear hno hgr;by_cases hlt:j<3
  ·have hlt':(j:Int)<3:=by omega
   have HL:=aa hlt;have b6:=((uh hN').on (uh bV)).b6;have cat:=aa (kv gI 40 cI I 4 (j:Int) 0 wr ((uh mS).on (uh bV)));obtain⟨f,hf⟩:=abV (Gd.an I 40 4 (j:Int) 0);rw[hf]at cat;have fb:=aa hf;clear hlt hf;go_wp2_with fail;refine aaR (uh cat) fun w1 hg1=>?_;have hg2:=aa (gtr (uh bV) hg1);clear hg1 cat b6;by_cases kf:0<=f
   ·have he:=aa ((Gd.PK (uh aT) (by rw[uh fb];exact kf) (uh HL)).trans (uh fb));go_wp2;go_ret;exact⟨rti (uh he).symm,uh hg2⟩
   ·have hq:=aa (show decide (0<=Gd.an I 40 4 (j:Int) 0)=false by rw[uh fb];exact abI kf);have dH:f<0:=(by omega);go_wp2;go_roundw
    case rel=>exact⟨j+1,by have:=uh HL;omega,by go_num,fun t ht=>by
     by_cases e:t=j
     ·rw[e];exact uh hq
     ·exact uh aT t (by omega),uh hg2⟩
    case measure=>simp[intOf];omega
  ·have hge:¬(j:Int)<3:=by omega
   have he:=aa (Gd.MM (I:=I) (n:=40) (fun t ht=>uh aT t (by omega)));go_wp2;go_ret;exact⟨rti (uh he).symm,uh bV⟩
def Gd.jt(I:N2)(s X Y:Int)(jK:Bool)(G input:Int):Int :=
 if input=5 then Gd.an I 40 1 X Y
 else if input=10 then(if jK=true/\5<=G then Gd.ja I 40 else -1)
 else if input=8 then(if 0<=Gd.an I 40 1 X Y then -1 else Gd.IY I 40 s (fun k=>Gd.g5 k 8))
 else if input=6 then Gd.IY I 40 s (fun k=>Gd.g5 k 6)
 else if input=7 then Gd.IY I 40 s (fun k=>Gd.g5 k 7)
 else -1
theorem FM(B gC gE gI cC cI k s:Nat)(X Y G:Int)(c:N1)(I:N2)(w:World)(hN:Gd.yS w B gC gE gI cC cI k s X Y G)(hC:il w.heap.size w (some ⟨gC,0,none⟩) 384 (aZ c))(hc:∀i,0<=c i/\c i<=255)(hI:wN w gI 0 40 I):Calls prog 190 #[.pointer (some ⟨B,0,none⟩),.pointer (some ⟨gE,k*11,none⟩)] w (aJ w (.int .i64 (if decide (Gr.at 384 c X Y=5)=true/\5<=G then Gd.ja I 40 else -1))):=by
 have cA:=fun m=>nJ w.heap.size (some ⟨gC,0,none⟩) 384 cC c X Y (w.drewN m) (hC.drew m) hc;by_cases hA:Gr.at 384 c X Y=5
 ·rw[hA]at cA;by_cases hG:G<5
  ·rw[abO (by omega)];exact MN B gC gE gI cC cI k s X Y G w hN cA hG
  ·rw[abP ⟨by simp[hA],by omega⟩];exact MO B gC gE gI cC cI k s X Y G w hN cA hG I hI
 ·rw[abO (by simp[hA])];exact PM B gC gE gI cC cI k s X Y G _ w hN cA hA
theorem fW(B gC gE gI cC cI k s:Nat)(X Y G input:Int)(c:N1)(I:N2)(w:World)(hN:Gd.yS w B gC gE gI cC cI k s X Y G)(hC:il w.heap.size w (some ⟨gC,0,none⟩) 384 (aZ c))(hc:∀i,0<=c i/\c i<=255)(hI:wN w gI 0 40 I):Calls prog 180 #[.pointer (some ⟨B,0,none⟩),.pointer (some ⟨gE,k*11,none⟩),.int .i64 input] w (aJ w (.int .i64 (Gd.jt I (s:Int) X Y (decide (Gr.at 384 c X Y=5)) G input))):=by
 have hN':=aa hN;have mS:=aa hI;have TX:=aa hC;have fD:=aa hc;obtain⟨lB,lE,Hb,s4,b4,b6,b7,e2,e3,e4⟩:=hN;obtain⟨r,hr⟩:∃r,Gd.jt I (s:Int) X Y (decide (Gr.at 384 c X Y=5)) G input=r:=⟨_,rfl⟩;rw[hr];have hr':=aa hr;obtain⟨f,hf⟩:=abV (Gd.an I 40 1 X Y);have fb:=aa hf;clear hI hC hc hr;go_enter func180,ntmps180;go_wp2_with fail;refine bF (by kernel_rfl) (by kernel_rfl) ?_;intro St hS W hJ hx;have c6:∀σ,(W σ).cell? ⟨B,6,none⟩=some (.slice (some ⟨gI,0,none⟩) 40 cI):=fun σ=>(gce (hJ σ) B 6 lB (by simp)).trans b6;have cu:∀σ,Calls prog 185 #[.pointer (some ⟨gE,k*11,none⟩)] (W σ) fun e sc=>e=.returned (.agg #[.int .i64 1,.int .i64 X,.int .i64 Y])/\∃σ',sc=W σ':=fun σ=>bQ hJ hx (yL gE (k*11) X Y (W σ) ((uh hN').on (hJ σ)).e3 ((uh hN').on (hJ σ)).e4 ((uh hN').on (hJ σ)).lE);have ca:∀σ,Calls prog 189 #[.slice (some ⟨gI,0,none⟩) 40 cI,.agg #[.int .i64 1,.int .i64 X,.int .i64 Y]] (W σ) fun e sc=>e=.returned (.int .i64 f)/\∃σ',sc=W σ':=fun σ=>by
  have h:=kv gI 40 cI I 1 X Y (W σ) ((uh mS).on (hJ σ));rw[hf]at h;exact bQ hJ hx h
 have oz:=aa hJ;clear hJ hx hf b4 b6 b7 e2 e3 e4
 repeat (go_big_quiet_step (first| (go_at_call 185;exact cu _)|(go_at_call 189;exact ca _)))
 refine wpQuiet_nil ?_;rintro _ ⟨σ,rfl⟩;obtain⟨wq,G7⟩:=abV (W σ);have kJ:=aa (uh oz σ);rw[G7]at kJ|-;clear c6 cu ca oz G7;clear σ W hS St;by_cases h5:input=5
 ·have he:=aa (show f=r by rw[<-uh hr',Gd.jt,abP h5,uh fb]);subst h5;go_wp2;go_ret;exact⟨rti (uh he),uh kJ⟩
 ·by_cases sH:input=10
  ·have he:=uh hr';rw[Gd.jt,abO h5,abP sH]at he;have cw:=FM B gC gE gI cC cI k s X Y G c I wq ((uh hN').on (uh kJ)) (((uh TX).kept (lU (uh kJ))).mono (uh kJ).size) (uh fD) ((uh mS).on (uh kJ));rw[he]at cw;have qT:=aa cw;subst sH;clear h5 he cw;go_wp2_with fail;refine aaR (uh qT) fun w1 hg1=>?_;have hg2:=aa (gtr (uh kJ) hg1);clear hg1 qT;go_wp2;go_ret;exact⟨rfl,uh hg2⟩
  ·by_cases h8:input=8
   ·have he:=uh hr';rw[Gd.jt,abO h5,abO sH,abP h8,uh fb]at he;subst h8;clear h5 sH;by_cases hp:0<=f
    ·rw[abP hp]at he;have xn:=aa he;clear he;go_wp2;go_ret;exact⟨rti (uh xn),uh kJ⟩
    ·rw[abO hp]at he;have uu:f<0:=(by omega);have cc:=fun x (hx:wq.grownBy x none)=>oO gI 40 cI I (s:Int) 8 x ((uh mS).on (gtr (uh kJ) hx));rw[he]at cc;have b6:=((uh hN').on (uh kJ)).b6;have e2:=((uh hN').on (uh kJ)).e2;have XT:=((uh hN').on (uh kJ)).lB;have U5:=((uh hN').on (uh kJ)).lE;clear he;go_wp2_with fail;refine bF (by kernel_rfl) (by kernel_rfl) ?_;intro St hS W hJ hx;have c6:∀σ,(W σ).cell? ⟨B,6,none⟩=some (.slice (some ⟨gI,0,none⟩) 40 cI):=fun σ=>(gce (hJ σ) B 6 XT (by simp)).trans b6;have c2:∀σ,(W σ).cell? ⟨gE,k*11+2,none⟩=some (.int .i64 (s:Int)):=fun σ=>(gce (hJ σ) gE _ U5 (by simp)).trans e2;have ca:∀σ,Calls prog 191 #[.slice (some ⟨gI,0,none⟩) 40 cI,.int .i64 (s:Int),.int .i64 8] (W σ) fun e sc=>e=.returned (.int .i64 r)/\∃σ',sc=W σ':=fun σ=>bQ hJ hx (cc (W σ) (hJ σ));have oz:=aa hJ;clear hJ hx b6 e2 cc
     repeat (go_big_quiet_step ((go_at_call 191;exact ca _)))
     refine wpQuiet_nil ?_;rintro _ ⟨σ,rfl⟩;obtain⟨wz,gW⟩:=abV (W σ);have fM:=aa (gtr (uh kJ) (uh oz σ));rw[gW]at fM|-;clear c6 c2 ca oz gW;clear σ W hS St;go_wp2;go_ret;exact⟨rfl,uh fM⟩
   ·by_cases h6:input=6
    ·have he:=uh hr';rw[Gd.jt,abO h5,abO sH,abO h8,abP h6]at he;subst h6;clear h5 sH h8;have cc:=fun x (hx:wq.grownBy x none)=>oO gI 40 cI I (s:Int) 6 x ((uh mS).on (gtr (uh kJ) hx));rw[he]at cc;have b6:=((uh hN').on (uh kJ)).b6;have e2:=((uh hN').on (uh kJ)).e2;have XT:=((uh hN').on (uh kJ)).lB;have U5:=((uh hN').on (uh kJ)).lE;clear he;go_wp2_with fail;refine bF (by kernel_rfl) (by kernel_rfl) ?_;intro St hS W hJ hx;have c6:∀σ,(W σ).cell? ⟨B,6,none⟩=some (.slice (some ⟨gI,0,none⟩) 40 cI):=fun σ=>(gce (hJ σ) B 6 XT (by simp)).trans b6;have c2:∀σ,(W σ).cell? ⟨gE,k*11+2,none⟩=some (.int .i64 (s:Int)):=fun σ=>(gce (hJ σ) gE _ U5 (by simp)).trans e2;have ca:∀σ,Calls prog 191 #[.slice (some ⟨gI,0,none⟩) 40 cI,.int .i64 (s:Int),.int .i64 6] (W σ) fun e sc=>e=.returned (.int .i64 r)/\∃σ',sc=W σ':=fun σ=>bQ hJ hx (cc (W σ) (hJ σ));have oz:=aa hJ;clear hJ hx b6 e2 cc
     repeat (go_big_quiet_step ((go_at_call 191;exact ca _)))
     refine wpQuiet_nil ?_;rintro _ ⟨σ,rfl⟩;obtain⟨wz,gW⟩:=abV (W σ);have fM:=aa (gtr (uh kJ) (uh oz σ));rw[gW]at fM|-;clear c6 c2 ca oz gW;clear σ W hS St;go_wp2;go_ret;exact⟨rfl,uh fM⟩
    ·by_cases h7:input=7
     ·have he:=uh hr';rw[Gd.jt,abO h5,abO sH,abO h8,abO h6,abP h7]at he;subst h7;clear h5 sH h8 h6;have cc:=fun x (hx:wq.grownBy x none)=>oO gI 40 cI I (s:Int) 7 x ((uh mS).on (gtr (uh kJ) hx));rw[he]at cc;have b6:=((uh hN').on (uh kJ)).b6;have e2:=((uh hN').on (uh kJ)).e2;have XT:=((uh hN').on (uh kJ)).lB;have U5:=((uh hN').on (uh kJ)).lE;clear he;go_wp2_with fail;refine bF (by kernel_rfl) (by kernel_rfl) ?_;intro St hS W hJ hx;have c6:∀σ,(W σ).cell? ⟨B,6,none⟩=some (.slice (some ⟨gI,0,none⟩) 40 cI):=fun σ=>(gce (hJ σ) B 6 XT (by simp)).trans b6;have c2:∀σ,(W σ).cell? ⟨gE,k*11+2,none⟩=some (.int .i64 (s:Int)):=fun σ=>(gce (hJ σ) gE _ U5 (by simp)).trans e2;have ca:∀σ,Calls prog 191 #[.slice (some ⟨gI,0,none⟩) 40 cI,.int .i64 (s:Int),.int .i64 7] (W σ) fun e sc=>e=.returned (.int .i64 r)/\∃σ',sc=W σ':=fun σ=>bQ hJ hx (cc (W σ) (hJ σ));have oz:=aa hJ;clear hJ hx b6 e2 cc
      repeat (go_big_quiet_step ((go_at_call 191;exact ca _)))
      refine wpQuiet_nil ?_;rintro _ ⟨σ,rfl⟩;obtain⟨wz,gW⟩:=abV (W σ);have fM:=aa (gtr (uh kJ) (uh oz σ));rw[gW]at fM|-;clear c6 c2 ca oz gW;clear σ W hS St;go_wp2;go_ret;exact⟨rfl,uh fM⟩
     ·have he:=uh hr';rw[Gd.jt,abO h5,abO sH,abO h8,abO h6,abO h7]at he;have xn:=aa he;clear he;go_wp2;go_ret;exact⟨rti (uh xn),uh kJ⟩
theorem bS(b n c:Nat)(I:N2)(p a q:Int)(w:World)(hI:wN w b 0 n I):Calls prog 52 #[.slice (some ⟨b,0,none⟩) n c,.int .i64 p,.int .i64 a,.int .i64 q] w fun e w'=>e=.returned (.int .i64 (Gd.an I n p a q))/\w'=w:=by
 have hn:=hI.1;have mS:=aa hI;clear hI;go_enter func52,ntmps52;go_wp2_with fail;go_loop [9] (fun i=>∃k:Nat,k<=n/\i=.int .i64 (k:Int)/\∀j,j<k->Gd.OG I p a q j=false) (fun i=>200-(intOf i).toNat)
 case atStart=>exact⟨0,by omega,rfl,fun j hj=>by omega⟩
 case round =>
  obtain⟨k,hk,rfl,hno⟩:=hrel;have aT:=aa hno;clear hno;by_cases hlt:k<n
  ·obtain⟨_,u1,u2,u3⟩:=(uh mS).row hlt;have hlt':(k:Int)<(n:Int):=by omega
   have HL:=aa hlt;clear hlt;by_cases h1:I k 1=p
   ·by_cases h2:I k 2=a
    ·by_cases h3:I k 3=q
     ·have he:=aa (En.cG (uh aT) (Gd.La h1 h2 h3) (uh HL));go_wp2;go_ret;exact⟨rti (uh he).symm,rfl⟩
     ·have hq:=aa (Gd.zS (I:=I) (p:=p) (a:=a) (q:=q) (k:=k) (fun h=>h3 h.2.2));have Sm:(I k 3==q)=false:=(by simp[h3]);go_wp2
      go_round
      case rel=>exact⟨k+1,by have:=uh HL;omega,by go_num,fun j hj=>by
       by_cases e:j=k
       ·rw[e];exact uh hq
       ·exact uh aT j (by omega)⟩
      case measure=>simp[intOf];omega
    ·have hq:=aa (Gd.zS (I:=I) (p:=p) (a:=a) (q:=q) (k:=k) (fun h=>h2 h.2.1));have NL:(I k 2==a)=false:=(by simp[h2]);go_wp2
     go_round
     case rel=>exact⟨k+1,by have:=uh HL;omega,by go_num,fun j hj=>by
      by_cases e:j=k
      ·rw[e];exact uh hq
      ·exact uh aT j (by omega)⟩
     case measure=>simp[intOf];omega
   ·have hq:=aa (Gd.zS (I:=I) (p:=p) (a:=a) (q:=q) (k:=k) (fun h=>h1 h.1));have ot:(I k 1==p)=false:=(by simp[h1]);go_wp2
    go_round
    case rel=>exact⟨k+1,by have:=uh HL;omega,by go_num,fun j hj=>by
     by_cases e:j=k
     ·rw[e];exact uh hq
     ·exact uh aT j (by omega)⟩
    case measure=>simp[intOf];omega
  ·have hge:¬(k:Int)<(n:Int):=by omega
   have he:=aa (En.bt (n:=n) (fun j hj=>uh aT j (by omega)));go_wp2;go_ret;exact⟨rti (uh he).symm,rfl⟩
theorem jJ(b n c:Nat)(I:N2)(ag:Int)(w:World)(hI:wN w b 0 n I):Calls prog 84 #[.slice (some ⟨b,0,none⟩) n c,.int .i64 ag] w fun e w'=>e=.returned (.int .i64 (Gd.cY I n ag))/\w'=w:=by
 have ci:Hid (∀q,Calls prog 52 #[.slice (some ⟨b,0,none⟩) n c,.int .i64 2,.int .i64 ag,.int .i64 q] w fun e w'=>e=.returned (.int .i64 (Gd.an I n 2 ag q))/\w'=w):=fun q=>bS b n c I 2 ag q w hI;clear hI;go_enter func84,ntmps84;go_wp2_with fail;go_loop [5] (fun i=>∃k:Nat,k<=4/\i=.int .i64 (k:Int)/\(∀j:Nat,j<k->decide (Gd.an I n 2 ag (j:Int)<0)=false)) (fun i=>200-(intOf i).toNat)
 case atStart=>exact⟨0,by omega,rfl,fun j hj=>by omega⟩
 case round =>
  obtain⟨k,hk,rfl,hno⟩:=hrel;have aT:=aa hno;clear hno;by_cases hlt:k<4
  ·have hlt':(k:Int)<4:=by omega
   have HL:=aa hlt;have cat:=aa (uh ci (k:Int));obtain⟨f,hf⟩:=abV (Gd.an I n 2 ag (k:Int));rw[hf]at cat;have fb:=aa hf;clear hlt hf;go_wp2_with fail;refine abW (uh cat) ?_;clear cat;by_cases dH:f<0
   ·have he:=aa (En.cG (q:=fun b:Nat=>decide (Gd.an I n 2 ag (b:Int)<0)) (uh aT) (by show decide _=true;rw[uh fb];exact abJ dH) (uh HL));go_wp2;go_ret;exact⟨rti (uh he).symm,rfl⟩
   ·have hq:=aa (show decide (Gd.an I n 2 ag (k:Int)<0)=false by rw[uh fb];exact abI dH);go_wp2
    go_round
    case rel=>exact⟨k+1,by have:=uh HL;omega,by go_num,fun j hj=>by
     by_cases e:j=k
     ·rw[e];exact uh hq
     ·exact uh aT j (by omega)⟩
    case measure=>simp[intOf];omega
  ·have hge:¬(k:Int)<4:=by omega
   have he:=aa (En.bt (n:=4) (q:=fun b:Nat=>decide (Gd.an I n 2 ag (b:Int)<0)) (fun j hj=>uh aT j (by omega)));go_wp2;go_ret;exact⟨rti (uh he).symm,rfl⟩
theorem gZ(b n c:Nat)(I:N2)(ag lo hi:Int)(w:World)(hI:wN w b 0 n I):Calls prog 88 #[.slice (some ⟨b,0,none⟩) n c,.int .i64 ag,.int .i64 lo,.int .i64 hi] w fun e w'=>e=.returned (.int .i64 (Gd.lF I n ag lo hi))/\w'=w:=by
 have ci:Hid (∀q,Calls prog 52 #[.slice (some ⟨b,0,none⟩) n c,.int .i64 2,.int .i64 ag,.int .i64 q] w fun e w'=>e=.returned (.int .i64 (Gd.an I n 2 ag q))/\w'=w):=fun q=>bS b n c I 2 ag q w hI;have mS:=aa hI;clear hI;rw[Gd.uo];go_enter func88,ntmps88;go_wp2_with fail;go_loop [9] (fun i=>∃k:Nat,k<=4/\i=.int .i64 (k:Int)/\(∀j:Nat,j<k->Gd.pz I n ag (fun k=>decide (lo<=k)&&decide (k<=hi)) j=false)) (fun i=>200-(intOf i).toNat)
 case atStart=>exact⟨0,by omega,rfl,fun j hj=>by omega⟩
 case round =>
  obtain⟨k,hk,rfl,hno⟩:=hrel;have aT:=aa hno;clear hno;by_cases hlt:k<4
  ·have hlt':(k:Int)<4:=by omega
   have HL:=aa hlt;have cat:=aa (uh ci (k:Int));have qH:=aa (Gd.KA (I:=I) (n:=n) (p:=2) (a:=ag) (q:=(k:Int)));have Ot:=aa (show Gd.pz I n ag (fun k=>decide (lo<=k)&&decide (k<=hi)) k=(decide (0<=Gd.an I n 2 ag (k:Int))&&(decide (lo<=I (Gd.an I n 2 ag (k:Int)).toNat 0)&&decide (I (Gd.an I n 2 ag (k:Int)).toNat 0<=hi))) from rfl);obtain⟨f,hf⟩:=abV (Gd.an I n 2 ag (k:Int));have fb:=aa hf;rw[hf]at cat qH Ot;clear hlt hf;go_wp2_with fail;refine abW (uh cat) ?_;clear cat;by_cases kf:0<=f
   ·obtain⟨m,hm,rfl⟩:∃m:Nat,m<n/\f=(m:Int):=⟨f.toNat,(uh qH kf).1,(uh qH kf).2⟩;have u0:=((uh mS).row hm).1;have mf:(m:Int)<(n:Int):=(by omega);have Ju:Hid (Gd.pz I n ag (fun k=>decide (lo<=k)&&decide (k<=hi)) k=(decide (lo<=I m 0)&&decide (I m 0<=hi))):=by
     show _=_;rw[uh Ot,abJ kf,Bool.true_and,abG]
    clear qH Ot hm;by_cases iC:lo<=I m 0
    ·by_cases Q7:I m 0<=hi
     ·have he:=aa ((Gd.Kq (uh aT) ((uh Ju).trans (by simp[iC,Q7])) (uh HL)).trans (uh fb));go_wp2;go_ret;exact⟨rti (uh he).symm,rfl⟩
     ·have P7:=aa ((uh Ju).trans (by simp[Q7]:_=false));go_wp2
      go_round
      case rel=>exact⟨k+1,by have:=uh HL;omega,by go_num,fun j hj=>by
       by_cases e:j=k
       ·rw[e];exact uh P7
       ·exact uh aT j (by omega)⟩
      case measure=>simp[intOf];omega
    ·have P7:=aa ((uh Ju).trans (by simp[iC]:_=false));go_wp2
     go_round
     case rel=>exact⟨k+1,by have:=uh HL;omega,by go_num,fun j hj=>by
      by_cases e:j=k
      ·rw[e];exact uh P7
      ·exact uh aT j (by omega)⟩
     case measure=>simp[intOf];omega
   ·have P7:Hid (Gd.pz I n ag (fun k=>decide (lo<=k)&&decide (k<=hi)) k=false):=by
     show _=_;rw[uh Ot,abI kf,Bool.false_and]
    have dH:f<0:=(by omega);clear qH Ot;go_wp2
    go_round
    case rel=>exact⟨k+1,by have:=uh HL;omega,by go_num,fun j hj=>by
     by_cases e:j=k
     ·rw[e];exact uh P7
     ·exact uh aT j (by omega)⟩
    case measure=>simp[intOf];omega
  ·have hge:¬(k:Int)<4:=by omega
   have he:=aa (Gd.Gg (fun j hj=>uh aT j (by omega)));go_wp2;go_ret;exact⟨rti (uh he).symm,rfl⟩
theorem lW(b n c:Nat)(I:N2)(ag:Int)(w:World)(hI:wN w b 0 n I):Calls prog 82 #[.slice (some ⟨b,0,none⟩) n c,.int .i64 ag] w fun e w'=>e=.returned (.int .i64 (Gd.lF I n ag 1 1))/\w'=w:=by
 have ch:=aa (gZ b n c I ag 1 1 w hI);clear hI;obtain⟨r,hr⟩:=abV (Gd.lF I n ag 1 1);rw[hr]at ch|-;clear hr;go_enter func82,ntmps82;go_wp2_with fail;refine abW (uh ch) ?_;clear ch;go_wp2;go_ret;exact⟨rfl,rfl⟩
