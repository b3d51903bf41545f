import Derived.Test.YtbanjoflgoiegaaGreatPart25
import Derived.Deep.Fields
import Derived.Test.YtbanjoflgoiegaaGreatPart23
set_option maxHeartbeats 6400000
set_option maxRecDepth 8000
namespace Go.Proofs.YtbanjoflgoiegaaGreat
open Go.Proofs.Tryz
open Go.RowKit
theorem fg.jl{w:World}{ar n:Nat}{v:Value}{E:N2}(h:w.ownsRow ar 54 11 v n (En.fk n E))(hv:v≠.slice none 0 0)(hn:n<=32):∃g aG,v=.slice (some ⟨g,0,none⟩) n aG/\ar<=g/\n<=aG/\aG<=maxLen/\fg w g n E:=by
 rcases h.2 with⟨h',_⟩|⟨g,aG,cD,rfl,hb,hg,jP,tu,fp,ye⟩
 ·exact absurd h' hv
 ·exact⟨g,aG,rfl,hb,jP,tu,fg.Lh h hn (fun c hc=>En.jH hc)⟩
theorem En.uX{w w':World}{b n:Nat}{E:N2}(h:fG w b n E)(hg:w.grownBy w' none):∀j v,(En.fk n E)[j]?=some v->w'.cell? ((⟨b,0,none⟩:Addr).add j)=some v:=(h.on hg).src
theorem vX(b n c k:Nat)(E:N2)(w:World)(hE:fG w b n E)(hk:k<n):Calls prog 95 #[.slice (some ⟨b,0,none⟩) n c,.int .i64 (k:Int)] w (av w n (En.put E k (En.mP (E k 1)))):=by
 have hn:=hE.1;have jy:(k:Int)<(n:Int):=by omega
 have iQ:=aa hE;have HK:=aa hk;obtain⟨i0,hi,dJ,dz,ed⟩:=info_parts gl;have aK:Hid (∀(x:World)(g:Nat),fg x g n E->fg (x.setCells g (k*11) (En.cells (En.mP (E k 1))).toList) g n (En.put E k (En.mP (E k 1)))):=fun x g h=>h.store k _;have MZ:Hid (∀(x:World)(g:Nat),w.grownBy x none->w.heap.size<=g->w.grownBy (x.setCells g (k*11) (En.cells (En.mP (E k 1))).toList) none):=fun x g h hg=>aA hg _ _ x h;clear hE;go_enter func95,ntmps95;go_wp2_with (at_builtin;refine wpList_append_own _ rfl _ _ 26 rfl w.heap.size 54 i0 (.agg #[.int .i64 0,.int .i64 0,.int .i64 0,.int .i64 0,.int .i64 0,.int .i64 0,.int .i64 0,.int .i64 0,.int .i64 0,.int .i64 0,.int .i64 0]) 11 88 underlying26 hi dJ dz ed rfl (by decide) _ 0 [] rfl (World.ownsRow_made _ _ _ (abL _) (by decide) (by simp)) ⟨b,0,none⟩ n c (En.fk n E) rfl (En.aX n E) (En.uX (uh iQ) (abE _ _ _)) En.dK ?c4 ?c5 ?c6 ?_)
 case c4=>unfold maxLen;omega
 case c5=>omega
 case c6=>simp
 intro v' w1 aH az ni;obtain⟨g,aG,rfl,iC,jP,tu,aR⟩:=fg.jl aH ni hn;have sM:=aa (gow (abE w (.cells #[] 54) none) az (by intro m hm;simp[Value.ownBlock]at hm;omega));have rF:=aa (And.intro iC (And.intro jP tu));obtain⟨u0,u1,u2,u3,u4,u5,u6,u7,u8,u9,iO⟩:=aR.ai.row hk;have f:=fun i=>aR.free i;have s1:w1.cell? ⟨b,k*11+1,none⟩=some (.int .i64 (E k 1)):=((uh iQ).on (uh sM)).2.2 k 1 hk (by omega);have Jt:=aa aR;clear aH az ni iC jP tu aR hi dJ dz ed;go_wp2;go_ret;exact⟨g,aG,rfl,(uh rF).1,(uh rF).2.1,(uh rF).2.2,uh aK _ _ (uh Jt),uh MZ _ _ (uh sM) (uh rF).1⟩
theorem xw(b n c:Nat)(E:N2)(e:N1)(w:World)(hE:fG w b n E)(hk:1<=e 0/\e 0<=4)(hf:∀j,j<n->En.gS E j=false):Calls prog 47 #[.slice (some ⟨b,0,none⟩) n c,.agg (En.cells e)] w (aJ w (.tuple #[.slice none 0 0,.int .i64 0,.int .i64 5])):=by
 have hn:=hE.1;have hg:=aa (abE w (.cells (En.cells e) 54) none);have iQ:=aa (hE.on (uh hg));have fb:=aa hf;obtain⟨W,hW⟩:∃W,W=w.alloc (.cells (En.cells e) 54):=⟨_,rfl⟩;rw[<-hW]at hg iQ;obtain⟨k1,k2⟩:=hk;have k3:¬e 0<1:=by omega
 have k4:¬4<e 0:=by omega
 have hW':=aa hW;clear hE hf hW;unfold En.cells at hW'|-;go_enter func47,ntmps47;go_wp2_with fail;rw[<-uh hW'];clear hW' k1 k2 k3 k4;go_loop [7] (fun i=>∃k:Nat,k<=n/\i=.int .i64 (k:Int)) (fun i=>40-(intOf i).toNat)
 case atStart=>exact⟨0,by omega,rfl⟩
 case round =>
  obtain⟨k,hk,rfl⟩:=hrel;by_cases hlt:k<n
  ·obtain⟨u0,_⟩:=(uh iQ).row hlt;have hlt':(k:Int)<(n:Int):=by omega
   have Zn:(k:Int)<32:=by omega
   have hz:(E k 0==0)=false:=by have:=uh fb k hlt;simpa [En.gS] using this
   have HL:=aa hlt;clear hlt;go_wp2
   go_round
   case rel=>exact⟨k+1,by have:=uh HL;omega,by go_num⟩
   case measure=>simp[intOf];omega
  ·have hge:¬(k:Int)<(n:Int):=by omega
   go_wp2
   go_ret3
   exact⟨rfl,uh hg⟩
theorem xy(b n c r:Nat)(E:N2)(e:N1)(w:World)(hE:fG w b n E)(hk:1<=e 0/\e 0<=4)(hr:r<n)(hq:E r 0=0)(hf:∀j,j<r->En.gS E j=false)(hG:En.sn n E):Calls prog 47 #[.slice (some ⟨b,0,none⟩) n c,.agg (En.cells e)] w (yW w n (En.put E r (En.nN e ((E r 1+1)%256))) r):=by
 have hn:=hE.1;have hg:=aa (abE w (.cells (En.cells e) 54) none);have iQ:=aa (hE.on (uh hg));have aF:=aa (ax.lit (abH w (.cells (En.cells e) 54)));have fb:=aa hf;obtain⟨g0,g1⟩:=hG r hr;obtain⟨W,hW⟩:∃W,W=w.alloc (.cells (En.cells e) 54):=⟨_,rfl⟩;have hWs:Hid (W.heap.size=w.heap.size+1):=by rw[hW];simp[Hid]
 rw[<-hW]at hg iQ aF;obtain⟨k1,k2⟩:=hk;have k3:¬e 0<1:=by omega
 have k4:¬4<e 0:=by omega
 have hW':=aa hW;have Jg:=aa hE.2.1;obtain⟨i0,hi,dJ,dz,ed⟩:=info_parts gl;obtain⟨G2,rp⟩:∃G2,G2=(E r 1+1)%256:=⟨_,rfl⟩;have aK:Hid (∀(x:World)(g:Nat),fg x g n E->fg (x.setCells g (r*11) (En.cells (En.nN e G2)).toList) g n (En.put E r (En.nN e G2))):=fun x g h=>h.store r _;have MZ:Hid (∀(x:World)(g:Nat),w.grownBy x none->w.heap.size<=g->w.grownBy (x.setCells g (r*11) (En.cells (En.nN e G2)).toList) none):=fun x g h hg=>aA hg _ _ x h;obtain⟨F,hF⟩:∃F,F=En.put E r (En.nN e G2):=⟨_,rfl⟩;rw[<-hF]at aK;rw[<-rp,<-hF];have ZB:=aa rp;have kp:=aa hq;clear hE hf hW hG hF rp hq;unfold En.cells at hW' aF|-;go_enter func47,ntmps47;go_wp2_with fail;rw[<-uh hW'];clear hW' k1 k2 k3 k4;go_loop [7] (fun i=>∃k:Nat,k<=r/\i=.int .i64 (k:Int)) (fun i=>40-(intOf i).toNat)
 case atStart=>exact⟨0,by omega,rfl⟩
 case round =>
  obtain⟨k,hk,rfl⟩:=hrel;by_cases hlt:k<r
  ·obtain⟨u0,_⟩:=(uh iQ).row (k:=k) (by omega);have hlt':(k:Int)<(n:Int):=by omega
   have Zn:(k:Int)<32:=by omega
   have hz:(E k 0==0)=false:=by have:=uh fb k hlt;simpa [En.gS] using this
   have HL:=aa hlt;clear hlt;go_wp2
   go_round
   case rel=>exact⟨k+1,by have:=uh HL;omega,by go_num⟩
   case measure=>simp[intOf];omega
  ·obtain rfl:k=r:=by omega
   obtain⟨u0,u1,_⟩:=(uh iQ).row hr;rw[uh kp]at u0;have hlt':(k:Int)<(n:Int):=by omega
   have Zn:(k:Int)<32:=by omega
   go_wp2_with (at_builtin;refine wpList_append_own _ rfl _ _ 26 rfl W.heap.size 54 i0 (.agg #[.int .i64 0,.int .i64 0,.int .i64 0,.int .i64 0,.int .i64 0,.int .i64 0,.int .i64 0,.int .i64 0,.int .i64 0,.int .i64 0,.int .i64 0]) 11 88 underlying26 hi dJ dz ed rfl (by decide) _ 0 [] rfl (World.ownsRow_made _ _ _ (abL _) (by decide) (by simp)) ⟨b,0,none⟩ n c (En.fk n E) rfl (En.aX n E) (En.uX (uh iQ) (abE _ _ _)) En.dK ?c4 ?c5 ?c6 ?_)
   case c4=>unfold maxLen;omega
   case c5=>omega
   try (case c6=>simp)
   intro v' w1 aH az ni;obtain⟨g,aG,rfl,iC,jP,tu,aR⟩:=fg.jl aH ni hn;have YE:=gow (abE W (.cells #[] 54) none) az (by intro m hm;simp[Value.ownBlock]at hm;omega);have sM:=aa (gtr (uh hg) YE);have xZ:=aa ((uh aF).grown YE (by simp));have qy:w.heap.size<g:=by have:=uh hWs;omega
   have rF:=aa (And.intro qy (And.intro jP tu));have P8:w1.cell? ⟨b,k*11+1,none⟩=some (.int .i64 (E k 1)):=((uh iQ).on YE).2.2 k 1 hr (by omega);have hz:=fun j (hj:j<11)=>(uh xZ).cell (i:=j) hj;have z0:=hz 0 (by omega);have z1:=hz 1 (by omega);have z2:=hz 2 (by omega);have z3:=hz 3 (by omega);have z4:=hz 4 (by omega);have z5:=hz 5 (by omega);have z6:=hz 6 (by omega);have z7:=hz 7 (by omega);have z8:=hz 8 (by omega);have z9:=hz 9 (by omega);have bO:=hz 10 (by omega);simp only[List.getElem?_toArray,List.getElem?_cons_zero,List.getElem?_cons_succ,Option.getD_some]at z0 z1 z2 z3 z4 z5 z6 z7 z8 z9 bO;have zf:=(uh xZ).free 1;have Jt:=aa aR;clear aH az ni iC jP tu aR hi dJ dz ed YE hz u0 u1;obtain⟨w2,ig⟩:∃w2,w2=w1.setCell ⟨w.heap.size,1,none⟩ (.int .i64 G2):=⟨_,rfl⟩;have gj:Hid (fg w2 g n E):=by
    have ow:w.heap.size≠g:=(by omega);obtain⟨ju,m,F',hA,hm,iU⟩:=uh Jt;obtain⟨cD,q1,q2,q3⟩:=hA;rw[ig];exact⟨ju,m,F',⟨cD,(heap_setCell_other w1 ⟨w.heap.size,1,none⟩ g _ ow.symm).trans q1,q2,q3⟩,hm,iU⟩
   have gu:Hid (w.grownBy w2 none):=by rw[ig];exact gsr (uh sM) ⟨w.heap.size,1,none⟩ (abL _) _
   obtain⟨t0,t1,t2,t3,t4,t5,t6,t7,t8,t9,t10⟩:=(uh gj).ai.row hr;have f:=fun i=>(uh gj).free i;have jf:=(uh xZ).store 1 (.int .i64 G2);rw[<-ig]at jf;have y0:w2.cell? ⟨w.heap.size,0,none⟩=some (.int .i64 (e 0)):=jf.cell (i:=0) (by show 0<11;omega);have y1:w2.cell? ⟨w.heap.size,1,none⟩=some (.int .i64 G2):=jf.cell (i:=1) (by show 1<11;omega);have y2:w2.cell? ⟨w.heap.size,2,none⟩=some (.int .i64 (e 2)):=jf.cell (i:=2) (by show 2<11;omega);have y3:w2.cell? ⟨w.heap.size,3,none⟩=some (.int .i64 (e 3)):=jf.cell (i:=3) (by show 3<11;omega);have y4:w2.cell? ⟨w.heap.size,4,none⟩=some (.int .i64 (e 4)):=jf.cell (i:=4) (by show 4<11;omega);have y5:w2.cell? ⟨w.heap.size,5,none⟩=some (.int .i64 (e 5)):=jf.cell (i:=5) (by show 5<11;omega);have y6:w2.cell? ⟨w.heap.size,6,none⟩=some (.int .i64 (e 6)):=jf.cell (i:=6) (by show 6<11;omega);have y7:w2.cell? ⟨w.heap.size,7,none⟩=some (.int .i64 (e 7)):=jf.cell (i:=7) (by show 7<11;omega);have y8:w2.cell? ⟨w.heap.size,8,none⟩=some (.int .i64 (e 8)):=jf.cell (i:=8) (by show 8<11;omega);have y9:w2.cell? ⟨w.heap.size,9,none⟩=some (.int .i64 (e 9)):=jf.cell (i:=9) (by show 9<11;omega);have y10:w2.cell? ⟨w.heap.size,10,none⟩=some (.int .i64 (e 10)):=jf.cell (i:=10) (by show 10<11;omega);have XO:=aa ig;clear jf;clear ig;go_upto_region 9 with fail;rw[<-uh ZB,<-uh XO];clear P8 z0 z1 z2 z3 z4 z5 z6 z7 z8 z9 bO zf XO;go_wp2
   go_ret3
   exact⟨g,aG,rfl,Nat.le_of_lt (uh rF).1,(uh rF).2.1,(uh rF).2.2,uh aK _ _ (uh gj),uh MZ _ _ (uh gu) (Nat.le_of_lt (uh rF).1)⟩
theorem Gd.yQ.uL{w x:World}{T V gC gE gI cC cE cI:Nat}{s g c:N1}{E I:N2}(h:Gd.yQ w x T gC gE gI cC cE cI s g c E I)(hV:w.heap.size<=V)(n0:V≠T)(n1:V≠gC)(n2:V≠gE)(n3:V≠gI)(vs:List Value):Gd.yQ w (x.setCells V 0 vs) T gC gE gI cC cE cI s g c E I:=by
 have r:=gss (g:=V) vs 0 x (abF _ _);exact { h with af:={ h.af with box:=h.af.box.grown r (by simpa using n0),ab:=⟨h.af.ab.cells.grown r (by simpa using n1),h.af.ab.ai.grown r (by simpa using n2),h.af.ab.aj.grown r (by simpa using n3)⟩ },grown:=aA hV _ 0 x h.grown }
variable{e:N1}
def En.dj(e:N1)(j:Nat)(v:Int):Nat->Int:=fun l=>if l=j then v else e l
theorem En.l6(e:N1)(j:Nat)(v:Int):En.dj e j v j=v:=abP rfl
theorem En.bq {e:N1} {j l:Nat} {v:Int} (h:l≠j):En.dj e j v l=e l:=abO h
theorem ay.dj{x:World}{Q:Nat}{T:TypeId}(h:ay x Q T 11 (bB e))(j:Nat)(v:Int):ay (x.setCell ⟨Q,j,none⟩ (.int .i64 v)) Q T 11 (bB (En.dj e j v)):=by
 refine(h.store j (.int .i64 v)).congr fun l _=>?_;unfold bB En.dj;split <;> rfl
theorem ay.kt{x:World}{Q:Nat}{T:TypeId}(h:ay x Q T 11 (bB e)):x.cell? ⟨Q,0,none⟩=some (.int .i64 (e 0))/\x.cell? ⟨Q,1,none⟩=some (.int .i64 (e 1))/\x.cell? ⟨Q,2,none⟩=some (.int .i64 (e 2))/\x.cell? ⟨Q,3,none⟩=some (.int .i64 (e 3))/\x.cell? ⟨Q,4,none⟩=some (.int .i64 (e 4))/\x.cell? ⟨Q,5,none⟩=some (.int .i64 (e 5))/\x.cell? ⟨Q,6,none⟩=some (.int .i64 (e 6))/\x.cell? ⟨Q,7,none⟩=some (.int .i64 (e 7))/\x.cell? ⟨Q,8,none⟩=some (.int .i64 (e 8))/\x.cell? ⟨Q,9,none⟩=some (.int .i64 (e 9))/\x.cell? ⟨Q,10,none⟩=some (.int .i64 (e 10)) :=
 ⟨h.cell (by omega),h.cell (by omega),h.cell (by omega),h.cell (by omega),h.cell (by omega),h.cell (by omega),h.cell (by omega),h.cell (by omega),h.cell (by omega),h.cell (by omega),h.cell (by omega)⟩
theorem ay.wZ(x:World)(e:N1)(T:TypeId):ay (x.alloc (.cells (En.cells e) T)) x.heap.size T 11 (bB e) :=
 ay.congr (m:=11) (ax.lit (abH x (.cells (En.cells e) T))).lie fun j hj=>by
  rcases(show j=0\/j=1\/j=2\/j=3\/j=4\/j=5\/j=6\/j=7\/j=8\/j=9\/j=10 by omega)with rfl|rfl|rfl|rfl|rfl|rfl|rfl|rfl|rfl|rfl|rfl <;> rfl
def Ft.Qi(E:N2):Prop:=∀k,k<32->E k 0≠0->E k 6=En.stats (E k 0) 6/\E k 7=En.stats (E k 0) 7/\E k 8=En.stats (E k 0) 8
theorem Ft.Qi.put{E:N2}(h:Ft.Qi E){r:Nat}(he:e 6=En.stats (e 0) 6/\e 7=En.stats (e 0) 7/\e 8=En.stats (e 0) 8):Ft.Qi (En.put E r e):=fun k hk h0=>by
 by_cases x:k=r
 ·rw[x,En.aB]
  exact he
 ·rw[En.ak x]at h0|-
  exact h k hk h0
structure Ft.Nb(c:N1)(E:N2):Prop where
 on:∀k,k<32->E k 0≠0->0<=E k 3/\E k 3<24/\0<=E k 4/\E k 4<16/\Gr.aS (c (E k 4*24+E k 3).toNat)=true
 apart:∀j k,j<32->k<32->E j 0≠0->E k 0≠0->E j 3=E k 3->E j 4=E k 4->j=k
structure Ft.Sf(c:N1)(E:N2):Prop where
 wZ:Ft.Qi E
 iZ:Ft.Nb c E
def Ft.Qm(c:N1)(E:N2)(q:Nat):Prop:=Gr.aS (c q)=true/\En.first (En.eM E ((q:Int)%24) ((q:Int)/24)) 32<0
theorem Ft.Gh{q:Nat}(hq:q<384):0<=(q:Int)%24/\(q:Int)%24<24/\0<=(q:Int)/24/\(q:Int)/24<16/\((q:Int)/24*24+(q:Int)%24).toNat=q:=by omega
theorem Ft.tb{E:N2}{x y:Int}(h:En.first (En.eM E x y) 32<0):∀j,j<32->E j 0≠0->¬(E j 3=x/\E j 4=y):=by
 rcases En.aw (En.eM E x y) 32 with⟨_,hno⟩|⟨k,_,he,_⟩
 ·intro j hj h0 tB;have:=hno j hj;simp[En.eM,h0,tB.1,tB.2]at this
 ·omega
theorem Ft.Sf.put{c:N1}{E:N2}(h:Ft.Sf c E){r q:Nat}{e:N1}{gn:Int}(_h0:E r 0=0)(hq:q<384)(hr:Ft.Qm c E q)(hx:e 3=(q:Int)%24)(hy:e 4=(q:Int)/24)(he:e 6=En.stats (e 0) 6/\e 7=En.stats (e 0) 7/\e 8=En.stats (e 0) 8):Ft.Sf c (En.put E r (En.nN e gn)):=by
 obtain⟨n1,n2,n3,n4,n5⟩:=Ft.Gh hq;have hno:=Ft.tb hr.2;have e3:En.nN e gn 3=(q:Int)%24:=hx;have e4:En.nN e gn 4=(q:Int)/24:=hy;refine⟨h.wZ.put he,⟨fun k hk k0=>?_,fun j k hj hk j0 k0 K8 IN=>?_⟩⟩
 ·by_cases e':k=r
  ·subst e';rw[En.aB,e3,e4,n5];exact⟨n1,n2,n3,n4,hr.1⟩
  ·rw[En.ak e']at k0|-;exact h.iZ.on k hk k0
 ·by_cases ej:j=r
  ·by_cases ek:k=r
   ·omega
   ·subst ej;rw[En.aB,En.ak ek,e3]at K8;rw[En.aB,En.ak ek,e4]at IN;rw[En.ak ek]at k0;exact absurd ⟨K8.symm,IN.symm⟩ (hno k hk k0)
  ·by_cases ek:k=r
   ·subst ek;rw[En.aB,En.ak ej,e3]at K8;rw[En.aB,En.ak ej,e4]at IN;rw[En.ak ej]at j0;exact absurd ⟨K8,IN⟩ (hno j hj j0)
   ·rw[En.ak ej,En.ak ek]at K8 IN;rw[En.ak ej]at j0;rw[En.ak ek]at k0;exact h.iZ.apart j k hj hk j0 k0 K8 IN
theorem Nv.JX{f t:N1}{cv blen:Nat}{g:Nat->Bool}{F:N1}(h:Gr.dO (fun i=>Gr.dt f blen g i=true) (Gr.FJ f t cv) F){p:Nat}(hp:p<384)(h0:0<=F p):Gr.aS (f p)=true:=by
 by_cases e:F p=0
 ·exact((h.zero p hp).1 e).1
 ·have ho:=(h.back p hp (by omega)).1;by_cases hw:Gr.aS (f p)=true
  ·exact hw
  ·rw[Bool.not_eq_true]at hw;rw[Gr.Fq hw]at ho;cases ho
theorem Nv.iy.all{cs:N1}(hf:Nv.iy cs){H:N1}{b:Nat}(hb:b<384)(SF:cs b≠0)(h:Gr.dO (fun i=>Gr.dt cs 0 (fun _=>false) i=true) (Gr.FJ cs (fun _=>(b:Int)) 1) H)(i:Nat)(hi:i<384)(VD:cs i≠0):0<=H i:=by
 have hw:∀j,cs j≠0->Gr.aS (cs j)=true:=fun j hj=>(Gn.kT (hf.ku j)).2 hj;refine hf.Z1 (fun j=>0<=H j) ?_ b hb SF ?_ i hi VD
 ·intro j e hj he hP hn hc;exact(h.TK j hj hP e he hn (by show Gr.dt cs 0 (fun _=>false) _=true;exact Gr.sZ (hw _ hc) (by omega))).1
 ·have:H b=0:=(h.zero b hb).2 ⟨hw b SF,0,by omega,rfl⟩;show 0<=H b;omega
theorem Md.Nm{c:N1}{E:N2}(hS:Ft.Nb c E){k:Nat}(hk:k<32)(k0:E k 0≠0):Gr.aS (Gr.at 384 c (E k 3) (E k 4))=true:=by
 obtain⟨a1,a2,a3,a4,a5⟩:=hS.on k hk k0;unfold Gr.at;rw[abP ⟨(Gr.bz _ _).2 (by omega),by omega⟩];exact a5
theorem Md.QJ{c:N1}{E I:N2}(hF:Ft.mH c E I)(hS:Ft.Sf c E):Md.oF E:=fun k hk k0=>by
 obtain⟨a,b,d,e,_⟩:=hS.iZ.on k hk k0
 have ht:=(hF.ix k hk).ia k0
 exact⟨a,b,d,e,by omega,by omega⟩
theorem Md.NJ{c:N1}{E I:N2}(hF:Ft.mH c E I)(hS:Ft.Sf c E):Md.mJ c E I :=
 Md.QM (Md.QJ hF hS) (fun k hk=>⟨⟨(hF.ix k hk).1,(hF.ix k hk).2.1⟩,fun k0=>by
  rcases(hF.ix k hk).2.2 with hz|ht
  ·exact⟨hz 3 (by omega) (by omega),hz 4 (by omega) (by omega)⟩
  ·omega⟩) hF.ok
variable{E F I:N2}{c:N1}{k:Nat}
def Cr.dU(E F:N2):Prop:=∀k,k<32->F k 0=0\/(F k 0=E k 0/\F k 2=E k 2/\F k 3=E k 3/\F k 4=E k 4/\F k 6=E k 6/\F k 7=E k 7/\F k 8=E k 8)
theorem Cr.dU.refl(E:N2):Cr.dU E E:=fun _ _=>.inr ⟨rfl,rfl,rfl,rfl,rfl,rfl,rfl⟩
theorem Cr.dU.trans{G:N2}(h:Cr.dU E F)(h':Cr.dU F G):Cr.dU E G:=fun k hk=>by
 rcases h' k hk with h0|⟨g0,g2,g3,g4,g6,g7,g8⟩
 ·exact .inl h0
 ·rcases h k hk with f0|⟨f0,f2,f3,f4,f6,f7,f8⟩
  ·exact .inl (g0.trans f0)
  ·exact .inr ⟨g0.trans f0,g2.trans f2,g3.trans f3,g4.trans f4,g6.trans f6,g7.trans f7,g8.trans f8⟩
theorem Cr.dU.mP(E:N2)(k:Nat)(n:Int):Cr.dU E (En.put E k (En.mP n)):=fun i hi=>by
 by_cases e:i=k
 ·rw[e,En.aB]
  exact .inl rfl
 ·rw[En.ak e]
  exact Cr.dU.refl E i hi
theorem Cr.dU.set(E:N2)(k j:Nat)(v:Int)(hj:j=5\/j=9\/j=10):Cr.dU E (Gd.set E k j v):=fun i _=>by
 have h:∀l,l≠5->l≠9->l≠10->Gd.set E k j v i l=E i l:=fun l h5 h9 sH=>abO (by omega)
 exact .inr ⟨h 0 (by omega) (by omega) (by omega),h 2 (by omega) (by omega) (by omega),h 3 (by omega) (by omega) (by omega),h 4 (by omega) (by omega) (by omega),h 6 (by omega) (by omega) (by omega),h 7 (by omega) (by omega) (by omega),h 8 (by omega) (by omega) (by omega)⟩
theorem Cr.dU.G5(E:N2)(k:Nat)(n:Int):Cr.dU E (Ft.cW E k n):=by
 unfold Ft.cW;split
 ·exact Cr.dU.set E k 5 _ (.inl rfl)
 ·exact Cr.dU.mP E k _
theorem Cr.dU.OO(s:N1)(E:N2)(f t:Nat):Cr.dU E (Ft.fj s E f t):=by
 unfold Ft.fj;split
 ·exact Cr.dU.set E t 9 _ (.inr (.inl rfl))
 ·split
  ·exact Cr.dU.set E t 10 _ (.inr (.inr rfl))
  ·exact Cr.dU.refl E
theorem Cr.dU.IK(s:N1)(E I:N2)(f t:Int):Cr.dU E (Ft.lM s E I f t):=by
 unfold Ft.lM;split
 ·unfold Ft.kH;split
  ·exact(Cr.dU.G5 E _ _).trans (Cr.dU.OO s _ _ _)
  ·exact Cr.dU.G5 E _ _
 ·exact Cr.dU.refl E
theorem Cr.dU.bo(E:N2)(k:Nat):Cr.dU E (Ft.np E k):=by
 have aK:Cr.dU E (Ft.bT E k):=by
  unfold Ft.bT;split
  ·exact Cr.dU.set E k 10 _ (.inr (.inr rfl))
  ·exact Cr.dU.refl E
 unfold Ft.np;split
 ·exact(aK.trans (Cr.dU.set _ k 9 _ (.inr (.inl rfl)))).trans (Cr.dU.G5 _ _ _)
 ·exact aK
theorem Cr.dU.IT(E I:N2):∀n,Cr.dU E (Ft.ailE E I n).1
 | 0=>Cr.dU.refl E
 | n+1=>by
  unfold Ft.ailE
  split
  ·exact(Cr.dU.IT E I n).trans (Cr.dU.bo _ _)
  ·exact Cr.dU.IT E I n
theorem Cr.dU.next(E I:N2)(ag input:Int):Cr.dU E (Gd.eH E I ag input):=by
 unfold Gd.eH;split
 ·unfold Gd.eQ;split
  ·exact(Cr.dU.set E _ 5 _ (.inl rfl)).trans (Cr.dU.set _ _ 9 _ (.inr (.inl rfl)))
  ·exact Cr.dU.refl E
 ·exact Cr.dU.refl E
structure Cr.xD(E:N2):Prop where
 ag:∀k,k<32->E k 0=1->0<=E k 2/\E k 2<4
 bo:∀j k,j<32->k<32->E j 0=1->E k 0=1->E j 2=E k 2->j=k
 none:∀k,k<32->E k 0≠0->E k 0≠1->E k 2=0
structure Cr.bs(c:N1)(E I:N2):Prop where
 ly:Ft.mH c E I
 set:Ft.Sf c E
 jR:Cr.xD E
theorem Cr.dU.jR(h:Cr.dU E F)(hs:Cr.xD E):Cr.xD F:=by
 refine⟨fun k hk k1=>?_,fun j k hj hk j1 k1 he=>?_,fun k hk k0 k1=>?_⟩
 ·rcases h k hk with h0|⟨f0,f2,_⟩
  ·omega
  ·rw[f2];exact hs.ag k hk (by omega)
 ·rcases h j hj with h0|⟨f0,f2,_⟩
  ·omega
  ·rcases h k hk with Gz|⟨g0,g2,_⟩
   ·omega
   ·exact hs.bo j k hj hk (by omega) (by omega) (by omega)
 ·rcases h k hk with h0|⟨f0,f2,_⟩
  ·omega
  ·rw[f2];exact hs.none k hk (by omega) (by omega)
theorem Cr.dU.Pw(h:Cr.dU E F)(hs:Ft.Sf c E):Ft.Sf c F:=by
 refine⟨fun k hk k0=>?_,⟨fun k hk k0=>?_,fun j k hj hk j0 k0 hx hy=>?_⟩⟩
 ·rcases h k hk with h0|⟨f0,_,_,_,f6,f7,f8⟩
  ·exact absurd h0 k0
  ·rw[f0,f6,f7,f8];exact hs.wZ k hk (by omega)
 ·rcases h k hk with h0|⟨f0,_,f3,f4,_⟩
  ·exact absurd h0 k0
  ·rw[f3,f4];exact hs.iZ.on k hk (by omega)
 ·rcases h j hj with h0|⟨f0,_,f3,f4,_⟩
  ·exact absurd h0 j0
  ·rcases h k hk with Gz|⟨g0,_,g3,g4,_⟩
   ·exact absurd Gz k0
   ·exact hs.iZ.apart j k hj hk (by omega) (by omega) (by omega) (by omega)
theorem Cr.bs.U6{J:N2}(h:Cr.bs c E I)(hl:Cr.dU E F)(hF:Ft.mH c F J):Cr.bs c F J :=
 ⟨hF,hl.Pw h.set,hl.jR h.jR⟩
theorem Cr.bs.IK(h:Cr.bs c E I)(s:N1)(f t:Int):Cr.bs c (Ft.lM s E I f t) (Ft.mO s E I f t) :=
 h.U6 (Cr.dU.IK s E I f t) (h.ly.IK s f t)
theorem Cr.bs.kz(h:Cr.bs c E I):Md.mJ c E I:=Md.NJ h.ly h.set
def Cr.uG(g:N1):Prop:=∀t,t<4->0<=g t/\g t<=999
theorem Cr.bs.tV{g:N1}(h:Cr.bs c E I)(hg:Cr.uG g):Gd.oF c g E I :=
 ⟨h.ly.cells,hg,fun k hk=>by
  rcases(h.ly.ix k hk).2.2 with hz|ht
  ·rw[hz 5 (by omega) (by omega)];omega
  ·omega,h.ly.ok⟩
def Cr.go(E:N2)(k:Nat)(x y:Int):Nat->Nat->Int:=Gd.set (Gd.set E k 3 x) k 4 y
theorem Cr.gq(E:N2){i:Nat}(x y:Int)(h:i≠k):Cr.go E k x y i=E i:=by
 unfold Cr.go;rw[Ft.kS _ _ _ _ _ h,Ft.kS _ _ _ _ _ h]
theorem Cr.KE(E:N2)(k:Nat)(x y:Int)(j:Nat):Cr.go E k x y k j=if j=4 then y else if j=3 then x else E k j:=by
 unfold Cr.go Gd.set;by_cases h4:j=4
 ·rw[abP ⟨rfl,h4⟩,abP h4]
 ·rw[abO (fun h=>h4 h.2),abO h4];by_cases h3:j=3
  ·rw[abP ⟨rfl,h3⟩,abP h3]
  ·rw[abO (fun h=>h3 h.2),abO h3]
theorem Cr.bs.go(h:Cr.bs c E I)(hk:k<32)(k0:E k 0≠0){x y:Int}(cU:Gr.iS x y=true)(hw:Gr.aS (Gr.at 384 c x y)=true)(hno:En.first (En.eM E x y) 32<0):Cr.bs c (Cr.go E k x y) I:=by
 have hb:=(Gr.bz _ _).1 cU;have aT:=Ft.tb hno;have e:∀j,j≠3->j≠4->Cr.go E k x y k j=E k j:=fun j h3 h4=>by rw[Cr.KE,abO h4,abO h3]
 have e3:Cr.go E k x y k 3=x:=by rw[Cr.KE,abO (by omega),abP rfl]
 have e4:Cr.go E k x y k 4=y:=by rw[Cr.KE,abP rfl]
 have XN:Gr.aS (c (y*24+x).toNat)=true:=by
  unfold Gr.at at hw
  rwa [abP ⟨cU,by omega⟩]at hw
 refine⟨⟨h.ly.cells,h.ly.ok,fun i hi=>?_⟩,⟨fun i hi i0=>?_,⟨fun i hi i0=>?_,fun i j hi hj i0 j0 hx hy=>?_⟩⟩,⟨fun i hi i1=>?_,fun i j hi hj i1 j1 he=>?_,fun i hi i0 i1=>?_⟩⟩
 ·by_cases x':i=k
  ·rw[x'];have ht:=(h.ly.ix k hk).ia k0;refine⟨by rw[e 1 (by omega) (by omega)];exact(h.ly.ix k hk).1,by rw[e 1 (by omega) (by omega)];exact(h.ly.ix k hk).2.1,.inr ?_⟩;rw[e 0 (by omega) (by omega),e 5 (by omega) (by omega),e 6 (by omega) (by omega),e 7 (by omega) (by omega),e 8 (by omega) (by omega),e 9 (by omega) (by omega),e 10 (by omega) (by omega)];exact ht
  ·rw[Cr.gq E x y x'];exact h.ly.ix i hi
 ·by_cases x':i=k
  ·rw[x',e 0 (by omega) (by omega),e 6 (by omega) (by omega),e 7 (by omega) (by omega),e 8 (by omega) (by omega)];exact h.set.wZ k hk k0
  ·rw[Cr.gq E x y x']at i0|-;exact h.set.wZ i hi i0
 ·by_cases x':i=k
  ·rw[x',e3,e4];exact⟨hb.1,hb.2.1,hb.2.2.1,hb.2.2.2,XN⟩
  ·rw[Cr.gq E x y x']at i0|-;exact h.set.iZ.on i hi i0
 ·by_cases xi:i=k
  ·by_cases xj:j=k
   ·omega
   ·subst xi;rw[e3,Cr.gq E x y xj]at hx;rw[e4,Cr.gq E x y xj]at hy;rw[Cr.gq E x y xj]at j0;exact absurd ⟨hx.symm,hy.symm⟩ (aT j hj j0)
  ·by_cases xj:j=k
   ·subst xj;rw[e3,Cr.gq E x y xi]at hx;rw[e4,Cr.gq E x y xi]at hy;rw[Cr.gq E x y xi]at i0;exact absurd ⟨hx,hy⟩ (aT i hi i0)
   ·rw[Cr.gq E x y xi]at i0 hx hy;rw[Cr.gq E x y xj]at j0 hx hy;exact h.set.iZ.apart i j hi hj i0 j0 hx hy
 ·by_cases x':i=k
  ·rw[x',e 0 (by omega) (by omega)]at i1;rw[x',e 2 (by omega) (by omega)];exact h.jR.ag k hk i1
  ·rw[Cr.gq E x y x']at i1|-;exact h.jR.ag i hi i1
 ·have f0:∀i,Cr.go E k x y i 0=E i 0:=fun i=>by
   by_cases x':i=k
   ·rw[x',e 0 (by omega) (by omega)]
   ·rw[Cr.gq E x y x']
  have f2:∀i,Cr.go E k x y i 2=E i 2:=fun i=>by
   by_cases x':i=k
   ·rw[x',e 2 (by omega) (by omega)]
   ·rw[Cr.gq E x y x']
  rw[f0]at i1 j1;rw[f2,f2]at he;exact h.jR.bo i j hi hj i1 j1 he
 ·by_cases x':i=k
  ·rw[x',e 0 (by omega) (by omega)]at i0 i1;rw[x',e 2 (by omega) (by omega)];exact h.jR.none k hk i0 i1
  ·rw[Cr.gq E x y x']at i0 i1|-;exact h.jR.none i hi i0 i1
def Cr.oB(E:N2)(k:Nat)(d:Int):Int:=En.first (En.eM E (E k 3+(Fx.bh d).1) (E k 4+(Fx.bh d).2)) 32
def Cr.dQ(s c:N1)(E I:N2)(k:Nat)(d:Int)(lz:Bool):(Nat->Nat->Int) × (Nat->Nat->Int) :=
 if d<1\/4<d then(E,I)
 else if 0<=Cr.oB E k d then(if decide (E (Cr.oB E k d).toNat 0=1)=lz then(Ft.lM s E I (k:Int) (Cr.oB E k d),Ft.mO s E I (k:Int) (Cr.oB E k d))else(E,I))
 else if Gr.aS (Gr.at 384 c (E k 3+(Fx.bh d).1) (E k 4+(Fx.bh d).2))=true then(Cr.go E k (E k 3+(Fx.bh d).1) (E k 4+(Fx.bh d).2),I)else(E,I)
theorem Cr.R8{x y:Int}(h:Gr.aS (Gr.at 384 c x y)=true):Gr.iS x y=true:=by
 by_cases hi:Gr.iS x y=true
 ·exact hi
 ·unfold Gr.at at h;rw[abO (fun hh=>hi hh.1)]at h;cases h
theorem Cr.bs.dQ{s:N1}(h:Cr.bs c E I)(hk:k<32)(k0:E k 0≠0)(d:Int)(lz:Bool):Cr.bs c (Cr.dQ s c E I k d lz).1 (Cr.dQ s c E I k d lz).2:=by
 unfold Cr.dQ;split
 ·exact h
 ·split
  ·split
   ·exact h.IK s _ _
   ·exact h
  ·split
   ·rename_i _ hn hw;exact h.go hk k0 (Cr.R8 hw) hw (by unfold Cr.oB at hn;omega)
   ·exact h
def Cr.dX(E:N2)(e:N1):Nat->Nat->Int:=if 0<=En.first (En.gS E) 32 then En.put E (En.first (En.gS E) 32).toNat (En.nN e ((E (En.first (En.gS E) 32).toNat 1+1)%256))else E
def Cr.bo(kd st:Int)(q:Nat):Nat->Int:=En.dj (En.dj (En.dj (En.stats kd) 2 st) 3 ((q:Int)%24)) 4 ((q:Int)/24)
theorem Cr.nV(E:N2)(e:N1):Cr.dX E e=E\/∃f:Nat,f<32/\E f 0=0/\(∀j,j<f->E j 0≠0)/\Cr.dX E e=En.put E f (En.nN e ((E f 1+1)%256)):=by
 unfold Cr.dX;rcases En.aw (En.gS E) 32 with⟨he,_⟩|⟨f,hf,he,hq,hno⟩
 ·rw[he,abO (by omega)];exact .inl rfl
 ·rw[he,abP (by omega),abG];exact .inr ⟨f,hf,by simpa [En.gS] using hq,fun j hj=>by simpa [En.gS] using hno j hj,rfl⟩
theorem Md.uA(c:N1):Gd.Ok c 40 (fun _ _=>0):=⟨fun _ _=>.inl ⟨rfl,rfl,rfl,rfl⟩,fun _ _ _ _ _ h=>absurd rfl h⟩
theorem Md.PN{d:Nat}(h1:1<=d)(h4:d<=4)(x y:Int):¬(x+(Fx.bh (d:Int)).1=x/\y+(Fx.bh (d:Int)).2=y):=by
 rcases(show d=1\/d=2\/d=3\/d=4 by omega)with rfl|rfl|rfl|rfl
 ·show¬(x+0=x/\y+(-1)=y);omega
 ·show¬(x+1=x/\y+0=y);omega
 ·show¬(x+0=x/\y+1=y);omega
 ·show¬(x+(-1)=x/\y+0=y);omega
theorem Md.Hx{m:Nat}(h:m<384):Nv.bw ((m:Int)%24) ((m:Int)/24)=(m:Int):=by
 unfold Nv.bw;rw[abP ((Gr.bz _ _).2 (by omega))];omega
theorem Md.Pv(E:N2)(k j:Nat)(v:Int):Gd.set E k j v k j=v:=abP ⟨rfl,rfl⟩
theorem Md.wo(E:N2)(k j:Nat)(v:Int){i l:Nat}(h:¬(i=k/\l=j)):Gd.set E k j v i l=E i l:=abO h
variable{E F I:N2}{c s:N1}{q:Nat}{t:Int}
theorem Cr.mB{kd st:Int}{gn:Int}(h1:1<=kd)(h4:kd<=4)(g0:0<=gn)(g9:gn<=255):Ft.qf (En.nN (Cr.bo kd st q) gn):=by
 have e:∀j,j≠1->j≠2->j≠3->j≠4->En.nN (Cr.bo kd st q) gn j=En.stats kd j:=fun j j1 j2 j3 j4=>by
  show(if j=1 then gn else Cr.bo kd st q j)=_;rw[abO j1];unfold Cr.bo;rw[En.bq j4,En.bq j3,En.bq j2]
 refine⟨g0,g9,.inr ?_⟩;rw[e 0 (by omega) (by omega) (by omega) (by omega),e 5 (by omega) (by omega) (by omega) (by omega),e 6 (by omega) (by omega) (by omega) (by omega),e 7 (by omega) (by omega) (by omega) (by omega),e 8 (by omega) (by omega) (by omega) (by omega),e 9 (by omega) (by omega) (by omega) (by omega),e 10 (by omega) (by omega) (by omega) (by omega)];rcases(show kd=1\/kd=2\/kd=3\/kd=4 by omega)with rfl|rfl|rfl|rfl <;> decide
theorem Cr.eS(kd st:Int)(q:Nat):(1<=kd->kd<=4->Cr.bo kd st q 0=kd)/\Cr.bo kd st q 2=st/\Cr.bo kd st q 3=(q:Int)%24/\Cr.bo kd st q 4=(q:Int)/24/\Cr.bo kd st q 6=En.stats kd 6/\Cr.bo kd st q 7=En.stats kd 7/\Cr.bo kd st q 8=En.stats kd 8:=by
 unfold Cr.bo;refine⟨fun h1 h4=>?_,?_,?_,?_,?_,?_,?_⟩
 ·rw[En.bq (by omega),En.bq (by omega),En.bq (by omega)];rcases(show kd=1\/kd=2\/kd=3\/kd=4 by omega)with rfl|rfl|rfl|rfl <;> decide
 ·rw[En.bq (by omega),En.bq (by omega),En.l6]
 ·rw[En.bq (by omega),En.l6]
 ·rw[En.l6]
 ·rw[En.bq (by omega),En.bq (by omega),En.bq (by omega)]
 ·rw[En.bq (by omega),En.bq (by omega),En.bq (by omega)]
 ·rw[En.bq (by omega),En.bq (by omega),En.bq (by omega)]
theorem Cr.bs.dX(h:Cr.bs c E I){kd st:Int}(h1:1<=kd)(h4:kd<=4)(hq:q<384)(hr:Ft.Qm c E q)(hs:(kd=1/\0<=st/\st<4/\Gd.aV E st<0)\/(kd≠1/\st=0)):Cr.bs c (Cr.dX E (Cr.bo kd st q)) I:=by
 obtain⟨o0,o2,o3,o4,o6,o7,o8⟩:=Cr.eS kd st q;rcases Cr.nV E (Cr.bo kd st q)with he|⟨f,hf,Ul,_,he⟩
 ·rw[he];exact h
 rw[he];have hg:0<=(E f 1+1)%256/\(E f 1+1)%256<=255:=by omega
 generalize (E f 1+1)%256=gn at hg;have k0:En.nN (Cr.bo kd st q) gn 0=kd:=o0 h1 h4;have k2:En.nN (Cr.bo kd st q) gn 2=st:=o2;have aaq:=h.set.put (e:=Cr.bo kd st q) (gn:=gn) Ul hq hr o3 o4 (by rw[o0 h1 h4];exact⟨o6,o7,o8⟩);have O7:∀j,j<32->E j 0=1->kd=1->E j 2≠st:=fun j hj j1 hk e=>by
  rcases hs with⟨_,_,_,hno⟩|⟨hn,_⟩
  ·unfold Gd.aV at hno;rcases En.aw (En.dg E st) 32 with⟨_,hn⟩|⟨i,_,hi,_⟩
   ·have:=hn j hj;simp[En.dg,j1,e]at this
   ·omega
  ·exact hn hk
 refine⟨h.ly.put (Cr.mB h1 h4 hg.1 hg.2),aaq,⟨fun j hj j1=>?_,fun i j hi hj i1 j1 rH=>?_,fun j hj j0 j1=>?_⟩⟩
 ·by_cases x:j=f
  ·rw[x,En.aB,k0]at j1;rw[x,En.aB,k2];rcases hs with⟨_,a,b,_⟩|⟨hn,_⟩
   ·exact⟨a,b⟩
   ·exact absurd j1 hn
  ·rw[En.ak x]at j1|-;exact h.jR.ag j hj j1
 ·by_cases xi:i=f
  ·by_cases xj:j=f
   ·omega
   ·rw[xi,En.aB,k0]at i1;rw[xi,En.aB,k2,En.ak xj]at rH;rw[En.ak xj]at j1;exact absurd rH.symm (O7 j hj j1 i1)
  ·by_cases xj:j=f
   ·rw[xj,En.aB,k0]at j1;rw[xj,En.aB,k2,En.ak xi]at rH;rw[En.ak xi]at i1;exact absurd rH (O7 i hi i1 j1)
   ·rw[En.ak xi]at i1 rH;rw[En.ak xj]at j1 rH;exact h.jR.bo i j hi hj i1 j1 rH
 ·by_cases x:j=f
  ·rw[x,En.aB,k0]at j1;rw[x,En.aB,k2];rcases hs with⟨hk,_⟩|⟨_,aK⟩
   ·exact absurd hk j1
   ·exact aK
  ·rw[En.ak x]at j0 j1|-;exact h.jR.none j hj j0 j1
theorem Cr.nw{x y:Int}(h:Nv.dR c E 32 x y (q:Int)):q<384/\Ft.Qm c E q:=by
 obtain⟨F,hF,hq⟩:=h;have key:∀n,Nv.best F (Nv.st E 32) n=-1\/∃p:Nat,p<n/\Nv.best F (Nv.st E 32) n=(p:Int)/\0<=F p/\Nv.st E 32 p=false:=by
  intro n
  induction n with
  | zero=>exact .inl rfl
  | succ n ih =>
   unfold Nv.best;split
   ·rename_i hc;exact .inr ⟨n,by omega,rfl,hc.1,hc.2.1⟩
   ·rcases ih with h0|⟨p,hp,he,h1,h2⟩
    ·exact .inl h0
    ·exact .inr ⟨p,by omega,he,h1,h2⟩
 rcases key 384 with h0|⟨p,hp,he,h1,h2⟩
 ·omega
 ·obtain rfl:q=p:=by omega
  refine⟨hp,Nv.JX hF hp h1,?_⟩;unfold Nv.st at h2;simp only[decide_eq_false_iff_not]at h2;have e1:((q%24:Nat):Int)=(q:Int)%24:=by omega
  have e2:((q/24:Nat):Int)=(q:Int)/24:=by omega
  rw[e1,e2]at h2;omega
def Cr.gD(c:N1)(t:Int)(sp:Bool)(E F:N2):Prop :=
 if sp=true/\Gd.aV E t<0 then∃v,Nv.dR c E 32 (Gr.an 384 c 3%24) (Gr.an 384 c 3/24) v/\((v<0/\F=E)\/∃q:Nat,v=(q:Int)/\F=Cr.dX E (Cr.bo 1 t q))else F=E
theorem Cr.gD.bo{sp:Bool}{G:N2}(h:Cr.gD c t sp E F)(h':Cr.gD c t sp E G):G=F:=by
 unfold Cr.gD at h h';split at h
 ·rename_i hc;rw[abP hc]at h';obtain⟨v,hv,hF⟩:=h;obtain⟨v',pK,hG⟩:=h';obtain rfl:=hv.bo pK;rcases hF with⟨h0,rfl⟩|⟨q,hq,rfl⟩
  ·rcases hG with⟨_,hG⟩|⟨q',kp,_⟩
   ·exact hG
   ·omega
  ·rcases hG with⟨h0,_⟩|⟨q',kp,hG⟩
   ·omega
   ·obtain rfl:q'=q:=(by omega);exact hG
 ·rename_i hc;rw[abO hc]at h';rw[h,h']
theorem Cr.bs.Gi{sp:Bool}(h:Cr.bs c E I)(t0:0<=t)(t4:t<4)(hc:Cr.gD c t sp E F):Cr.bs c F I:=by
 unfold Cr.gD at hc;split at hc
 ·rename_i WQ;obtain⟨v,hv,⟨_,rfl⟩|⟨q,rfl,rfl⟩⟩:=hc
  ·exact h
  ·obtain⟨hq,hr⟩:=Cr.nw hv;exact h.dX (by omega) (by omega) hq hr (.inl ⟨rfl,t0,t4,WQ.2⟩)
 ·rw[hc];exact h
def Cr.cQ(c:N1)(sp:Nat->Bool):Nat->(Nat->Nat->Int)->(Nat->Nat->Int)->Prop
 | 0,E,F=>F=E
 | t+1,E,F=>∃G,Cr.cQ c sp t E G/\Cr.gD c (t:Int) (sp t) G F
theorem Cr.cQ.bo{c:N1}{sp:Nat->Bool}:∀{t:Nat} {E F G:N2},Cr.cQ c sp t E F->Cr.cQ c sp t E G->G=F
 | 0,_,_,_,h,h'=>by rw[h,h']
 | t+1,_,_,_,h,h'=>by
  obtain⟨A,hA,hF⟩:=h
  obtain⟨B,hB,hG⟩:=h'
  obtain rfl:=Cr.cQ.bo hA hB
  exact hF.bo hG
theorem Cr.bs.ml{c:N1}{sp:Nat->Bool}{I:N2}:∀{t:Nat} {E F:N2},Cr.bs c E I->t<=4->Cr.cQ c sp t E F->Cr.bs c F I
 | 0,_,_,h,_,hc=>by rw[hc];exact h
 | t+1,_,_,h,ht,hc=>by
  obtain⟨G,hG,hF⟩:=hc
  exact(Cr.bs.ml h (by omega) hG).Gi (by omega) (by omega) hF
structure Cr.M where
 g:Nat->Int
 E:Nat->Nat->Int
 I:Nat->Nat->Int
 left:Bool
def Cr.eU(s c:N1)(m:Cr.M)(t:Int)(k:Nat)(v:Int):Cr.M :=
 if 1<=v/\v<=4 then⟨m.g,(Cr.dQ s c m.E m.I k v false).1,(Cr.dQ s c m.E m.I k v false).2,m.left⟩
 else if v=9 then⟨m.g,m.E,m.I,m.left||decide (Gr.at 384 c (m.E k 3) (m.E k 4)=4)⟩
 else⟨Gd.bW c m.g m.E m.I t v,Gd.eH m.E m.I t v,Gd.eJ c m.g m.E m.I t v,m.left⟩
def Cr.gG(s c:N1)(t how input:Int)(m n:Cr.M):Prop :=
 if Gd.aV m.E t<0\/0<m.E (Gd.aV m.E t).toNat 10\/(how≠1/\how≠2)then n=m
 else∃v,(if how=2 then Md.cB c m.E m.I t v else v=input)/\n=Cr.eU s c m t (Gd.aV m.E t).toNat v
theorem Cr.gG.bo{how input:Int}{m n o:Cr.M}(h:Cr.gG s c t how input m n)(h':Cr.gG s c t how input m o):o=n:=by
 unfold Cr.gG at h h';split at h
 ·rename_i hc;rw[abP hc]at h';rw[h,h']
 ·rename_i hc;rw[abO hc]at h';obtain⟨v,hv,rfl⟩:=h;obtain⟨v',pK,rfl⟩:=h';by_cases h2:how=2
  ·rw[abP h2]at hv pK;rw[hv.bo pK]
  ·rw[abO h2]at hv pK;rw[hv,pK]
def Cr.lj(c:N1)(m:Cr.M):Prop:=Cr.bs c m.E m.I/\Cr.uG m.g
theorem Cr.LH{X Y G v:Int}{jK:Bool}(h0:0<=G)(h9:G<=999):0<=Gd.dN I t X Y jK G v/\Gd.dN I t X Y jK G v<=999:=by
 unfold Gd.dN;split
 ·split <;> omega
 ·split
  ·split
   ·rename_i hb;unfold Gd.ze at hb;simp only[Bool.and_eq_true,decide_eq_true_eq]at hb;omega
   ·omega
  ·omega
theorem Cr.lj.next{m:Cr.M}(h:Cr.lj c m)(t v:Int):Cr.bs c (Gd.eH m.E m.I t v) (Gd.eJ c m.g m.E m.I t v)/\Cr.uG (Gd.bW c m.g m.E m.I t v):=by
 obtain⟨hs,hg⟩:=h;by_cases hc:0<=t/\t<4/\0<=Gd.aV m.E t
 ·obtain⟨k,hk,he,IL,gv⟩:=Gd.gV hc.2.2;obtain⟨a1,a2,a3,a4,a5⟩:=hs.set.iZ.on k hk (by omega);have cU:Gr.iS (m.E k 3) (m.E k 4)=true:=(Gr.bz _ _).2 ⟨a1,a2,a3,a4⟩;have hw:=Md.Nm hs.set.iZ hk (by omega);have hI:Gd.eJ c m.g m.E m.I t v=Gd.dQ m.I 40 t (m.E k 3) (m.E k 4) (decide (Gr.at 384 c (m.E k 3) (m.E k 4)=5)) (m.g t.toNat) v:=by
   unfold Gd.eJ;rw[abP hc,he,abG]
  have P6:Gd.Ok c 40 (Gd.eJ c m.g m.E m.I t v):=by
   rw[hI];exact hs.ly.ok.dQ hc.1 hc.2.1 cU hw _ _ _
  have kQ:Ft.mH c (Gd.eH m.E m.I t v) (Gd.eJ c m.g m.E m.I t v):=by
   refine⟨hs.ly.cells,P6,fun i hi=>?_⟩;unfold Gd.eH;rw[abP hc,he,abG];unfold Gd.eQ;split
   ·have ht:=(hs.ly.ix k hk).ia (by omega);by_cases x:i=k
    ·rw[x];have e:∀j,j≠5->j≠9->Gd.oT m.E k k j=m.E k j:=fun j h5 h9=>by
      unfold Gd.oT;rw[Md.wo _ _ _ _ (by omega),Md.wo _ _ _ _ (by omega)]
     have e5:Gd.oT m.E k k 5=min (m.E k 5+6) (m.E k 6):=by
      unfold Gd.oT;rw[Md.wo _ _ _ _ (by omega),Md.Pv]
     have e9:Gd.oT m.E k k 9=0:=by
      unfold Gd.oT;rw[Md.Pv]
     refine⟨by rw[e 1 (by omega) (by omega)];exact(hs.ly.ix k hk).1,by rw[e 1 (by omega) (by omega)];exact(hs.ly.ix k hk).2.1,.inr ?_⟩;rw[e 0 (by omega) (by omega),e5,e 6 (by omega) (by omega),e 7 (by omega) (by omega),e 8 (by omega) (by omega),e9,e 10 (by omega) (by omega)];omega
    ·have:Gd.oT m.E k i=m.E i:=by
      unfold Gd.oT;rw[Ft.kS _ _ _ _ _ x,Ft.kS _ _ _ _ _ x]
     rw[this];exact hs.ly.ix i hi
   ·exact hs.ly.ix i hi
  refine⟨hs.U6 (Cr.dU.next _ _ _ _) kQ,fun i hi=>?_⟩;unfold Gd.bW;rw[abP hc];unfold Gd.jw;split
  ·exact Cr.LH (hg _ (by omega)).1 (hg _ (by omega)).2
  ·exact hg i hi
 ·unfold Gd.eH Gd.eJ Gd.bW;rw[abO hc,abO hc,abO hc];exact⟨hs,hg⟩
theorem Cr.lj.eU{m:Cr.M}(h:Cr.lj c m)(t:Int){k:Nat}(hk:k<32)(k0:m.E k 0≠0)(v:Int):Cr.lj c (Cr.eU s c m t k v):=by
 unfold Cr.eU;split
 ·exact⟨h.1.dQ hk k0 v false,h.2⟩
 ·split
  ·exact⟨h.1,h.2⟩
  ·exact h.next t v
theorem Cr.lj.XZ{how input:Int}{m n:Cr.M}(h:Cr.lj c m)(hm:Cr.gG s c t how input m n):Cr.lj c n:=by
 unfold Cr.gG at hm;split at hm
 ·rw[hm];exact h
 ·rename_i hc;obtain⟨v,_,rfl⟩:=hm;obtain⟨k,hk,he,k1,_⟩:=Md.lL (E:=m.E) (ag:=t) (by omega);rw[he,abG];exact h.eU t hk (by omega) v
def Cr.br(s c how input:N1):Nat->Cr.M->Cr.M->Prop
 | 0,m,n=>n=m
 | t+1,m,n=>∃o,Cr.br s c how input t m o/\Cr.gG s c (t:Int) (how t) (input t) o n
theorem Cr.br.bo{s c how input:N1}:∀{t:Nat} {m n o:Cr.M},Cr.br s c how input t m n->Cr.br s c how input t m o->o=n
 | 0,_,_,_,h,h'=>by rw[h,h']
 | t+1,_,_,_,h,h'=>by
  obtain⟨A,hA,hF⟩:=h
  obtain⟨B,hB,hG⟩:=h'
  obtain rfl:=Cr.br.bo hA hB
  exact hF.bo hG
theorem Cr.lj.nW{s c how input:N1}:∀{t:Nat} {m n:Cr.M},Cr.lj c m->Cr.br s c how input t m n->Cr.lj c n
 | 0,_,_,h,hm=>by rw[hm];exact h
 | t+1,_,_,h,hm=>by
  obtain⟨o,ho,hn⟩:=hm
  exact(Cr.lj.nW h ho).XZ hn
def Cr.fu(s c:N1)(i:Nat)(E I F J:N2):Prop :=
 if E i 0=0\/E i 0=1\/0<E i 10 then F=E/\J=I
 else∃v,Md.aU s c E (i:Int) v/\F=(Cr.dQ s c E I i v true).1/\J=(Cr.dQ s c E I i v true).2
theorem Cr.fu.bo{i:Nat}{J G K:N2}(h:Cr.fu s c i E I F J)(h':Cr.fu s c i E I G K):G=F/\K=J:=by
 unfold Cr.fu at h h';split at h
 ·rename_i hc;rw[abP hc]at h';rw[h.1,h.2,h'.1,h'.2];exact⟨rfl,rfl⟩
 ·rename_i hc;rw[abO hc]at h';obtain⟨v,hv,rfl,rfl⟩:=h;obtain⟨v',pK,rfl,rfl⟩:=h';rw[hv.bo pK];exact⟨rfl,rfl⟩
theorem Cr.bs.Vd{i:Nat}{J:N2}(h:Cr.bs c E I)(hi:i<32)(hp:Cr.fu s c i E I F J):Cr.bs c F J:=by
 unfold Cr.fu at hp;split at hp
 ·rw[hp.1,hp.2];exact h
 ·rename_i hc;obtain⟨v,_,rfl,rfl⟩:=hp;exact h.dQ hi (by omega) v true
def Cr.cS(s c:N1):Nat->(Nat->Nat->Int)->(Nat->Nat->Int)->(Nat->Nat->Int)->(Nat->Nat->Int)->Prop
 | 0,E,I,F,J=>F=E/\J=I
 | i+1,E,I,F,J=>∃G K,Cr.cS s c i E I G K/\Cr.fu s c i G K F J
theorem Cr.cS.bo{s c:N1}:∀{i:Nat} {E I F J G K:N2},Cr.cS s c i E I F J->Cr.cS s c i E I G K->G=F/\K=J
 | 0,_,_,_,_,_,_,h,h'=>by rw[h.1,h.2,h'.1,h'.2];exact⟨rfl,rfl⟩
 | i+1,_,_,_,_,_,_,h,h'=>by
  obtain⟨A,B,hA,hF⟩:=h
  obtain⟨C,D,hC,hG⟩:=h'
  obtain⟨rfl,rfl⟩:=Cr.cS.bo hA hC
  exact hF.bo hG
theorem Cr.bs.pt{s c:N1}:∀{i:Nat} {E I F J:N2},Cr.bs c E I->i<=32->Cr.cS s c i E I F J->Cr.bs c F J
 | 0,_,_,_,_,h,_,hp=>by rw[hp.1,hp.2];exact h
 | i+1,_,_,_,_,h,hi,hp=>by
  obtain⟨G,K,hG,hF⟩:=hp
  exact(Cr.bs.pt h (by omega) hG).Vd (by omega) hF
def Cr.bn(E:N2):Bool:=decide (∃t:Nat,t<4/\0<=Gd.aV E (t:Int))
def Cr.iw(s c:N1)(E:N2):Nat->Nat->Int :=
 if s 1%16=0/\En.first (En.eM E (Gr.an 384 c 3%24) (Gr.an 384 c 3/24)) 32<0 then Cr.dX E (Cr.bo 2 0 (Gr.an 384 c 3).toNat)else E
theorem Cr.l5(hF:Nv.iy c):∃u:Nat,u<384/\Gr.an 384 c 3=(u:Int)/\c u=3/\∀i,c i=3->i=u:=by
 obtain⟨u,v,hu,_,h3,_⟩:=hF.Vh;refine⟨u,hu,?_,(h3 u).2 rfl,fun i hi=>(h3 i).1 hi⟩;have key:∀n k:Nat,k<=u->u<k+n->Gr.findFrom c 3 n k=(u:Int):=by
  intro n
  induction n with
  | zero=>intro k h1 h2;omega
  | succ n ih =>
   intro k h1 h2;unfold Gr.findFrom;by_cases e:c k=3
   ·rw[abP e,(h3 k).1 e]
   ·rw[abO e];refine ih (k+1) ?_ (by omega);by_cases ek:k=u
    ·exact absurd ((h3 k).2 ek) e
    ·omega
 exact key 384 0 (by omega) (by omega)
theorem Cr.bs.iw(h:Cr.bs c E I)(hF:Nv.iy c):Cr.bs c (Cr.iw s c E) I:=by
 unfold Cr.iw;split
 ·rename_i hc;obtain⟨u,hu,sL,MX,_⟩:=Cr.l5 hF;rw[sL]at hc;rw[sL,abG];exact h.dX (by omega) (by omega) hu ⟨by rw[MX];rfl,hc.2⟩ (.inr ⟨by omega,rfl⟩)
 ·exact h
theorem Cr.bs.IT(h:Cr.bs c E I):Cr.bs c (Ft.ailE E I 32).1 (Ft.ailE E I 32).2 :=
 h.U6 (Cr.dU.IT E I 32) (h.ly.IT 32 (by omega))
namespace Gn
variable{c:N1}{i j n:Nat}{l:List Nat}
theorem yt(h:l.Nodup)(hi:i<l.length)(hj:j<l.length)(e:l[i]=l[j]):i=j:=by
 rcases Nat.lt_trichotomy i j with g|g|g
 ·exact absurd e (List.pairwise_iff_getElem.1 h i j hi hj g)
 ·exact g
 ·exact absurd e.symm (List.pairwise_iff_getElem.1 h j i hj hi g)
theorem LD{x:Nat}(hl:l.Nodup)(hn:n<l.length)(h:x∈l.eraseIdx n):x≠l[n]?.getD 0:=by
 intro e;rw[abQ hn]at e;obtain⟨i,hi,hx⟩:=List.getElem_of_mem h;have hle:(l.eraseIdx n).length=l.length-1:=by rw[List.length_eraseIdx,abP hn]
 rw[List.getElem_eraseIdx]at hx;rw[e]at hx;simp only[Option.getD_some]at hx;split at hx
 ·have:=yt hl _ _ hx;omega
 ·have:=yt hl _ _ hx;omega
theorem Fu{d:aY}(hd:gL d)(a:Int)(hl:l.length≠0):(d a 0 (l.length:Int)).toNat<l.length:=by
 have:=hd a 0 (l.length:Int) (by omega);omega
theorem HO(hn:n<l.length):l[n]?.getD 0∈l:=by
 rw[abQ hn];exact List.getElem_mem hn
theorem Hr{d:aY}(hd:gL d)(f:Int)(h1:1<=f):∀(m k:Nat)(l:List Nat)(p:Int × Nat),p∈mons d f m k l->p.2∈l/\2<=p.1/\p.1<=4
 | 0,_,_,_,h=>by cases h
 | m+1,k,l,p,h=>by
  unfold mons at h
  split at h
  ·cases h
  ·rename_i hl
   have hn:=Fu hd (7+(k:Int)) hl
   rcases List.mem_cons.1 h with rfl|h
   ·refine⟨HO hn,?_⟩
    have hM:1<=(if 3<f+1 then(3:Int)else f+1)/\(if 3<f+1 then(3:Int)else f+1)<=3:=by split <;> omega
    have:=hd (16+(k:Int)) 1 (if 3<f+1 then 3 else f+1) hM.1;show 2<=bD d f k/\bD d f k<=4;unfold bD;omega
   ·have ih:=Hr hd f h1 m (k+1) _ p h;exact⟨List.mem_of_mem_eraseIdx ih.1,ih.2⟩
theorem acb(p:Nat->Bool)(n:Nat):(bi p n).Nodup:=List.Nodup.sublist List.filter_sublist List.nodup_range
theorem yI{p:Nat->Bool}(h:i∈bi p n):i<n/\p i=true:=by
 have:=List.mem_filter.1 h;exact⟨List.mem_range.1 this.1,this.2⟩
theorem Ky{d:aY}(hd:gL d){f:Int}(h1:1<=f){F:N1}{p:Int × Nat}(h:(ai d f c F)[i]?=some p):2<=p.1/\p.1<=4/\p.2<384/\c p.2=1/\4<=F p.2:=by
 have hm:=List.mem_of_getElem? h;obtain⟨h2,h3,h4⟩:=Hr hd f h1 _ _ _ p hm;obtain⟨h5,h6⟩:=List.mem_filter.1 h2;obtain⟨h7,h8⟩:=yI h5;refine⟨h3,h4,h7,by simpa using h8,?_⟩;unfold eB at h6;simp at h6;exact h6
theorem RL{α:Type}{R:α->α->Prop}{l:List α}(h:l.Pairwise R){p q:α}(rH:i<j)(hp:l[i]?=some p)(hq:l[j]?=some q):R p q:=by
 obtain⟨h1,rfl⟩:=List.getElem?_eq_some_iff.1 hp;obtain⟨h2,rfl⟩:=List.getElem?_eq_some_iff.1 hq;exact List.pairwise_iff_getElem.1 h i j h1 h2 rH
theorem zY{d:aY}(hd:gL d):∀(m k:Nat)(l:List Nat)(p:li),p∈lie d m k l->∃(K:Int)(cl:Nat),p=(K,1,(cl:Int)%24,(cl:Int)/24)/\cl∈l/\1<=K/\K<=4
 | 0,_,_,_,h=>by cases h
 | m+1,k,l,p,h=>by
  unfold lie at h
  split at h
  ·cases h
  ·rename_i hl
   have hn:=Fu hd (40+(k:Int)) hl
   rcases List.mem_cons.1 h with rfl|h
   ·have:=hd (40+(k:Int)) 1 4 (by omega)
    exact⟨_,_,rfl,HO hn,by omega,by omega⟩
   ·obtain⟨K,cl,he,hc,hk⟩:=zY hd m (k+1) _ p h
    exact⟨K,cl,he,List.mem_of_mem_eraseIdx hc,hk⟩
theorem yo{d:aY}(hd:gL d):∀(m k:Nat)(l:List Nat),l.Nodup->(lie d m k l).Pairwise (fun p q=>¬(p.2.2.1=q.2.2.1/\p.2.2.2=q.2.2.2))
 | 0,_,_,_=>List.Pairwise.nil
 | m+1,k,l,hl=>by
  unfold lie
  split
  ·exact List.Pairwise.nil
  ·rename_i h0
   have hn:=Fu hd (40+(k:Int)) h0
   refine List.Pairwise.cons (fun q hq=>?_) (yo hd m (k+1) _ (hl.sublist (List.eraseIdx_sublist l _)))
   obtain⟨K,cl,rfl,hc,_⟩:=zY hd m (k+1) _ q hq
   have:=LD hl hn hc
   rintro⟨e1,e2⟩
   simp only at e1 e2
   omega
def o9(d:aY)(c:N1):Nat:=(lie d 4 0 (bi (fun i=>c i==1) 384)).length
theorem yk{d:aY}(hd:gL d){p:li}(hi:i<o9 d c)(h:(aj d c)[i]?=some p):∃(K:Int)(cl:Nat),p=(K,1,(cl:Int)%24,(cl:Int)/24)/\cl<384/\c cl=1/\1<=K/\K<=4:=by
 unfold aj at h;rw[List.getElem?_append_left hi]at h;obtain⟨K,cl,he,hc,hk⟩:=zY hd _ _ _ p (List.mem_of_getElem? h);obtain⟨h7,h8⟩:=yI hc;exact⟨K,cl,he,h7,by simpa using h8,hk⟩
theorem Ha{d:aY}(hd:gL d){p q:li}(rH:i<j)(hj:j<o9 d c)(hp:(aj d c)[i]?=some p)(hq:(aj d c)[j]?=some q):¬(p.2.2.1=q.2.2.1/\p.2.2.2=q.2.2.2):=by
 unfold aj at hp hq;rw[List.getElem?_append_left (by unfold o9 at hj;omega)]at hp;rw[List.getElem?_append_left hj]at hq;exact RL (yo hd 4 0 _ (acb _ _)) rH hp hq
theorem yj(d:aY)(c:N1):(aj d c).length=o9 d c+(if Gr.an 384 c 5<0 then 0 else 3)/\o9 d c<=4:=by
 unfold aj o9;rw[List.length_append];refine⟨?_,uw d 4 0 _⟩;split <;> rfl
theorem qY(es:List (Int × Nat)):∀(i j:Nat)(p:Int × Nat),es[i]?=some p->j<11->(aL es)[i*11+j]?=(eF p)[j]?:=by
 induction es with
 | nil=>intro i j p h;simp at h
 | cons q es ih =>
  intro i j p h hj;have hf:aL (q :: es)=eF q++aL es:=rfl;have hq:(eF q).length=11:=rfl;rw[hf];cases i with
  | zero =>
   simp only[List.getElem?_cons_zero,Option.some.injEq]at h;rw[List.getElem?_append_left (by omega),h]
   congr 1
   omega
  | succ i =>
   rw[List.getElem?_cons_succ]at h;rw[List.getElem?_append_right (by omega),hq,show(i+1)*11+j-11=i*11+j by omega];exact ih i j p h hj
theorem NH(es:List li):∀(i j:Nat)(p:li),es[i]?=some p->j<4->(jc es)[i*4+j]?=(jj p)[j]?:=by
 induction es with
 | nil=>intro i j p h;simp at h
 | cons q es ih =>
  intro i j p h hj;have hf:jc (q :: es)=jj q++jc es:=rfl;have hq:(jj q).length=4:=rfl;rw[hf];cases i with
  | zero =>
   simp only[List.getElem?_cons_zero,Option.some.injEq]at h;rw[List.getElem?_append_left (by omega),h]
   congr 1
   omega
  | succ i =>
   rw[List.getElem?_cons_succ]at h;rw[List.getElem?_append_right (by omega),hq,show(i+1)*4+j-4=i*4+j by omega];exact ih i j p h hj
end Gn
theorem I4{w:World}{b nE cE:Nat}{aE:Option Addr}{es:List (Int × Nat)}(h:w.ownsRow b 54 11 (.slice aE nE cE) nE (Gn.aL es)){i:Nat}{p:Int × Nat}(hp:es[i]?=some p)(hi:i<nE):∃g,aE=some ⟨g,0,none⟩/\g<w.heap.size/\∀j,j<11->w.cell? ⟨g,i*11+j,none⟩=(Gn.eF p)[j]?:=by
 rcases h.2 with⟨h',h0⟩|⟨g,aG,cD,h',_,hg,_⟩
 ·omega
 ·simp only[Value.slice.injEq]at h';obtain⟨rfl,_,rfl⟩:=h';refine⟨g,rfl,lt_of_block hg,fun j hj=>?_⟩;rw[h.cellAt (i*11+j) (by omega)];exact Gn.qY es i j p hp hj
theorem tD{w:World}{b nE cE:Nat}{aE:Option Addr}{es:List Gn.li}(h:w.ownsRow b 62 4 (.slice aE nE cE) nE (Gn.jc es)){i:Nat}{p:Gn.li}(hp:es[i]?=some p)(hi:i<nE):∃g,aE=some ⟨g,0,none⟩/\g<w.heap.size/\∀j,j<4->w.cell? ⟨g,i*4+j,none⟩=(Gn.jj p)[j]?:=by
 rcases h.2 with⟨h',h0⟩|⟨g,aG,cD,h',_,hg,_⟩
 ·omega
 ·simp only[Value.slice.injEq]at h';obtain⟨rfl,_,rfl⟩:=h';refine⟨g,rfl,lt_of_block hg,fun j hj=>?_⟩;rw[h.cellAt (i*4+j) (by omega)];exact Gn.NH es i j p hp hj
variable{c:N1}{f seed:Int}
def Cr.xC(seed f:Int)(c:N1)(es:List (Int × Nat))(is:List Gn.li):Prop :=
 ∃(d:Gn.aY)(F:N1),(∀a b n,Gn.D seed f a b n=d a b n)/\Gn.gL d/\Gn.fH d c F/\es=Gn.ai d f c F/\is=Gn.aj d c
theorem Cr.xC.bo{c':N1}{es Yi:List (Int × Nat)}{is YV:List Gn.li}(h:Cr.xC seed f c es is)(h':Cr.xC seed f c' Yi YV):c'=c/\Yi=es/\YV=is:=by
 obtain⟨d,F,hd,_,hL,rfl,rfl⟩:=h;obtain⟨d',F',jL,_,mr,rfl,rfl⟩:=h';obtain rfl:d=d':=by
  funext a b n;rw[<-hd,<-jL]
 obtain⟨rfl,rfl⟩:=hL.bo mr;exact⟨rfl,rfl,rfl⟩
theorem Cr.xC.ec{es:List (Int × Nat)}{is:List Gn.li}(h:Cr.xC seed f c es is):Nv.iy c:=by
 obtain⟨d,F,_,hF,hL,_⟩:=h;exact Nv.NI hF hL
def Cr.cZ(E:N2)(es:List (Int × Nat)):Nat->Nat->Int :=
 es.foldl (fun E p=>if En.first (En.eM E ((p.2:Int)%24) ((p.2:Int)/24)) 32<0 then Cr.dX E (Cr.bo p.1 0 p.2)else E) E
def Cr.fN(is:List Gn.li)(i j:Nat):Int :=
 match is[i]? with
 | some p=>Gd.row p.1 p.2.1 p.2.2.1 p.2.2.2 j
 | none=>0
def Cr.fU(I:N2)(is:List Gn.li):Nat->Nat->Int:=Gd.lay I (Cr.fN is) is.length
theorem Cr.bs.cZ{c:N1}{I:N2}:∀(es:List (Int × Nat)) {E:N2},Cr.bs c E I->(∀p,p∈es->2<=p.1/\p.1<=4/\p.2<384/\Gr.aS (c p.2)=true)->Cr.bs c (Cr.cZ E es) I
 | [],_,h,_=>h
 | p :: es,E,h,hp=>by
  obtain⟨k2,k4,hq,hw⟩:=hp p (List.mem_cons_self ..)
  refine Cr.bs.cZ es (E:=if En.first (En.eM E ((p.2:Int)%24) ((p.2:Int)/24)) 32<0 then Cr.dX E (Cr.bo p.1 0 p.2)else E) ?_ (fun q hq=>hp q (List.mem_cons_of_mem _ hq))
  split
  ·rename_i hr
   exact h.dX (by omega) (by omega) hq ⟨hw,hr⟩ (.inr ⟨by omega,rfl⟩)
  ·exact h
theorem Cr.xC.mons{es:List (Int × Nat)}{is:List Gn.li}(h:Cr.xC seed f c es is)(hf:1<=f)(p:Int × Nat)(hp:p∈es):2<=p.1/\p.1<=4/\p.2<384/\Gr.aS (c p.2)=true:=by
 obtain⟨d,F,_,hF,hL,rfl,_⟩:=h;obtain⟨i,hi⟩:=List.mem_iff_getElem?.1 hp;obtain⟨k2,k4,hq,hc,_⟩:=Gn.Ky hF hf hi;exact⟨k2,k4,hq,by rw[hc];rfl⟩
theorem Cr.O9{c:N1}{I M:N2}:∀(n:Nat),Gd.Ok c 40 I->(∀i,i<n->Gd.lk c (Gd.row (M i 0) (M i 1) (M i 2) (M i 3)))->(∀i k,i<n->k<40->I k 1≠0->¬Gd.mi (I k) (Gd.row (M i 0) (M i 1) (M i 2) (M i 3)))->(∀i j,i<j->j<n->¬Gd.mi (Gd.row (M i 0) (M i 1) (M i 2) (M i 3)) (Gd.row (M j 0) (M j 1) (M j 2) (M j 3))) ->
  Gd.Ok c 40 (Gd.lay I M n)/\∀k,k<40->(Gd.lay I M n k=I k\/∃i,i<n/\Gd.lay I M n k=Gd.row (M i 0) (M i 1) (M i 2) (M i 3))
 | 0,h,_,_,_=>⟨h,fun k _=>.inl rfl⟩
 | n+1,h,hp,hi,hm=>by
  obtain⟨ho,hk⟩:=Cr.O9 n h (fun i GR=>hp i (by omega)) (fun i k GR=>hi i k (by omega)) (fun i j rH hj=>hm i j rH (by omega))
  unfold Gd.lay
  split
  ·rename_i kf
   generalize (En.first (Gd.na (Gd.lay I M n)) 40).toNat=r
   have hpn:=hp n (by omega)
   refine⟨ho.put (.inr ⟨hpn,fun k GU _ hs=>?_⟩),fun k GU=>?_⟩
   ·rcases hk k GU with e|⟨i,cU,e⟩
    ·rw[e]at hs
     have h0:I k 1≠0:=by
      have h1:=hs.1;rw[h1];exact hpn.PQ
     exact hi n k (by omega) GU h0 hs
    ·rw[e]at hs;exact hm i n cU (by omega) hs
   ·by_cases e:k=r
    ·rw[e,En.aB];exact .inr ⟨n,by omega,rfl⟩
    ·rw[En.ak e];rcases hk k GU with e'|⟨i,cU,e'⟩
     ·exact .inl e'
     ·exact .inr ⟨i,by omega,e'⟩
  ·exact⟨ho,fun k GU=>(hk k GU).imp id fun ⟨i,cU,e⟩=>⟨i,by omega,e⟩⟩
theorem Cr.rM{is:List Gn.li}{i:Nat}{p:Gn.li}(h:is[i]?=some p):Cr.fN is i 0=p.1/\Cr.fN is i 1=p.2.1/\Cr.fN is i 2=p.2.2.1/\Cr.fN is i 3=p.2.2.2:=by
 unfold Cr.fN;rw[h];exact⟨rfl,rfl,rfl,rfl⟩
theorem Cr.xC.aj{es:List (Int × Nat)}{is:List Gn.li}(h:Cr.xC seed f c es is):(∀(i:Nat)(p:Gn.li),is[i]?=some p->Gd.lk c (Gd.row p.1 p.2.1 p.2.2.1 p.2.2.2)/\(p.2.1=1\/p.2.1=4))/\(∀(i j:Nat)(p q:Gn.li),i<j->is[i]?=some p->is[j]?=some q->¬(p.2.1=q.2.1/\p.2.2.1=q.2.2.1/\p.2.2.2=q.2.2.2)):=by
 obtain⟨d,F,_,hF,hL,_,rfl⟩:=h;have hw:∀i p,Gn.o9 d c<=i->(Gn.aj d c)[i]?=some p->∃j:Nat,j=i-Gn.o9 d c/\j<3/\p=(1+d (50+(j:Int)) 1 3,4,(j:Int),0):=fun i p hi hp=>by
  have e:Gn.aj d c=Gn.lie d 4 0 (Gn.bi (fun i=>c i==1) 384)++if Gr.an 384 c 5<0 then[]else Gn.fx d 3:=rfl;rw[e,List.getElem?_append_right hi]at hp;split at hp
  ·simp at hp
  ·unfold Gn.fx at hp;rw[List.getElem?_map]at hp;simp only[Option.map_eq_some_iff]at hp;obtain⟨j,hj,rfl⟩:=hp;by_cases hb:i-(Gn.lie d 4 0 (Gn.bi (fun i=>c i==1) 384)).length<3
   ·rw[List.getElem?_range hb]at hj;have zK:=Option.some.inj hj;exact⟨j,zK.symm,by rw[<-zK];exact hb,rfl⟩
   ·rw[List.getElem?_eq_none (by simp;omega)]at hj;cases hj
 refine⟨fun i p hp=>?_,fun i j p q rH hp hq he=>?_⟩
 ·by_cases hi:i<Gn.o9 d c
  ·obtain⟨K,cl,rfl,iu,kx,k1,k4⟩:=Gn.yk hF hi hp;refine⟨⟨k1,k4,.inl ⟨rfl,(Gr.bz _ _).2 (by show 0<=(cl:Int)%24/\(cl:Int)%24<24/\0<=(cl:Int)/24/\(cl:Int)/24<16;omega),?_⟩⟩,.inl rfl⟩;show Gr.aS (Gr.at 384 c ((cl:Int)%24) ((cl:Int)/24))=true;rw[Gr.Nl (k:=cl) ((Gr.bz _ _).2 (by omega)) (by omega),kx];rfl
  ·obtain⟨j,_,SN,rfl⟩:=hw i p (by omega) hp;have hd:=hF (50+(j:Int)) 1 3 (by omega);refine⟨⟨?_,?_,.inr (.inr (.inr ⟨rfl,?_,?_,rfl,?_⟩))⟩,.inr rfl⟩
   ·show 1<=1+d (50+(j:Int)) 1 3;omega
   ·show 1+d (50+(j:Int)) 1 3<=4;omega
   ·show 0<=(j:Int);omega
   ·show(j:Int)<3;omega
   ·show¬1+d (50+(j:Int)) 1 3=4;omega
 ·by_cases hj:j<Gn.o9 d c
  ·exact Gn.Ha hF rH hj hp hq he.2
  ·obtain⟨b,hb,_,rfl⟩:=hw j q (by omega) hq;by_cases hi:i<Gn.o9 d c
   ·obtain⟨K,cl,rfl,_⟩:=Gn.yk hF hi hp;exact absurd he.1 (by show¬(1:Int)=4;omega)
   ·obtain⟨a,ha,_,rfl⟩:=hw i p (by omega) hp;have h2:(a:Int)=(b:Int):=he.2.1;omega
def Cr.kept(I:N2):Nat->Nat->Int:=fun i=>if I i 1=1\/I i 1=4 then fun _=>0 else I i
theorem Cr.zW{c':N1}{I:N2}(h:Gd.Ok c 40 I):Gd.Ok c' 40 (Cr.kept I)/\∀k,k<40->Cr.kept I k 1≠1/\Cr.kept I k 1≠4:=by
 have e:∀i,(I i 1=1\/I i 1=4)/\Cr.kept I i=(fun _=>0)\/¬(I i 1=1\/I i 1=4)/\Cr.kept I i=I i:=fun i=>by
  unfold Cr.kept;by_cases hc:I i 1=1\/I i 1=4
  ·rw[abP hc];exact .inl ⟨hc,rfl⟩
  ·rw[abO hc];exact .inr ⟨hc,rfl⟩
 refine⟨⟨fun i hi=>?_,fun i k hi hk hik h0 hs=>?_⟩,fun k hk=>?_⟩
 ·rcases e i with⟨_,hz⟩|⟨hn,hz⟩
  ·rw[hz];exact .inl ⟨rfl,rfl,rfl,rfl⟩
  ·rw[hz];rcases h.LB i hi with hzero|⟨h1,h4,hp⟩
   ·exact .inl hzero
   ·refine .inr ⟨h1,h4,?_⟩;rcases hp with⟨hw,_⟩|hp|hp|⟨hw,_⟩
    ·exact absurd (.inl hw) hn
    ·exact .inr (.inl hp)
    ·exact .inr (.inr (.inl hp))
    ·exact absurd (.inr hw) hn
 ·rcases e i with⟨_,hz⟩|⟨hn,hz⟩
  ·rw[hz]at h0;exact h0 rfl
  ·rw[hz]at h0 hs;rcases e k with⟨_,hzk⟩|⟨hnk,hzk⟩
   ·rw[hzk]at hs;exact h0 hs.1.symm
   ·rw[hzk]at hs;exact h.bo i k hi hk hik h0 hs
 ·rcases e k with⟨_,hz⟩|⟨hn,hz⟩
  ·rw[hz];exact⟨by show¬(0:Int)=1;omega,by show¬(0:Int)=4;omega⟩
  ·rw[hz];exact⟨fun h=>hn (.inl h),fun h=>hn (.inr h)⟩
theorem Cr.xC.lay{es:List (Int × Nat)}{is:List Gn.li}(h:Cr.xC seed f c es is){I:N2}(hI:Gd.Ok c 40 I)(hk:∀k,k<40->I k 1≠1/\I k 1≠4):Gd.Ok c 40 (Cr.fU I is):=by
 obtain⟨h1,h2⟩:=h.aj;have iG:∀i,i<is.length->∃p,is[i]?=some p:=fun i hi=>⟨is[i],abQ hi⟩;refine(Cr.O9 is.length hI (fun i hi=>?_) (fun i k hi GU _ hs=>?_) (fun i j rH hj hs=>?_)).1
 ·obtain⟨p,hp⟩:=iG i hi;obtain⟨e0,e1,e2,e3⟩:=Cr.rM hp;rw[e0,e1,e2,e3];exact(h1 i p hp).1
 ·obtain⟨p,hp⟩:=iG i hi;obtain⟨e0,e1,e2,e3⟩:=Cr.rM hp;rw[e0,e1,e2,e3]at hs;have P8:I k 1=p.2.1:=hs.1;have:=hk k GU;rcases(h1 i p hp).2 with h|h <;> omega
 ·obtain⟨p,hp⟩:=iG i (by omega);obtain⟨q,hq⟩:=iG j hj;obtain⟨e0,e1,e2,e3⟩:=Cr.rM hp;obtain⟨f0,f1,f2,f3⟩:=Cr.rM hq;rw[e0,e1,e2,e3,f0,f1,f2,f3]at hs;exact h2 i j p q rH hp hq hs
variable{E:N2}{c:N1}
theorem Cr.rQ(c:N1):∀n k:Nat,k+1<=Gn.nzs c n->∃q,q<n/\c q≠0/\k<=Gn.nzs c q
 | 0,k,h=>by unfold Gn.nzs at h;omega
 | n+1,k,h=>by
  by_cases e:c n=0
  ·have h':k+1<=Gn.nzs c n:=by
    unfold Gn.nzs at h;simp[e]at h;omega
   obtain⟨q,hq,h1,h2⟩:=Cr.rQ c n k h';exact⟨q,by omega,h1,h2⟩
  ·refine⟨n,by omega,e,?_⟩;unfold Gn.nzs at h;simp[e]at h;omega
def Cr.M5(c:N1):Prop:=∃q0 q1 q2 q3:Nat,q0<q1/\q1<q2/\q2<q3/\q3<384/\c q0≠0/\c q1≠0/\c q2≠0/\c q3≠0
theorem Cr.xC.Gs{seed f:Int}{es:List (Int × Nat)}{is:List Gn.li}(h:Cr.xC seed f c es is):Cr.M5 c:=by
 obtain⟨d,F,_,hF,hL,_⟩:=h;obtain⟨far,VG⟩:=hL.Kz hF;have h6:=VG.six hF;obtain⟨q3,h3,c3,n3⟩:=Cr.rQ c 384 3 (by omega);obtain⟨q2,h2,c2,n2⟩:=Cr.rQ c q3 2 (by omega);obtain⟨q1,h1,c1,n1⟩:=Cr.rQ c q2 1 (by omega);obtain⟨q0,h0,c0,_⟩:=Cr.rQ c q1 0 (by omega);exact⟨q0,q1,q2,q3,h0,h1,h2,h3,c0,c1,c2,c3⟩
theorem Cr.Gb{F:N1}{st:Nat->Bool}{q:Nat}(h0:0<=F q)(hs:st q=false):∀n,q<n->0<=Nv.best F st n
 | 0,h=>by omega
 | n+1,h=>by
  by_cases e:q=n
  ·unfold Nv.best
   split
   ·omega
   ·rename_i hn
    rw[<-e]at hn|-
    rcases Nv.jY F st q with hb|⟨p,_,hb⟩
    ·exact absurd ⟨h0,hs,.inl (by omega)⟩ hn
    ·omega
  ·have:=Cr.Gb h0 hs n (by omega)
   unfold Nv.best
   split <;> omega
theorem Cr.yE{v:Int}(hF:Nv.iy c){q:Nat}(hq:q<384)(hc:c q≠0)(aK:Nv.st E 32 q=false)(h:Nv.dR c E 32 (Gr.an 384 c 3%24) (Gr.an 384 c 3/24) v):0<=v:=by
 obtain⟨u,hu,sL,MX,_⟩:=Cr.l5 hF;obtain⟨F,tY,rfl⟩:=h;rw[sL,Md.Hx hu]at tY;exact Cr.Gb (Nv.iy.all hF hu (by rw[MX];omega) tY q hq hc) aK 384 hq
theorem Cr.bs.put{I:N2}(h:Cr.bs c E I){r q:Nat}{e:N1}(hq:q<384)(hr:Ft.Qm c E q)(bZ:Ft.qf e)(h0:e 0=1)(hx:e 3=(q:Int)%24)(hy:e 4=(q:Int)/24)(aK:e 6=En.stats 1 6/\e 7=En.stats 1 7/\e 8=En.stats 1 8)(s0:0<=e 2)(s4:e 2<4)(hno:∀j,j<32->E j 0=1->E j 2≠e 2):Cr.bs c (En.put E r e) I:=by
 obtain⟨m1,m2,m3,m4,m5⟩:=Ft.Gh hq;have hn:=Ft.tb hr.2;refine⟨h.ly.put bZ,⟨h.set.wZ.put (by rw[h0];exact aK),⟨fun k hk k0=>?_,fun i j hi hj i0 j0 ex ey=>?_⟩⟩,⟨fun j hj j1=>?_,fun i j hi hj i1 j1 rH=>?_,fun j hj j0 j1=>?_⟩⟩
 ·by_cases x:k=r
  ·rw[x,En.aB,hx,hy,m5];exact⟨m1,m2,m3,m4,hr.1⟩
  ·rw[En.ak x]at k0|-;exact h.set.iZ.on k hk k0
 ·by_cases xi:i=r
  ·by_cases xj:j=r
   ·omega
   ·rw[xi,En.aB,En.ak xj,hx]at ex;rw[xi,En.aB,En.ak xj,hy]at ey;rw[En.ak xj]at j0;exact absurd ⟨ex.symm,ey.symm⟩ (hn j hj j0)
  ·by_cases xj:j=r
   ·rw[xj,En.aB,En.ak xi,hx]at ex;rw[xj,En.aB,En.ak xi,hy]at ey;rw[En.ak xi]at i0;exact absurd ⟨ex,ey⟩ (hn i hi i0)
   ·rw[En.ak xi]at i0 ex ey;rw[En.ak xj]at j0 ex ey;exact h.set.iZ.apart i j hi hj i0 j0 ex ey
 ·by_cases x:j=r
  ·rw[x,En.aB];exact⟨s0,s4⟩
  ·rw[En.ak x]at j1|-;exact h.jR.ag j hj j1
 ·by_cases xi:i=r
  ·by_cases xj:j=r
   ·omega
   ·rw[xi,En.aB,En.ak xj]at rH;rw[En.ak xj]at j1;exact absurd rH.symm (hno j hj j1)
  ·by_cases xj:j=r
   ·rw[xj,En.aB,En.ak xi]at rH;rw[En.ak xi]at i1;exact absurd rH (hno i hi i1)
   ·rw[En.ak xi]at i1 rH;rw[En.ak xj]at j1 rH;exact h.jR.bo i j hi hj i1 j1 rH
 ·by_cases x:j=r
  ·rw[x,En.aB]at j1;exact absurd h0 j1
  ·rw[En.ak x]at j0 j1|-;exact h.jR.none j hj j0 j1
def Cr.jq(E:N2):Nat->Nat->Int:=fun k=>En.mP (E k 1)
theorem Cr.pf{I:N2}(hc:∀i,0<=c i/\c i<=255)(hI:Gd.Ok c 40 I)(hG:En.sn 32 E):Cr.bs c (Cr.jq E) I:=by
 have z:∀k,Cr.jq E k 0=0:=fun _=>rfl;refine⟨⟨hc,hI,fun k hk=>Ft.Iq (hG k hk).1 (hG k hk).2⟩,⟨fun k _ k0=>absurd (z k) k0,⟨fun k _ k0=>absurd (z k) k0,fun j k _ _ j0=>absurd (z j) j0⟩⟩,⟨fun k _ k1=>?_,fun j k _ _ j1=>?_,fun k _ k0=>absurd (z k) k0⟩⟩
 ·rw[z]at k1;omega
 ·rw[z]at j1;omega
def Cr.kG(c:N1)(jm:N2)(t:Int)(E F:N2):Prop :=
 if Gd.aV jm t<0 then F=E
 else∃v,Nv.dR c E 32 (Gr.an 384 c 3%24) (Gr.an 384 c 3/24) v/\F=En.put E (Gd.aV jm t).toNat (if v<0 then jm (Gd.aV jm t).toNat else En.dj (En.dj (jm (Gd.aV jm t).toNat) 3 (v%24)) 4 (v/24))
theorem Cr.kG.bo{jm:N2}{t:Int}{F G:N2}(h:Cr.kG c jm t E F)(h':Cr.kG c jm t E G):G=F:=by
 unfold Cr.kG at h h';split at h
 ·rename_i hc;rw[abP hc]at h';rw[h,h']
 ·rename_i hc;rw[abO hc]at h';obtain⟨v,hv,rfl⟩:=h;obtain⟨v',pK,rfl⟩:=h';rw[hv.bo pK]
def Cr.fe(c:N1)(jm:N2):Nat->(Nat->Nat->Int)->(Nat->Nat->Int)->Prop
 | 0,E,F=>F=E
 | t+1,E,F=>∃G,Cr.fe c jm t E G/\Cr.kG c jm (t:Int) G F
theorem Cr.fe.bo{c:N1}{jm:N2}:∀{t:Nat} {E F G:N2},Cr.fe c jm t E F->Cr.fe c jm t E G->G=F
 | 0,_,_,_,h,h'=>by rw[h,h']
 | t+1,_,_,_,h,h'=>by
  obtain⟨A,hA,hF⟩:=h
  obtain⟨B,hB,hG⟩:=h'
  obtain rfl:=Cr.fe.bo hA hB
  exact hF.bo hG
def Cr.sr(jm E:N2)(t:Nat):Prop:=∀k,k<32->E k 0≠0->∃j:Nat,j<t/\Gd.aV jm (j:Int)=(k:Int)/\E k 2=(j:Int)
theorem Cr.tH{jm G:N2}{t:Nat}(h4:Cr.M5 c)(ht:t+1<=4)(lG:Cr.sr jm G t):∃q,q<384/\c q≠0/\Nv.st G 32 q=false:=by
 obtain⟨q0,q1,q2,q3,a1,a2,a3,a4,c0,c1,c2,c3⟩:=h4;have YZ:∀q,q<384->Nv.st G 32 q=true->∃(k j:Nat),k<32/\j<t/\G k 0≠0/\G k 2=(j:Int)/\G k 3=((q%24:Nat):Int)/\G k 4=((q/24:Nat):Int):=fun q _ aK=>by
  unfold Nv.st at aK;simp only[decide_eq_true_eq]at aK;rcases En.aw (En.eM G ((q%24:Nat):Int) ((q/24:Nat):Int)) 32 with⟨hh,_⟩|⟨k,hk,_,hqq,_⟩
  ·omega
  ·have kp:G k 0≠0/\G k 3=((q%24:Nat):Int)/\G k 4=((q/24:Nat):Int):=by simpa [En.eM] using hqq
   obtain⟨j,hj,_,h2⟩:=lG k hk kp.1;exact⟨k,j,hk,hj,kp.1,h2,kp.2.1,kp.2.2⟩
 have ki:∀(k k' j:Nat),k<32->k'<32->G k 0≠0->G k' 0≠0->G k 2=(j:Int)->G k' 2=(j:Int)->k=k':=fun k k' j hk jy k0 U4 e e'=>by
  obtain⟨i,_,h1,h2⟩:=lG k hk k0;obtain⟨i',_,ot,NL⟩:=lG k' jy U4;obtain rfl:i=i':=by omega
  omega
 by_cases s0:Nv.st G 32 q0=true
 ·by_cases s1:Nv.st G 32 q1=true
  ·by_cases s2:Nv.st G 32 q2=true
   ·by_cases s3:Nv.st G 32 q3=true
    ·exfalso;obtain⟨k0,j0,b0,d0,e0,f0,x0,y0⟩:=YZ q0 (by omega) s0;obtain⟨k1,j1,b1,d1,e1,f1,x1,y1⟩:=YZ q1 (by omega) s1;obtain⟨k2,j2,b2,d2,e2,f2,x2,y2⟩:=YZ q2 (by omega) s2;obtain⟨k3,j3,b3,d3,e3,f3,x3,y3⟩:=YZ q3 (by omega) s3;have ne:∀(k k' j j' q q':Nat),q<q'->k<32->k'<32->G k 0≠0->G k' 0≠0->G k 2=(j:Int)->G k' 2=(j':Int)->G k 3=((q%24:Nat):Int)->G k 4=((q/24:Nat):Int)->G k' 3=((q'%24:Nat):Int)->G k' 4=((q'/24:Nat):Int)->j≠j':=fun k k' j j' q q' hqq hk jy g0 g0' g2 g2' g3 g4 g3' g4' hjj=>by
      subst hjj;have:=ki k k' j hk jy g0 g0' g2 g2';subst this;rw[g3]at g3';rw[g4]at g4';omega
     have RC:=ne k0 k1 j0 j1 q0 q1 a1 b0 b1 e0 e1 f0 f1 x0 y0 x1 y1;have RD:=ne k0 k2 j0 j2 q0 q2 (by omega) b0 b2 e0 e2 f0 f2 x0 y0 x2 y2;have Qh:=ne k0 k3 j0 j3 q0 q3 (by omega) b0 b3 e0 e3 f0 f3 x0 y0 x3 y3;have n12:=ne k1 k2 j1 j2 q1 q2 a2 b1 b2 e1 e2 f1 f2 x1 y1 x2 y2;have n13:=ne k1 k3 j1 j3 q1 q3 (by omega) b1 b3 e1 e3 f1 f3 x1 y1 x3 y3;have n23:=ne k2 k3 j2 j3 q2 q3 a3 b2 b3 e2 e3 f2 f3 x2 y2 x3 y3;omega
    ·exact⟨q3,a4,c3,by simpa using s3⟩
   ·exact⟨q2,by omega,c2,by simpa using s2⟩
  ·exact⟨q1,by omega,c1,by simpa using s1⟩
 ·exact⟨q0,by omega,c0,by simpa using s0⟩
theorem Cr.pp{c c0:N1}{jm I I0:N2}(ho:Cr.bs c0 jm I0)(hF:Nv.iy c)(h4:Cr.M5 c):∀{t:Nat} {E F:N2},t<=4->Cr.bs c E I->Cr.sr jm E 0->Cr.fe c jm t E F->Cr.bs c F I/\Cr.sr jm F t
 | 0,_,_,_,hs,hl,h=>by rw[h];exact⟨hs,hl⟩
 | t+1,E,F,ht,hs,hl,h=>by
  obtain⟨G,hG,hL⟩:=h
  obtain⟨sG,lG⟩:=Cr.pp ho hF h4 (by omega) hs hl hG
  unfold Cr.kG at hL
  split at hL
  ·rw[hL]
   exact⟨sG,fun k hk k0=>by
    obtain⟨j,hj,h1,h2⟩:=lG k hk k0
    exact⟨j,by omega,h1,h2⟩⟩
  ·rename_i hn
   obtain⟨v,hv,rfl⟩:=hL
   obtain⟨r,hr,he,r1,r2⟩:=Md.lL hn
   have ol:=Cr.tH h4 ht lG
   obtain⟨q,hq,mL,aK⟩:=ol
   have XK:=Cr.yE hF hq mL aK hv
   obtain⟨p,rfl⟩:∃p:Nat,v=(p:Int):=⟨v.toNat,by omega⟩
   obtain⟨hp,hrm⟩:=Cr.nw hv
   rw[he,abG,abO (by omega)]
   have Ov:=ho.ly.ix r hr
   have ht0:=Ov.ia (by omega)
   have eo:∀j,j≠3->j≠4->En.dj (En.dj (jm r) 3 ((p:Int)%24)) 4 ((p:Int)/24) j=jm r j:=fun j h3 h4=>by rw[En.bq h4,En.bq h3]
   have bZ:Ft.qf (En.dj (En.dj (jm r) 3 ((p:Int)%24)) 4 ((p:Int)/24)):=by
    refine⟨by rw[eo 1 (by omega) (by omega)];exact Ov.1,by rw[eo 1 (by omega) (by omega)];exact Ov.2.1,.inr ?_⟩;rw[eo 0 (by omega) (by omega),eo 5 (by omega) (by omega),eo 6 (by omega) (by omega),eo 7 (by omega) (by omega),eo 8 (by omega) (by omega),eo 9 (by omega) (by omega),eo 10 (by omega) (by omega)];exact ht0
   have hb:=ho.set.wZ r hr (by omega);rw[r1]at hb;refine⟨sG.put hp hrm bZ (by rw[eo 0 (by omega) (by omega)];exact r1) (by rw[En.bq (by omega),En.l6]) (by rw[En.l6]) (by rw[eo 6 (by omega) (by omega),eo 7 (by omega) (by omega),eo 8 (by omega) (by omega)];exact hb) (by rw[eo 2 (by omega) (by omega),r2];omega) (by rw[eo 2 (by omega) (by omega),r2];omega) (fun j hj j1=>?_),fun k hk k0=>?_⟩
   ·rw[eo 2 (by omega) (by omega),r2];obtain⟨i,hi,_,h2⟩:=lG j hj (by omega);omega
   ·by_cases x:k=r
    ·refine⟨t,by omega,by rw[x];exact he,?_⟩;rw[x,En.aB,eo 2 (by omega) (by omega),r2]
    ·rw[En.ak x]at k0|-;obtain⟨j,hj,h1,h2⟩:=lG k hk k0;exact⟨j,by omega,h1,h2⟩
theorem Ir(a:Option Addr)(len aG k:Nat)(w:World)(hk:k<=aG):(Instr.slice 27 (.slice a len aG) none (some (.int .i64 (k:Int))) none).run prog w=.ok (.slice a k aG) w:=by
 have hs:(sizeOf (prog.elem 27)).run prog w=.ok 4 w:=by kernel_rfl
 rw[run_slice_h w 27 a len aG (by kernel_rfl) .i64 (k:Int) (by omega) (by omega),hs];have e:a.map (fun x=>x.add (0*4))=a:=by
  cases a with
  | none=>rfl
  | some x=>simp[Addr.add]
 simp only[Result.andThen,sliced,e,abG,Nat.sub_zero,ite_self]
theorem Ru(b cp n cm:Nat)(a:Option Addr)(I M:N2)(w:World)(hL:ay w b 62 160 (Gd.aL I))(hM:Gd.qP w a n M):Calls prog 57 #[.slice (some ⟨b,0,none⟩) 40 cp,.slice a n cm] w (Gd.nG w (Gd.lay I M n)):=by
 have hn:=hM.1;have FT:=aa hM;have ct:=aa (qc b 40 160 cp (Gd.aL I) w (by omega) (by omega) (fun _=>rfl) (fun q hq=>hL.cell hq) hL.lt);clear hL hM;go_enter func57,ntmps57;go_wp2_with fail;refine(uh ct).mono ?_;rintro e w1 ⟨g,rfl,iC,hA,hg⟩;have KV:=aa hA.lie;have hg1:=aa hg;have qy:=aa iC;have hs:=fun wx=>Ir (some ⟨g,0,none⟩) 40 40 40 wx (by omega);clear ct iC hA hg;go_wp2_with fail;clear hs;go_loopw [7,19] (fun q i wr=>∃r m:Nat,m<=n/\r<=40/\q=.int .i64 (r:Int)/\i=.int .i64 (m:Int)/\(∀j,j<r->Gd.na (Gd.lay I M m) j=false)/\ay wr g 62 160 (Gd.aL (Gd.lay I M m))/\w.grownBy wr none) (fun _ i _=>200-(intOf i).toNat)
 case atStart=>exact⟨0,0,by omega,by omega,rfl,rfl,fun j hj=>by omega,uh KV,uh hg1⟩
 case round =>
  obtain⟨r0,m,hm,hr0,rfl,rfl,Xl,hJ,hgr⟩:=hrel;have Xm:=aa Xl;have oz:=aa hJ;have bV:=aa hgr;clear Xl hJ hgr;by_cases hlt:m<n
  ·have hlt':(m:Int)<(n:Int):=by omega
   have HL:=aa hlt;obtain⟨bm,om,rfl,lbm,v0,v1,v2,v3⟩:=((uh FT).on (uh bV)).row hlt;clear hlt;have KW:=(ax.lit (abH wr (.cells #[.int .i64 (M m 0),.int .i64 (M m 1),.int .i64 (M m 2),.int .i64 (M m 3)] 62))).lie;have hga:=aa (abE wr (.cells #[.int .i64 (M m 0),.int .i64 (M m 1),.int .i64 (M m 2),.int .i64 (M m 3)] 62) none);go_wp2_with fail;obtain⟨wb,tA⟩:=abV (wr.alloc (.cells #[.int .i64 (M m 0),.int .i64 (M m 1),.int .i64 (M m 2),.int .i64 (M m 3)] 62));obtain⟨P,hP⟩:=abV wr.heap.size;have hPg:g<P:=by rw[<-hP];exact(uh oz).lt
   rw[tA]at KW hga|-;rw[hP]at KW|-;have GX:=aa KW;have ZJ:=aa ((uh oz).on (uh hga));have tZ:=aa (gtr (uh bV) (uh hga));clear tA hP KW hga v0 v1 v2 v3 lbm oz bV;go_loopw [7] (fun q wz=>∃r:Nat,r<=40/\q=.int .i64 (r:Int)/\(∀j,j<r->Gd.na (Gd.lay I M m) j=false)/\wb.grownBy wz none) (fun q _=>200-(intOf q).toNat)
   case atStart=>exact⟨r0,hr0,rfl,uh Xm,abF _ _⟩
   case round =>
    obtain⟨r,hr,rfl,hno,fM⟩:=hrel;have aT:=aa hno;have GQ:=aa fM;clear hno fM;by_cases zP:r<40
    ·have hr':(r:Int)<40:=(by omega);have HR:=aa zP;obtain⟨u0,u1,u2,u3⟩:=(((uh ZJ).on (uh GQ)).fo (n:=40) (by omega) (by omega)).row zP;have kJ:=aa (show Gd.na (Gd.lay I M m) r=Gd.pd (Gd.lay I M m r 0) (Gd.lay I M m r 1) (Gd.lay I M m r 2) (Gd.lay I M m r 3) from rfl);have Ze:=JL (Gd.lay I M m r 0) (Gd.lay I M m r 1) (Gd.lay I M m r 2) (Gd.lay I M m r 3) wr;obtain⟨z,hz⟩:=abV (Gd.pd (Gd.lay I M m r 0) (Gd.lay I M m r 1) (Gd.lay I M m r 2) (Gd.lay I M m r 3));rw[hz]at Ze kJ;have cg:=aa Ze;clear Ze hz zP;go_wp2_with fail;refine aaR (uh cg) fun w3 dl=>?_;have Q6:=aa (gtr (uh GQ) dl);clear cg dl u0 u1 u2 u3;cases z with
     | false =>
      go_wp2;go_roundw
      case rel=>exact⟨r+1,by have:=uh HR;omega,by go_num,fun j hj=>by
       by_cases e:j=r
       ·rw[e];exact uh kJ
       ·exact uh aT j (by omega),uh Q6⟩
      case measure=>simp[intOf];omega
     | true =>
      have hs:=aa (Gd.Hj (uh aT) (uh kJ) (uh HR));have Xn:=(uh GX).on (uh Q6);have x0:w3.cell? ⟨P,0,none⟩=some (.int .i64 (M m 0)):=Xn.cell (c:=0) (by simp);have x1:w3.cell? ⟨P,1,none⟩=some (.int .i64 (M m 1)):=Xn.cell (c:=1) (by simp);have x2:w3.cell? ⟨P,2,none⟩=some (.int .i64 (M m 2)):=Xn.cell (c:=2) (by simp);have x3:w3.cell? ⟨P,3,none⟩=some (.int .i64 (M m 3)):=Xn.cell (c:=3) (by simp);have Yl:=(uh ZJ).on (uh Q6);obtain⟨u0,u1,u2,u3⟩:=(Yl.fo (n:=40) (by omega) (by omega)).row (uh HR);have fI:=Yl.free;have ZM:=aa (Yl.put r (M m 0) (M m 1) (M m 2) (M m 3));have zH:=aa (gow (gtr (uh tZ) (uh Q6)) (gT (abF _ (some g)) r (.int .i64 (M m 0)) (.int .i64 (M m 1)) (.int .i64 (M m 2)) (.int .i64 (M m 3))) (fun k e=>by cases e;exact uh qy));have abr:((r:Int)==40)=false:=by simp;omega
      clear Xn Yl;go_wp2;go_roundw
      case rel=>exact⟨r,m+1,by have:=uh HL;omega,by have:=uh HR;omega,rfl,by go_num,fun j hj=>by
       rw[uh hs];show Gd.pd _ _ _ _=false;rw[En.ak (by omega)]
       exact uh aT j hj,by rw[uh hs];exact uh ZM,uh zH⟩
      case measure=>simp[intOf];omega
    ·have hge:¬(r:Int)<40:=(by omega);have er:(r:Int)=40:=(by omega);have aK:=aa (Gd.yn (I:=I) (M:=M) (m:=m) (fun j hj=>uh aT j (by omega)) (n-m));have hJf:=aa ((uh ZJ).on (uh GQ));have YF:=aa (gtr (uh tZ) (uh GQ));rw[er];clear er hge hr;go_wp2;go_ret;refine⟨g,40,rfl,uh qy,?_,uh YF⟩;have h:=uh aK;rw[show m+(n-m)=n by omega]at h;rw[h];exact uh hJf
  ·have hge:¬(m:Int)<(n:Int):=by omega
   obtain rfl:m=n:=by omega
   go_wp2;go_ret;exact⟨g,40,rfl,uh qy,uh oz,uh bV⟩
theorem yp(x0 x1 x2 x3 x4 x5 x6 x7 x8 x9 x10:Int)(w:World):Calls prog 219 #[.agg #[.int .i64 x0,.int .i64 x1,.int .i64 x2,.int .i64 x3,.int .i64 x4,.int .i64 x5,.int .i64 x6,.int .i64 x7,.int .i64 x8,.int .i64 x9,.int .i64 x10]] w fun x w'=>x=.returned (.complex .f64 (floatOfInt .f64 x3) (floatOfInt .f64 x4))/\w.grownBy w' none:=by
 go_enter func219,ntmps219;go_wp2;go_ret;exact⟨rfl,abE _ _ _⟩
theorem JU(e:N1)(w:World):Calls prog 219 #[.agg (En.cells e)] w fun x w'=>x=.returned (.complex .f64 (floatOfInt .f64 (e 3)) (floatOfInt .f64 (e 4)))/\w.grownBy w' none:=yp _ _ _ _ _ _ _ _ _ _ _ w
theorem qz(a b:Nat)(x y:Int)(w:World)(ha:Fl.mR a x)(hb:Fl.mR b y)(x1:-9007199254740992<x)(x2:x<9007199254740992)(y1:-9007199254740992<y)(y2:y<9007199254740992):Calls prog 218 #[.complex .f64 a b] w fun e w'=>e=.returned (.tuple #[.int .i64 x,.int .i64 y])/\w'=w:=by
 have t1:=Fl.lb ha x1 x2;have t2:=Fl.lb hb y1 y2;have Re:=fun w:World=>run_convert_float_int (P:=prog) w 176 3 .f64 .i64 a _ (by kernel_rfl) (by kernel_rfl) t1;have pk:=fun w:World=>run_convert_float_int (P:=prog) w 176 3 .f64 .i64 b _ (by kernel_rfl) (by kernel_rfl) t2;clear t1 t2 ha hb;go_enter func218,ntmps218;go_wp2
 go_ret2
 exact⟨rfl,rfl⟩
theorem vR(e:N1)(d:Int)(w:World)(x0:0<=e 3)(x9:e 3<24)(y0:0<=e 4)(y9:e 4<16):Calls prog 220 #[.agg (En.cells e),.int .i64 d] w fun x w'=>(∃a b,x=.returned (.complex .f64 a b)/\Fl.mR a (e 3+(Fx.bh d).1)/\Fl.mR b (e 4+(Fx.bh d).2))/\w.grownBy w' none:=by
 have wb:=Fx.oa d;obtain⟨d1,d2,d3,d4⟩:=wb;obtain⟨r1,e1,R1⟩:=Fl.rW (Fl.eZ (e 3) (by omega) (by omega)) (Fl.eZ (Fx.bh d).1 (by omega) (by omega)) (by omega) (by omega);obtain⟨r2,e2,R2⟩:=Fl.rW (Fl.eZ (e 4) (by omega) (by omega)) (Fl.eZ (Fx.bh d).2 (by omega) (by omega)) (by omega) (by omega);have XH:=fun wq:World=>run_complex_sum (P:=prog) wq .add (.inl rfl) 173 .f64 (floatOfInt .f64 (e 3)) (floatOfInt .f64 (e 4)) (floatOfInt .f64 (Fx.bh d).1) (floatOfInt .f64 (Fx.bh d).2) r1 r2 (by unfold cSumBits;rw[e1,e2];rfl);have hR:=aa (And.intro R1 R2);have cp:=aa (fun wq=>JU e wq);have hu:Hid (En.cells e=#[.int .i64 (e 0),.int .i64 (e 1),.int .i64 (e 2),.int .i64 (e 3),.int .i64 (e 4),.int .i64 (e 5),.int .i64 (e 6),.int .i64 (e 7),.int .i64 (e 8),.int .i64 (e 9),.int .i64 (e 10)]):=rfl;rw[uh hu]at cp|-;have iR:Hid (w.grownBy (w.alloc (.cells #[.int .i64 (e 0),.int .i64 (e 1),.int .i64 (e 2),.int .i64 (e 3),.int .i64 (e 4),.int .i64 (e 5),.int .i64 (e 6),.int .i64 (e 7),.int .i64 (e 8),.int .i64 (e 9),.int .i64 (e 10)] 54)) none):=abE _ _ _;clear R1 R2 e1 e2 x0 x9 y0 y9 d1 d2 d3 d4;go_enter func220,ntmps220;go_wp2_with fail;refine abW (FN _ _) ?_;go_wp2_with fail;refine aaR (uh cp _) fun w1 hg=>?_;have hg1:=aa (gtr (uh iR) hg);clear hg iR;go_wp2;go_ret;exact⟨⟨_,_,rfl,(uh hR).1,(uh hR).2⟩,uh hg1⟩
theorem XW(e f:N1)(x0:0<=e 3)(x9:e 3<24)(y0:0<=e 4)(y9:e 4<16)(u0:0<=f 3)(u9:f 3<24)(v0:0<=f 4)(v9:f 4<16):∃r1 r2,(∀wq:World,(binOp .sub 173 (.complex .f64 (floatOfInt .f64 (f 3)) (floatOfInt .f64 (f 4))) (.complex .f64 (floatOfInt .f64 (e 3)) (floatOfInt .f64 (e 4)))).run prog wq=.ok (.complex .f64 r1 r2) wq)/\Fl.mR r1 (f 3-e 3)/\Fl.mR r2 (f 4-e 4):=by
 obtain⟨r1,e1,R1⟩:=Fl.FE (Fl.eZ (f 3) (by omega) (by omega)) (Fl.eZ (e 3) (by omega) (by omega)) (by omega) (by omega);obtain⟨r2,e2,R2⟩:=Fl.FE (Fl.eZ (f 4) (by omega) (by omega)) (Fl.eZ (e 4) (by omega) (by omega)) (by omega) (by omega);exact⟨r1,r2,fun wq=>run_complex_sum (P:=prog) wq .sub (.inr rfl) 173 .f64 _ _ _ _ r1 r2 (by unfold cSumBits;rw[e1,e2];rfl),R1,R2⟩
