import Derived.Test.YtbanjoflgoiegaaGreatPart12
import Derived.Test.YtbanjoflgoiegaaGreatPart15
set_option maxHeartbeats 6400000
namespace Go.Proofs.YtbanjoflgoiegaaGreat
open Go.Proofs.Tryz
open Go.RowKit
variable{b:Nat->Prop}{x y:World}
structure Frame(ar:Nat->Prop)(x y:World):Prop where
 os:y.os=x.os
 tape:y.tape=x.tape
 output:y.output=x.output
 size:x.heap.size<=y.heap.size
 block:∀i,i<x.heap.size->ar i->y.heap[i]?=x.heap[i]?
theorem Frame.refl(ar:Nat->Prop)(x:World):Frame ar x x:=⟨rfl,rfl,rfl,abL _,fun _ _ _=>rfl⟩
def Gd.pL(ar:Nat->Prop)(x:World)(B gC gE gI cC cE cI:Nat)(s g c:N1)(E I:N2)(e:Ending)(x':World):Prop :=
 e=.returned (.tuple #[])/\Gd.eE x' B gC gE gI cC cE cI s g c E I/\Frame ar x x'
theorem iq(h:Frame b x y)(p i:Nat)(hp:¬b p)(u:Value):Frame b x (y.setCell ⟨p,i,none⟩ u) :=
 ⟨h.os,h.tape,h.output,by simpa using h.size,fun k hk hb=>(heap_setCell_other y ⟨p,i,none⟩ k u (by show k≠p;rintro rfl;exact hp hb)).trans (h.block k hk hb)⟩
theorem di{z:World}(h:Frame b x y)(hg:y.grownBy z none):Frame b x z :=
 ⟨hg.os.trans h.os,hg.tape.trans h.tape,hg.output.trans h.output,abM h.size hg.size,fun k hk hb=>(hg.block k (abR hk h.size) (fun e=>by cases e)).trans (h.block k hk hb)⟩
theorem IU{z:World}{r:Nat}(h:Frame b x y)(hg:y.grownBy z (some r))(hr:¬b r):Frame b x z :=
 ⟨hg.os.trans h.os,hg.tape.trans h.tape,hg.output.trans h.output,abM h.size hg.size,fun k hk hb=>(hg.block k (abR hk h.size) (fun e=>by cases e;exact hr hb)).trans (h.block k hk hb)⟩
theorem ay.frame{g:Nat}{T:TypeId}{m:Nat}{F:Nat->Value}(h:ay x g T m F)(hf:Frame b x y)(hg:b g):ay y g T m F:=by
 obtain⟨M,K,⟨cD,h1,h2,h3⟩,hm,hk⟩:=h;exact⟨M,K,⟨cD,(hf.block g (lt_of_block h1) hg).trans h1,h2,h3⟩,hm,hk⟩
theorem Frame.grown{w:World}(hf:Frame b x y)(hg:w.grownBy x none)(hb:∀i,i<w.heap.size->b i):w.grownBy y none :=
 ⟨hf.os.trans hg.os,hf.tape.trans hg.tape,hf.output.trans hg.output,abM hg.size hf.size,fun i hi hr=>(hf.block i (abR hi hg.size) (hb i hi)).trans (hg.block i hi hr)⟩
def Gd.oT(E:N2)(k:Nat):Nat->Nat->Int:=Gd.set (Gd.set E k 5 (min (E k 5+6) (E k 6))) k 9 0
theorem Gd.ns:Gd.row 0 0 0 0=Gd.mN:=by
 funext j;unfold Gd.row Gd.mN;split <;> rfl
theorem Gd.eE.put{B gC gE gI cC cE cI:Nat}{s g c:N1}{E I:N2}(h:Gd.eE x B gC gE gI cC cE cI s g c E I)(m:Nat)(a b d e:Int):Gd.eE ((((x.setCell ⟨gI,m*4,none⟩ (.int .i64 a)).setCell ⟨gI,m*4+1,none⟩ (.int .i64 b)).setCell ⟨gI,m*4+2,none⟩ (.int .i64 d)).setCell ⟨gI,m*4+3,none⟩ (.int .i64 e)) B gC gE gI cC cE cI s g c E (En.put I m (Gd.row a b d e)) :=
 h.aj (gT (abF _ _) m _ _ _ _) (h.ab.aj.put m a b d e)
theorem lr(h:Frame b x y){p:Nat}(hp:¬b p)(m:Nat)(v0 v1 v2 v3:Value):Frame b x ((((y.setCell ⟨p,m*4,none⟩ v0).setCell ⟨p,m*4+1,none⟩ v1).setCell ⟨p,m*4+2,none⟩ v2).setCell ⟨p,m*4+3,none⟩ v3) :=
 iq (iq (iq (iq h p _ hp _) p _ hp _) p _ hp _) p _ hp _
theorem Gd.eE.N4{B gC gE gI cC cE cI:Nat}{s g c:N1}{E I:N2}(h:Gd.eE x B gC gE gI cC cE cI s g c E I)(k m:Nat)(v:Int)(hv:v=min (E k 5+6) (E k 6)):Gd.eE ((((((x.setCell ⟨gE,k*11+5,none⟩ (.int .i64 v)).setCell ⟨gE,k*11+9,none⟩ (.int .i64 0)).setCell ⟨gI,m*4,none⟩ (.int .i64 0)).setCell ⟨gI,m*4+1,none⟩ (.int .i64 0)).setCell ⟨gI,m*4+2,none⟩ (.int .i64 0)).setCell ⟨gI,m*4+3,none⟩ (.int .i64 0)) B gC gE gI cC cE cI s g c (Gd.oT E k) (En.put I m Gd.mN):=by
 rw[<-Gd.ns];have h1:=h.ai (gs0 x gE (k*11+5) (.int .i64 v)) (h.ab.ai.gN k 5 (by omega) v);have h2:=h1.ai (gs0 _ gE (k*11+9) (.int .i64 0)) (h1.ab.ai.gN k 9 (by omega) 0);have h3:=h2.put m 0 0 0 0;unfold Gd.oT;rw[<-hv];exact h3
theorem Nf(ar:Nat->Prop)(B gC gE gI cC cE cI k t:Nat)(s g c:N1)(E I:N2)(input:Int)(x:World)(H:Gd.eE x B gC gE gI cC cE cI s g c E I)(hk:k<32)(ht:t<4)(he:E k 2=(t:Int))(hc:∀i,0<=c i/\c i<=255)(hw:Gd.jt I (t:Int) (E k 3) (E k 4) (decide (Gr.at 384 c (E k 3) (E k 4)=5)) (g t) input<0):Calls prog 170 #[.pointer (some ⟨B,0,none⟩),.pointer (some ⟨gE,k*11,none⟩),.int .i64 input] x (Gd.pL ar x B gC gE gI cC cE cI s g c E I):=by
 have cw:=aa (fW B gC gE gI cC cI k t (E k 3) (E k 4) (g t) input c I x (H.eG hk ht he) H.ab.lg hc H.ab.fo);have H':=aa H;obtain⟨r,hr⟩:∃r,Gd.jt I (t:Int) (E k 3) (E k 4) (decide (Gr.at 384 c (E k 3) (E k 4)=5)) (g t) input=r:=⟨_,rfl⟩;rw[hr]at cw hw;clear H hc hr he;go_enter func170,ntmps170;go_wp2_with fail;refine aaR (uh cw) fun w1 hg1=>?_;have ah:=aa (show Gd.eE w1 B gC gE gI cC cE cI s g c E I/\Frame ar x w1 from⟨(uh H').on hg1,di (Frame.refl _ _) hg1⟩);clear hg1 cw;go_wp2
 go_end0
 exact⟨rfl,(uh ah).1,(uh ah).2⟩
theorem Qp(ar:Nat->Prop)(B gC gE gI cC cE cI k t m:Nat)(s g c:N1)(E I:N2)(x:World)(H:Gd.eE x B gC gE gI cC cE cI s g c E I)(hk:k<32)(ht:t<4)(he:E k 2=(t:Int))(hc:∀i,0<=c i/\c i<=255)(NY:¬ar gE)(uq:¬ar gI)(h0:0<=E k 5)(h1:E k 5<=1000)(hm:m<40)(hw:Gd.jt I (t:Int) (E k 3) (E k 4) (decide (Gr.at 384 c (E k 3) (E k 4)=5)) (g t) 6=(m:Int)):Calls prog 170 #[.pointer (some ⟨B,0,none⟩),.pointer (some ⟨gE,k*11,none⟩),.int .i64 6] x (Gd.pL ar x B gC gE gI cC cE cI s g c (Gd.oT E k) (En.put I m Gd.mN)):=by
 have cw:=fW B gC gE gI cC cI k t (E k 3) (E k 4) (g t) 6 c I x (H.eG hk ht he) H.ab.lg hc H.ab.fo;rw[hw]at cw;have qT:=aa cw;have H':=aa H;have HN:=aa (fun (y:World) (hy:x.grownBy y none)=>(H.on hy).eG hk ht he);have HE:=aa (fun (y:World) (hy:x.grownBy y none)=>(H.on hy).ab.own.ai.row hk);have mf:(m:Int)<40:=by omega
 have oA:(t:Int)<4:=by omega
 clear H hc hw he cw;go_enter func170,ntmps170;go_wp2_with fail;refine aaR (uh qT) fun w1 hg1=>?_;obtain⟨lB,lE,Hb,s4,b4,b6,b7,e2,e3,e4⟩:=uh HN w1 hg1;have ke:=aa hg1;clear hg1 qT b4;go_wp2_with fail;go_quiet (fail);obtain⟨w2,ig⟩:=abV (w1.drewN nq);have hg2:=aa (show x.grownBy w2 none by rw[<-ig];exact gdw (uh ke) _);rw[ig];clear ig b6 b7 e2 e3 e4 ke;obtain⟨_,_,_,_,_,r5,r6,_,_,r9,_⟩:=uh HE w2 (uh hg2);have fE:=((uh H').on (uh hg2)).ab.ai.free;have fI:=((uh H').on (uh hg2)).ab.aj.free;obtain⟨i0,i1,i2,i3⟩:=((uh H').on (uh hg2)).ab.fo.row hm;have aaN:=(uh H').eI;have abB:=aaN.symm;have hH:=aa (fun v hv=>(((uh H').on (uh hg2)).N4 k m v hv).on (gd1 (abF _ none)));have hB:=aa (fun (v:Value)=>di (lr (iq (iq (di (Frame.refl ar x) (uh hg2)) gE (k*11+5) NY v) gE (k*11+9) NY (.int .i64 0)) uq m (.int .i64 0) (.int .i64 0) (.int .i64 0) (.int .i64 0)) (gd1 (abF _ none)));clear NY uq;go_wp2_with fail
 go_region
 go_wp2
 all_goals
  go_end0
  exact⟨rfl,uh hH _ (by omega),uh hB _⟩
theorem Ni(ar:Nat->Prop)(B gC gE gI cC cE cI k t m:Nat)(s g c:N1)(E I:N2)(x:World)(H:Gd.eE x B gC gE gI cC cE cI s g c E I)(hk:k<32)(ht:t<4)(he:E k 2=(t:Int))(hc:∀i,0<=c i/\c i<=255)(uq:¬ar gI)(hm:m<40)(k0:0<=I m 0)(k1:I m 0<=100)(h2:I m 1=2)(hw:Gd.jt I (t:Int) (E k 3) (E k 4) (decide (Gr.at 384 c (E k 3) (E k 4)=5)) (g t) 7=(m:Int)):Calls prog 170 #[.pointer (some ⟨B,0,none⟩),.pointer (some ⟨gE,k*11,none⟩),.int .i64 7] x (Gd.pL ar x B gC gE gI cC cE cI s g c E (Gd.l7 I 40 (I m 2) m)):=by
 have cw:=fW B gC gE gI cC cI k t (E k 3) (E k 4) (g t) 7 c I x (H.eG hk ht he) H.ab.lg hc H.ab.fo;rw[hw]at cw;have qT:=aa cw;have H':=aa H;have HN:=aa (fun (y:World) (hy:x.grownBy y none)=>(H.on hy).eG hk ht he);have mf:(m:Int)<40:=by omega
 have oA:(t:Int)<4:=by omega
 clear H hc hw he cw;go_enter func170,ntmps170;go_wp2_with fail;refine aaR (uh qT) fun w1 hg1=>?_;obtain⟨lB,lE,Hb,s4,b4,b6,b7,e2,e3,e4⟩:=uh HN w1 hg1;have ke:=aa hg1;clear hg1 qT b4;go_wp2_with fail;go_quiet (fail);obtain⟨w2,ig⟩:=abV (w1.drewN nq);have hg2:=aa (show x.grownBy w2 none by rw[<-ig];exact gdw (uh ke) _);rw[ig];clear ig b6 b7 e2 e3 e4 ke lB lE s4;have H2:=aa ((uh H').on (uh hg2));have b6:=(uh HN w2 (uh hg2)).b6;have cr:=aa (PO gI cI m I w2 (uh H2).ab.aj hm k0 k1 h2);obtain⟨J,hJ⟩:=abV (Gd.l7 I 40 (I m 2) m);rw[hJ]at cr;have oz:=aa hJ;have hB:=aa (fun (y:World) (hy:w2.grownBy y (some gI))=>IU (di (Frame.refl ar x) (uh hg2)) hy uq);clear hJ uq k0 k1 h2 hm;go_wp2_with fail;refine(uh cr).mono ?_;rintro e w3 ⟨rfl,hL3,dl⟩;have ah:=aa (show Gd.eE w3 B gC gE gI cC cE cI s g c E J/\Frame ar x w3 from⟨(uh H2).aj dl hL3,uh hB w3 dl⟩);clear hL3 dl cr b6;go_wp2
 go_end0
 exact⟨rfl,by rw[uh oz];exact(uh ah).1,(uh ah).2⟩
theorem Nd(ar:Nat->Prop)(B gC gE gI cC cE cI k t m:Nat)(s g c:N1)(E I:N2)(x:World)(H:Gd.eE x B gC gE gI cC cE cI s g c E I)(hk:k<32)(ht:t<4)(he:E k 2=(t:Int))(hc:∀i,0<=c i/\c i<=255)(uq:¬ar gI)(hm:m<40)(MW:¬ar B)(h4:I m 0=4)(g0:0<=g t)(g1:g t<=999)(hw:Gd.jt I (t:Int) (E k 3) (E k 4) (decide (Gr.at 384 c (E k 3) (E k 4)=5)) (g t) 5=(m:Int)):Calls prog 170 #[.pointer (some ⟨B,0,none⟩),.pointer (some ⟨gE,k*11,none⟩),.int .i64 5] x (Gd.pL ar x B gC gE gI cC cE cI s (Gd.jw g t (min (g t+5) 999)) c E (En.put I m Gd.mN)):=by
 have cw:=fW B gC gE gI cC cI k t (E k 3) (E k 4) (g t) 5 c I x (H.eG hk ht he) H.ab.lg hc H.ab.fo;rw[hw]at cw;have qT:=aa cw;have H':=aa H;have HN:=aa (fun (y:World) (hy:x.grownBy y none)=>(H.on hy).eG hk ht he);have mf:(m:Int)<40:=by omega
 have oA:(t:Int)<4:=by omega
 clear H hc hw he cw;go_enter func170,ntmps170;go_wp2_with fail;refine aaR (uh qT) fun w1 hg1=>?_;obtain⟨lB,lE,Hb,s4,b4,b6,b7,e2,e3,e4⟩:=uh HN w1 hg1;have ke:=aa hg1;clear hg1 qT b4;go_wp2_with fail;go_quiet (fail);obtain⟨w2,ig⟩:=abV (w1.drewN nq);have hg2:=aa (show x.grownBy w2 none by rw[<-ig];exact gdw (uh ke) _);rw[ig];clear ig b6 b7 e2 e3 e4 ke lB lE s4;have H2:=(uh H').on (uh hg2);obtain⟨i0,i1,i2,i3⟩:=H2.ab.fo.row hm;rw[h4]at i0;have b7:=(uh HN w2 (uh hg2)).b7;have fB:=H2.box.free;have fI:=H2.ab.aj.free;have aaM:=H2.bI;have abA:=aaM.symm;have hH:=aa (fun v (hv:v=min (g t+5) 999)=>show Gd.eE _ B gC gE gI cC cE cI s (Gd.jw g t (min (g t+5) 999)) c E (En.put I m Gd.mN) by rw[<-hv,<-Gd.ns];exact(H2.ir t ht v).put m 0 0 0 0);have hB:=aa (fun (v:Value)=>lr (iq (di (Frame.refl ar x) (uh hg2)) B (7+t) MW v) uq m (.int .i64 0) (.int .i64 0) (.int .i64 0) (.int .i64 0));clear MW uq H2 h4;go_wp2
 all_goals
  go_end0
  exact⟨rfl,uh hH _ (by omega),uh hB _⟩
theorem Nc(ar:Nat->Prop)(B gC gE gI cC cE cI k t m:Nat)(s g c:N1)(E I:N2)(x:World)(H:Gd.eE x B gC gE gI cC cE cI s g c E I)(hk:k<32)(ht:t<4)(he:E k 2=(t:Int))(hc:∀i,0<=c i/\c i<=255)(uq:¬ar gI)(hm:m<40)(hw:Gd.jt I (t:Int) (E k 3) (E k 4) (decide (Gr.at 384 c (E k 3) (E k 4)=5)) (g t) 8=(m:Int)):Calls prog 170 #[.pointer (some ⟨B,0,none⟩),.pointer (some ⟨gE,k*11,none⟩),.int .i64 8] x (Gd.pL ar x B gC gE gI cC cE cI s g c E (En.put I m (Gd.row (I m 0) 1 (E k 3) (E k 4)))):=by
 have cw:=fW B gC gE gI cC cI k t (E k 3) (E k 4) (g t) 8 c I x (H.eG hk ht he) H.ab.lg hc H.ab.fo;rw[hw]at cw;have qT:=aa cw;have H':=aa H;have HN:=aa (fun (y:World) (hy:x.grownBy y none)=>(H.on hy).eG hk ht he);have mf:(m:Int)<40:=by omega
 have oA:(t:Int)<4:=by omega
 clear H hc hw he cw;go_enter func170,ntmps170;go_wp2_with fail;refine aaR (uh qT) fun w1 hg1=>?_;obtain⟨lB,lE,Hb,s4,b4,b6,b7,e2,e3,e4⟩:=uh HN w1 hg1;have ke:=aa hg1;clear hg1 qT b4;go_wp2_with fail;go_quiet (fail);obtain⟨w2,ig⟩:=abV (w1.drewN nq);have hg2:=aa (show x.grownBy w2 none by rw[<-ig];exact gdw (uh ke) _);rw[ig];clear ig b6 b7 e2 e3 e4 ke lB lE s4;have H2:=aa ((uh H').on (uh hg2));have dc:Hid (∀y,Hid (w2.grownBy y none)->(y.cell? ⟨gI,m*4,none⟩=some (.int .i64 (I m 0))/\y.cell? ⟨gI,m*4+1,none⟩=some (.int .i64 (I m 1))/\y.cell? ⟨gI,m*4+2,none⟩=some (.int .i64 (I m 2))/\y.cell? ⟨gI,m*4+3,none⟩=some (.int .i64 (I m 3)))/\y.frozen? ⟨gI,m*4,none⟩=false/\y.frozen? ⟨gI,m*4+1,none⟩=false/\y.frozen? ⟨gI,m*4+2,none⟩=false/\y.frozen? ⟨gI,m*4+3,none⟩=false):=fun y hy =>
  have h3:=fun j=>((uh H2).on (uh hy)).ab.aj.free j
  ⟨((uh H2).on (uh hy)).ab.fo.row hm,h3 _,h3 _,h3 _,h3 _⟩
 have cu:Hid (∀y,Hid (w2.grownBy y none)->Calls prog 185 #[.pointer (some ⟨gE,k*11,none⟩)] y fun e w'=>e=.returned (.agg #[.int .i64 1,.int .i64 (E k 3),.int .i64 (E k 4)])/\Hid (w2.grownBy w' none)):=fun y hy =>
  have n:=uh HN y (gtr (uh hg2) (uh hy))
  (yL gE (k*11) (E k 3) (E k 4) y n.e3 n.e4 n.lE).mono fun e w' ⟨h1,h2⟩=>⟨h1,gtr (uh hy) h2⟩
 have cm:Hid (∀y,Hid (w2.grownBy y none)->Calls prog 183 #[.agg #[.int .i64 (I m 0),.int .i64 (I m 1),.int .i64 (I m 2),.int .i64 (I m 3)],.agg #[.int .i64 1,.int .i64 (E k 3),.int .i64 (E k 4)]] y fun e w'=>e=.returned (.agg #[.int .i64 (I m 0),.int .i64 1,.int .i64 (E k 3),.int .i64 (E k 4)])/\Hid (w2.grownBy w' none)):=fun y hy=>(kY _ _ _ _ _ _ _ y).mono fun e w' ⟨h1,h2⟩=>⟨h1,gtr (uh hy) h2⟩;have hd:Hid (w2.grownBy w2.drew none):=gd1 (abF _ _);obtain⟨⟨x0,x1,x2,x3⟩,y0,y1,y2,y3⟩:=uh dc w2 (abF _ _);have hB:=aa (fun (y:World) (hy:w2.grownBy y none) (v0 v1 v2 v3:Value)=>lr (di (di (Frame.refl ar x) (uh hg2)) hy) uq m v0 v1 v2 v3);clear uq hm;go_wp2_with fail
 go_region_with (first| (go_at_call 185;refine aaR (uh cu _ hd) fun w3 dl=>?_;obtain⟨⟨z0,z1,z2,z3⟩,f0,f1,f2,f3⟩:=uh dc w3 dl)|(go_at_call 183;refine aaR (uh cm _ dl) fun w4 hg4=>?_;obtain⟨⟨z0,z1,z2,z3⟩,f0,f1,f2,f3⟩:=uh dc w4 hg4))
 all_goals
  have hH:=aa (((uh H2).on (uh hg4)).put m (I m 0) 1 (E k 3) (E k 4));have Wh:=aa (uh hB w4 (uh hg4) (.int .i64 (I m 0)) (.int .i64 1) (.int .i64 (E k 3)) (.int .i64 (E k 4)));go_wp2
  go_end0
  exact⟨rfl,uh hH,uh Wh⟩
theorem Ng(ar:Nat->Prop)(B gC gE gI cC cE cI k t m:Nat)(s g c:N1)(E I:N2)(x:World)(H:Gd.eE x B gC gE gI cC cE cI s g c E I)(hk:k<32)(ht:t<4)(he:E k 2=(t:Int))(hc:∀i,0<=c i/\c i<=255)(uq:¬ar gI)(hm:m<40)(MW:¬ar B)(g0:0<=g t)(g1:g t<=999)(h4:¬I m 0=4)(XQ:I m 1=1)(f:Nat)(hf:Gd.cY I 40 (t:Int)=(f:Int))(hw:Gd.jt I (t:Int) (E k 3) (E k 4) (decide (Gr.at 384 c (E k 3) (E k 4)=5)) (g t) 5=(m:Int)):Calls prog 170 #[.pointer (some ⟨B,0,none⟩),.pointer (some ⟨gE,k*11,none⟩),.int .i64 5] x (Gd.pL ar x B gC gE gI cC cE cI s (Gd.jw g t (g t)) c E (En.put I m (Gd.row (I m 0) 2 (t:Int) (f:Int)))):=by
 have cw:=fW B gC gE gI cC cI k t (E k 3) (E k 4) (g t) 5 c I x (H.eG hk ht he) H.ab.lg hc H.ab.fo;rw[hw]at cw;have qT:=aa cw;have H':=aa H;have HN:=aa (fun (y:World) (hy:x.grownBy y none)=>(H.on hy).eG hk ht he);have mf:(m:Int)<40:=by omega
 have oA:(t:Int)<4:=by omega
 have xn:=aa he;have I7:(I m 0==4)=false:=by simp[h4]
 clear H hc hw he cw;go_enter func170,ntmps170;go_wp2_with fail;refine aaR (uh qT) fun w1 hg1=>?_;obtain⟨lB,lE,Hb,s4,b4,b6,b7,e2,e3,e4⟩:=uh HN w1 hg1;have ke:=aa hg1;clear hg1 qT b4;go_wp2_with fail;go_quiet (fail);obtain⟨w2,ig⟩:=abV (w1.drewN nq);have hg2:=aa (show x.grownBy w2 none by rw[<-ig];exact gdw (uh ke) _);rw[ig];clear ig b6 b7 e2 e3 e4 ke lB lE s4;have H2:=aa ((uh H').on (uh hg2));obtain⟨i0,i1,i2,i3⟩:=(uh H2).ab.fo.row hm;have n2:=uh HN w2 (uh hg2);have lB:=n2.lB;have lE:=n2.lE;have b6:=n2.b6;have e2:=n2.e2;clear n2;go_wp2_with fail;refine bF (by kernel_rfl) (by kernel_rfl) ?_;intro St hS W hJ hx;have c6:∀σ,(W σ).cell? ⟨B,6,none⟩=some (.slice (some ⟨gI,0,none⟩) 40 cI):=fun σ=>(gce (hJ σ) B 6 lB (by simp)).trans b6;have c2:∀σ,(W σ).cell? ⟨gE,k*11+2,none⟩=some (.int .i64 (t:Int)):=fun σ=>(gce (hJ σ) gE _ lE (by simp)).trans e2;have ca:∀σ,Calls prog 181 #[.slice (some ⟨gI,0,none⟩) 40 cI,.int .i64 (t:Int)] (W σ) fun e sc=>e=.returned (.int .i64 (f:Int))/\∃σ',sc=W σ':=fun σ=>by
  have h:=kM gI 40 cI I (t:Int) (W σ) ((uh H2).on (hJ σ)).ab.fo;rw[hf]at h;exact bQ hJ hx h
 have oz:=aa hJ;clear hJ hx b6 e2 hf i0 i1 i2 i3
 repeat (go_big_quiet_step ((go_at_call 181;exact ca _)))
 refine wpQuiet_nil ?_;rintro _ ⟨σ,rfl⟩;obtain⟨w3,nT⟩:=abV (W σ);have dl:=aa (show x.grownBy w3 none by rw[<-nT];exact gtr (uh hg2) (uh oz σ));rw[nT];clear c6 c2 ca oz nT H2 hg2;clear σ W hS St;have fb:¬(f:Int)<0:=by omega
 have H3:=aa ((uh H').on (uh dl));have sS:IntKind.i64.wrap (g t)=g t:=by rw[abK];omega
 have dc:Hid (∀y,Hid (w3.grownBy y none)->((y.cell? ⟨gI,m*4,none⟩=some (.int .i64 (I m 0))/\y.cell? ⟨gI,m*4+1,none⟩=some (.int .i64 1)/\y.cell? ⟨gI,m*4+2,none⟩=some (.int .i64 (I m 2))/\y.cell? ⟨gI,m*4+3,none⟩=some (.int .i64 (I m 3)))/\y.cell? ⟨B,7+t,none⟩=some (.int .i64 (g t)))/\y.frozen? ⟨B,7+t,none⟩=false):=fun y hy=>by
  have r:=((uh H3).on (uh hy)).ab.fo.row hm;rw[XQ]at r;exact⟨⟨r,(uh HN y (gtr (uh dl) (uh hy))).b7⟩,((uh H3).on (uh hy)).box.free _⟩
 have cp:Hid (∀y,Hid (w3.grownBy y none)->Calls prog 182 #[.agg #[.int .i64 (I m 0),.int .i64 1,.int .i64 (I m 2),.int .i64 (I m 3)]] y fun e w'=>e=.returned (.int .i64 0)/\Hid (w3.grownBy w' none)):=fun y hy=>(yx (I m 0) 1 (I m 2) (I m 3) y).mono fun e w' ⟨h1,h2⟩=>⟨h1,gtr (uh hy) h2⟩;have hd:Hid (w3.grownBy w3.drew none):=gd1 (abF _ _);obtain⟨⟨⟨x0,x1,x2,x3⟩,x4⟩,x5⟩:=uh dc w3 (abF _ _);have hB:=aa (fun (y:World) (hy:w3.grownBy y none) (v:Value)=>iq (di (di (Frame.refl ar x) (uh dl)) hy) B (7+t) MW v);go_upto_region 14 with fail;go_cut [] from 67 (fun wx=>Hid (Gd.eE wx B gC gE gI cC cE cI s (Gd.jw g t (g t)) c E I)/\Hid (Frame ar x wx))
 case first =>
  go_region_with (first| (go_at_call 182;refine aaR (uh cp _ hd) fun w4 hg4=>?_;obtain⟨⟨⟨z0,z1,z2,z3⟩,z4⟩,z5⟩:=uh dc w4 hg4))
  all_goals
   go_wp2_with fail;go_meet;exact⟨((uh H3).on (uh hg4)).ir t ht (g t),uh hB w4 (uh hg4) _⟩
 case rest =>
  obtain⟨H5,Zs⟩:=hcut;clear dc cp hd x0 x1 x2 x3 x4 x5 hB XQ sS;have jk:Hid (∀y,Hid (wc.grownBy y none)->((y.cell? ⟨gI,m*4,none⟩=some (.int .i64 (I m 0))/\y.cell? ⟨gI,m*4+1,none⟩=some (.int .i64 (I m 1))/\y.cell? ⟨gI,m*4+2,none⟩=some (.int .i64 (I m 2))/\y.cell? ⟨gI,m*4+3,none⟩=some (.int .i64 (I m 3)))/\y.cell? ⟨gE,k*11+2,none⟩=some (.int .i64 (t:Int)))/\y.frozen? ⟨gI,m*4,none⟩=false/\y.frozen? ⟨gI,m*4+1,none⟩=false/\y.frozen? ⟨gI,m*4+2,none⟩=false/\y.frozen? ⟨gI,m*4+3,none⟩=false):=fun y hy =>
   have h3:=fun j=>((uh H5).on (uh hy)).ab.aj.free j
   ⟨⟨((uh H5).on (uh hy)).ab.fo.row hm,(((uh H5).on (uh hy)).eG Hb ht (uh xn)).e2⟩,h3 _,h3 _,h3 _,h3 _⟩
  have cm:Hid (∀y,Hid (wc.grownBy y none)->Calls prog 183 #[.agg #[.int .i64 (I m 0),.int .i64 (I m 1),.int .i64 (I m 2),.int .i64 (I m 3)],.agg #[.int .i64 2,.int .i64 (t:Int),.int .i64 (f:Int)]] y fun e w'=>e=.returned (.agg #[.int .i64 (I m 0),.int .i64 2,.int .i64 (t:Int),.int .i64 (f:Int)])/\Hid (wc.grownBy w' none)):=fun y hy=>(kY _ _ _ _ _ _ _ y).mono fun e w' ⟨h1,h2⟩=>⟨h1,gtr (uh hy) h2⟩;have hd:Hid (wc.grownBy wc.drew none):=gd1 (abF _ _);obtain⟨⟨⟨x0,x1,x2,x3⟩,x4⟩,y0,y1,y2,y3⟩:=uh jk wc (abF _ _);have pA:=aa (fun (y:World) (hy:wc.grownBy y none) (v0 v1 v2 v3:Value)=>lr (di (uh Zs) hy) uq m v0 v1 v2 v3);clear MW uq hm;go_wp2_with fail
  go_region_with (first| (go_at_call 183;refine aaR (uh cm _ hd) fun w4 hg4=>?_;obtain⟨⟨⟨z0,z1,z2,z3⟩,z4⟩,f0,f1,f2,f3⟩:=uh jk w4 hg4))
  all_goals
   have hH:=aa (((uh H5).on (uh hg4)).put m (I m 0) 2 (t:Int) (f:Int));have Wh:=aa (uh pA w4 (uh hg4) (.int .i64 (I m 0)) (.int .i64 2) (.int .i64 (t:Int)) (.int .i64 (f:Int)));go_wp2
   go_end0
   exact⟨rfl,uh hH,uh Wh⟩
theorem Qo(ar:Nat->Prop)(B gC gE gI cC cE cI k t m:Nat)(s g c:N1)(E I:N2)(x:World)(H:Gd.eE x B gC gE gI cC cE cI s g c E I)(hk:k<32)(ht:t<4)(he:E k 2=(t:Int))(hc:∀i,0<=c i/\c i<=255)(uq:¬ar gI)(hm:m<40)(MW:¬ar B)(g0:0<=g t)(g1:g t<=999)(XQ:I m 1=4)(f:Nat)(hf:Gd.cY I 40 (t:Int)=(f:Int))(hw:Gd.jt I (t:Int) (E k 3) (E k 4) (decide (Gr.at 384 c (E k 3) (E k 4)=5)) (g t) 10=(m:Int)):Calls prog 170 #[.pointer (some ⟨B,0,none⟩),.pointer (some ⟨gE,k*11,none⟩),.int .i64 10] x (Gd.pL ar x B gC gE gI cC cE cI s (Gd.jw g t (g t-5)) c E (En.put I m (Gd.row (I m 0) 2 (t:Int) (f:Int)))):=by
 have cw:=fW B gC gE gI cC cI k t (E k 3) (E k 4) (g t) 10 c I x (H.eG hk ht he) H.ab.lg hc H.ab.fo;rw[hw]at cw;have qT:=aa cw;have H':=aa H;have HN:=aa (fun (y:World) (hy:x.grownBy y none)=>(H.on hy).eG hk ht he);have mf:(m:Int)<40:=by omega
 have oA:(t:Int)<4:=by omega
 have xn:=aa he;clear H hc hw he cw;go_enter func170,ntmps170;go_wp2_with fail;refine aaR (uh qT) fun w1 hg1=>?_;obtain⟨lB,lE,Hb,s4,b4,b6,b7,e2,e3,e4⟩:=uh HN w1 hg1;have ke:=aa hg1;clear hg1 qT b4;go_wp2_with fail;go_quiet (fail);obtain⟨w2,ig⟩:=abV (w1.drewN nq);have hg2:=aa (show x.grownBy w2 none by rw[<-ig];exact gdw (uh ke) _);rw[ig];clear ig b6 b7 e2 e3 e4 ke lB lE s4;have H2:=aa ((uh H').on (uh hg2));obtain⟨i0,i1,i2,i3⟩:=(uh H2).ab.fo.row hm;have n2:=uh HN w2 (uh hg2);have lB:=n2.lB;have lE:=n2.lE;have b6:=n2.b6;have e2:=n2.e2;clear n2;go_wp2_with fail;refine bF (by kernel_rfl) (by kernel_rfl) ?_;intro St hS W hJ hx;have c6:∀σ,(W σ).cell? ⟨B,6,none⟩=some (.slice (some ⟨gI,0,none⟩) 40 cI):=fun σ=>(gce (hJ σ) B 6 lB (by simp)).trans b6;have c2:∀σ,(W σ).cell? ⟨gE,k*11+2,none⟩=some (.int .i64 (t:Int)):=fun σ=>(gce (hJ σ) gE _ lE (by simp)).trans e2;have ca:∀σ,Calls prog 181 #[.slice (some ⟨gI,0,none⟩) 40 cI,.int .i64 (t:Int)] (W σ) fun e sc=>e=.returned (.int .i64 (f:Int))/\∃σ',sc=W σ':=fun σ=>by
  have h:=kM gI 40 cI I (t:Int) (W σ) ((uh H2).on (hJ σ)).ab.fo;rw[hf]at h;exact bQ hJ hx h
 have oz:=aa hJ;clear hJ hx b6 e2 hf i0 i1 i2 i3
 repeat (go_big_quiet_step ((go_at_call 181;exact ca _)))
 refine wpQuiet_nil ?_;rintro _ ⟨σ,rfl⟩;obtain⟨w3,nT⟩:=abV (W σ);have dl:=aa (show x.grownBy w3 none by rw[<-nT];exact gtr (uh hg2) (uh oz σ));rw[nT];clear c6 c2 ca oz nT H2 hg2;clear σ W hS St;have fb:¬(f:Int)<0:=by omega
 have H3:=aa ((uh H').on (uh dl));have sS:IntKind.i64.wrap (g t-5)=g t-5:=by rw[abK];omega
 have dc:Hid (∀y,Hid (w3.grownBy y none)->((y.cell? ⟨gI,m*4,none⟩=some (.int .i64 (I m 0))/\y.cell? ⟨gI,m*4+1,none⟩=some (.int .i64 4)/\y.cell? ⟨gI,m*4+2,none⟩=some (.int .i64 (I m 2))/\y.cell? ⟨gI,m*4+3,none⟩=some (.int .i64 (I m 3)))/\y.cell? ⟨B,7+t,none⟩=some (.int .i64 (g t)))/\y.frozen? ⟨B,7+t,none⟩=false):=fun y hy=>by
  have r:=((uh H3).on (uh hy)).ab.fo.row hm;rw[XQ]at r;exact⟨⟨r,(uh HN y (gtr (uh dl) (uh hy))).b7⟩,((uh H3).on (uh hy)).box.free _⟩
 have cp:Hid (∀y,Hid (w3.grownBy y none)->Calls prog 182 #[.agg #[.int .i64 (I m 0),.int .i64 4,.int .i64 (I m 2),.int .i64 (I m 3)]] y fun e w'=>e=.returned (.int .i64 5)/\Hid (w3.grownBy w' none)):=fun y hy=>(yx (I m 0) 4 (I m 2) (I m 3) y).mono fun e w' ⟨h1,h2⟩=>⟨h1,gtr (uh hy) h2⟩;have hd:Hid (w3.grownBy w3.drew none):=gd1 (abF _ _);obtain⟨⟨⟨x0,x1,x2,x3⟩,x4⟩,x5⟩:=uh dc w3 (abF _ _);have hB:=aa (fun (y:World) (hy:w3.grownBy y none) (v:Value)=>iq (di (di (Frame.refl ar x) (uh dl)) hy) B (7+t) MW v);go_upto_region 14 with fail;go_cut [] from 67 (fun wx=>Hid (Gd.eE wx B gC gE gI cC cE cI s (Gd.jw g t (g t-5)) c E I)/\Hid (Frame ar x wx))
 case first =>
  go_region_with (first| (go_at_call 182;refine aaR (uh cp _ hd) fun w4 hg4=>?_;obtain⟨⟨⟨z0,z1,z2,z3⟩,z4⟩,z5⟩:=uh dc w4 hg4))
  all_goals
   go_wp2_with fail;go_meet;exact⟨((uh H3).on (uh hg4)).ir t ht (g t-5),uh hB w4 (uh hg4) _⟩
 case rest =>
  obtain⟨H5,Zs⟩:=hcut;clear dc cp hd x0 x1 x2 x3 x4 x5 hB XQ sS;have jk:Hid (∀y,Hid (wc.grownBy y none)->((y.cell? ⟨gI,m*4,none⟩=some (.int .i64 (I m 0))/\y.cell? ⟨gI,m*4+1,none⟩=some (.int .i64 (I m 1))/\y.cell? ⟨gI,m*4+2,none⟩=some (.int .i64 (I m 2))/\y.cell? ⟨gI,m*4+3,none⟩=some (.int .i64 (I m 3)))/\y.cell? ⟨gE,k*11+2,none⟩=some (.int .i64 (t:Int)))/\y.frozen? ⟨gI,m*4,none⟩=false/\y.frozen? ⟨gI,m*4+1,none⟩=false/\y.frozen? ⟨gI,m*4+2,none⟩=false/\y.frozen? ⟨gI,m*4+3,none⟩=false):=fun y hy =>
   have h3:=fun j=>((uh H5).on (uh hy)).ab.aj.free j
   ⟨⟨((uh H5).on (uh hy)).ab.fo.row hm,(((uh H5).on (uh hy)).eG Hb ht (uh xn)).e2⟩,h3 _,h3 _,h3 _,h3 _⟩
  have cm:Hid (∀y,Hid (wc.grownBy y none)->Calls prog 183 #[.agg #[.int .i64 (I m 0),.int .i64 (I m 1),.int .i64 (I m 2),.int .i64 (I m 3)],.agg #[.int .i64 2,.int .i64 (t:Int),.int .i64 (f:Int)]] y fun e w'=>e=.returned (.agg #[.int .i64 (I m 0),.int .i64 2,.int .i64 (t:Int),.int .i64 (f:Int)])/\Hid (wc.grownBy w' none)):=fun y hy=>(kY _ _ _ _ _ _ _ y).mono fun e w' ⟨h1,h2⟩=>⟨h1,gtr (uh hy) h2⟩;have hd:Hid (wc.grownBy wc.drew none):=gd1 (abF _ _);obtain⟨⟨⟨x0,x1,x2,x3⟩,x4⟩,y0,y1,y2,y3⟩:=uh jk wc (abF _ _);have pA:=aa (fun (y:World) (hy:wc.grownBy y none) (v0 v1 v2 v3:Value)=>lr (di (uh Zs) hy) uq m v0 v1 v2 v3);clear MW uq hm;go_wp2_with fail
  go_region_with (first| (go_at_call 183;refine aaR (uh cm _ hd) fun w4 hg4=>?_;obtain⟨⟨⟨z0,z1,z2,z3⟩,z4⟩,f0,f1,f2,f3⟩:=uh jk w4 hg4))
  all_goals
   have hH:=aa (((uh H5).on (uh hg4)).put m (I m 0) 2 (t:Int) (f:Int));have Wh:=aa (uh pA w4 (uh hg4) (.int .i64 (I m 0)) (.int .i64 2) (.int .i64 (t:Int)) (.int .i64 (f:Int)));go_wp2
   go_end0
   exact⟨rfl,uh hH,uh Wh⟩
theorem wY(ar:Nat->Prop)(B gC gE gI cC cE cI k t m:Nat)(s g c:N1)(E I:N2)(x:World)(H:Gd.eE x B gC gE gI cC cE cI s g c E I)(hk:k<32)(ht:t<4)(he:E k 2=(t:Int))(hc:∀i,0<=c i/\c i<=255)(hm:m<40)(h4:¬I m 0=4)(hf:Gd.cY I 40 (t:Int)<0)(hw:Gd.jt I (t:Int) (E k 3) (E k 4) (decide (Gr.at 384 c (E k 3) (E k 4)=5)) (g t) 5=(m:Int)):Calls prog 170 #[.pointer (some ⟨B,0,none⟩),.pointer (some ⟨gE,k*11,none⟩),.int .i64 5] x (Gd.pL ar x B gC gE gI cC cE cI s g c E I):=by
 have cw:=fW B gC gE gI cC cI k t (E k 3) (E k 4) (g t) 5 c I x (H.eG hk ht he) H.ab.lg hc H.ab.fo;rw[hw]at cw;have qT:=aa cw;have H':=aa H;have HN:=aa (fun (y:World) (hy:x.grownBy y none)=>(H.on hy).eG hk ht he);have mf:(m:Int)<40:=by omega
 have oA:(t:Int)<4:=by omega
 obtain⟨ff,Jm⟩:=abV (Gd.cY I 40 (t:Int));rw[Jm]at hf;clear H hc hw he cw;go_enter func170,ntmps170;go_wp2_with fail;refine aaR (uh qT) fun w1 hg1=>?_;obtain⟨lB,lE,Hb,s4,b4,b6,b7,e2,e3,e4⟩:=uh HN w1 hg1;have ke:=aa hg1;clear hg1 qT b4;go_wp2_with fail;go_quiet (fail);obtain⟨w2,ig⟩:=abV (w1.drewN nq);have hg2:=aa (show x.grownBy w2 none by rw[<-ig];exact gdw (uh ke) _);rw[ig];clear ig b6 b7 e2 e3 e4 ke lB lE s4;have H2:=aa ((uh H').on (uh hg2));obtain⟨i0,i1,i2,i3⟩:=(uh H2).ab.fo.row hm;have n2:=uh HN w2 (uh hg2);have lB:=n2.lB;have lE:=n2.lE;have b6:=n2.b6;have e2:=n2.e2;clear n2;go_wp2_with fail;refine bF (by kernel_rfl) (by kernel_rfl) ?_;intro St hS W hJ hx;have c6:∀σ,(W σ).cell? ⟨B,6,none⟩=some (.slice (some ⟨gI,0,none⟩) 40 cI):=fun σ=>(gce (hJ σ) B 6 lB (by simp)).trans b6;have c2:∀σ,(W σ).cell? ⟨gE,k*11+2,none⟩=some (.int .i64 (t:Int)):=fun σ=>(gce (hJ σ) gE _ lE (by simp)).trans e2;have ca:∀σ,Calls prog 181 #[.slice (some ⟨gI,0,none⟩) 40 cI,.int .i64 (t:Int)] (W σ) fun e sc=>e=.returned (.int .i64 ff)/\∃σ',sc=W σ':=fun σ=>by
  have h:=kM gI 40 cI I (t:Int) (W σ) ((uh H2).on (hJ σ)).ab.fo;rw[Jm]at h;exact bQ hJ hx h
 have oz:=aa hJ;clear hJ hx b6 e2 Jm i0 i1 i2 i3
 repeat (go_big_quiet_step ((go_at_call 181;exact ca _)))
 refine wpQuiet_nil ?_;rintro _ ⟨σ,rfl⟩;obtain⟨w3,nT⟩:=abV (W σ);have dl:=aa (show x.grownBy w3 none by rw[<-nT];exact gtr (uh hg2) (uh oz σ));rw[nT];clear c6 c2 ca oz nT H2 hg2;clear σ W hS St;have ah:=aa (show Gd.eE w3 B gC gE gI cC cE cI s g c E I/\Frame ar x w3 from⟨(uh H').on (uh dl),di (Frame.refl _ _) (uh dl)⟩);go_wp2
 go_end0
 exact⟨rfl,(uh ah).1,(uh ah).2⟩
theorem yX(ar:Nat->Prop)(B gC gE gI cC cE cI k t m:Nat)(s g c:N1)(E I:N2)(x:World)(H:Gd.eE x B gC gE gI cC cE cI s g c E I)(hk:k<32)(ht:t<4)(he:E k 2=(t:Int))(hc:∀i,0<=c i/\c i<=255)(hm:m<40)(hf:Gd.cY I 40 (t:Int)<0)(hw:Gd.jt I (t:Int) (E k 3) (E k 4) (decide (Gr.at 384 c (E k 3) (E k 4)=5)) (g t) 10=(m:Int)):Calls prog 170 #[.pointer (some ⟨B,0,none⟩),.pointer (some ⟨gE,k*11,none⟩),.int .i64 10] x (Gd.pL ar x B gC gE gI cC cE cI s g c E I):=by
 have cw:=fW B gC gE gI cC cI k t (E k 3) (E k 4) (g t) 10 c I x (H.eG hk ht he) H.ab.lg hc H.ab.fo;rw[hw]at cw;have qT:=aa cw;have H':=aa H;have HN:=aa (fun (y:World) (hy:x.grownBy y none)=>(H.on hy).eG hk ht he);have mf:(m:Int)<40:=by omega
 have oA:(t:Int)<4:=by omega
 obtain⟨ff,Jm⟩:=abV (Gd.cY I 40 (t:Int));rw[Jm]at hf;clear H hc hw he cw;go_enter func170,ntmps170;go_wp2_with fail;refine aaR (uh qT) fun w1 hg1=>?_;obtain⟨lB,lE,Hb,s4,b4,b6,b7,e2,e3,e4⟩:=uh HN w1 hg1;have ke:=aa hg1;clear hg1 qT b4;go_wp2_with fail;go_quiet (fail);obtain⟨w2,ig⟩:=abV (w1.drewN nq);have hg2:=aa (show x.grownBy w2 none by rw[<-ig];exact gdw (uh ke) _);rw[ig];clear ig b6 b7 e2 e3 e4 ke lB lE s4;have H2:=aa ((uh H').on (uh hg2));obtain⟨i0,i1,i2,i3⟩:=(uh H2).ab.fo.row hm;have n2:=uh HN w2 (uh hg2);have lB:=n2.lB;have lE:=n2.lE;have b6:=n2.b6;have e2:=n2.e2;clear n2;go_wp2_with fail;refine bF (by kernel_rfl) (by kernel_rfl) ?_;intro St hS W hJ hx;have c6:∀σ,(W σ).cell? ⟨B,6,none⟩=some (.slice (some ⟨gI,0,none⟩) 40 cI):=fun σ=>(gce (hJ σ) B 6 lB (by simp)).trans b6;have c2:∀σ,(W σ).cell? ⟨gE,k*11+2,none⟩=some (.int .i64 (t:Int)):=fun σ=>(gce (hJ σ) gE _ lE (by simp)).trans e2;have ca:∀σ,Calls prog 181 #[.slice (some ⟨gI,0,none⟩) 40 cI,.int .i64 (t:Int)] (W σ) fun e sc=>e=.returned (.int .i64 ff)/\∃σ',sc=W σ':=fun σ=>by
  have h:=kM gI 40 cI I (t:Int) (W σ) ((uh H2).on (hJ σ)).ab.fo;rw[Jm]at h;exact bQ hJ hx h
 have oz:=aa hJ;clear hJ hx b6 e2 Jm i0 i1 i2 i3
 repeat (go_big_quiet_step ((go_at_call 181;exact ca _)))
 refine wpQuiet_nil ?_;rintro _ ⟨σ,rfl⟩;obtain⟨w3,nT⟩:=abV (W σ);have dl:=aa (show x.grownBy w3 none by rw[<-nT];exact gtr (uh hg2) (uh oz σ));rw[nT];clear c6 c2 ca oz nT H2 hg2;clear σ W hS St;have ah:=aa (show Gd.eE w3 B gC gE gI cC cE cI s g c E I/\Frame ar x w3 from⟨(uh H').on (uh dl),di (Frame.refl _ _) (uh dl)⟩);go_wp2
 go_end0
 exact⟨rfl,(uh ah).1,(uh ah).2⟩
