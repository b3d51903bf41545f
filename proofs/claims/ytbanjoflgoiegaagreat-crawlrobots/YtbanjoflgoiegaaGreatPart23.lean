import Derived.Test.YtbanjoflgoiegaaGreatPart22
import Derived.Deep.CutRange
import Derived.Deep.CutBlock
import Derived.Test.YtbanjoflgoiegaaGreatProg
set_option maxHeartbeats 12800000
set_option maxRecDepth 8000
namespace Go.Proofs.YtbanjoflgoiegaaGreat
open Go.Proofs.Tryz
open Go.RowKit
theorem ay.ei(x:World)(e:N1)(T:TypeId):ay (x.alloc (.cells (En.cells e) T)) x.heap.size T 11 (bB e) :=
 ay.congr (m:=11) (ax.lit (abH x (.cells (En.cells e) T))).lie fun j hj=>by
  rcases(show j=0\/j=1\/j=2\/j=3\/j=4\/j=5\/j=6\/j=7\/j=8\/j=9\/j=10 by omega)with rfl|rfl|rfl|rfl|rfl|rfl|rfl|rfl|rfl|rfl|rfl <;> rfl
structure Gd.iz(w x:World)(B gC gE gI cC cE cI:Nat)(s g c:N1)(E I:N2):Prop where
 box:ay x B 30 11 (Gd.box s gC gE gI cC cE cI g)
 ab:Gd.av x gC gE gI c E I
 grown:w.grownBy x none
theorem Gd.iz.on{w x y:World}{B gC gE gI cC cE cI:Nat}{s g c:N1}{E I:N2}(h:Gd.iz w x B gC gE gI cC cE cI s g c E I)(hg:x.grownBy y none):Gd.iz w y B gC gE gI cC cE cI s g c E I :=
 ⟨h.box.on hg,h.ab.on hg,gtr h.grown hg⟩
def Md.aJ(w:World)(p:Int->Prop)(e:Ending)(w':World):Prop:=∃v,p v/\e=.returned (.int .i64 v)/\w.grownBy w' none
theorem Md.zk(f:N1)(bD:Int):∀(n k:Nat),-1<=Gr.findFrom f bD n k/\Gr.findFrom f bD n k<=(k:Int)+n
 | 0,k=>by unfold Gr.findFrom;omega
 | n+1,k=>by
  unfold Gr.findFrom
  have:=Md.zk f bD n (k+1)
  split <;> omega
theorem FB(s g c:N1)(E I:N2)(gC gE gI cC cE cI:Nat)(ag:Int)(w:World)(hL:Gd.av w gC gE gI c E I)(hc:∀i,0<=c i/\c i<=255)(jx:32<=cE)(hE:Md.oF E):Calls prog 38 #[.agg (Gd.world s gC gE gI cC cE cI g),.int .i64 ag] w (Md.aJ w (Md.cB c E I ag)):=by
 obtain⟨w0,aD⟩:∃w0,w0=w.alloc (.cells (Gd.world s gC gE gI cC cE cI g) 30):=⟨_,rfl⟩;have aN:w.grownBy w0 none:=by rw[aD];exact abE _ _ _
 have hO:Hid (Gd.iz w w0 w.heap.size gC gE gI cC cE cI s g c E I):=by
  refine⟨?_,hL.on aN,aN⟩;rw[aD];exact(ax.world (abH w _)).lie
 have fD:=aa hc;have kc:=aa jx;have iQ:=aa hE;have fq:Hid (∀v,Md.cB c E I ag v↔if Gd.aV E ag<0 then v=0 else Md.de c E I ag (Gd.aV E ag).toNat v):=fun v=>Iff.rfl;have ch:=aa (dn gE cE E ag w0 (uh hO).ab.own);have bZ:=aa (@Md.lL E ag);obtain⟨h,hh⟩:=abV (Gd.aV E ag);rw[hh]at ch fq bZ;clear hL hc jx hE aN hh;unfold Gd.world at aD|-;go_enter func38,ntmps38;go_upto_region 1 with fail;rw[<-aD];clear aD;obtain⟨B,hB⟩:=abV w.heap.size;rw[hB]at hO|-;clear hB;have q5:=(uh hO).box.ae.2.2.2.2.2.1;go_wp2_with fail;refine aaR (uh ch) fun w1 hg1=>?_;have oe:=aa ((uh hO).on hg1);clear q5 ch hg1 hO;by_cases dH:h<0
 ·have ah:Hid (Md.aJ w (Md.cB c E I ag) (.returned (.int .i64 0)) w1):=⟨0,(uh fq 0).2 (by rw[abP dH]),rfl,(uh oe).grown⟩;go_wp2;go_ret;exact uh ah
 obtain⟨k,hk,rfl,rJ,-⟩:=uh bZ (by omega)
 have zR:Hid (∀v,Md.de c E I ag k v->Md.cB c E I ag v):=fun v hv=>(uh fq v).2 (by
  rw[abO (by omega),abG]
  exact hv)
 obtain⟨x0,x9,y0,y9,m0,m9⟩:=uh iQ k hk (by omega);have jy:(k:Int)<32:=by omega
 have HK:=aa hk;have q5:=(uh oe).box.ae.2.2.2.2.2.1;obtain⟨u0,u1,u2,u3,u4,u5,u6,u7,u8,u9,iO⟩:=(uh oe).ab.own.ai.row hk;have hQ:=aa (ay.ei w1 (E k) 54);have gK:=aa ((uh oe).on (abE w1 (.cells (En.cells (E k)) 54) none));clear hk rJ dH bZ iQ fq;unfold En.cells at hQ gK;go_upto_region 5 with fail;obtain⟨Q,hQe⟩:=abV w1.heap.size;rw[hQe]at hQ|-;generalize w1.alloc (.cells #[.int .i64 (E k 0),.int .i64 (E k 1),.int .i64 (E k 2),.int .i64 (E k 3),.int .i64 (E k 4),.int .i64 (E k 5),.int .i64 (E k 6),.int .i64 (E k 7),.int .i64 (E k 8),.int .i64 (E k 9),.int .i64 (E k 10)] 54)=w2 at hQ gK|-;clear hQe q5 u0 u1 u2 u3 u4 u5 u6 u7 u8 u9 iO oe;have q4:=(uh gK).box.ae.2.2.2.2.1;have q5:=(uh gK).box.ae.2.2.2.2.2.1;have q6:=(uh gK).box.ae.2.2.2.2.2.2.1;have z3:w2.cell? ⟨Q,3,none⟩=some (.int .i64 (E k 3)):=(uh hQ).cell (c:=3) (by omega);have z4:w2.cell? ⟨Q,4,none⟩=some (.int .i64 (E k 4)):=(uh hQ).cell (c:=4) (by omega);have z5:w2.cell? ⟨Q,5,none⟩=some (.int .i64 (E k 5)):=(uh hQ).cell (c:=5) (by omega);have z6:w2.cell? ⟨Q,6,none⟩=some (.int .i64 (E k 6)):=(uh hQ).cell (c:=6) (by omega);have iG:Hid (∀v,Md.de c E I ag k v↔if E k 5<=E k 6/3/\0<=Gd.lF I 40 ag 1 1 then v=6 else if Nv.wayFrom (Md.lz E (E k 3) (E k 4)) 4 1≠0 then v=Nv.wayFrom (Md.lz E (E k 3) (E k 4)) 4 1 else if 0<=Gd.an I 40 1 (E k 3) (E k 4)/\(I (Gd.an I 40 1 (E k 3) (E k 4)).toNat 0=4\/0<=Gd.cY I 40 ag)then v=5 else if Gr.at 384 c (E k 3) (E k 4)=4 then v=9 else Nv.aW c (fun _=>Gr.an 384 c 4) 1 E 32 (E k 3) (E k 4) v):=fun v=>Iff.rfl;have cP:=aa (lW gI 40 cI I ag w2 (uh gK).ab.fo);obtain⟨P,hP⟩:=abV (Gd.lF I 40 ag 1 1);rw[hP]at cP iG;clear hP;obtain⟨p,hp⟩:∃p:Bool,decide (E k 5<=E k 6/3/\0<=P)=p:=⟨_,rfl⟩;go_cut [35] from 12 to 34 (fun va wx=>va=.bool p/\wx=w2)
 case first =>
  have hd:(E k 6).tdiv 3=E k 6/3:=Int.tdiv_eq_ediv_of_nonneg m0;by_cases h1:E k 5<=E k 6/3
  ·by_cases h2:0<=P
   ·obtain rfl:p=true:=by rw[<-hp];simp[h1,h2]
    go_wp2_with fail;refine abW (uh cP) ?_;go_wp2_with fail;go_meet;exact⟨rfl,rfl⟩
   ·obtain rfl:p=false:=by rw[<-hp];simp[h2]
    go_wp2_with fail;refine abW (uh cP) ?_;go_wp2_with fail;go_meet;exact⟨by simp[h2],rfl⟩
  ·obtain rfl:p=false:=by rw[<-hp];simp[h1]
   go_wp2_with fail;go_meet;exact⟨rfl,rfl⟩
 case rest =>
  obtain⟨rfl,xq⟩:=hcut;subst xq;clear z5 z6 cP m0 m9;cases p;rotate_left
  ·have ah:Hid (Md.aJ w (Md.cB c E I ag) (.returned (.int .i64 6)) wc):=⟨6,uh zR 6 ((uh iG 6).2 (by rw[abP (by simpa using hp)])),rfl,(uh gK).grown⟩;clear hp;go_wp2;go_ret;exact uh ah
  have zy:Hid (∀v,(if Nv.wayFrom (Md.lz E (E k 3) (E k 4)) 4 1≠0 then v=Nv.wayFrom (Md.lz E (E k 3) (E k 4)) 4 1 else if 0<=Gd.an I 40 1 (E k 3) (E k 4)/\(I (Gd.an I 40 1 (E k 3) (E k 4)).toNat 0=4\/0<=Gd.cY I 40 ag)then v=5 else if Gr.at 384 c (E k 3) (E k 4)=4 then v=9 else Nv.aW c (fun _=>Gr.an 384 c 4) 1 E 32 (E k 3) (E k 4) v)->Md.cB c E I ag v):=fun v hv=>uh zR v ((uh iG v).2 (by rw[abO (by simpa using hp)];exact hv));clear hp iG zR;obtain⟨x,hx⟩:=abV (E k 3);obtain⟨y,hy⟩:=abV (E k 4);rw[hx]at z3 x0 x9 zy;rw[hy]at z4 y0 y9 zy;have rq:Hid (∀z,wc.grownBy z none->z.cell? ⟨Q,3,none⟩=some (.int .i64 x)/\z.cell? ⟨Q,4,none⟩=some (.int .i64 y)):=fun z hz=>by
   have h3:=((uh hQ).on hz).cell (c:=3) (by omega);have h4:=((uh hQ).on hz).cell (c:=4) (by omega);rw[<-hx,<-hy];exact⟨h3,h4⟩
  clear hx hy hQ;go_wp2_with fail;go_loopw [7,8,9,10] (fun v7 v8 v9 v10 wr=>∃d:Nat,1<=d/\d<=5/\v7=.int .i64 (d:Int)/\wr=wc/\Hid (∀j,1<=j->j<d->Md.lz E x y j=false)) (fun v7 _ _ _ _=>10-(intOf v7).toNat)
  case atStart=>exact⟨1,by omega,by omega,rfl,rfl,fun j h1 h2=>by omega⟩
  case round =>
   obtain⟨d,zD,SG,rfl,xq,hno⟩:=hrel;subst xq;by_cases hlt:d<=4
   ·have hlt':(d:Int)<=4:=(by omega);have HD:=aa (show 1<=d/\d<=4 from⟨zD,hlt⟩);have cw:=aa (fun wq=>lY (d:Int) wq);obtain⟨s1,s2,s3,s4⟩:=Md.te d;have ca:=aa (eA gE 32 cE E (x+(Fx.bh (d:Int)).1) (y+(Fx.bh (d:Int)).2) wr (uh gK).ab.own.ai);have mQ:=aa (@Md.Lo E x y d);have xo:Hid (Md.lz E x y d=(decide (0<=Md.oB E x y d)&&!(decide (E (Md.oB E x y d).toNat 0=1)))):=rfl;have hwd:Hid (Md.oB E x y d=En.first (En.eM E (x+(Fx.bh (d:Int)).1) (y+(Fx.bh (d:Int)).2)) 32):=rfl;rw[<-uh hwd]at ca;obtain⟨dx,zE⟩:∃z,(Fx.bh (d:Int)).1=z:=⟨_,rfl⟩;obtain⟨dy,zF⟩:∃z,(Fx.bh (d:Int)).2=z:=⟨_,rfl⟩;obtain⟨h,hh⟩:∃z,Md.oB E x y d=z:=⟨_,rfl⟩;rw[zE]at s1 s2 cw ca;rw[zF]at s3 s4 cw ca;rw[hh]at ca mQ xo;clear zE zF hh hwd zD SG hlt;have w1:IntKind.i64.wrap (x+dx)=x+dx:=by rw[abK];omega
    have w2:IntKind.i64.wrap (y+dy)=y+dy:=by rw[abK];omega
    go_wp2_with fail;refine abW (uh cw _) ?_;go_wp2_with fail;refine abW (uh ca) ?_;clear ca cw;rcases uh mQ with rfl|⟨j,hj,rfl⟩
    ·have hf:Hid (Md.lz E x y d=false):=(show Md.lz E x y d=false by rw[uh xo];rfl);clear xo mQ;go_wp2;go_roundw
     case rel=>exact⟨d+1,by omega,by have:=uh HD;omega,by go_num,by first| rfl|trivial,fun j h1 h2=>by
      by_cases e:j=d
      ·rw[e];exact uh hf
      ·exact uh hno j h1 (by omega)⟩
     case measure=>simp[intOf];have:=uh HD;omega
    ·have u0:=((uh gK).ab.own.ai.row hj).1;have zK:(j:Int)<32:=(by omega);rw[abG]at xo;by_cases h1:E j 0=1
     ·have hf:Hid (Md.lz E x y d=false):=(show Md.lz E x y d=false by rw[uh xo,h1];simp);rw[h1]at u0;clear xo mQ h1 hj;go_wp2;go_roundw
      case rel=>exact⟨d+1,by omega,by have:=uh HD;omega,by go_num,by first| rfl|trivial,fun j h1 h2=>by
       by_cases e:j=d
       ·rw[e];exact uh hf
       ·exact uh hno j h1 (by omega)⟩
      case measure=>simp[intOf];have:=uh HD;omega
     ·have hf:Hid (Md.lz E x y d=true):=(show Md.lz E x y d=true by rw[uh xo];simp[h1]);have ot:(E j 0==1)=false:=by simpa using h1
      have hw:Hid (Nv.wayFrom (Md.lz E x y) 4 1=(d:Int)):=Nv.sd 4 d 1 (uh hno) (uh hf) (uh HD).1 (by have:=(uh HD).2;omega);have ah:Hid (Md.aJ w (Md.cB c E I ag) (.returned (.int .i64 (d:Int))) wr):=⟨(d:Int),uh zy _ (by rw[uh hw,abP (by have:=(uh HD).1;omega)]),rfl,(uh gK).grown⟩;clear xo mQ h1 hj hw hf;go_wp2;go_ret;exact uh ah
   ·obtain rfl:d=5:=(by omega);have hge:¬((5:Nat):Int)<=4:=(by omega);have hw:Hid (Nv.wayFrom (Md.lz E x y) 4 1=0):=Nv.ie 4 1 fun j h1 h2=>uh hno j h1 (by omega);have zz:Hid (∀v,(if 0<=Gd.an I 40 1 x y/\(I (Gd.an I 40 1 x y).toNat 0=4\/0<=Gd.cY I 40 ag)then v=5 else if Gr.at 384 c x y=4 then v=9 else Nv.aW c (fun _=>Gr.an 384 c 4) 1 E 32 x y v)->Md.cB c E I ag v):=fun v hv=>uh zy v (by rw[uh hw,abO (by simp)];exact hv);clear hlt zD SG hno hw zy;have ci:=aa (bS gI 40 cI I 1 x y wr (uh gK).ab.fo);have cs:=aa (jJ gI 40 cI I ag wr (uh gK).ab.fo);have Uo:=aa (Gd.fL I 40 1 x y);obtain⟨f,hf⟩:=abV (Gd.an I 40 1 x y);obtain⟨S,hS⟩:=abV (Gd.cY I 40 ag);rw[hf]at ci zz Uo;rw[hS]at cs zz;clear hf hS;obtain⟨p,hp⟩:∃p:Bool,decide (0<=f/\(I f.toNat 0=4\/0<=S))=p:=⟨_,rfl⟩;go_wp2_with fail;refine abW (uh ci) ?_;clear ci;go_upto_region 15 with fail;go_cut [92] from 36 to 91 (fun va wx=>va=.bool p/\wx=wr)
    case first =>
     rcases uh Uo with⟨rfl,-⟩|⟨j,hj,rfl,-⟩
     ·obtain rfl:p=false:=by rw[<-hp];simp
      clear hp Uo;go_wp2_with fail;go_meet;exact⟨rfl,rfl⟩
     ·have v0:=((uh gK).ab.fo.row hj).1;have zK:(j:Int)<40:=(by omega);rw[abG]at hp;clear Uo hj;by_cases h4:I j 0=4
      ·obtain rfl:p=true:=by rw[<-hp];simp[h4]
       rw[h4]at v0;clear hp h4;go_wp2_with fail;go_meet;exact⟨rfl,rfl⟩
      ·have I7:(I j 0==4)=false:=by simpa using h4
       by_cases h5:0<=S
       ·obtain rfl:p=true:=by rw[<-hp];simp[h5]
        clear hp h4;go_wp2_with fail;refine abW (uh cs) ?_;go_wp2_with fail;go_meet;exact⟨by first| rfl|simp[h5],rfl⟩
       ·obtain rfl:p=false:=by rw[<-hp];simp[h4,h5]
        clear hp h4;go_wp2_with fail;refine abW (uh cs) ?_;go_wp2_with fail;go_meet;exact⟨by first| rfl|simp[h5],rfl⟩
    case rest =>
     obtain⟨rfl,xq⟩:=hcut;subst xq;clear cs Uo;cases p;rotate_left
     ·have ah:Hid (Md.aJ w (Md.cB c E I ag) (.returned (.int .i64 5)) wc):=⟨5,uh zz 5 (by rw[abP (by simpa using hp)]),rfl,(uh gK).grown⟩;clear hp;go_wp2;go_ret;exact uh ah
     have zA:Hid (∀v,(if Gr.at 384 c x y=4 then v=9 else Nv.aW c (fun _=>Gr.an 384 c 4) 1 E 32 x y v)->Md.cB c E I ag v):=fun v hv=>uh zz v (by rw[abO (by simpa using hp)];exact hv);have cg:=aa (bM wc.heap.size (some ⟨gC,0,none⟩) 384 cC c x y wc (uh gK).ab.lg (uh fD));obtain⟨a,ha⟩:=abV (Gr.at 384 c x y);rw[ha]at cg zA;clear hp zz ha;go_wp2_with fail;refine abW (uh cg) ?_;clear cg;by_cases h4:a=4
     ·have ah:Hid (Md.aJ w (Md.cB c E I ag) (.returned (.int .i64 9)) wc):=⟨9,uh zA 9 (by rw[abP h4]),rfl,(uh gK).grown⟩;subst h4;go_wp2;go_ret;exact uh ah
     have I7:(a==4)=false:=by simpa using h4
     have vn:Hid (∀v,Nv.aW c (fun _=>Gr.an 384 c 4) 1 E 32 x y v->Md.cB c E I ag v):=fun v hv=>uh zA v (by rw[abO h4];exact hv);clear h4 zA;have cf:=aa (fun z (hz:wc.grownBy z none)=>mD z.heap.size (some ⟨gC,0,none⟩) 384 cC c 4 z ((uh gK).ab.on hz).lg (uh fD));have WU:=Md.zk c 4 384 0;obtain⟨F,hF⟩:=abV (Gr.an 384 c 4);have Un:-1<=F/\F<=384:=by rw[<-hF];exact WU
     rw[hF]at cf vn;have fM:=aa (gd1 (abE wc (.cells #[.int .i64 F] 3) none));have ct:Hid (∀b,b=wc.heap.size->Calls prog 85 #[.slice (some ⟨gC,0,none⟩) 384 cC,.slice (some ⟨gE,0,none⟩) 32 cE,.int .i64 x,.int .i64 y,.slice (some ⟨b,0,none⟩) 1 1] (wc.alloc (.cells #[.int .i64 F] 3)).drew (Nv.jV (wc.alloc (.cells #[.int .i64 F] 3)).drew c (fun _=>F) 1 E 32 x y)):=fun b hb=>by
      subst hb;have hL:=(uh gK).ab.on (uh fM);exact qa (some ⟨gC,0,none⟩) (some ⟨wc.heap.size,0,none⟩) cC gE 32 cE 1 1 c (fun _=>F) E x y _ hL.lg (uh fD) hL.own.ai (uh kc) (Nv.mB wc F 3) (fun _=>by omega)
     have fC:=aa (gd1 (abF wc none));have hkeep:Hid (∀z,wc.grownBy z none->(z.cell? ⟨B,4,none⟩=some (.slice (some ⟨gC,0,none⟩) 384 cC)/\z.cell? ⟨B,5,none⟩=some (.slice (some ⟨gE,0,none⟩) 32 cE)/\z.cell? ⟨Q,3,none⟩=some (.int .i64 x)/\z.cell? ⟨Q,4,none⟩=some (.int .i64 y))):=fun z hz=>⟨((uh gK).on hz).box.ae.2.2.2.2.1,((uh gK).on hz).box.ae.2.2.2.2.2.1,(uh rq z hz).1,(uh rq z hz).2⟩;have hS0:=uh hkeep wc (abF _ none);clear WU hF Un;go_upto_region 19 with fail
     go_region_held3 (fun z=>z.cell? ⟨B,4,none⟩=some (.slice (some ⟨gC,0,none⟩) 384 cC)/\z.cell? ⟨B,5,none⟩=some (.slice (some ⟨gE,0,none⟩) 32 cE)/\z.cell? ⟨Q,3,none⟩=some (.int .i64 x)/\z.cell? ⟨Q,4,none⟩=some (.int .i64 y)) (go_keep) (first
      | (go_at_call 23;refine abW (uh cf _ (uh fC)) ?_)
      | (go_at_call 85;refine(uh ct _ rfl).mono ?_;rintro e w4 ⟨v,hv,rfl,hg⟩;have hg4:=aa (gtr (uh fM) hg);have pK:=aa hv;have ko:=uh hkeep _ (uh hg4);clear hg hv))
     have ah:Hid (Md.aJ w (Md.cB c E I ag) (.returned (.int .i64 v)) w4):=⟨v,uh vn v (uh pK),rfl,gtr (uh gK).grown (uh hg4)⟩;clear hS0 ko;go_wp2;go_ret;exact uh ah
def Md.pN(c:N1)(x y hx hy r b a:Int):Prop:=r<=1536/\Gr.wX 384 c x y hx hy/\(a<0\/r<b)
def Md.mK(c:N1)(E:N2)(x y:Int):Nat->Int->Int->Prop
  | 0,b,a=>b=0/\a=-1
  | t+1,b,a => ∃ b0 a0,Md.mK c E x y t b0 a0 /\
      ((Gd.aV E (t : Int)<0 /\ b = b0 /\ a = a0) \/
       ∃(h : Nat)(r : Int),Gd.aV E (t : Int) = (h : Int) /\ Fx.lO (((E h 3-x)*(E h 3-x)+(E h 4-y)*(E h 4-y))*65536) r /\
         ((Md.pN c x y (E h 3) (E h 4) r b0 a0/\b=r/\a=(h:Int))\/(¬Md.pN c x y (E h 3) (E h 4) r b0 a0/\b=b0/\a=a0)))
theorem Md.mK.bo{c:N1}{E:N2}{x y:Int}:∀{t:Nat} {b a b' a':Int},Md.mK c E x y t b a->Md.mK c E x y t b' a'->b'=b/\a'=a
 | 0,b,a,b',a',h,h'=>⟨h'.1.trans h.1.symm,h'.2.trans h.2.symm⟩
 | t+1,b,a,b',a',h,h'=>by
  obtain⟨b0,a0,hs,hc⟩:=h
  obtain⟨b1,a1,Xz,fD⟩:=h'
  obtain⟨rfl,rfl⟩:=Md.mK.bo hs Xz
  rcases hc with⟨h0,hb,ha⟩|⟨k,r,hk,hr,hc⟩
  ·rcases fD with⟨_,pF,SA⟩|⟨k',r',jy,_,_⟩
   ·exact⟨pF.trans hb.symm,SA.trans ha.symm⟩
   ·omega
  ·rcases fD with⟨Gz,_,_⟩|⟨k',r',jy,hr',fD⟩
   ·omega
   ·obtain rfl:k'=k:=by omega
    obtain rfl:r'=r:=Fx.Pr hr' hr;rcases hc with⟨ht,hb,ha⟩|⟨ht,hb,ha⟩
    ·rcases fD with⟨_,pF,SA⟩|⟨oA,_,_⟩
     ·exact⟨pF.trans hb.symm,SA.trans ha.symm⟩
     ·exact absurd ht oA
    ·rcases fD with⟨oA,_,_⟩|⟨_,pF,SA⟩
     ·exact absurd oA ht
     ·exact⟨pF.trans hb.symm,SA.trans ha.symm⟩
def Md.oo(s c:N1)(E:N2)(k:Nat):Int :=
 if (1<=Dc.kK 8 (s 0) [s 1,(k:Int),90]/\Dc.kK 8 (s 0) [s 1,(k:Int),90]<=4)/\Gr.aS (Gr.at 384 c (E k 3+(Fx.bh (Dc.kK 8 (s 0) [s 1,(k:Int),90])).1) (E k 4+(Fx.bh (Dc.kK 8 (s 0) [s 1,(k:Int),90])).2))=true/\En.first (En.eM E (E k 3+(Fx.bh (Dc.kK 8 (s 0) [s 1,(k:Int),90])).1) (E k 4+(Fx.bh (Dc.kK 8 (s 0) [s 1,(k:Int),90])).2)) 32<0
 then Dc.kK 8 (s 0) [s 1,(k:Int),90]else 0
def Md.nn(s c:N1)(E:N2)(k:Nat)(v:Int):Prop :=
  ∃b a,Md.mK c E (E k 3) (E k 4) 4 b a /\
    ((a<0 /\ v = Md.oo s c E k) \/
     ∃ h : Nat,a = (h : Int) /\
       if 0<Nv.ez (E h 3-E k 3) (E h 4-E k 4)then v = Nv.ez (E h 3-E k 3) (E h 4-E k 4)
       else Nv.aW c (fun _=>E h 4*24+E h 3) 1 E 32 (E k 3) (E k 4) v)
def Md.aU(s c:N1)(E:N2)(row v:Int):Prop :=
 if (row<0\/32<=row)\/E row.toNat 0=0\/E row.toNat 0=1 then v=0 else Md.nn s c E row.toNat v
theorem Md.aU.bo{s c:N1}{E:N2}{row u v:Int}(h:Md.aU s c E row u)(h':Md.aU s c E row v):v=u:=by
 unfold Md.aU at h h';by_cases h1:(row<0\/32<=row)\/E row.toNat 0=0\/E row.toNat 0=1
 ·rw[abP h1]at h h';omega
 ·rw[abO h1]at h h';obtain⟨b,a,hs,hc⟩:=h;obtain⟨b',a',Xz,fD⟩:=h';obtain⟨rfl,rfl⟩:=Md.mK.bo hs Xz;rcases hc with⟨h0,hv⟩|⟨k,hk,hv⟩
  ·rcases fD with⟨_,pK⟩|⟨k',jy,_⟩
   ·exact pK.trans hv.symm
   ·omega
  ·rcases fD with⟨Gz,_⟩|⟨k',jy,pK⟩
   ·omega
   ·obtain rfl:k'=k:=(by omega);by_cases h2:0<Nv.ez (E k' 3-E row.toNat 3) (E k' 4-E row.toNat 4)
    ·rw[abP h2]at hv pK;exact pK.trans hv.symm
    ·rw[abO h2]at hv pK;exact hv.bo pK
theorem Ij(ca:Option Addr)(cc b n c:Nat)(f:N1)(E:N2)(x y:Int)(w:World)(hc:il w.heap.size w ca 384 (aZ f))(hf:∀i,0<=f i/\f i<=255)(hE:fG w b n E):Calls prog 81 #[.slice ca 384 cc,.slice (some ⟨b,0,none⟩) n c,.int .i64 x,.int .i64 y] w (Nv.qO w f E n x y):=by
 have fD:=aa hc;have fb:=aa hf;have iQ:=aa hE;clear hc hf hE;by_cases cU:Gr.iS x y=true
 case neg =>
  rw[Bool.not_eq_true]at cU;have he:=aa (Nv.Py (f:=f) (E:=E) (n:=n) (show Nv.bw x y=-1 from abO (by rw[cU];simp)));have cI:=aa (fun wq=>bA x y wq);rw[cU]at cI;clear cU;go_enter func81,ntmps81;go_wp2_with fail;refine(uh cI _).mono ?_;rintro e w1 ⟨rfl,rfl⟩;go_wp2;go_ret;exact⟨_,uh he,rfl,abF _ _⟩
 obtain⟨b1,b2,b3,b4⟩:=(Gr.bz _ _).1 cU;obtain⟨X,rfl⟩:∃X:Nat,x=(X:Int):=⟨x.toNat,by omega⟩;obtain⟨Y,rfl⟩:∃Y:Nat,y=(Y:Int):=⟨y.toNat,by omega⟩;have hX:X<24:=by omega
 have hY:Y<16:=by omega
 have zM:Nv.bw (X:Int) (Y:Int)=(Y:Int)*24+X:=by unfold Nv.bw;rw[abP cU]
 have wT:Hid (∀F,Gr.dO (fun i=>Gr.dt f 0 (fun _=>false) i=true) (Gr.FJ f (fun _=>(Y:Int)*24+X) 1) F->Nv.dR f E n X Y (Nv.best F (Nv.st E n) 384)):=fun F h=>⟨F,by rw[zM];exact h,rfl⟩;have cI:=aa (fun wq=>bA (X:Int) (Y:Int) wq);rw[cU]at cI;clear cU b1 b2 b3 b4 zM;go_enter func81,ntmps81;go_wp2_with fail;refine(uh cI _).mono ?_;rintro e w1 ⟨rfl,rfl⟩;go_wp2_with fail;obtain⟨w3,nT⟩:∃w3,w3=w1.alloc (.cells #[.int .i64 ((Y:Int)*24+X)] 3):=⟨_,rfl⟩;have qF:Below w1.heap.size w1 w3:=by rw[nT];exact(Below.refl _ _).alloc (abL _) _
 have hV:il w3.heap.size w3 (some ⟨w1.heap.size,0,none⟩) 1 (bB fun _=>(Y:Int)*24+X):=by rw[nT];exact Nv.mB w1 _ _
 rw[<-nT];refine(n8 ca none (some ⟨w1.heap.size,0,none⟩) 0 1 cc 0 1 f (fun _=>(Y:Int)*24+X) (fun _=>false) w3 (((uh fD).kept qF).mono qF.size) (uh fb) ⟨by unfold maxLen;omega,.inl rfl⟩ hV (fun _=>⟨by omega,by omega⟩)).mono ?_;rintro e w4 ⟨F,⟨g2,rfl,hg2,jN,GB⟩,hF⟩;have oY:=aa (uh wT F hF);have iR:=dV (qF.trans (GB.mono qF.size));have vz:=aa iR;have Zy:=aa ((uh iQ).on iR);have xl:=aa jN;clear jN GB hV qF nT hF wT hg2 iR cI iQ fD;go_wp2_with fail;go_loopw [10,11] (fun s i wr=>∃k:Nat,k<=384/\s=.int .i64 (Nv.best F (Nv.st E n) k)/\i=.int .i64 (k:Int)/\w4.grownBy wr none) (fun _ i _=>384-(intOf i).toNat)
 case atStart=>exact⟨0,by omega,rfl,rfl,abF _ _⟩
 case round =>
  obtain⟨k,hk,rfl,rfl,hgr⟩:=hrel;by_cases hlt:k<384
  ·have hlt':(k:Int)<384:=by omega
   have HL:=aa hlt;have WN:wr.cell? ⟨g2,k,none⟩=some (.int .i64 (F k)):=((uh xl).grown hgr (by simp)).cell hlt;have cA:∀q,Calls prog 24 #[.slice (some ⟨b,0,none⟩) n c,.int .i64 ((k%24:Nat):Int),.int .i64 ((k/24:Nat):Int)] (wr.drewN q) fun e w'=>e=.returned (.int .i64 (En.first (En.eM E ((k%24:Nat):Int) ((k/24:Nat):Int)) n))/\w'=wr.drewN q:=fun q=>eA b n c E _ _ _ ((uh Zy).on (gdw hgr q));have hgd:Hid (∀q,w4.grownBy (wr.drewN q) none):=fun q=>gdw hgr q;have aK:Nv.st E n k=decide (0<=En.first (En.eM E ((k%24:Nat):Int) ((k/24:Nat):Int)) n):=rfl;generalize En.first (En.eM E ((k%24:Nat):Int) ((k/24:Nat):Int)) n=r at cA aK
   have Yy:Hid (∀p,p<k->wr.cell? ⟨g2,p,none⟩=some (.int .i64 (F p))):=fun p hp=>((uh xl).grown hgr (by simp)).cell (by omega);clear hlt hk hgr;by_cases h1:F k<0
   ·have hb:=aa (Nv.pg (F:=F) (st:=Nv.st E n) (k:=k) (.inl h1));generalize Nv.best F (Nv.st E n) k=B at hb;have ot:decide (F k≥0)=false:=abI (by omega);clear aK;go_wp2_with fail;go_quiet ((go_at_call 24;exact abU (cA _)));go_wp2;go_roundw
    case rel=>exact⟨k+1,by have:=uh HL;omega,by rw[uh hb],by go_num,uh hgd _⟩
    case measure=>have:=uh HL;simp[intOf];omega
   have ot:decide (F k≥0)=true:=abJ (by omega);by_cases h2:0<=r
   ·have hb:=aa (Nv.pg (F:=F) (st:=Nv.st E n) (k:=k) (.inr (by rw[aK];exact abJ h2)));generalize Nv.best F (Nv.st E n) k=B at hb;have NL:decide (r<0)=false:=abI (by omega);clear aK;go_wp2_with fail;go_quiet ((go_at_call 24;exact abU (cA _)));go_wp2;go_roundw
    case rel=>exact⟨k+1,by have:=uh HL;omega,by rw[uh hb],by go_num,uh hgd _⟩
    case measure=>have:=uh HL;simp[intOf];omega
   have XF:Nv.st E n k=false:=by rw[aK];exact abI h2
   have NL:decide (r<0)=true:=abJ (by omega);rcases Nv.jY F (Nv.st E n) k with e|⟨p,hp,e⟩
   ·have hb:=aa (Nv.uO (by omega) XF e);rw[e];clear aK XF e;go_wp2_with fail;go_quiet ((go_at_call 24;exact abU (cA _)));go_wp2;go_roundw
    case rel=>exact⟨k+1,by have:=uh HL;omega,by rw[uh hb],by go_num,uh hgd _⟩
    case measure=>have:=uh HL;simp[intOf];omega
   have abg:=uh Yy p hp;have uu:(p:Int)<384:=by have:=uh HL;omega
   have ub:decide ((p:Int)<0)=false:=abI (by omega);by_cases h3:F k<F p
   ·have hb:=aa (Nv.xI (by omega) XF e h3);have Sm:decide (F k<F p)=true:=abJ h3;rw[e];clear aK XF e hp h3;go_wp2_with fail;go_quiet ((go_at_call 24;exact abU (cA _)));go_wp2;go_roundw
    case rel=>exact⟨k+1,by have:=uh HL;omega,by rw[uh hb],by go_num,uh hgd _⟩
    case measure=>have:=uh HL;simp[intOf];omega
   ·have hb:=aa ((Nv.xJ (st:=Nv.st E n) e h3).trans e);have Sm:decide (F k<F p)=false:=abI h3;rw[e];clear aK XF e hp h3;go_wp2_with fail;go_quiet ((go_at_call 24;exact abU (cA _)));go_wp2;go_roundw
    case rel=>exact⟨k+1,by have:=uh HL;omega,by rw[uh hb],by go_num,uh hgd _⟩
    case measure=>have:=uh HL;simp[intOf];omega
  ·have hge:¬(k:Int)<384:=by omega
   obtain rfl:k=384:=by omega
   have bV:=aa hgr;generalize Nv.best F (Nv.st E n) 384=r at oY;clear hgr;go_wp2;go_ret;exact⟨_,uh oY,rfl,gtr (uh vz) (uh bV)⟩
variable{B cC cE cI gC gE gI:Nat}{E I:N2}{c g s:N1}{w x y:World}
theorem Gd.pi(w:World)(e:N1):(w.alloc (.cells (En.cells e) 54)).cell? ⟨w.heap.size,3,none⟩=some (.int .i64 (e 3))/\(w.alloc (.cells (En.cells e) 54)).cell? ⟨w.heap.size,4,none⟩=some (.int .i64 (e 4))/\(w.alloc (.cells (En.cells e) 54)).cell? ⟨w.heap.size,5,none⟩=some (.int .i64 (e 5))/\(w.alloc (.cells (En.cells e) 54)).cell? ⟨w.heap.size,6,none⟩=some (.int .i64 (e 6)):=by
 have h:=ax.lit (abH w (.cells (En.cells e) 54));exact⟨h.cell (i:=3) (by show 3<11;omega),h.cell (i:=4) (by show 4<11;omega),h.cell (i:=5) (by show 5<11;omega),h.cell (i:=6) (by show 6<11;omega)⟩
theorem Gd.qU(h:Gd.au w x B gC gE gI cC cE cI s g c E I):x.heap.size≠gE/\x.heap.size≠gI/\x.heap.size≠B:=by
 have h1:=h.af.ab.ai.lt;have h2:=h.af.ab.aj.lt;have h3:=h.af.box.lt;exact⟨by omega,by omega,by omega⟩
theorem Gd.au.aj{J:N2}(h:Gd.au w x B gC gE gI cC cE cI s g c E I)(hg:x.grownBy y (some gI))(hI:ay y gI 62 160 (Gd.aL J)):Gd.au w y B gC gE gI cC cE cI s g c E J:=by
 have h1:=h.jo;have h2:=h.lI;exact { h with af:=h.af.aj hg hI,bl:=h.bl.grown hg (by simp;omega),grown:=gow h.grown hg (fun n e=>by cases e;omega) }
theorem Gd.au.ai{F:N2}(h:Gd.au w x B gC gE gI cC cE cI s g c E I)(hg:x.grownBy y (some gE))(hE:ay y gE 54 352 (En.aL F)):Gd.au w y B gC gE gI cC cE cI s g c F I:=by
 have h1:=h.jo;have h2:=h.lE;exact { h with af:=h.af.ai hg hE,bl:=h.bl.grown hg (by simp;omega),grown:=gow h.grown hg (fun n e=>by cases e;omega) }
theorem Gd.au.ir(h:Gd.au w x B gC gE gI cC cE cI s g c E I)(t:Nat)(ht:t<4)(v:Int):Gd.au w (x.setCell ⟨B,7+t,none⟩ (.int .i64 v)) B gC gE gI cC cE cI s (Gd.jw g t v) c E I:=by
 have h1:=h.jo;exact { h with af:=h.af.ir t ht v,bl:=h.bl.aP (by omega) _ _,grown:=gsr h.grown ⟨B,7+t,none⟩ (by show w.heap.size<=B;omega) _ }
theorem Gd.au.gN(h:Gd.au w x B gC gE gI cC cE cI s g c E I)(k j:Nat)(hj:j<11)(v:Int):Gd.au w (x.setCell ⟨gE,k*11+j,none⟩ (.int .i64 v)) B gC gE gI cC cE cI s g c (Gd.set E k j v) I :=
 h.ai (gs0 x gE (k*11+j) (.int .i64 v)) (h.af.ab.ai.gN k j hj v)
theorem Gd.bU.ai{F:N2}(h:Gd.bU w x B gC gE gI cC cE cI s g c E I)(hg:x.grownBy y (some gE))(hE:ay y gE 54 352 (En.aL F)):Gd.bU w y B gC gE gI cC cE cI s g c F I:=by
 have h1:=h.jo;have h2:=h.lE;exact { h with af:=h.af.ai hg hE,bl:=h.bl.grown hg (by simp;omega),grown:=gow h.grown hg (fun n e=>by cases e;omega) }
theorem Gd.bU.gN(h:Gd.bU w x B gC gE gI cC cE cI s g c E I)(k j:Nat)(hj:j<11)(v:Int):Gd.bU w (x.setCell ⟨gE,k*11+j,none⟩ (.int .i64 v)) B gC gE gI cC cE cI s g c (Gd.set E k j v) I :=
 h.ai (gs0 x gE (k*11+j) (.int .i64 v)) (h.af.ab.ai.gN k j hj v)
theorem Gd.au.N4(h:Gd.au w x B gC gE gI cC cE cI s g c E I)(k m:Nat)(v:Int)(hv:v=min (E k 5+6) (E k 6)):Gd.au w ((((((x.setCell ⟨gI,m*4,none⟩ (.int .i64 0)).setCell ⟨gI,m*4+1,none⟩ (.int .i64 0)).setCell ⟨gI,m*4+2,none⟩ (.int .i64 0)).setCell ⟨gI,m*4+3,none⟩ (.int .i64 0)).setCell ⟨gE,k*11+5,none⟩ (.int .i64 v)).setCell ⟨gE,k*11+9,none⟩ (.int .i64 0)) B gC gE gI cC cE cI s g c (Gd.oT E k) (En.put I m Gd.mN):=by
 rw[<-Gd.ns];unfold Gd.oT;rw[<-hv];exact((h.put m 0 0 0 0).gN k 5 (by omega) v).gN k 9 (by omega) 0
theorem Gd.au.Lg(h:Gd.au w x B gC gE gI cC cE cI s g c E I)(m:Nat)(a b d:Int):Gd.au w (((x.setCell ⟨gI,m*4+1,none⟩ (.int .i64 a)).setCell ⟨gI,m*4+2,none⟩ (.int .i64 b)).setCell ⟨gI,m*4+3,none⟩ (.int .i64 d)) B gC gE gI cC cE cI s g c E (En.put I m (Gd.row (I m 0) a b d)):=by
 refine h.aj (gst (gst (gst (abF _ _) _ _) _ _) _ _) ((((h.af.ab.aj.field m 1 (by omega) a).field m 2 (by omega) b).field m 3 (by omega) d).congr fun q hq=>?_);unfold Gd.aL Gd.set;by_cases e:q/4=m
 ·rw[e,En.aB];rcases(show q%4=0\/q%4=1\/q%4=2\/q%4=3 by omega)with e4|e4|e4|e4 <;> rw[e4] <;> simp[Gd.row]
 ·rw[En.ak e];simp[e]
theorem Gd.au.O5(h:Gd.au w x B gC gE gI cC cE cI s g c E I)(m:Nat)(a d:Int):Gd.au w ((x.setCell ⟨gI,m*4+1,none⟩ (.int .i64 a)).setCell ⟨gI,m*4+3,none⟩ (.int .i64 d)) B gC gE gI cC cE cI s g c E (En.put I m (Gd.row (I m 0) a (I m 2) d)):=by
 refine h.aj (gst (gst (abF _ _) _ _) _ _) (((h.af.ab.aj.field m 1 (by omega) a).field m 3 (by omega) d).congr fun q hq=>?_);unfold Gd.aL Gd.set;by_cases e:q/4=m
 ·rw[e,En.aB];rcases(show q%4=0\/q%4=1\/q%4=2\/q%4=3 by omega)with e4|e4|e4|e4 <;> rw[e4] <;> simp[Gd.row]
 ·rw[En.ak e];simp[e]
end Go.Proofs.YtbanjoflgoiegaaGreat
namespace Go.Proofs.YtbanjoflgoiegaaGreat
open Go.Proofs.Tryz
variable{h i:Nat}{w:World}
def km(P:Program)(md:Region.Mode)(ops:Array Oper)(Q:Exit->Act->World->Prop)(S:World->Prop)(h:Nat):Nat->Array Bool->Act->World->Prop
 | 0,up,a,w=>Region.ready md ops up=[]/\Q .normal a w
 | n+1,up,a,w=>(Region.ready md ops up=[]->Q .normal a w)/\∀i∈Region.ready md ops up,wpOp P ops Q i (fun b x=>((up.setIfInBounds i true).getD h true=false->S x)/\km P md ops Q S h n (up.setIfInBounds i true) b x) a w
theorem qd{P:Program}{ops:Array Oper}{Q:Exit->Act->World->Prop}{md:Region.Mode}{S:World->Prop}{h:Nat}:∀(n:Nat)(up:Array Bool)(a:Act)(w:World),km P md ops Q S h n up a w->wpAny P md ops Q n up a w
 | 0,_,_,_,g=>g
 | n+1,_,_,_,g=>⟨g.1,fun i hi=>wpOp_mono (fun b x k=>qd n _ b x k.2) (g.2 i hi)⟩
def Region.PJ(md:Region.Mode)(ops:Array Oper)(up:Array Bool)(i h:Nat)(ch:List Nat):Bool :=
 ch.contains h&&ch.all fun c=>!(up.getD c true)&&match ops[c]? with
  | some o=>o.after.any fun e=>Region.binds md e&&(e.on==i||ch.contains e.on)
  | none=>false
theorem Region.Kg{ops:Array Oper}{md:Region.Mode}{up:Array Bool}{ch:List Nat}(hw:Region.PJ md ops up i h ch=true):h∈ch/\(∀c∈ch,up.getD c true=false)/\∀c∈ch,∀o,ops[c]?=some o->∃e∈o.after,Region.binds md e=true/\(e.on=i\/e.on∈ch):=by
 unfold Region.PJ at hw;simp only[Bool.and_eq_true,List.contains_iff_mem,List.all_eq_true,Bool.not_eq_true']at hw;refine⟨hw.1,fun c hc=>(hw.2 c hc).1,fun c hc o ho=>?_⟩;have h2:=(hw.2 c hc).2;rw[ho]at h2;obtain⟨e,he,hb⟩:=Array.any_eq_true'.1 h2;simp only[Bool.and_eq_true,Bool.or_eq_true,beq_iff_eq,List.contains_iff_mem]at hb;exact⟨e,he,hb.1,hb.2⟩
theorem FQ{P:Program}{ops:Array Oper}{Q:Exit->Act->World->Prop}{md:Region.Mode}{S:World->Prop}{oi:Oper}{v:Value}{ch:List Nat}(hi:ops[i]?=some oi)(XE:∀(j:Nat) (o:Oper) cs b,ops[j]?=some o->o.op≠.select cs b)(hQ:∀c a w,Q (.panic c) (a.put oi.dst v) w->Q (.panic c) a w)(hh:h∈ch)(LO:∀c∈ch,∀o,ops[c]?=some o->∃e∈o.after,Region.binds md e=true/\(e.on=i\/e.on∈ch)):∀(n:Nat)(up:Array Bool)(a:Act)(w:World),
      (∀j oj,ops[j]?=some oj->j≠i->up.getD j true=false->(∀e∈oj.after,Region.binds md e=true->e.on≠i)->oi.apart ops oj=true) ->
      i∈Region.ready md ops up->(∀c∈ch,up.getD c true=false)->YieldsIf P ops S oi v a->S w ->
      km P md ops Q S h n (up.setIfInBounds i true) (a.put oi.dst v) w->km P md ops Q S h (n+1) up a w:=by
  have key:∀(up:Array Bool)(j:Nat),i∈Region.ready md ops up->(∀c∈ch,up.getD c true=false)->j∈Region.ready md ops up->j∉ch:=by
    intro up j hr hc hj hm;obtain⟨_,oj,UM,pD⟩:=mem_ready.1 hj;obtain⟨e,he,hb,tw⟩:=LO j hm oj UM;have h1:=pD e he hb;have h0:up.getD e.on true=false:=by
      rcases tw with tw|tw
      · rw[tw];exact(mem_ready.1 hr).1
      · exact hc _ tw
    rcases Nat.lt_or_ge e.on up.size with h'|h'
    · simp[h']at h0 h1;rw[h0]at h1;cases h1
    · simp[Array.getElem?_eq_none h']at h1
  intro n
  induction n with
  | zero =>
    intro up a w _ hr hc hy hS H;refine⟨fun g=>(by rw[g]at hr;cases hr),fun j hj=>?_⟩;by_cases Od:j=i
    · subst Od;exact hy.wpOp hi hS ⟨fun _=>hS,H⟩
    · have:=ready_mono hj Od
      rw[H.1]at this;cases this
  | succ n ih =>
    intro up a w SK hr hc hy hS H;refine⟨fun g=>(by rw[g]at hr;cases hr),fun j hj=>?_⟩;by_cases Od:j=i
    · subst Od;exact hy.wpOp hi hS ⟨fun _=>hS,H⟩
    · have h1:=H.2 j (ready_mono hj Od)
      have hjc:=key up j hr hc hj;have hic:=key up i hr hc hr;obtain⟨W7,oj,UM,pD⟩:=mem_ready.1 hj;have GY:∀e∈oj.after,Region.binds md e=true->e.on≠i:=fun e he hb GM=>by
        have h1:=pD e he hb;have h0:=(mem_ready.1 hr).1;rw[GM]at h1;rcases Nat.lt_or_ge i up.size with h'|h'
        · simp[h']at h0 h1;rw[h0]at h1;cases h1
        · simp[Array.getElem?_eq_none h']at h1
      have h2:=wpOp_putIf UM (SK j oj UM Od W7 GY) (fun cs b=>XE i oi cs b hi) (fun cs b=>XE j oj cs b UM) hQ hy h1;have fD:∀c∈ch,(up.setIfInBounds j true).getD c true=false:=fun c hm=>by
        rw[getD_set_ne true (show j≠c from fun e=>hjc (e▸hm))];exact hc c hm
      have Up : ∀ k ok,ops[k]? = some ok -> k ≠ i -> (up.setIfInBounds j true).getD k true = false ->
          (∀e∈ok.after,Region.binds md e=true->e.on≠i)->oi.apart ops ok=true:=fun k ok hk hki YU hno=>by
        refine SK k ok hk hki ?_ hno;by_cases pG:j=k
        · subst pG;exact W7
        · rw[getD_set_ne true pG]at YU;exact YU
      refine wpOp_mono (fun b x h3=>?_) h2
      have wQ:S x:=h3.2.1 (by
        rw[getD_set_ne true (show j≠h from fun e=>hjc (e▸hh)),getD_set_ne true (show i≠h from fun e=>hic (e▸hh))]
        exact hc h hh)
      refine⟨fun _=>wQ,ih (up.setIfInBounds j true) b x Up (ready_mono hr (Ne.symm Od)) fD h3.1 wQ ?_⟩;rw[Array.setIfInBounds_comm _ _ Od];exact h3.2.2
theorem wtk{P:Program}{ops:Array Oper}{Q:Exit->Act->World->Prop}{md:Region.Mode}{S:World->Prop}{oi:Oper}{v:Value}{n:Nat}{up:Array Bool}{a:Act}(ch:List Nat)(hi:ops[i]?=some oi)(hs:Region.noSelect ops=true)(hf:Region.free md ops up i=true)(hr:(Region.ready md ops up).contains i=true)(hw:Region.PJ md ops up i h ch=true)(hQ:∀c a w,Q (.panic c) (a.put oi.dst v) w->Q (.panic c) a w)(hS:S w)(hy:YieldsIf P ops S oi v a)(H:km P md ops Q S h n (up.setIfInBounds i true) (a.put oi.dst v) w):km P md ops Q S h (n+1) up a w:=by
 obtain⟨hh,hc,LO⟩:=Region.Kg hw;exact FQ hi (Region.noSelect_spec hs) hQ hh LO n up a w (Region.free_spec hi hf) (by simpa using hr) hc hy hS H
theorem wto{P:Program}{ops:Array Oper}{Q:Exit->Act->World->Prop}{md:Region.Mode}{S:World->Prop}{j:Nat}{o:Oper}{n:Nat}{up:Array Bool}{a:Act}(hr:Region.ready md ops up=[j])(ho:ops[j]?=some o)(H:∀K:Act->World->Prop,Shut (∀b x,((up.setIfInBounds j true).getD h true=false->S x)->km P md ops Q S h n (up.setIfInBounds j true) b x->K b x)->if Region.wanted o (yielded ops a.tmps)=true then Oper.wp P o a w K Q else K (a.put o.dst undef) w):km P md ops Q S h (n+1) up a w:=by
 refine⟨fun g=>(by rw[hr]at g;cases g),fun i hi=>?_⟩;rw[hr]at hi;obtain rfl:i=j:=by simpa using hi
 exact wpOp_step ho (fun K hK=>H K (fun b x h1 h2=>hK b x ⟨h1,h2⟩))
theorem cy{P:Program}{ops:Array Oper}{Q:Exit->Act->World->Prop}{md:Region.Mode}{S:World->Prop}{h:Nat}{up:Array Bool}{a:Act}{w:World}(hr:Region.ready md ops up=[])(H:Q .normal a w):∀n,km P md ops Q S h n up a w
 | 0=>⟨hr,H⟩
 | _+1=>⟨fun _=>H,by rw[hr];simp⟩
theorem bH{P:Program}{ops:Array Oper}{Q:Exit->Act->World->Prop}{S:World->Prop}{id:Nat}{a:Act}(hm:P.follows .mixedOrders=true)(H:km P .any ops Q S h ops.size (Array.replicate ops.size false) a w.drew):(Code.region id ops true).wp P Q a w :=
 wp_region_any hm (qd _ _ _ _ H)
open Go.RowKit
namespace Gn
def nzs(c:N1):Nat->Nat
 | 0=>0
 | n+1=>nzs c n+if c n=0 then 0 else 1
theorem Hy(c:N1){m n:Nat}(h:m<=n):nzs c m<=nzs c n:=by
 induction n with
 | zero =>
  obtain rfl:m=0:=by omega
  exact abL _
 | succ n ih =>
  by_cases e:m=n+1
  ·rw[e];exact abL _
  ·have:=ih (by omega);rw[nzs];omega
theorem yu(c:N1)(a:Nat)(h0:c a≠0)(h1:c (a+1)≠0)(h2:c (a+2)≠0):nzs c (a+3)=nzs c a+3:=by
 rw[show a+3=a+2+1 by omega,nzs,show a+2=a+1+1 by omega,nzs,nzs,abO h0,abO h1,abO h2]
theorem uE.six{d:aY}(hd:gL d){c F:N1}{far:Nat}(h:uE d c F far):6<=nzs c 384:=by
 have hb:=mF hd 0;obtain⟨a,ha⟩:∃a:Nat,ry d 0*24+rx d 0=(a:Int):=⟨(ry d 0*24+rx d 0).toNat,by omega⟩;have cU:∀x y:Int,0<=x->x<3->0<=y->y<2->c ((ry d 0+y)*24+(rx d 0+x)).toNat≠0:=by
  intro x y h1 h2 h3 h4;exact(h.nz _).2 ((mM d 5 _).2 (.inl ⟨0,by omega,pn hd (by omega) (by omega) (by omega) (by omega)⟩))
 have e:∀x y:Int,∀n:Nat,(a:Int)+y*24+x=(n:Int)->((ry d 0+y)*24+(rx d 0+x)).toNat=n:=by
  intro x y n hn;omega
 have h00:=cU 0 0 (by omega) (by omega) (by omega) (by omega);have sH:=cU 1 0 (by omega) (by omega) (by omega) (by omega);have h20:=cU 2 0 (by omega) (by omega) (by omega) (by omega);have NK:=cU 0 1 (by omega) (by omega) (by omega) (by omega);have h11:=cU 1 1 (by omega) (by omega) (by omega) (by omega);have h21:=cU 2 1 (by omega) (by omega) (by omega) (by omega);rw[e 0 0 a (by omega)]at h00;rw[e 1 0 (a+1) (by omega)]at sH;rw[e 2 0 (a+2) (by omega)]at h20;rw[e 0 1 (a+24) (by omega)]at NK;rw[e 1 1 (a+24+1) (by omega)]at h11;rw[e 2 1 (a+24+2) (by omega)]at h21;have n1:=yu c a h00 sH h20;have n2:=yu c (a+24) NK h11 h21;have m1:=Hy c (show a+3<=a+24 by omega);have m2:=Hy c (show a+24+3<=384 by omega);omega
end Gn
