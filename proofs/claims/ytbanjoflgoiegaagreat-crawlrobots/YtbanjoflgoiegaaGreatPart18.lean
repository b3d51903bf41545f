import Derived.Test.YtbanjoflgoiegaaGreatPart09
import Derived.Deep.RegionWith
import Derived.Deep.Cut
import Derived.Test.YtbanjoflgoiegaaGreatPart13
set_option maxHeartbeats 8000000
set_option maxRecDepth 100000
namespace Go.Proofs.YtbanjoflgoiegaaGreat
open Go.Proofs.Tryz
open Go.RowKit
theorem yy(s f:Int)(d:Gn.aY)(hd:∀a b n,Gn.D s f a b n=d a b n)(qn:Gn.gL d)(w:World)(B G gF L:Nat)(c F:N1)(vE:Value)(sh:Bool)(iW:Gn.fH d c F)(js:sh=decide (¬Gr.an 384 c 5<0))(wr:World)(hB:eL w B G gF L c F vE (Gn.ai d f c F).length (Gn.aL (Gn.ai d f c F)) (.slice none 0 0) wr){t2 t3 t6 t7 t8 t9 Aa Ab Ac Ad Ae Af Ag Ah Ai Aj Ak Al Am Ao Ap Aq Ar As Au Av Aw Ax Ay Az AA AB AC AD AE AF AG AH AI AJ AK AL AM AN AO AP AQ AR AS AT AU AV AW AX AY AZ A0 A1 A2 A3 A4 A5 A6 A7 A8 A9 Ba Bb Bc Bd Be Bf Bg Bh Bi Bj Bk Bl Bm Bn Bo Bp Bq Br Bs Bt Bu Bv Bw Bx Bz BA BB BC BD BE BF BG BH BI BJ BK BL BM BN BO BP BQ BR BS BT BU BV BW BX BY BZ B0 B1 B2 B3 B4 B5 B6 B7 B8 B9 Ca Cb Cc Cd Ce Cf Cg Ch Ci Cj Ck Cl Cm Cn Co Cp Cq Cs Ct Cu Cv Cw Cx Cy Cz CA CB CC CD CE CF CG CH CI CJ CK CL CM CN CO CP CQ CR CS CT CU CV CW CX CY CZ C0 C1 C2 C3 C4 C5 C6 C7 C8 C9 Da Db Dc Dd De Df Dg Dh Di Dj Dk Dl Dm Dn Dp Dq Dr Ds Dt Du Dv Dw Dx Dy Dz DA DB DC DD DE DF DG DH DI DJ DK DL DM DN DO DP DQ DR DS DT DU DV DW DX DY DZ D0 D1 D2 D3 D4 D5 D6 D7 D8 D9 Ea Eb Ec Ed Ee Ef Eg Eh Ei Ej Ek El Em Eo Ep Er Es Et Eu Ev Ew Ex Ey Ez EA EB EC ED EE EF EG EH EI EJ EK EL EM EN EO EP EQ ER ES ET EU EV EW EX EY EZ E0 E1 E2 E3 E4 E5 E6 E7 E8 E9 Fa Fb Fc Fd Fe Ff Fg Fh Fi Fj:Value}:Code.wp prog ((f26.body.map (pP 16)).getD .skip) (bodyPost prog f26 (qN w d f)) ⟨#[.int .i64 s,.int .i64 f,t2,t3,.pointer (some ⟨B,0,none⟩),.slice (some ⟨G,0,none⟩) 384 384,t6,t7,t8,t9,Aa,Ab,Ac,Ad,Ae,Af,Ag,Ah,Ai,Aj,Ak,.slice (some ⟨gF,0,none⟩) 384 384,Al,Am,.bool sh,Ao,.pointer (some ⟨L,0,none⟩),Ap,Aq,Ar,As,Au,Av,Aw,Ax,Ay,Az,AA,AB,AC,AD,AE,AF,AG,AH,AI,AJ,AK,AL,AM,AN,AO,AP,AQ,AR,AS,AT,AU,AV,AW,AX,AY,AZ,A0,A1,A2,A3,A4,A5,A6,A7,A8,A9,Ba,Bb,Bc,Bd,Be,Bf,Bg,Bh,Bi,Bj,Bk,Bl,Bm,Bn,Bo,Bp,Bq,Br,Bs,Bt,Bu,Bv,Bw,Bx,Bz,BA,BB,BC,BD,BE,BF,BG,BH,BI,BJ,BK,BL,BM,BN,BO,BP,BQ,BR,BS,BT,BU,BV,BW,BX,BY,BZ,B0,B1,B2,B3,B4,B5,B6,B7,B8,B9,Ca,Cb,Cc,Cd,Ce,Cf,Cg,Ch,Ci,Cj,Ck,Cl,Cm,Cn,Co,Cp,Cq,Cs,Ct,Cu,Cv,Cw,Cx,Cy,Cz,CA,CB,CC,CD,CE,CF,CG,CH,CI,CJ,CK,CL,CM,CN,CO,CP,CQ,CR,CS,CT,CU,CV,CW,CX,CY,CZ,C0,C1,C2,C3,C4,C5,C6,C7,C8,C9,Da,Db,Dc,Dd,De,Df,Dg,Dh,Di,Dj,Dk,Dl,Dm,Dn,Dp,Dq,Dr,Ds,Dt,Du,Dv,Dw,Dx,Dy,Dz,DA,DB,DC,DD,DE,DF,DG,DH,DI,DJ,DK,DL,DM,DN,DO,DP,DQ,DR,DS,DT,DU,DV,DW,DX,DY,DZ,D0,D1,D2,D3,D4,D5,D6,D7,D8,D9,Ea,Eb,Ec,Ed,Ee,Ef,Eg,Eh,Ei,Ej,Ek,El,Em,Eo,Ep,Er,Es,Et,Eu,Ev,Ew,Ex,Ey,Ez,EA,EB,EC,ED,EE,EF,EG,EH,EI,EJ,EK,EL,EM,EN,EO,EP,EQ,ER,ES,ET,EU,EV,EW,EX,EY,EZ,E0,E1,E2,E3,E4,E5,E6,E7,E8,E9,Fa,Fb,Fc,Fd,Fe,Ff,Fg,Fh,Fi,Fj],[]⟩ wr:=by
 conv=>arg 2;whnf
 obtain⟨i0,hi,dJ,dz,ed⟩:=info_parts yh;obtain⟨i1,hi1,JD,IP,L8⟩:=info_parts jh;obtain⟨nE,Jr⟩:∃n,n=(Gn.ai d f c F).length:=⟨_,rfl⟩;obtain⟨xs,hxs⟩:∃n,n=Gn.aL (Gn.ai d f c F):=⟨_,rfl⟩;rw[<-Jr,<-hxs]at hB;have UF:=aa Jr;have aaz:=aa hxs;have jL:=aa hd;have kb:=aa qn;have jQ:=aa iW;have Ri:=aa js;have eu:=aa hB;have Jy:Hid (Gn.bi (Gn.free c F 0 (fun _=>false)) 384=Gn.bi (fun i=>c i==1) 384):=by
  obtain⟨far,Uo⟩:=iW.Kz qn;exact Gn.Gt fun i hi h1=>(Uo.Pn qn i hi).2 (by omega)
 obtain⟨fin,ah⟩:∃fin,fin=Gn.lie d 4 0 (Gn.bi (fun i=>c i==1) 384):=⟨_,rfl⟩;have gh:=aa ah;have qH:fin.length<=4:=by rw[ah];exact Gn.uw d 4 0 _
 clear Jr hxs hd qn iW js hB ah;go_wp2_with (at_make;refine wpList_make_full _ rfl _ _ 93 rfl wr.heap.size 4 i0 (.bool false) 1 underlying93 hi dJ dz .i64 .i64 _ _ 384 rfl rfl rfl rfl ?q3 ?q4 ?q5 ?_)
 case q4=>decide
 intro w2 aH az;have hU:ax w2 wr.heap.size 4 384 (mc fun _=>false):=ax.zero aH;have PU:Hid (eP w B G gF L wr.heap.size (wr.heap.size+1) c F vE nE xs (.slice none 0 0) (fun _=>false) [] w2) :=
  ⟨(uh eu).on az,hU,World.ownsRow_nil _ _ _ _,fun n hn=>((uh eu).ai.lt n hn).2,(uh eu).box.lt,Nat.lt_succ_self _,hU.lt⟩
 obtain⟨U,WB⟩:∃U,U=wr.heap.size:=⟨_,rfl⟩;rw[<-WB]at PU|-;clear aH az hU WB hi dJ dz ed eu;clear i0;clear wr;go_wp2_with fail;go_loopw [31] (fun vk wr=>∃(k:Nat)(M:Nat->Bool)(vI:Value)(acc:List Gn.li),k<=4/\vk=.int .i64 (k:Int)/\acc++Gn.lie d (4-k) k (Gn.bi (Gn.free c F 0 M) 384)=fin/\eP w B G gF L U (U+1) c F vE nE xs vI M acc wr) (fun vk _=>10-(intOf vk).toNat)
 case atStart=>exact⟨0,_,_,[],by omega,rfl,by rw[uh Jy];exact(uh gh).symm,uh PU⟩
 case round =>
  clear PU;clear w2;obtain⟨k,M,vI,acc,hk,rfl,vm,hH⟩:=hrel;have dp:=aa hH;have iA:=aa vm;clear hH vm;by_cases hlt:k<4
  ·have hlt':(k:Int)<4:=by omega
   have vG:=aa (HA s f d (uh jL) (uh kb) G gF U c F 0 (40+(k:Int)) M wr (uh dp).ar.cells (uh dp).ar.qZ (uh dp).td);obtain⟨l,hl⟩:∃l,l=Gn.bi (Gn.free c F 0 M) 384:=⟨_,rfl⟩;rw[<-hl]at vG iA;have sO:=aa hl;clear hl;go_wp2_with fail;refine aaR (uh vG) fun w3 dl=>?_;have eV:=aa ((uh dp).on dl);clear dl vG dp;by_cases h0:l.length=0
   ·rw[Gn.tL h0];have aK:Hid (acc++Gn.lie d (4-(k+1)) (k+1) l=fin):=by
     have h:=uh iA;rw[Gn.Ld h0]at h;show acc++Gn.lie d (4-(k+1)) (k+1) l=fin;rw[Gn.Ld h0];exact h
    clear h0;go_wp2;go_roundw
    case rel=>exact⟨k+1,M,vI,acc,by omega,by go_num,by rw[<-uh sO];exact uh aK,uh eV⟩
    case measure=>simp[intOf];omega
   ·obtain⟨N,hN⟩:∃x,x=d (40+(k:Int)) 0 (l.length:Int):=⟨_,rfl⟩;obtain⟨n1,n2⟩:0<=N/\N<(l.length:Int):=by rw[hN];exact uh kb _ _ _ (by omega)
    obtain⟨n,hn⟩:∃n:Nat,N=(n:Int):=⟨N.toNat,by omega⟩;have sP:n<l.length:=(by omega);rw[Gn.tM (n:=n) h0 (by rw[<-hN,hn])];obtain⟨K,hK⟩:∃K,K=d (40+(k:Int)) 1 4:=⟨_,rfl⟩;obtain⟨k1,k2⟩:0<=K/\K<4:=by rw[hK];exact uh kb _ _ _ (by omega)
    have Ji:Hid (∀w',Calls prog 59 #[.int .i64 s,.int .i64 f,.int .i64 (40+(k:Int)),.int .i64 1,.int .i64 4] w' (aJ w' (.int .i64 K))):=fun w'=>by
     have h:=iN s f (40+(k:Int)) 1 4 w' (by omega);rw[uh jL,<-hK]at h;exact h
    obtain⟨cl,iu⟩:∃cl,cl=l[n]?.getD 0:=⟨_,rfl⟩;have Jh:cl<384:=by rw[iu,uh sO];rw[uh sO]at sP;exact Gn.Iw sP
    have Q3:Hid (Gn.bi (Gn.free c F 0 (Gn.mark M cl)) 384=l.eraseIdx n):=by
     show Gn.bi (Gn.free c F 0 (Gn.mark M cl)) 384=l.eraseIdx n;rw[iu,uh sO];rw[uh sO]at sP;exact Gn.xS c F 0 M n sP
    have dm:Hid ((acc++[(1+K,1,(cl:Int)%24,(cl:Int)/24)])++Gn.lie d (4-(k+1)) (k+1) (l.eraseIdx n)=fin):=by
     have h:=uh iA;obtain⟨m,hm⟩:∃m,4-k=m+1:=⟨4-k-1,by omega⟩;rw[hm,Gn.lie,abO h0,<-hN,hn,abG,<-hK,<-iu]at h;show(acc++[(1+K,1,(cl:Int)%24,(cl:Int)/24)])++Gn.lie d (4-(k+1)) (k+1) (l.eraseIdx n)=fin;rw[show 4-(k+1)=m by omega,List.append_assoc];exact h
    have VB:acc.length<=4:=by
     have h:=congrArg List.length (uh iA);rw[List.length_append]at h;omega
    rw[<-iu];have aab:¬(cl:Int)<0:=(by omega);have aaa:(cl:Int)<384:=(by omega);have u1:=(uh eV).td.cell Jh;have u2:=(uh eV).td.free cl;clear hN hn hK iu h0 n1 n2 hlt sP Jh;go_upto_region 63 with fail;clear u1 u2;have iH:=aa ((uh eV).mark cl);obtain⟨w4,OA⟩:∃w4,w4=w3.setCell ⟨U,cl,none⟩ (.bool true):=⟨_,rfl⟩;rw[<-OA]at iH|-;clear OA eV;clear w3;have dc:Hid (∀x,eP w B G gF L U (U+1) c F vE nE xs vI (Gn.mark M cl) acc x->(x.cell? ⟨L,2,none⟩=some vI/\L<x.heap.size)) :=
     fun x h=>⟨h.ar.box.cell (by omega),h.ar.box.lt⟩
    obtain⟨p1,p2⟩:=uh dc _ (uh iH);have uR:Hid (∀x,Hid (eP w B G gF L U (U+1) c F vE nE xs vI (Gn.mark M cl) acc x)->Calls prog 59 #[.int .i64 s,.int .i64 f,.int .i64 (40+(k:Int)),.int .i64 1,.int .i64 4] x (fun e w'=>e=.returned (.int .i64 K)/\Hid (eP w B G gF L U (U+1) c F vE nE xs vI (Gn.mark M cl) acc w')/\U+1<=w'.heap.size)) :=
     fun x hx=>(uh Ji x).mono fun e w' ⟨he,hg⟩=>⟨he,(uh hx).on hg,((uh hx).on hg).o6⟩
    have NP:Hid (eP w B G gF L U (U+1) c F vE nE xs vI (Gn.mark M cl) acc w4.drew):=(uh iH).on (gd1 (abF _ none));have sS:IntKind.i64.wrap (40+(k:Int))=40+(k:Int):=by rw[abK];omega
    have G8:IntKind.i64.wrap (1+K)=1+K:=by rw[abK];omega
    have e1:(cl:Int).tmod 24=(cl:Int)%24:=abS (by omega);have e2:IntKind.i64.wrap ((cl:Int)/24)=(cl:Int)/24:=by rw[abK];omega
    have jk:Hid (∀x y,Hid (eP w B G gF L U (U+1) c F vE nE xs vI (Gn.mark M cl) acc x)->(x.alloc (.cells #[.int .i64 (1+K),.int .i64 1,.int .i64 ((cl:Int)%24),.int .i64 ((cl:Int)/24)] 62)).grownBy y vI.ownBlock->(y.cell? ⟨L,2,none⟩=some vI/\y.frozen? ⟨L,2,none⟩=false)):=by
     intro x y h1 hg;have hp:=((uh h1).ar.box.alloc (.cells #[.int .i64 (1+K),.int .i64 1,.int .i64 ((cl:Int)%24),.int .i64 ((cl:Int)/24)] 62)).grown hg (fun e=>by have:=((uh h1).aj.lt _ e).1;have:=(uh h1).o4;omega);exact⟨hp.cell (by omega),hp.free 2⟩
    go_region_law (first| (go_simp;go_at_call 59;refine(uh uR _ NP).mono ?_;rintro e we ⟨rfl,tq,hte⟩;obtain⟨z1,z2⟩:=uh dc we (uh tq))|(refine step_append_lies _ (by rfl) _ _ _ (by rfl) (U+1) 62 i1 _ 4 32 underlying27 hi1 JD IP L8 rfl (by omega) vI acc.length (Gn.jc acc) (by rfl) ((uh tq).aj.alloc _) ⟨we.heap.size,0,none⟩ 1 1 [.int .i64 (1+K),.int .i64 1,.int .i64 ((cl:Int)%24),.int .i64 ((cl:Int)/24)] (by rfl) (by rfl) (po we _ rfl _ _ _ _ _) (by simp[Value.oneCell']) (by omega) (by unfold maxLen;omega) (by omega) (by simp;omega) (we.heap.size+1) (by simp) ?_;intro gg VZ w5 eW dw vn Om;obtain⟨y1,y2⟩:=uh jk _ _ tq dw))
    all_goals
     have qp:=aa (((uh tq).on (abE _ _ _)).add (p:=(1+K,1,(cl:Int)%24,(cl:Int)/24)) eW dw);clear eW dw vn Om y1 y2 z1 z2 p1 p2 dc jk uR NP tq sS G8 e1 e2;go_wp2;go_roundw
     case rel=>exact⟨k+1,Gn.mark M cl,_,acc++[(1+K,1,(cl:Int)%24,(cl:Int)/24)],by omega,by go_num,by rw[uh Q3];exact uh dm,uh qp⟩
     case measure=>simp[intOf];omega
  ·have hge:¬(k:Int)<4:=by omega
   have fh:acc=fin:=by
    have h:=uh iA;rw[show 4-k=0 by omega,Gn.lie,List.append_nil]at h;exact h
   subst fh;have KS:Hid (acc=Gn.lie d 4 0 (Gn.bi (fun i=>c i==1) 384)):=gh;clear hlt iA gh Jy hk;go_wp2_with fail;go_loopw [33] (fun vk wr=>∃(q:Nat)(vI:Value),q<=3/\(q=0\/sh=true)/\vk=.int .i64 (q:Int)/\eP w B G gF L U (U+1) c F vE nE xs vI M (acc++Gn.fx d q) wr) (fun vk _=>10-(intOf vk).toNat)
   case atStart=>exact⟨0,_,by omega,.inl rfl,rfl,by rw[show Gn.fx d 0=[] from rfl,List.append_nil];exact uh dp⟩
   case round =>
    clear dp hge;obtain⟨q,vI,hq,YR,rfl,hH⟩:=hrel;have dp:=aa hH;clear hH;by_cases pR:sh=true/\q<3
    ·obtain⟨rfl,uc⟩:=pR;have vH:(q:Int)<3:=(by omega);obtain⟨K,hK⟩:∃K,K=d (50+(q:Int)) 1 3:=⟨_,rfl⟩;obtain⟨k1,k2⟩:0<=K/\K<3:=by rw[hK];exact uh kb _ _ _ (by omega)
     have Ji:Hid (∀w',Calls prog 59 #[.int .i64 s,.int .i64 f,.int .i64 (50+(q:Int)),.int .i64 1,.int .i64 3] w' (aJ w' (.int .i64 K))):=fun w'=>by
      have h:=iN s f (50+(q:Int)) 1 3 w' (by omega);rw[uh jL,<-hK]at h;exact h
     have jA:Hid (acc++Gn.fx d (q+1)=(acc++Gn.fx d q)++[(1+K,4,(q:Int),0)]):=by
      show acc++Gn.fx d (q+1)=_;rw[Gn.wJ,<-hK,List.append_assoc]
     have hwl:(acc++Gn.fx d q).length<=8:=by
      rw[List.length_append];unfold Gn.fx;rw[List.length_map,List.length_range];omega
     obtain⟨ID,zw⟩:∃ID,ID=acc++Gn.fx d q:=⟨_,rfl⟩;rw[<-zw]at dp jA hwl;clear hK zw YR;go_upto_region 67 with fail;have dc:Hid (∀x,eP w B G gF L U (U+1) c F vE nE xs vI M ID x->(x.cell? ⟨L,2,none⟩=some vI/\L<x.heap.size)) :=
      fun x h=>⟨h.ar.box.cell (by omega),h.ar.box.lt⟩
     obtain⟨p1,p2⟩:=uh dc _ (uh dp);have uR:Hid (∀x,Hid (eP w B G gF L U (U+1) c F vE nE xs vI M ID x)->Calls prog 59 #[.int .i64 s,.int .i64 f,.int .i64 (50+(q:Int)),.int .i64 1,.int .i64 3] x (fun e w'=>e=.returned (.int .i64 K)/\Hid (eP w B G gF L U (U+1) c F vE nE xs vI M ID w')/\U+1<=w'.heap.size)) :=
      fun x hx=>(uh Ji x).mono fun e w' ⟨he,hg⟩=>⟨he,(uh hx).on hg,((uh hx).on hg).o6⟩
     have NP:Hid (eP w B G gF L U (U+1) c F vE nE xs vI M ID wr.drew):=(uh dp).on (gd1 (abF _ none));have sS:IntKind.i64.wrap (50+(q:Int))=50+(q:Int):=by rw[abK];omega
     have G8:IntKind.i64.wrap (1+K)=1+K:=by rw[abK];omega
     have jk:Hid (∀x y,Hid (eP w B G gF L U (U+1) c F vE nE xs vI M ID x)->(x.alloc (.cells #[.int .i64 (1+K),.int .i64 4,.int .i64 (q:Int),.int .i64 0] 62)).grownBy y vI.ownBlock->(y.cell? ⟨L,2,none⟩=some vI/\y.frozen? ⟨L,2,none⟩=false)):=by
      intro x y h1 hg;have hp:=((uh h1).ar.box.alloc (.cells #[.int .i64 (1+K),.int .i64 4,.int .i64 (q:Int),.int .i64 0] 62)).grown hg (fun e=>by have:=((uh h1).aj.lt _ e).1;have:=(uh h1).o4;omega);exact⟨hp.cell (by omega),hp.free 2⟩
     go_region_law (first| (go_simp;go_at_call 59;refine(uh uR _ NP).mono ?_;rintro e we ⟨rfl,tq,hte⟩;obtain⟨z1,z2⟩:=uh dc we (uh tq))|(refine step_append_lies _ (by rfl) _ _ _ (by rfl) (U+1) 62 i1 _ 4 32 underlying27 hi1 JD IP L8 rfl (by omega) vI ID.length (Gn.jc ID) (by rfl) ((uh tq).aj.alloc _) ⟨we.heap.size,0,none⟩ 1 1 [.int .i64 (1+K),.int .i64 4,.int .i64 (q:Int),.int .i64 0] (by rfl) (by rfl) (po we _ rfl _ _ _ _ _) (by simp[Value.oneCell']) (by omega) (by unfold maxLen;omega) (by omega) (by simp;omega) (we.heap.size+1) (by simp) ?_;intro gg VZ w5 eW dw vn Om;obtain⟨y1,y2⟩:=uh jk _ _ tq dw))
     all_goals
      have qp:=aa (((uh tq).on (abE _ _ _)).add (p:=(1+K,4,(q:Int),0)) eW dw);rw[<-uh jA]at qp;clear eW dw vn Om y1 y2 z1 z2 p1 p2 dc jk uR NP tq sS G8;go_wp2;go_roundw
      case rel=>exact⟨q+1,_,by omega,.inr (by trivial),by go_num,uh qp⟩
      case measure=>simp[intOf];omega
    ·have IK:Hid (Gn.aj d c=acc++Gn.fx d q):=by
      show Gn.aj d c=acc++Gn.fx d q;unfold Gn.aj;rw[<-uh KS];have hs:=uh Ri;by_cases dH:Gr.an 384 c 5<0
      ·rw[abP dH];have Ul:sh=false:=by rw[hs];exact abI (by omega)
       have LW:q=0:=by
        rcases YR with h|h
        ·exact h
        ·rw[Ul]at h;cases h
       rw[LW];rfl
      ·rw[abO dH];have Ul:sh=true:=by rw[hs];exact abJ (by omega)
       have LW:q=3:=by
        by_cases h3:q<3
        ·exact absurd ⟨Ul,h3⟩ pR
        ·omega
       rw[LW]
     have fp:((q:Int)<3/\sh=false)\/¬(q:Int)<3:=by
      by_cases h3:q<3
      ·left;refine⟨by omega,?_⟩;cases hs:sh with
       | false=>rfl
       | true=>exact absurd ⟨hs,h3⟩ pR
      ·right;omega
     obtain⟨ID,zw⟩:∃ID,ID=acc++Gn.fx d q:=⟨_,rfl⟩;rw[<-zw]at dp IK;obtain⟨nI,rK⟩:∃n,n=ID.length:=⟨_,rfl⟩;have oy:=(uh dp).aj;rw[<-rK]at oy;obtain⟨aI,cI,rfl⟩:=la oy;obtain⟨aE,cE,rfl⟩:=la (uh dp).ar.ai;have b0:wr.cell? ⟨L,0,none⟩=some (.slice (some ⟨G,0,none⟩) 384 384):=(uh dp).ar.box.cell (by omega);have b1:wr.cell? ⟨L,1,none⟩=some (.slice aE nE cE):=(uh dp).ar.box.cell (by omega);have b2:wr.cell? ⟨L,2,none⟩=some (.slice aI nI cI):=(uh dp).ar.box.cell (by omega);have r0:wr.cell? ⟨B,0,none⟩=some (.slice none 0 0):=(uh dp).ar.bl.cell (by omega);have r1:wr.cell? ⟨B,1,none⟩=some (.slice none 0 0):=(uh dp).ar.bl.cell (by omega);have r2:wr.cell? ⟨B,2,none⟩=some (.slice none 0 0):=(uh dp).ar.bl.cell (by omega);have f0:=(uh dp).ar.bl.free 0;have f1:=(uh dp).ar.bl.free 1;have f2:=(uh dp).ar.bl.free 2;have ur:=gst (gst (gst (abF wr (some B)) 0 (.slice (some ⟨G,0,none⟩) 384 384)) 1 (.slice aE nE cE)) 2 (.slice aI nI cI);have hoB:=(uh dp).ar.o0;have hoG:=(uh dp).ar.o1;have hoF:=(uh dp).ar.o2;have hoL:=(uh dp).ar.o3;have hoU:=(uh dp).o4;have Zw:=aa ((uh dp).ar.ai.kept ur (by cases aE with|none=>exact .inl rfl|some x=>exact .inr (fun e=>by have:=((uh dp).ar.ai.lt x.block rfl).1;simp[Value.ownBlock]at e;omega)));have ZF:=aa (oy.kept ur (by cases aI with|none=>exact .inl rfl|some x=>exact .inr (fun e=>by have:=(oy.lt x.block rfl).1;simp[Value.ownBlock]at e;omega)));have Zp:=aa ((uh dp).ar.cells.grown ur (by simp;omega));have hw9:=aa (gow (uh dp).ar.grown ur (fun n e=>by cases e;exact hoB));have vD:=aa rK;have Ud:=aa zw;clear ur oy pR YR zw rK;rcases fp with⟨uc,rfl⟩|uc
     all_goals
      go_wp2;refine abN (v:=.agg #[.slice (some ⟨G,0,none⟩) 384 384,.slice aE nE cE,.slice aI nI cI]) (by simp[results,results26,go_sem,r0,r1,r2]) rfl ?_;refine⟨c,F,G,nE,nI,cE,cI,aE,aI,uh jQ,rfl,by omega,uh Zp,uh UF,by rw[uh IK];exact uh vD,?_,?_,uh hw9⟩
      ·have h:=uh Zw;rw[uh aaz]at h;exact gp h (by omega)
      ·have h:=uh ZF;rw[uh IK];exact gp h (by omega)
theorem wi(s f:Int)(d:Gn.aY)(hd:∀a b n,Gn.D s f a b n=d a b n)(qn:Gn.gL d)(QN:1<=f)(QO:f<=3)(w:World)(B G gF:Nat)(c F:N1)(sh:Bool)(iW:Gn.fH d c F)(js:sh=decide (0<=Gr.an 384 c 5))(wr:World)(hA:ax wr G 5 384 (aZ c))(hF:ax wr gF 3 384 (bB F))(hR:ax wr B 58 3 (fun _=>.slice none 0 0))(hg:w.grownBy wr none)(o0:w.heap.size<=B)(o1:B<G)(o2:G<gF){t2 t3 t6 t7 t8 t9 Aa Ab Ac Ad Ae Af Ag Ah Ai Aj Ak Al Am Ao Ap Aq Ar As Au Av Aw Ax Ay Az AA AB AC AD AE AF AG AH AI AJ AK AL AM AN AO AP AQ AR AS AT AU AV AW AX AY AZ A0 A1 A2 A3 A4 A5 A6 A7 A8 A9 Ba Bb Bc Bd Be Bf Bg Bh Bi Bj Bk Bl Bm Bn Bo Bp Bq Br Bs Bt Bu Bv Bw Bx Bz BA BB BC BD BE BF BG BH BI BJ BK BL BM BN BO BP BQ BR BS BT BU BV BW BX BY BZ B0 B1 B2 B3 B4 B5 B6 B7 B8 B9 Ca Cb Cc Cd Ce Cf Cg Ch Ci Cj Ck Cl Cm Cn Co Cp Cq Cs Ct Cu Cv Cw Cx Cy Cz CA CB CC CD CE CF CG CH CI CJ CK CL CM CN CO CP CQ CR CS CT CU CV CW CX CY CZ C0 C1 C2 C3 C4 C5 C6 C7 C8 C9 Da Db Dc Dd De Df Dg Dh Di Dj Dk Dl Dm Dn Dp Dq Dr Ds Dt Du Dv Dw Dx Dy Dz DA DB DC DD DE DF DG DH DI DJ DK DL DM DN DO DP DQ DR DS DT DU DV DW DX DY DZ D0 D1 D2 D3 D4 D5 D6 D7 D8 D9 Ea Eb Ec Ed Ee Ef Eg Eh Ei Ej Ek El Em Eo Ep Er Es Et Eu Ev Ew Ex Ey Ez EA EB EC ED EE EF EG EH EI EJ EK EL EM EN EO EP EQ ER ES ET EU EV EW EX EY EZ E0 E1 E2 E3 E4 E5 E6 E7 E8 E9 Fa Fb Fc Fd Fe Ff Fg Fh Fi Fj Fk:Value}:Code.wp prog ((f26.body.map (pP 13)).getD .skip) (bodyPost prog f26 (qN w d f)) ⟨#[.int .i64 s,.int .i64 f,t2,t3,.pointer (some ⟨B,0,none⟩),.slice (some ⟨G,0,none⟩) 384 384,t6,t7,t8,t9,Aa,Ab,Ac,Ad,Ae,Af,Ag,Ah,Ai,Aj,Ak,.slice (some ⟨gF,0,none⟩) 384 384,Al,Am,.bool sh,Ao,Ap,Aq,Ar,As,Au,Av,Aw,Ax,Ay,Az,AA,AB,AC,AD,AE,AF,AG,AH,AI,AJ,AK,AL,AM,AN,AO,AP,AQ,AR,AS,AT,AU,AV,AW,AX,AY,AZ,A0,A1,A2,A3,A4,A5,A6,A7,A8,A9,Ba,Bb,Bc,Bd,Be,Bf,Bg,Bh,Bi,Bj,Bk,Bl,Bm,Bn,Bo,Bp,Bq,Br,Bs,Bt,Bu,Bv,Bw,Bx,Bz,BA,BB,BC,BD,BE,BF,BG,BH,BI,BJ,BK,BL,BM,BN,BO,BP,BQ,BR,BS,BT,BU,BV,BW,BX,BY,BZ,B0,B1,B2,B3,B4,B5,B6,B7,B8,B9,Ca,Cb,Cc,Cd,Ce,Cf,Cg,Ch,Ci,Cj,Ck,Cl,Cm,Cn,Co,Cp,Cq,Cs,Ct,Cu,Cv,Cw,Cx,Cy,Cz,CA,CB,CC,CD,CE,CF,CG,CH,CI,CJ,CK,CL,CM,CN,CO,CP,CQ,CR,CS,CT,CU,CV,CW,CX,CY,CZ,C0,C1,C2,C3,C4,C5,C6,C7,C8,C9,Da,Db,Dc,Dd,De,Df,Dg,Dh,Di,Dj,Dk,Dl,Dm,Dn,Dp,Dq,Dr,Ds,Dt,Du,Dv,Dw,Dx,Dy,Dz,DA,DB,DC,DD,DE,DF,DG,DH,DI,DJ,DK,DL,DM,DN,DO,DP,DQ,DR,DS,DT,DU,DV,DW,DX,DY,DZ,D0,D1,D2,D3,D4,D5,D6,D7,D8,D9,Ea,Eb,Ec,Ed,Ee,Ef,Eg,Eh,Ei,Ej,Ek,El,Em,Eo,Ep,Er,Es,Et,Eu,Ev,Ew,Ex,Ey,Ez,EA,EB,EC,ED,EE,EF,EG,EH,EI,EJ,EK,EL,EM,EN,EO,EP,EQ,ER,ES,ET,EU,EV,EW,EX,EY,EZ,E0,E1,E2,E3,E4,E5,E6,E7,E8,E9,Fa,Fb,Fc,Fd,Fe,Ff,Fg,Fh,Fi,Fj,Fk],[]⟩ wr:=by
 conv=>arg 2;whnf
 obtain⟨i0,hi,dJ,dz,ed⟩:=info_parts yh;obtain⟨i1,hi1,JD,IP,L8⟩:=info_parts gl;have jL:=aa hd;have kb:=aa qn;have jQ:=aa iW;have Ri:=aa js;have Jy:=aa (Gn.Gu c F);obtain⟨fin,ah⟩:∃fin,fin=Gn.ai d f c F:=⟨_,rfl⟩;have gh:=aa ah;have qH:fin.length<=5:=by
  rw[ah];have:=Gn.nm d f (f+2).toNat 0 ((Gn.bi (fun i=>c i==1) 384).filter (Gn.eB F));unfold Gn.ai;omega
 have hB0:Hid (eL w B G gF wr.heap.size c F (.slice none 0 0) 0 [] (.slice none 0 0) (wr.alloc (.cells #[.slice (some ⟨G,0,none⟩) 384 384,.slice none 0 0,.slice none 0 0] 58))):=by
  refine⟨hA.alloc _,hF.alloc _,hR.alloc _,⟨_,abH _ _,rfl,fun j hj=>?_⟩,World.ownsRow_nil _ _ _ _,gal hg _,o0,o1,o2,hF.lt⟩;rcases(show j=0\/j=1\/j=2 by omega)with rfl|rfl|rfl <;> rfl
 clear hd qn iW js ah hA hF hR hg;go_upto_region 46 with fail;obtain⟨L,hL⟩:∃L,L=wr.heap.size:=⟨_,rfl⟩;obtain⟨w1,FZ⟩:∃w1,w1=wr.alloc (.cells #[.slice (some ⟨G,0,none⟩) 384 384,.slice none 0 0,.slice none 0 0] 58):=⟨_,rfl⟩;rw[<-hL,<-FZ]at hB0;rw[<-hL,<-FZ];clear hL FZ;clear wr;go_wp2_with (at_make;refine wpList_make_full _ rfl _ _ 93 rfl w1.heap.size 4 i0 (.bool false) 1 underlying93 hi dJ dz .i64 .i64 _ _ 384 rfl rfl rfl rfl ?q3 ?q4 ?q5 ?_)
 any_goals (first| (rw[ed];decide)|decide|exact abL _)
 intro w2 aH az;have hU:ax w2 w1.heap.size 4 384 (mc fun _=>false):=ax.zero aH;have PU:Hid (gP w B G gF L w1.heap.size (w1.heap.size+1) c F (.slice none 0 0) (fun _=>false) [] w2) :=
  ⟨(uh hB0).on az,hU,World.ownsRow_nil _ _ _ _,(uh hB0).box.lt,Nat.lt_succ_self _,hU.lt⟩
 obtain⟨U,WB⟩:∃U,U=w1.heap.size:=⟨_,rfl⟩;rw[<-WB]at PU|-;clear aH az hU WB hi dJ dz ed hB0;clear i0;clear w1;go_wp2_with fail;go_loopw [28] (fun vk wr=>∃(k:Nat) (M:Nat->Bool) (vE:Value) (acc:List (Int × Nat)),(k:Int)<=f+2/\vk=.int .i64 (k:Int)/\acc++Gn.mons d f ((f+2).toNat-k) k (Gn.bi (Gn.free c F 4 M) 384)=fin/\gP w B G gF L U (U+1) c F vE M acc wr) (fun vk _=>10-(intOf vk).toNat)
 case atStart=>exact⟨0,_,_,[],by omega,rfl,by rw[uh Jy];exact(uh gh).symm,uh PU⟩
 case round =>
  clear PU;clear w2;rename_i KM;have pB:=aa KM;clear KM;obtain⟨k,M,vE,acc,hk,rfl,vm,hH⟩:=hrel;have dp:=aa hH;have iA:=aa vm;clear hH vm;have SI:Hid (∀x,acc=fin->gP w B G gF L U (U+1) c F vE M acc x->eL w B G gF L c F vE (Gn.ai d f c F).length (Gn.aL (Gn.ai d f c F)) (.slice none 0 0) x):=fun x he hx=>by
   have h:=hx.ar;rw[he,uh gh]at h;exact h
  by_cases hlt:(k:Int)<f+2
  ·have hlt':(k:Int)<=f+1:=by omega
   have vG:=aa (HA s f d (uh jL) (uh kb) G gF U c F 4 (7+(k:Int)) M wr (uh dp).ar.cells (uh dp).ar.qZ (uh dp).td);obtain⟨l,hl⟩:∃l,l=Gn.bi (Gn.free c F 4 M) 384:=⟨_,rfl⟩;rw[<-hl]at vG iA;have sO:=aa hl;clear hl;go_wp2_with fail;refine aaR (uh vG) fun w3 dl=>?_;have eV:=aa ((uh dp).on dl);clear dl vG dp;by_cases h0:l.length=0
   ·rw[Gn.tL h0];have aK:acc=fin:=by
     have h:=uh iA;rw[Gn.O4 h0,List.append_nil]at h;exact h
    clear h0;go_wp2_with fail;exact uh pB _ _ (yy s f d (uh jL) (uh kb) w B G gF L c F vE sh (uh jQ) (by rw[uh Ri];exact decide_eq_decide.2 (by omega)) w3 (uh SI w3 aK (uh eV)))
   ·obtain⟨N,hN⟩:∃x,x=d (7+(k:Int)) 0 (l.length:Int):=⟨_,rfl⟩;obtain⟨n1,n2⟩:0<=N/\N<(l.length:Int):=by rw[hN];exact uh kb _ _ _ (by omega)
    obtain⟨n,hn⟩:∃n:Nat,N=(n:Int):=⟨N.toNat,by omega⟩;have sP:n<l.length:=(by omega);rw[Gn.tM (n:=n) h0 (by rw[<-hN,hn])];obtain⟨Mx,hM⟩:∃Mx:Int,Mx=if 3<f+1 then 3 else f+1:=⟨_,rfl⟩;have hMb:1<=Mx/\Mx<=3:=by rw[hM];split <;> omega
    obtain⟨K,hK⟩:∃K,K=d (16+(k:Int)) 1 Mx:=⟨_,rfl⟩;obtain⟨k1,k2⟩:0<=K/\K<Mx:=by rw[hK];exact uh kb _ _ _ (by omega)
    have Ji:Hid (∀w',Calls prog 59 #[.int .i64 s,.int .i64 f,.int .i64 (16+(k:Int)),.int .i64 1,.int .i64 Mx] w' (aJ w' (.int .i64 K))):=fun w'=>by
     have h:=iN s f (16+(k:Int)) 1 Mx w' (by omega);rw[uh jL,<-hK]at h;exact h
    have GV:Gn.bD d f k=2+K:=by unfold Gn.bD;rw[<-hM,<-hK]
    obtain⟨cl,iu⟩:∃cl,cl=l[n]?.getD 0:=⟨_,rfl⟩;have Jh:cl<384:=by rw[iu,uh sO];rw[uh sO]at sP;exact Gn.Iw sP
    have Q3:Hid (Gn.bi (Gn.free c F 4 (Gn.mark M cl)) 384=l.eraseIdx n):=by
     show Gn.bi (Gn.free c F 4 (Gn.mark M cl)) 384=l.eraseIdx n;rw[iu,uh sO];rw[uh sO]at sP;exact Gn.xS c F 4 M n sP
    have dm:Hid ((acc++[(2+K,cl)])++Gn.mons d f ((f+2).toNat-(k+1)) (k+1) (l.eraseIdx n)=fin):=by
     have h:=uh iA;obtain⟨m,hm⟩:∃m,(f+2).toNat-k=m+1:=⟨(f+2).toNat-k-1,by omega⟩;rw[hm,Gn.mons,abO h0,<-hN,hn,abG,GV,<-iu]at h;show(acc++[(2+K,cl)])++Gn.mons d f ((f+2).toNat-(k+1)) (k+1) (l.eraseIdx n)=fin;rw[show(f+2).toNat-(k+1)=m by omega,List.append_assoc];exact h
    have VB:acc.length<=5:=by
     have h:=congrArg List.length (uh iA);rw[List.length_append]at h;omega
    obtain⟨hp,Uw⟩:∃x,x=Gn.hp (2+K):=⟨_,rfl⟩;obtain⟨jo,iG⟩:∃x,x=Gn.Y8 (2+K):=⟨_,rfl⟩;obtain⟨df,P0⟩:∃x,x=Gn.df (2+K):=⟨_,rfl⟩;have vK:Hid (∀w',Calls prog 35 #[.int .i64 (2+K)] w' (aJ w' (.agg #[.int .i64 (2+K),.int .i64 0,.int .i64 0,.int .i64 0,.int .i64 0,.int .i64 hp,.int .i64 hp,.int .i64 jo,.int .i64 df,.int .i64 0,.int .i64 0]))):=fun w'=>by
     have h:=FC (2+K) w' (by omega) (by omega);unfold Gn.kt at h;rw[<-Uw,<-iG,<-P0]at h;exact h
    have GL:Hid (Gn.eF (2+K,cl)=[.int .i64 (2+K),.int .i64 0,.int .i64 0,.int .i64 ((cl:Int)%24),.int .i64 ((cl:Int)/24),.int .i64 hp,.int .i64 hp,.int .i64 jo,.int .i64 df,.int .i64 0,.int .i64 0]):=by
     show Gn.eF (2+K,cl)=_;unfold Gn.eF Gn.kt;rw[<-Uw,<-iG,<-P0]
    rw[<-iu];have aab:¬(cl:Int)<0:=(by omega);have aaa:(cl:Int)<384:=(by omega);have u1:=(uh eV).td.cell Jh;have u2:=(uh eV).td.free cl;have FT:=aa hM;clear hN hn hK GV iu Uw iG P0 h0 hM n1 n2 sP Jh;go_upto_region 53 with fail;clear u1 u2;have zr:=aa ((uh eV).mark cl);obtain⟨wa,SY⟩:∃wa,wa=w3.setCell ⟨U,cl,none⟩ (.bool true):=⟨_,rfl⟩;rw[<-SY]at zr|-;clear SY eV;clear w3;by_cases h3:3<f+1
    ·have Wx:Mx=3:=by rw[uh FT,abP h3]
     subst Wx;go_wp2_with fail;refine aaR (uh Ji _) fun wb tZ=>?_;have KK:=aa ((uh zr).on tZ);clear tZ zr;go_wp2_with fail;refine aaR (uh vK _) fun wc vw=>?_;have sg:=aa ((uh KK).on vw);clear vw KK;have WL:=(uh sg).ar.box.cell (i:=1) (by omega);have QZ:=(uh sg).ar.box.lt;simp only[Nat.one_ne_zero,ite_false,ite_true]at WL;have iH:Hid (gP w B G gF L U (U+1) c F vE (Gn.mark M cl) acc (wc.alloc (.cells #[.int .i64 (2+K),.int .i64 0,.int .i64 0,.int .i64 ((cl:Int)%24),.int .i64 ((cl:Int)/24),.int .i64 hp,.int .i64 hp,.int .i64 jo,.int .i64 df,.int .i64 0,.int .i64 0] 54))):=(uh sg).on (abE _ _ _);have ht4:=(uh sg).o6;have jk:Hid (∀y,((wc.alloc (.cells #[.int .i64 (2+K),.int .i64 0,.int .i64 0,.int .i64 ((cl:Int)%24),.int .i64 ((cl:Int)/24),.int .i64 hp,.int .i64 hp,.int .i64 jo,.int .i64 df,.int .i64 0,.int .i64 0] 54)).alloc (.cells #[.int .i64 (2+K),.int .i64 0,.int .i64 0,.int .i64 ((cl:Int)%24),.int .i64 ((cl:Int)/24),.int .i64 hp,.int .i64 hp,.int .i64 jo,.int .i64 df,.int .i64 0,.int .i64 0] 54)).grownBy y vE.ownBlock->(y.cell? ⟨L,1,none⟩=some vE/\y.frozen? ⟨L,1,none⟩=false)):=by
      intro y hg;have hp:=((uh iH).ar.box.alloc (.cells #[.int .i64 (2+K),.int .i64 0,.int .i64 0,.int .i64 ((cl:Int)%24),.int .i64 ((cl:Int)/24),.int .i64 hp,.int .i64 hp,.int .i64 jo,.int .i64 df,.int .i64 0,.int .i64 0] 54)).grown hg (fun e=>by have:=((uh iH).ar.ai.lt _ e).1;omega);exact⟨hp.cell (by omega),hp.free 1⟩
     go_wp2_with (at_builtin;refine wpList_append_own _ rfl _ _ 26 rfl (U+1) 54 i1 (.agg #[.int .i64 0,.int .i64 0,.int .i64 0,.int .i64 0,.int .i64 0,.int .i64 0,.int .i64 0,.int .i64 0,.int .i64 0,.int .i64 0,.int .i64 0]) 11 88 underlying26 hi1 JD IP L8 rfl (by decide) _ _ _ rfl ((uh iH).ai.alloc _) ⟨wc.heap.size+1,0,none⟩ 1 1 [.int .i64 (2+K),.int .i64 0,.int .i64 0,.int .i64 ((cl:Int)%24),.int .i64 ((cl:Int)/24),.int .i64 hp,.int .i64 hp,.int .i64 jo,.int .i64 df,.int .i64 0,.int .i64 0] rfl rfl ?_ ?_ ?_ ?_ ?_ ?_)
     ·exact oP _ _ (by simp) _ _ _ _ _ _ _ _ _ _ _ _
     ·intro u hu;simp only[List.mem_cons,List.not_mem_nil,or_false]at hu;rcases hu with rfl|rfl|rfl|rfl|rfl|rfl|rfl|rfl|rfl|rfl|rfl <;> rfl
     ·unfold maxLen;omega
     ·omega
     ·simp;omega
     intro v5 w5 eW dw _;obtain⟨y1,y2⟩:=uh jk _ dw;obtain⟨a5,c5,rfl⟩:=la eW;rw[<-uh GL]at eW;have qp:=aa (((uh iH).on (abE _ _ _)).add eW dw);clear eW dw iH sg jk WL QZ;go_wp2;go_roundw
     case rel=>exact⟨k+1,Gn.mark M cl,_,acc++[(2+K,cl)],by omega,by go_num,by rw[uh Q3];exact uh dm,uh qp⟩
     case measure=>simp[intOf];omega
    ·have Wx:f+1=Mx:=by rw[uh FT,abO h3]
     go_wp2_with fail;refine aaR (uh Ji _) fun wb tZ=>?_;have KK:=aa ((uh zr).on tZ);clear tZ zr;go_wp2_with fail;refine aaR (uh vK _) fun wc vw=>?_;have sg:=aa ((uh KK).on vw);clear vw KK;have WL:=(uh sg).ar.box.cell (i:=1) (by omega);have QZ:=(uh sg).ar.box.lt;simp only[Nat.one_ne_zero,ite_false,ite_true]at WL;have iH:Hid (gP w B G gF L U (U+1) c F vE (Gn.mark M cl) acc (wc.alloc (.cells #[.int .i64 (2+K),.int .i64 0,.int .i64 0,.int .i64 ((cl:Int)%24),.int .i64 ((cl:Int)/24),.int .i64 hp,.int .i64 hp,.int .i64 jo,.int .i64 df,.int .i64 0,.int .i64 0] 54))):=(uh sg).on (abE _ _ _);have ht4:=(uh sg).o6;have jk:Hid (∀y,((wc.alloc (.cells #[.int .i64 (2+K),.int .i64 0,.int .i64 0,.int .i64 ((cl:Int)%24),.int .i64 ((cl:Int)/24),.int .i64 hp,.int .i64 hp,.int .i64 jo,.int .i64 df,.int .i64 0,.int .i64 0] 54)).alloc (.cells #[.int .i64 (2+K),.int .i64 0,.int .i64 0,.int .i64 ((cl:Int)%24),.int .i64 ((cl:Int)/24),.int .i64 hp,.int .i64 hp,.int .i64 jo,.int .i64 df,.int .i64 0,.int .i64 0] 54)).grownBy y vE.ownBlock->(y.cell? ⟨L,1,none⟩=some vE/\y.frozen? ⟨L,1,none⟩=false)):=by
      intro y hg;have hp:=((uh iH).ar.box.alloc (.cells #[.int .i64 (2+K),.int .i64 0,.int .i64 0,.int .i64 ((cl:Int)%24),.int .i64 ((cl:Int)/24),.int .i64 hp,.int .i64 hp,.int .i64 jo,.int .i64 df,.int .i64 0,.int .i64 0] 54)).grown hg (fun e=>by have:=((uh iH).ar.ai.lt _ e).1;omega);exact⟨hp.cell (by omega),hp.free 1⟩
     go_wp2_with (at_builtin;refine wpList_append_own _ rfl _ _ 26 rfl (U+1) 54 i1 (.agg #[.int .i64 0,.int .i64 0,.int .i64 0,.int .i64 0,.int .i64 0,.int .i64 0,.int .i64 0,.int .i64 0,.int .i64 0,.int .i64 0,.int .i64 0]) 11 88 underlying26 hi1 JD IP L8 rfl (by decide) _ _ _ rfl ((uh iH).ai.alloc _) ⟨wc.heap.size+1,0,none⟩ 1 1 [.int .i64 (2+K),.int .i64 0,.int .i64 0,.int .i64 ((cl:Int)%24),.int .i64 ((cl:Int)/24),.int .i64 hp,.int .i64 hp,.int .i64 jo,.int .i64 df,.int .i64 0,.int .i64 0] rfl rfl ?_ ?_ ?_ ?_ ?_ ?_)
     ·exact oP _ _ (by simp) _ _ _ _ _ _ _ _ _ _ _ _
     ·intro u hu;simp only[List.mem_cons,List.not_mem_nil,or_false]at hu;rcases hu with rfl|rfl|rfl|rfl|rfl|rfl|rfl|rfl|rfl|rfl|rfl <;> rfl
     ·unfold maxLen;omega
     ·omega
     ·simp;omega
     intro v5 w5 eW dw _;obtain⟨y1,y2⟩:=uh jk _ dw;obtain⟨a5,c5,rfl⟩:=la eW;rw[<-uh GL]at eW;have qp:=aa (((uh iH).on (abE _ _ _)).add eW dw);clear eW dw iH sg jk WL QZ;go_wp2;go_roundw
     case rel=>exact⟨k+1,Gn.mark M cl,_,acc++[(2+K,cl)],by omega,by go_num,by rw[uh Q3];exact uh dm,uh qp⟩
     case measure=>simp[intOf];omega
  ·have aK:acc=fin:=by
    have h:=uh iA;rw[show(f+2).toNat-k=0 by omega,Gn.mons,List.append_nil]at h;exact h
   have hge:¬(k:Int)<=f+1:=by omega
   clear hlt;go_wp2_with fail;exact uh pB _ _ (yy s f d (uh jL) (uh kb) w B G gF L c F vE sh (uh jQ) (by rw[uh Ri];exact decide_eq_decide.2 (by omega)) wr (uh SI wr aK (uh dp)))
variable{F c:N1}
def Gn.scan(F:N1)(up:Nat):Nat->Nat
 | 0=>up
 | n+1=>if F n>F (Gn.scan F up n)then n else Gn.scan F up n
theorem Gn.FG(F:N1)(up:Nat)(hu:up<384):∀n,n<=384->Gn.scan F up n<384/\F up<=F (Gn.scan F up n)/\(∀i,i<n->F i<=F (Gn.scan F up n))/\(Gn.scan F up n=up\/∀i,i<Gn.scan F up n->F i<F (Gn.scan F up n))
 | 0,_=>⟨hu,Int.le_refl _,fun i hi=>absurd hi (Nat.not_lt_zero _),.inl rfl⟩
 | n+1,hn=>by
  obtain⟨h1,h2,h3,h4⟩:=Gn.FG F up hu n (by omega)
  unfold Gn.scan
  by_cases hc:F n>F (Gn.scan F up n)
  ·rw[abP hc]
   refine⟨by omega,by omega,fun i hi=>?_,.inr fun i hi=>?_⟩
   ·by_cases e:i=n
    ·rw[e];exact Int.le_refl _
    ·have:=h3 i (by omega);omega
   ·have:=h3 i hi;omega
  ·rw[abO hc]
   refine⟨h1,h2,fun i hi=>?_,h4⟩
   by_cases e:i=n
   ·rw[e];omega
   ·exact h3 i (by omega)
theorem Gn.Pt{up:Nat}(hu:up<384)(h:Gn.MR c up F):Gn.ti F (Gn.scan F up 384):=by
 obtain⟨h1,h2,h3,h4⟩:=Gn.FG F up hu 384 (abL _);refine⟨h1,h3,fun i hi=>?_⟩;rcases h4 with h4|h4
 ·rw[h4]at hi h3|-;have h0:F up=0:=(h.is.zero up hu).2 rfl;have hle:=h3 i (by omega);have ow:F i≠0:=fun e=>by have:=(h.is.zero i (by omega)).1 e;omega
  omega
 ·exact h4 i hi
theorem Gn.yB{d:Gn.aY}(h2:∀i,c i≠5){far:Nat}(h0:d 6 0 2=0):(Gn.jK (Gr.dj c far 4) F (F far/2)=none->Gr.an 384 (Gn.bp d c F far) 5=-1)/\(∀k,k<384->Gn.jK (Gr.dj c far 4) F (F far/2)=some k->Gr.an 384 (Gn.bp d c F far) 5=(k:Int)):=by
 have h4:∀i,Gr.dj c far 4 i≠5:=fun i=>by
  unfold Gr.dj;split
  ·omega
  ·exact h2 i
 constructor
 ·intro hn;unfold Gn.bp;rw[abP h0,hn];exact Gn.KB h4
 ·intro k hk hs;unfold Gn.bp;rw[abP h0,hs];refine Gn.QI hk fun i=>?_;show Gr.dj (Gr.dj c far 4) k 5 i=5↔i=k;by_cases e:i=k
  ·rw[e,Gr.fV];exact⟨fun _=>rfl,fun _=>rfl⟩
  ·rw[Gr.ic _ _ e];exact⟨fun h=>absurd h (h4 i),fun h=>absurd h e⟩
theorem Gn.RH{d:Gn.aY}(h2:∀i,c i≠5){far:Nat}(h0:d 6 0 2≠0):Gr.an 384 (Gn.bp d c F far) 5=-1:=by
 unfold Gn.bp;rw[abO h0];refine Gn.KB fun i=>?_;unfold Gr.dj;split
 ·omega
 ·exact h2 i
theorem Gn.Nn(d:Gn.aY)(i:Nat):Gn.ar d i≠5:=by
 unfold Gn.ar Gr.dj;split
 ·omega
 ·have:=Gn.NE d 5 i;omega
structure jU(w:World)(B G gF:Nat)(c F:N1)(wr:World):Prop where
 cells:ax wr G 5 384 (aZ c)
 qZ:ax wr gF 3 384 (bB F)
 bl:ax wr B 58 3 (fun _=>.slice none 0 0)
 grown:w.grownBy wr none
 o0:w.heap.size<=B
 o1:B<G
 o2:G<gF
theorem jU.on{w:World}{B G gF:Nat}{wr wx:World}(h:jU w B G gF c F wr)(hg:wr.grownBy wx none):jU w B G gF c F wx :=
 ⟨h.cells.grown hg (by simp),h.qZ.grown hg (by simp),h.bl.grown hg (by simp),cO h.grown hg,h.o0,h.o1,h.o2⟩
theorem jU.put{w:World}{B G gF:Nat}{wr:World}(h:jU w B G gF c F wr)(k:Nat)(v:Int):jU w B G gF (Gr.dj c k v) F (wr.setCell ⟨G,k,none⟩ (.int .u8 v)):=by
 have h0:=h.o0;have h1:=h.o1;have h2:=h.o2;have hg:=gpt wr G k (.int .u8 v);exact⟨h.cells.w9 k v,h.qZ.grown hg (by simp;omega),h.bl.grown hg (by simp;omega),gow h.grown hg (fun n e=>by cases e;omega),h0,h1,h2⟩
theorem J3(s f:Int)(d:Gn.aY)(hd:∀a b n,Gn.D s f a b n=d a b n)(qn:Gn.gL d)(QN:1<=f)(QO:f<=3)(w:World)(B G X Y:Nat)(wr:World)(hA:ax wr G 5 384 (aZ (Gn.ks d 5)))(hX:ax wr X 89 6 (fun j=>.int .i64 (Gn.mx d j)))(hY:ax wr Y 89 6 (fun j=>.int .i64 (Gn.my d j)))(hR:ax wr B 58 3 (fun _=>.slice none 0 0))(hg:w.grownBy wr none)(o0:w.heap.size<=B)(o1:B<G){t2 t3 t8 t9 Aa Ab Ac Ad Ae Af Ag Ah Ai Aj Ak Al Am Ao Ap Aq Ar As Au Av Aw Ax Ay Az AA AB AC AD AE AF AG AH AI AJ AK AL AM AN AO AP AQ AR AS AT AU AV AW AX AY AZ A0 A1 A2 A3 A4 A5 A6 A7 A8 A9 Ba Bb Bc Bd Be Bf Bg Bh Bi Bj Bk Bl Bm Bn Bo Bp Bq Br Bs Bt Bu Bv Bw Bx Bz BA BB BC BD BE BF BG BH BI BJ BK BL BM BN BO BP BQ BR BS BT BU BV BW BX BY BZ B0 B1 B2 B3 B4 B5 B6 B7 B8 B9 Ca Cb Cc Cd Ce Cf Cg Ch Ci Cj Ck Cl Cm Cn Co Cp Cq Cs Ct Cu Cv Cw Cx Cy Cz CA CB CC CD CE CF CG CH CI CJ CK CL CM CN CO CP CQ CR CS CT CU CV CW CX CY CZ C0 C1 C2 C3 C4 C5 C6 C7 C8 C9 Da Db Dc Dd De Df Dg Dh Di Dj Dk Dl Dm Dn Dp Dq Dr Ds Dt Du Dv Dw Dx Dy Dz DA DB DC DD DE DF DG DH DI DJ DK DL DM DN DO DP DQ DR DS DT DU DV DW DX DY DZ D1 D2 D3 D4 D5 D6 D7 D8 D9 Ea Eb Ec Ed Ee Ef Eg Eh Ei Ej Ek El Em Eo Ep Er Es Et Eu Ev Ew Ex Ey Ez EA EB EC ED EE EF EG EH EI EJ EK EL EM EN EO EP EQ ER ES ET EU EV EW EX EY EZ E0 E1 E2 E3 E4 E5 E6 E7 E8 E9 Fa Fb Fc Fd Fe Ff Fg Fh Fi Fj Fk Fm Fn Fo:Value}:Code.wp prog ((f26.body.map (pP 5)).getD .skip) (bodyPost prog f26 (qN w d f)) ⟨#[.int .i64 s,.int .i64 f,t2,t3,.pointer (some ⟨B,0,none⟩),.slice (some ⟨G,0,none⟩) 384 384,.pointer (some ⟨X,0,none⟩),.pointer (some ⟨Y,0,none⟩),t8,t9,Aa,Ab,Ac,Ad,Ae,Af,Ag,Ah,Ai,Aj,Ak,Al,Am,Ao,Ap,Aq,Ar,As,Au,Av,Aw,Ax,Ay,Az,AA,AB,AC,AD,AE,AF,AG,AH,AI,AJ,AK,AL,AM,AN,AO,AP,AQ,AR,AS,AT,AU,AV,AW,AX,AY,AZ,A0,A1,A2,A3,A4,A5,A6,A7,A8,A9,Ba,Bb,Bc,Bd,Be,Bf,Bg,Bh,Bi,Bj,Bk,Bl,Bm,Bn,Bo,Bp,Bq,Br,Bs,Bt,Bu,Bv,Bw,Bx,Bz,BA,BB,BC,BD,BE,BF,BG,BH,BI,BJ,BK,BL,BM,BN,BO,BP,BQ,BR,BS,BT,BU,BV,BW,BX,BY,BZ,B0,B1,B2,B3,B4,B5,B6,B7,B8,B9,Ca,Cb,Cc,Cd,Ce,Cf,Cg,Ch,Ci,Cj,Ck,Cl,Cm,Cn,Co,Cp,Cq,Cs,Ct,Cu,Cv,Cw,Cx,Cy,Cz,CA,CB,CC,CD,CE,CF,CG,CH,CI,CJ,CK,CL,CM,CN,CO,CP,CQ,CR,CS,CT,CU,CV,CW,CX,CY,CZ,C0,C1,C2,C3,C4,C5,C6,C7,C8,C9,Da,Db,Dc,Dd,De,Df,Dg,Dh,Di,Dj,Dk,Dl,Dm,Dn,Dp,Dq,Dr,Ds,Dt,Du,Dv,Dw,Dx,Dy,Dz,DA,DB,DC,DD,DE,DF,DG,DH,DI,DJ,DK,DL,DM,DN,DO,DP,DQ,DR,DS,DT,DU,DV,DW,DX,DY,DZ,D1,D2,D3,D4,D5,D6,D7,D8,D9,Ea,Eb,Ec,Ed,Ee,Ef,Eg,Eh,Ei,Ej,Ek,El,Em,Eo,Ep,Er,Es,Et,Eu,Ev,Ew,Ex,Ey,Ez,EA,EB,EC,ED,EE,EF,EG,EH,EI,EJ,EK,EL,EM,EN,EO,EP,EQ,ER,ES,ET,EU,EV,EW,EX,EY,EZ,E0,E1,E2,E3,E4,E5,E6,E7,E8,E9,Fa,Fb,Fc,Fd,Fe,Ff,Fg,Fh,Fi,Fj,Fk,Fm,Fn,Fo],[]⟩ wr:=by
 conv=>arg 2;whnf
 have jL:=aa hd;have kb:=aa qn;have jr:=aa hA;have T7:=aa hR;have nQ:=aa hg;have q1:=hX.cell (i:=0) (by omega);have q2:=hY.cell (i:=0) (by omega);have hue:=Gn.PI qn;have K7:=Gn.To qn;have FW:=Gn.gz qn 0;have q3:=hA.cell K7;have q4:=hA.free (Gn.up d);have SE:=aa (Gn.uM d);have Z7:=aa (Gn.zb d);have QR:Hid (ax (wr.setCell ⟨G,Gn.up d,none⟩ (.int .u8 3)) G 5 384 (aZ (Gn.ar d))):=hA.w9 (Gn.up d) 3;obtain⟨cb,SF⟩:∃cb,cb=Gn.ar d:=⟨_,rfl⟩;rw[<-SF]at QR SE Z7;have WK:=aa SF;obtain⟨up,L0⟩:∃up,up=Gn.up d:=⟨_,rfl⟩;have aaw:=aa L0;rw[<-L0]at hue K7 q3 q4 QR Z7;obtain⟨ux,hux⟩:∃ux,ux=Gn.mx d 0:=⟨_,rfl⟩;obtain⟨uy,huy⟩:∃uy,uy=Gn.my d 0:=⟨_,rfl⟩;rw[<-hux,<-huy]at hue FW;rw[<-hux]at q1;rw[<-huy]at q2;obtain⟨b1,b2,b3,b4⟩:=FW;have aau:(up:Int)<384:=by omega
 have hG:G<wr.heap.size:=hA.lt;clear hd qn hA hX hY hR hg SF L0 hux huy;go_upto_region 29 with fail;have hg1:=gpt wr G up (.int .u8 3);have MU:Hid (ax (wr.setCell ⟨G,up,none⟩ (.int .u8 3)) B 58 3 (fun _=>.slice none 0 0)):=(uh T7).grown hg1 (by simp;omega);have iR:Hid (w.grownBy (wr.setCell ⟨G,up,none⟩ (.int .u8 3)) none):=gow (uh nQ) hg1 (fun n e=>by cases e;omega);have KJ:G<(wr.setCell ⟨G,up,none⟩ (.int .u8 3)).heap.size:=abR hG hg1.size;obtain⟨w1,FZ⟩:∃w1,w1=wr.setCell ⟨G,up,none⟩ (.int .u8 3):=⟨_,rfl⟩;rw[<-FZ]at QR MU iR KJ|-;clear hg1 FZ q1 q2 q3 q4 jr T7 nQ hG;clear wr;go_wp2_with fail;have jN:=(uh QR).alloc (.cells #[.int .i64 (up:Int)] 3);have hV:=il.bo w1 w1.heap.size rfl (.int .i64 (up:Int)) 3 (bB fun _=>(up:Int)) rfl;refine(n8 _ _ _ 0 1 _ _ _ cb (fun _=>(up:Int)) (fun _=>false) _ (jN.lg _ jN.lt (by decide)) (fun i=>by have:=uh SE i;omega) (il.S3 _ _ _ _) hV (fun _=>by constructor <;> omega)).mono ?_;rintro e w5 ⟨F0,⟨g,rfl,MZ,Sn,nb⟩,tY⟩;have hF:Gn.MR cb up (fun i=>if i<384 then F0 i else 0):=Gn.MR.XY tY
  (fun i hi=>by simp[Gr.dt])
  (fun i hi=>by
   constructor
   ·rintro⟨_,j,_,he⟩;have xn:(up:Int)=(i:Int):=he;omega
   ·rintro rfl
    exact⟨by rw[uh Z7];rfl,0,by omega,rfl⟩)
 have zp:ax w5 g 3 384 (bB fun i=>if i<384 then F0 i else 0):=Sn.congr fun j hj=>by
  show Value.int .i64 (F0 j)=.int .i64 (if j<384 then F0 j else 0);rw[abP hj]
 obtain⟨F,Wk⟩:∃F:N1,F=fun i=>if i<384 then F0 i else 0:=⟨_,rfl⟩;rw[<-Wk]at hF zp;have hgr:=dV nb;have YG:=cO (abE w1 (.cells #[.int .i64 (up:Int)] 3) none) hgr;have hS5:Hid (jU w B G g cb F w5):=⟨(uh QR).grown YG (by simp),zp,(uh MU).grown YG (by simp),cO (uh iR) YG,o0,o1,by simp at MZ;omega⟩;have iU:=aa hF;have hsc:=aa (Gn.Pt K7 hF);have KY:Hid (∀i,i<384->-1<=F i/\F i<=400):=fun i hi=>by
  have h1:=hF.is.lo i hi;refine⟨h1,?_⟩;by_cases h0:0<=F i
  ·have:=pj hF.is (F i).toNat i hi (by omega);omega
  ·omega
 have Xe:=aa (fun n hn=>Gn.FG F up K7 n hn);clear tY Sn nb hgr YG hV Wk hF zp QR MU iR MZ jN KJ;clear F0;go_wp2_with fail;go_loopw [22,23] (fun vf vi wr=>∃k:Nat,k<=384/\vi=.int .i64 (k:Int)/\vf=.int .i64 ((Gn.scan F up k:Nat):Int)/\jU w B G g cb F wr) (fun _ vi _=>400-(intOf vi).toNat)
 case atStart=>exact⟨0,by omega,rfl,rfl,uh hS5⟩
 case round =>
  clear hS5;clear w5;obtain⟨k,hk,rfl,rfl,hS⟩:=hrel;have ko:=aa hS;clear hS;obtain⟨m,hm⟩:∃m,m=Gn.scan F up k:=⟨_,rfl⟩;have SQ:m<384:=by rw[hm];exact(uh Xe k hk).1
  have abn:(m:Int)<384:=by omega
  rw[<-hm];by_cases hlt:k<384
  ·have hlt':(k:Int)<384:=by omega
   have q1:wr.cell? ⟨g,k,none⟩=some (.int .i64 (F k)):=(uh ko).qZ.cell hlt;have q2:wr.cell? ⟨g,m,none⟩=some (.int .i64 (F m)):=(uh ko).qZ.cell SQ;have dm:Hid (Gn.scan F up (k+1)=if F k>F m then k else m):=by
    show Gn.scan F up (k+1)=_;rw[Gn.scan,<-hm]
   have fC:Hid (∀n,jU w B G g cb F (wr.drewN n)):=fun n=>(uh ko).on (gdw (abF _ none) n);have mf:=aa hm;have HL:=aa hlt;clear hm hlt hk SQ;by_cases hgt:F m<F k
   ·have sQ:Hid (Gn.scan F up (k+1)=k):=by show _=_;rw[uh dm,abP hgt]
    clear dm;go_wp2_with fail;go_quiet (fail);go_wp2;go_roundw
    case rel=>exact⟨k+1,by have:=uh HL;omega,by go_num,by rw[uh sQ],uh fC _⟩
    case measure=>simp[intOf];omega
   ·have sQ:Hid (Gn.scan F up (k+1)=m):=by show _=_;rw[uh dm,abO (by omega)]
    clear dm;go_wp2_with fail;go_quiet (fail);go_wp2;go_roundw
    case rel=>exact⟨k+1,by have:=uh HL;omega,by go_num,by rw[uh sQ],uh fC _⟩
    case measure=>simp[intOf];omega
  ·have hge:¬(k:Int)<384:=by omega
   obtain rfl:k=384:=by omega
   have oU:Gn.ti F m:=by rw[hm];exact uh hsc
   have iW:Hid (Gn.fH d (Gn.bp d cb F m) F):=by
    have h1:=uh iU;rw[uh aaw]at h1;rw[uh WK]at h1|-;exact⟨m,h1,oU,rfl⟩
   have UJ:Hid (∀i,cb i≠5):=by rw[uh WK];exact Gn.Nn d
   have hnm:0<=F m:=by
    have h0:=((uh iU).is.zero up K7).2 rfl;have:=oU.wD up K7;omega
   have gM:F m<=400:=(uh KY m SQ).2;have OB:IntKind.i64.wrap (F m/2)=F m/2:=by rw[abK];omega
   have q1:=(uh ko).cells.cell SQ;have q2:=(uh ko).cells.free m;have hS4:=aa ((uh ko).put m 4);obtain⟨c2,oS⟩:∃c2,c2=Gr.dj cb m 4:=⟨_,rfl⟩;rw[<-oS]at hS4;have zC:=aa oS;have HM:=aa SQ;have h25:Hid (∀i,0<=c2 i/\c2 i<=5):=by rw[oS];exact Gn.wH (uh SE) (by omega)
   clear hlt hk hm oU SQ oS Xe hsc;go_upto_region 38 with fail;rename_i K1 h1 K2 h2;have pB:=aa h1;clear h1;obtain⟨w4,OA⟩:∃w4,w4=wr.setCell ⟨G,m,none⟩ (.int .u8 4):=⟨_,rfl⟩;rw[<-OA]at hS4|-;clear OA q1 q2 ko hge;have kP:=iN s f 6 0 2 w4 (by omega);rw[uh jL]at kP;obtain⟨D0,wO⟩:∃x,x=d 6 0 2:=⟨_,rfl⟩;rw[<-wO]at kP;have GC:=aa wO;clear wO;go_wp2_with fail;refine kP.mono ?_;rintro e w7 ⟨rfl,N8⟩;have IH:=aa ((uh hS4).on N8);clear kP N8 hS4;by_cases hz:D0=0
   ·have kW:(D0==0)=true:=by simpa using hz
    have Qf:=aa (show d 6 0 2=0 by rw[<-uh GC];exact hz);clear hz;go_wp2_with fail;go_loopw [24,25] (fun vs vi wr=>∃k:Nat,k<=384/\vi=.int .i64 (k:Int)/\((vs=.bool false/\jU w B G g c2 F wr/\∀j,j<k->(F j==F m/2&&c2 j==1)=false)\/(vs=.bool true/\∃q,q<384/\Gn.jK c2 F (F m/2)=some q/\jU w B G g (Gr.dj c2 q 5) F wr))) (fun _ vi _=>400-(intOf vi).toNat)
    case atStart=>exact⟨0,by omega,rfl,.inl ⟨rfl,uh IH,fun j hj=>by omega⟩⟩
    case round =>
     clear IH;clear w7;obtain⟨k,hk,rfl,NZ⟩:=hrel;rcases NZ with⟨rfl,hS,hno⟩|⟨rfl,q,hq,js,hS⟩
     ·have ko:=aa hS;have aT:=aa hno;clear hS hno;by_cases hlt:k<384
      ·have hlt':(k:Int)<384:=(by omega);have q1:wr.cell? ⟨g,k,none⟩=some (.int .i64 (F k)):=(uh ko).qZ.cell hlt;have q2:wr.cell? ⟨g,m,none⟩=some (.int .i64 (F m)):=(uh ko).qZ.cell (uh HM);have q3:wr.cell? ⟨G,k,none⟩=some (.int .u8 (c2 k)):=(uh ko).cells.cell hlt;have fC:Hid (∀n,jU w B G g c2 F (wr.drewN n)):=fun n=>(uh ko).on (gdw (abF _ none) n);have HL:=aa hlt;clear hlt hk;by_cases e2:(c2 k==1)=true
       ·by_cases e1:(F k==F m/2)=true
        ·have js:=aa (Gn.yD (c:=c2) (F:=F) (v:=F m/2) (uh HL) (by rw[e1,e2];rfl) (uh aT));have hq4:∀n,(wr.drewN n).cell? ⟨G,k,none⟩=some (.int .u8 (c2 k)):=fun n=>(uh fC n).cells.cell (uh HL);have hq5:∀n,(wr.drewN n).frozen? ⟨G,k,none⟩=false:=fun n=>(uh fC n).cells.free k;have pH:Hid (∀n,jU w B G g (Gr.dj c2 k 5) F ((wr.drewN n).setCell ⟨G,k,none⟩ (.int .u8 5))):=fun n=>(uh fC n).put k 5;go_wp2_with fail;go_quiet (fail);go_wp2;go_roundw
         case rel=>exact⟨k+1,by have:=uh HL;omega,by go_num,.inr ⟨rfl,k,uh HL,uh js,uh pH _⟩⟩
         case measure=>simp[intOf];omega
        ·have Zk:(F k==F m/2)=false:=by simpa using e1
         clear e1;go_wp2_with fail;go_quiet (fail);go_wp2;go_roundw
         case rel =>
          refine⟨k+1,by have:=uh HL;omega,by go_num,.inl ⟨rfl,uh fC _,fun j hj=>?_⟩⟩;by_cases pG:j=k
          ·subst pG;rw[Zk];rfl
          ·exact uh aT j (by omega)
         case measure=>simp[intOf];omega
       ·have Zl:(c2 k==1)=false:=by simpa using e2
        clear e2;go_wp2_with fail;go_quiet (fail);go_wp2;go_roundw
        case rel =>
         refine⟨k+1,by have:=uh HL;omega,by go_num,.inl ⟨rfl,uh fC _,fun j hj=>?_⟩⟩;by_cases pG:j=k
         ·subst pG;rw[Zl,Bool.and_false]
         ·exact uh aT j (by omega)
        case measure=>simp[intOf];omega
      ·have hge:¬(k:Int)<384:=(by omega);obtain rfl:k=384:=(by omega);have js:=Gn.yC (c:=c2) (F:=F) (v:=F m/2) (uh aT);have aK:Hid (Gn.bp d cb F m=c2):=by
        show Gn.bp d cb F m=c2;unfold Gn.bp;rw[abP (uh Qf),<-uh zC,js];rfl
       have qH:Hid (false=decide (0<=Gr.an 384 (Gn.bp d cb F m) 5)):=by
        have h:=(Gn.yB (uh UJ) (F:=F) (far:=m) (uh Qf)).1 (by rw[<-uh zC];exact js);show false=_;rw[h];rfl
       clear js hk hlt;go_wp2_with fail;exact uh pB _ _ (wi s f d (uh jL) (uh kb) QN QO w B G g (Gn.bp d cb F m) F false (uh iW) (uh qH) wr (by rw[uh aK];exact(uh ko).cells) (uh ko).qZ (uh ko).bl (uh ko).grown (uh ko).o0 (uh ko).o1 (uh ko).o2)
     ·have ko:=aa hS;have aK:Hid (Gn.bp d cb F m=Gr.dj c2 q 5):=by
       show Gn.bp d cb F m=Gr.dj c2 q 5;unfold Gn.bp;rw[abP (uh Qf),<-uh zC,js];rfl
      have qH:Hid (true=decide (0<=Gr.an 384 (Gn.bp d cb F m) 5)):=by
       have h:=(Gn.yB (uh UJ) (F:=F) (far:=m) (uh Qf)).2 q hq (by rw[<-uh zC];exact js);show true=_;rw[h];exact(abJ (by omega)).symm
      clear hS js;by_cases hlt:(k:Int)<384
      all_goals
       go_wp2_with fail;exact uh pB _ _ (wi s f d (uh jL) (uh kb) QN QO w B G g (Gn.bp d cb F m) F true (uh iW) (uh qH) wr (by rw[uh aK];exact(uh ko).cells) (uh ko).qZ (uh ko).bl (uh ko).grown (uh ko).o0 (uh ko).o1 (uh ko).o2)
   ·have kW:(D0==0)=false:=by simpa using hz
    have aK:Hid (Gn.bp d cb F m=c2):=by
     show Gn.bp d cb F m=c2;unfold Gn.bp;rw[abO (by rw[<-uh GC];exact hz)];exact(uh zC).symm
    have qH:Hid (false=decide (0<=Gr.an 384 (Gn.bp d cb F m) 5)):=by
     have h:=Gn.RH (uh UJ) (F:=F) (far:=m) (d:=d) (by rw[<-uh GC];exact hz);show false=_;rw[h];rfl
    clear hz;go_wp2_with fail;exact uh pB _ _ (wi s f d (uh jL) (uh kb) QN QO w B G g (Gn.bp d cb F m) F false (uh iW) (uh qH) w7 (by rw[uh aK];exact(uh IH).cells) (uh IH).qZ (uh IH).bl (uh IH).grown (uh IH).o0 (uh IH).o1 (uh IH).o2)
