import Derived.Test.YtbanjoflgoiegaaGreatPart06
import Derived.Deep.AppendLies
import Derived.Test.YtbanjoflgoiegaaGreatPart07
import Derived.Laws.CopyOwn
set_option maxHeartbeats 4000000
set_option maxRecDepth 8000
namespace Go.Proofs.YtbanjoflgoiegaaGreat
open Go.Proofs.Tryz
open Go.RowKit
namespace Gn
abbrev li:=Int × Int × Int × Int
def lie(d:aY):Nat->Nat->List Nat->List li
 | 0,_,_=>[]
 | m+1,k,l=>if l.length=0 then[]else(1+d (40+(k:Int)) 1 4,1,((l[(d (40+(k:Int)) 0 (l.length:Int)).toNat]?.getD 0:Nat):Int)%24,((l[(d (40+(k:Int)) 0 (l.length:Int)).toNat]?.getD 0:Nat):Int)/24) :: lie d m (k+1) (l.eraseIdx (d (40+(k:Int)) 0 (l.length:Int)).toNat)
def fx(d:aY)(k:Nat):List li:=(List.range k).map fun (j:Nat)=>(1+d (50+(j:Int)) 1 3,4,(j:Int),0)
def aj(d:aY)(c:N1):List li:=lie d 4 0 (bi (fun i=>c i==1) 384)++if Gr.an 384 c 5<0 then[]else fx d 3
def jj(p:li):List Value:=[.int .i64 p.1,.int .i64 p.2.1,.int .i64 p.2.2.1,.int .i64 p.2.2.2]
def jc(acc:List li):List Value:=acc.flatMap jj
theorem uW(acc:List li)(p:li):jc (acc++[p])=jc acc++jj p:=by
 unfold jc;rw[List.flatMap_append];simp
theorem wJ(d:aY)(k:Nat):fx d (k+1)=fx d k++[(1+d (50+(k:Int)) 1 3,4,(k:Int),0)]:=by
 unfold fx;rw[List.range_succ,List.map_append];rfl
theorem uw(d:aY):∀(m k:Nat)(l:List Nat),(lie d m k l).length<=m
 | 0,_,_=>abL _
 | m+1,k,l=>by
  unfold lie
  split
  ·exact Nat.zero_le _
  ·have:=uw d m (k+1) (l.eraseIdx (d (40+(k:Int)) 0 (l.length:Int)).toNat)
   simp only[List.length_cons]
   omega
end Gn
theorem jh:(prog.info? 62).map (fun i=>(i.zero,i.size,i.bytes))=some (some (.agg #[.int .i64 0,.int .i64 0,.int .i64 0,.int .i64 0]),4,32):=by kernel_rfl
structure eK(w:World)(bL bE:Nat)(s f:Int)(vL vE:Value)(l:List Nat)(acc:List Gn.li)(wr:World):Prop where
 ep:ax wr w.heap.size 116 2 (fun j=>.int .i64 (if j=0 then s else f))
 left:qM wr bL vL l
 F1:∀n,vL.ownBlock=some n->n<bE
 ai:wr.ownsRow bE 62 4 vE acc.length (Gn.jc acc)
 grown:w.grownBy wr none
 lo:w.heap.size<bL
 hi:bL<=bE
 wD:bE<=wr.heap.size
 FF:∀c,c∈l->c<384
 len:l.length<=384
theorem eK.on{w:World}{bL bE:Nat}{s f:Int}{vL vE:Value}{l:List Nat}{acc:List Gn.li}{wr wx:World}(h:eK w bL bE s f vL vE l acc wr)(hg:wr.grownBy wx none):eK w bL bE s f vL vE l acc wx :=
 ⟨h.ep.grown hg (by simp),h.left.kept hg (by cases vL.ownBlock <;> simp),h.F1,h.ai.kept hg (by cases vE.ownBlock <;> simp),cO h.grown hg,h.lo,h.hi,abM h.wD hg.size,h.FF,h.len⟩
theorem eK.Yh{w:World}{bL bE:Nat}{s f:Int}{vL vE vN:Value}{l:List Nat}{acc:List Gn.li}{wr wx:World}{i:Nat}(h:eK w bL bE s f vL vE l acc wr)(hN:qM wx bL vN (l.eraseIdx i))(ho:vN.ownBlock=vL.ownBlock)(hg:wr.grownBy wx vL.ownBlock):eK w bL bE s f vN vE (l.eraseIdx i) acc wx:=by
 have iC:=h.lo;have Q7:=h.hi;have hlen:(l.eraseIdx i).length<=l.length:=by rw[List.length_eraseIdx];split <;> omega
 have SP:=h.len;refine⟨h.ep.grown hg ?_,hN,fun n hn=>h.F1 n (by rw[<-ho];exact hn),h.ai.kept hg ?_,gow h.grown hg ?_,h.lo,h.hi,abM h.wD hg.size,fun c hc=>h.FF c (List.mem_of_mem_eraseIdx hc),by omega⟩
 ·intro e;have:=(h.left.lt _ e).1;omega
 ·cases hv:vE.ownBlock with
  | none=>exact .inl rfl
  | some n =>
   right;intro e;have h1:=(h.ai.lt n hv).1;have h2:=h.F1 n e.symm;omega
 ·intro n e;have:=(h.left.lt n e).1;omega
theorem eK.add{w:World}{bL bE:Nat}{s f:Int}{vL vE vN:Value}{l:List Nat}{acc:List Gn.li}{p:Gn.li}{wr wx:World}(h:eK w bL bE s f vL vE l acc wr)(hN:wx.ownsRow bE 62 4 vN (acc.length+1) (Gn.jc acc++Gn.jj p))(hg:wr.grownBy wx vE.ownBlock):eK w bL bE s f vL vN l (acc++[p]) wx:=by
 have iC:=h.lo;have Q7:=h.hi;refine⟨h.ep.grown hg ?_,h.left.kept hg ?_,h.F1,?_,gow h.grown hg ?_,h.lo,h.hi,abM h.wD hg.size,h.FF,h.len⟩
 ·intro e;have:=(h.ai.lt _ e).1;omega
 ·cases hv:vL.ownBlock with
  | none=>exact .inl rfl
  | some n =>
   right;intro e;have h1:=(h.ai.lt n e.symm).1;have h2:=h.F1 n hv;omega
 ·rw[Gn.uW,List.length_append];exact hN
 ·intro n e;have:=(h.ai.lt n e).1;omega
theorem eK.at{w:World}{bL bE:Nat}{s f:Int}{vL vE:Value}{l:List Nat}{acc:List Gn.li}{wr:World}(h:eK w bL bE s f vL vE l acc wr){n:Nat}(hn:n<l.length):∃g aG,vL=.slice (some ⟨g,0,none⟩) l.length aG/\l.length<=aG/\wr.cell? ⟨g,n,none⟩=some (.int .i64 ((l[n]?.getD 0:Nat):Int)):=by
 rcases h.left.zm with⟨_,rfl⟩|⟨g,aG,H,rfl,_,hA,P3,_,hH⟩
 ·simp at hn
 ·exact⟨g,aG,rfl,P3,by rw[hA.cell (by omega),hH n hn]⟩
theorem po(w:World)(B:Nat)(hB:B=w.heap.size)(a0 a1 a2 a3:Value)(T:TypeId):∀j u,[a0,a1,a2,a3][j]?=some u->(w.alloc (.cells #[a0,a1,a2,a3] T)).cell? ((⟨B,0,none⟩:Addr).add j)=some u:=by
 subst hB;intro j u hj;have hlt:j<4:=(List.getElem?_eq_some_iff.1 hj).1;rcases(show j=0\/j=1\/j=2\/j=3 by omega)with rfl|rfl|rfl|rfl
 all_goals
  simp at hj;subst hj;simp[Addr.add]
theorem Me(s f:Int)(d:Gn.aY)(hd:∀a b n,Gn.D s f a b n=d a b n)(qn:Gn.gL d)(G:Nat)(c:N1)(w:World)(hA:ax w G 5 384 (aZ c))(h5:∀i,0<=c i/\c i<=5):Calls prog 101 #[.agg #[.int .i64 s,.int .i64 f],.slice (some ⟨G,0,none⟩) 384 384] w
   fun e w'=>∃v,e=.returned v/\w'.ownsRow w.heap.size 62 4 v (Gn.aj d c).length (Gn.jc (Gn.aj d c))/\w.grownBy w' none:=by
 have jL:=aa hd;have kb:=aa qn;have jr:=aa hA;have TO:=aa h5;obtain⟨fin,ah⟩:∃fin,fin=Gn.lie d 4 0 (Gn.bi (fun i=>c i==1) 384):=⟨_,rfl⟩;have gh:=aa ah;have qH:fin.length<=4:=by rw[ah];exact Gn.uw d 4 0 _
 obtain⟨i0,hi,dJ,dz,ed⟩:=info_parts jh;clear hd qn hA ah h5;go_enter func101,ntmps101;go_wp2_with fail;obtain⟨w0,aD⟩:∃w0,w0=w.alloc (.cells #[.int .i64 s,.int .i64 f] 116):=⟨_,rfl⟩;have wT:w0.heap.size=w.heap.size+1:=by rw[aD];simp
 have aN:w.grownBy w0 none:=by rw[aD];exact abE _ _ _
 have ub:ax w0 w.heap.size 116 2 (fun j=>.int .i64 (if j=0 then s else f)):=by rw[aD];exact ax.iY _ _ _ _
 have hA0:=(uh jr).grown aN (by simp);have Wr:=(uh jr).lt;rw[<-aD];refine(oQ w0.heap.size _ _ c _ (hA0.lg _ hA0.lt (by decide)) (abL _)).mono ?_;rintro e w2 ⟨vL,rfl,hL2,hg1⟩;have P8:=hg1.size;have tp:Hid (eK w w0.heap.size w2.heap.size s f vL (.slice none 0 0) (Gn.bi (fun i=>c i==1) 384) [] w2) :=
  ⟨ub.grown hg1 (by simp),hL2,fun n hn=>(hL2.lt n hn).2,World.ownsRow_nil _ _ _ _,cO aN hg1,by omega,by omega,abL _,fun x hx=>List.mem_range.1 (List.mem_filter.1 hx).1,Gn.nA _ _⟩
 obtain⟨bL,WG⟩:∃b,b=w0.heap.size:=⟨_,rfl⟩;obtain⟨bE,NY⟩:∃b,b=w2.heap.size:=⟨_,rfl⟩;have Jg:w.heap.size<=bE:=by omega
 rw[<-WG,<-NY]at tp;clear hL2 hg1 hA0 ub aN aD wT P8 WG NY;go_wp2_with fail;go_loopw [5,6,7] (fun vl ve vk wr=>∃(k:Nat)(l:List Nat)(acc:List Gn.li),k<=4/\vk=.int .i64 (k:Int)/\acc++Gn.lie d (4-k) k l=fin/\eK w bL bE s f vl ve l acc wr) (fun _ _ vk _=>10-(intOf vk).toNat)
 case atStart=>exact⟨0,_,[],by omega,rfl,(uh gh).symm,uh tp⟩
 case round =>
  clear tp;obtain⟨k,l,acc,hk,rfl,vm,hH⟩:=hrel;have dp:=aa hH;have iA:=aa vm;clear hH vm;have kx:=(uh dp).ep.cell (i:=1) (by omega);have qu:=(uh dp).ep.cell (i:=0) (by omega);simp only[ite_true,Nat.one_ne_zero,ite_false]at qu kx;have SP:=(uh dp).len;by_cases pR:k<4/\l.length≠0
  ·obtain⟨hlt,Jp⟩:=pR;have hlt':(k:Int)<4:=by omega
   have hlp:(0:Int)<(l.length:Int):=by omega
   obtain⟨N,hN⟩:∃x,x=d (40+(k:Int)) 0 (l.length:Int):=⟨_,rfl⟩;obtain⟨n1,n2⟩:0<=N/\N<(l.length:Int):=by rw[hN];exact uh kb _ _ _ (by omega)
   obtain⟨n,hn⟩:∃n:Nat,N=(n:Int):=⟨N.toNat,by omega⟩;have sP:n<l.length:=by omega
   have Xk:(n:Int)<(l.length:Int):=by omega
   have UE:n<384:=by omega
   have VF:Hid (∀w',Calls prog 128 #[.agg #[.int .i64 s,.int .i64 f],.int .i64 (40+(k:Int)),.int .i64 0,.int .i64 (l.length:Int)] w' (aJ w' (.int .i64 (n:Int)))):=fun w'=>by
    have h:=gR s f (40+(k:Int)) 0 (l.length:Int) w' (by omega);rw[uh jL,<-hN,hn]at h;exact h
   obtain⟨K,hK⟩:∃K,K=d (40+(k:Int)) 1 4:=⟨_,rfl⟩;obtain⟨k1,k2⟩:0<=K/\K<4:=by rw[hK];exact uh kb _ _ _ (by omega)
   have Ji:Hid (∀w',Calls prog 128 #[.agg #[.int .i64 s,.int .i64 f],.int .i64 (40+(k:Int)),.int .i64 1,.int .i64 4] w' (aJ w' (.int .i64 K))):=fun w'=>by
    have h:=gR s f (40+(k:Int)) 1 4 w' (by omega);rw[uh jL,<-hK]at h;exact h
   obtain⟨cl,iu⟩:∃cl,cl=l[n]?.getD 0:=⟨_,rfl⟩;have Jh:cl<384:=by
    rw[iu,abQ sP];exact(uh dp).FF _ (List.getElem_mem sP)
   have dm:Hid ((acc++[(1+K,1,(cl:Int)%24,(cl:Int)/24)])++Gn.lie d (4-(k+1)) (k+1) (l.eraseIdx n)=fin):=by
    have h:=uh iA;obtain⟨m,hm⟩:∃m,4-k=m+1:=⟨4-k-1,by omega⟩;rw[hm,Gn.lie,abO Jp,<-hN,hn,abG,<-hK,<-iu]at h;show(acc++[(1+K,1,(cl:Int)%24,(cl:Int)/24)])++Gn.lie d (4-(k+1)) (k+1) (l.eraseIdx n)=fin;rw[show 4-(k+1)=m by omega,List.append_assoc];exact h
   have VB:acc.length<=4:=by
    have h:=congrArg List.length (uh iA);rw[List.length_append]at h;omega
   have LP:=aa iu;obtain⟨g,aG,rfl,MY,_⟩:=(uh dp).at sP;clear hN hn hK iu Jp n1 n2 hlt;go_wp2_with fail;refine aaR (uh VF _) fun wa hga=>?_;have zr:=aa ((uh dp).on hga);have hcell:wa.cell? ⟨g,n,none⟩=some (.int .i64 (cl:Int)):=by
    obtain⟨g',oN,GM,_,hq⟩:=(uh zr).at sP;simp only[Value.slice.injEq,Option.some.injEq,Addr.mk.injEq,and_true,true_and]at GM;rw[GM.1,hq,uh LP]
   clear hga dp qu kx;go_wp2_with fail;refine aaR (pa (cl:Int) _ (by omega) (by omega)) fun wd hgd=>?_;have KL:=aa ((uh zr).on hgd);clear hgd zr hcell;go_wp2_with fail;obtain⟨W4,KQ⟩:∃W4,W4=wd.alloc (.cells #[.int .i64 ((cl:Int)%24),.int .i64 ((cl:Int)/24)] 118):=⟨_,rfl⟩;rw[<-KQ];have iH:Hid (eK w bL bE s f (.slice (some ⟨g,0,none⟩) l.length aG) u6 l acc W4.drew):=by
    rw[KQ];exact(uh KL).on (gd1 (abE _ _ _))
   have ZR:Hid (ax W4.drew wd.heap.size 118 2 (fun j=>.int .i64 (if j=0 then(cl:Int)%24 else(cl:Int)/24))):=by
    rw[KQ];exact(ax.iY _ _ _ _).grown (gd1 (abF _ none)) (by simp)
   have Qd:Hid (∀n,u6.ownBlock=some n->n<wd.heap.size):=fun n hn=>((uh KL).ai.lt n hn).2;have dc:Hid (∀x,eK w bL bE s f (.slice (some ⟨g,0,none⟩) l.length aG) u6 l acc x->ax x wd.heap.size 118 2 (fun j=>.int .i64 (if j=0 then(cl:Int)%24 else(cl:Int)/24))->(x.cell? ⟨w.heap.size,0,none⟩=some (.int .i64 s)/\x.cell? ⟨w.heap.size,1,none⟩=some (.int .i64 f)/\x.cell? ⟨wd.heap.size,0,none⟩=some (.int .i64 ((cl:Int)%24))/\x.cell? ⟨wd.heap.size,1,none⟩=some (.int .i64 ((cl:Int)/24)))) :=
    fun x h1 h2=>⟨h1.ep.cell (by omega),h1.ep.cell (by omega),h2.cell (by omega),h2.cell (by omega)⟩
   have jk:Hid (∀x y,Hid (eK w bL bE s f (.slice (some ⟨g,0,none⟩) l.length aG) u6 l acc x)->Hid (ax x wd.heap.size 118 2 (fun j=>.int .i64 (if j=0 then(cl:Int)%24 else(cl:Int)/24)))->(x.alloc (.cells #[.int .i64 (1+K),.int .i64 1,.int .i64 ((cl:Int)%24),.int .i64 ((cl:Int)/24)] 62)).grownBy y u6.ownBlock->(y.cell? ⟨w.heap.size,0,none⟩=some (.int .i64 s)/\y.cell? ⟨w.heap.size,1,none⟩=some (.int .i64 f)/\y.cell? ⟨wd.heap.size,0,none⟩=some (.int .i64 ((cl:Int)%24))/\y.cell? ⟨wd.heap.size,1,none⟩=some (.int .i64 ((cl:Int)/24)))):=by
    intro x y h1 h2 hg;have hp:=((uh h1).ep.alloc (.cells #[.int .i64 (1+K),.int .i64 1,.int .i64 ((cl:Int)%24),.int .i64 ((cl:Int)/24)] 62)).grown hg (fun e=>by have:=((uh h1).ai.lt _ e).1;have:=(uh h1).lo;have:=(uh h1).hi;omega);have hq:=((uh h2).alloc (.cells #[.int .i64 (1+K),.int .i64 1,.int .i64 ((cl:Int)%24),.int .i64 ((cl:Int)/24)] 62)).grown hg (fun e=>by have:=uh Qd _ e;omega);exact⟨hp.cell (by omega),hp.cell (by omega),hq.cell (by omega),hq.cell (by omega)⟩
   have uR:Hid (Calls prog 128 #[.agg #[.int .i64 s,.int .i64 f],.int .i64 (40+(k:Int)),.int .i64 1,.int .i64 4] W4.drew (fun e w'=>e=.returned (.int .i64 K)/\Hid (eK w bL bE s f (.slice (some ⟨g,0,none⟩) l.length aG) u6 l acc w')/\Hid (ax w' wd.heap.size 118 2 (fun j=>.int .i64 (if j=0 then(cl:Int)%24 else(cl:Int)/24)))/\bE<=w'.heap.size)) :=
    (uh Ji W4.drew).mono fun e w' ⟨he,hg⟩=>⟨he,(uh iH).on hg,(uh ZR).grown hg (by simp),((uh iH).on hg).wD⟩
   obtain⟨p1,p2,p3,p4⟩:=uh dc _ (uh iH) (uh ZR);have sS:IntKind.i64.wrap (40+(k:Int))=40+(k:Int):=by rw[abK];omega
   have G8:IntKind.i64.wrap (1+K)=1+K:=by rw[abK];omega
   clear KQ KL
   go_region_held3 (fun x=>x.cell? ⟨w.heap.size,0,none⟩=some (.int .i64 s)/\x.cell? ⟨w.heap.size,1,none⟩=some (.int .i64 f)/\x.cell? ⟨wd.heap.size,0,none⟩=some (.int .i64 ((cl:Int)%24))/\x.cell? ⟨wd.heap.size,1,none⟩=some (.int .i64 ((cl:Int)/24))) (go_keep) (first| (go_at_call 128;refine(uh uR).mono ?_;rintro e we ⟨rfl,tq,KO,hte⟩;obtain⟨z1,z2,z3,z4⟩:=uh dc we (uh tq) (uh KO))|(refine step_append_lies _ (by rfl) _ _ _ (by rfl) bE 62 i0 _ 4 32 underlying27 hi dJ dz ed rfl (by omega) u6 acc.length (Gn.jc acc) (by rfl) ((uh tq).ai.alloc _) ⟨we.heap.size,0,none⟩ 1 1 [.int .i64 (1+K),.int .i64 1,.int .i64 ((cl:Int)%24),.int .i64 ((cl:Int)/24)] (by rfl) (by rfl) (po we _ rfl _ _ _ _ _) (by simp[Value.oneCell']) (by omega) (by unfold maxLen;omega) (by omega) (by simp;omega) (we.heap.size+1) (by simp) ?_;intro gg VZ w5 eW dw vn Om;obtain⟨z1,z2,z3,z4⟩:=uh jk _ _ tq KO dw))
   have qp:=aa (((uh tq).on (abE _ _ _)).add (p:=(1+K,1,(cl:Int)%24,(cl:Int)/24)) eW dw);have qw:=qk bL n (n+1) (.slice (some ⟨g,0,none⟩) l.length aG) l w5 (uh qp).left SP sP rfl;rw[show((n+1:Nat):Int)=(n:Int)+1 by omega]at qw;have tv:=aa qw;clear eW dw vn Om qw z1 z2 z3 z4 p1 p2 p3 p4 dc jk uR iH ZR tq KO sS G8;go_wp2_with fail;refine(uh tv).mono ?_;rintro e w6 ⟨vN,rfl,Sv,Oq,qJ⟩;have I9:=aa ((uh qp).Yh Sv Oq qJ);clear Sv Oq qJ tv qp;go_wp2;go_roundw
   case rel=>exact⟨k+1,l.eraseIdx n,acc++[(1+K,1,(cl:Int)%24,(cl:Int)/24)],by omega,by go_num,uh dm,uh I9⟩
   case measure=>simp[intOf];omega
  ·have fh:acc=fin:=by
    have h:=uh iA;by_cases VJ:k<4
    ·obtain⟨m,hm⟩:∃m,4-k=m+1:=⟨4-k-1,by omega⟩;rw[hm,Gn.lie,abP (by by_cases h0:l.length=0;exact h0;exact absurd ⟨VJ,h0⟩ pR),List.append_nil]at h;exact h
    ·rw[show 4-k=0 by omega,Gn.lie,List.append_nil]at h;exact h
   subst fh;have MS:=aa ((uh jr).grown (uh dp).grown (by simp));have KT:=aa (qX wr.heap.size (some ⟨G,0,none⟩) 384 384 c 5 wr ((uh MS).lg _ (uh MS).lt (by decide)) (fun i=>by have:=uh TO i;omega) (abL _));obtain⟨S,hS⟩:∃x,x=Gr.an 384 c 5:=⟨_,rfl⟩;rw[<-hS]at KT;have wQ:=aa hS;have Uu:((k:Int)<4/\∃a aG,u5=.slice a 0 aG)\/¬(k:Int)<4:=by
    by_cases VJ:k<4
    ·left;refine⟨by omega,?_⟩;have h0:l.length=0:=by by_cases h0:l.length=0;exact h0;exact absurd ⟨VJ,h0⟩ pR
     rcases(uh dp).left.zm with⟨h,_⟩|⟨g,aG,_,h,_⟩
     ·exact⟨_,_,h⟩
     ·exact⟨_,_,by rw[h,h0]⟩
    ·right;omega
   have KS:Hid (acc=Gn.lie d 4 0 (Gn.bi (fun i=>c i==1) 384)):=gh;clear pR SP iA hS gh hk jr;rcases Uu with⟨VJ,a,aG,rfl⟩|VJ
   all_goals
    go_wp2_with fail;refine abW (uh KT) ?_;by_cases dH:S<0
    ·have IK:Hid (Gn.aj d c=acc):=by
      show Gn.aj d c=acc;unfold Gn.aj;rw[<-uh wQ,abP dH,List.append_nil];exact(uh KS).symm
     clear KT;go_wp2;go_ret;exact⟨_,rfl,by rw[uh IK];exact gp (uh dp).ai Jg,(uh dp).grown⟩
    ·have IK:Hid (Gn.aj d c=acc++Gn.fx d 3):=by
      show Gn.aj d c=acc++Gn.fx d 3;unfold Gn.aj;rw[<-uh wQ,abO dH,<-uh KS]
     clear KT;go_wp2_with fail;go_loopw [6,55] (fun ve vk wr2=>∃(q:Nat)(vl:Value),q<=3/\vk=.int .i64 (q:Int)/\eK w bL bE s f vl ve l (acc++Gn.fx d q) wr2) (fun _ vk _=>10-(intOf vk).toNat)
     case atStart=>exact⟨0,_,by omega,rfl,by rw[show Gn.fx d 0=[] from rfl,List.append_nil];exact uh dp⟩
     case round =>
      clear dp MS;obtain⟨q,vl,hq,rfl,hHq⟩:=hrel;have kN:=aa hHq;clear hHq;have kx:=(uh kN).ep.cell (i:=1) (by omega);have qu:=(uh kN).ep.cell (i:=0) (by omega);simp only[ite_true,Nat.one_ne_zero,ite_false]at qu kx;by_cases uc:q<3
      ·have vH:(q:Int)<3:=(by omega);obtain⟨K,hK⟩:∃K,K=d (50+(q:Int)) 1 3:=⟨_,rfl⟩;obtain⟨k1,k2⟩:0<=K/\K<3:=by rw[hK];exact uh kb _ _ _ (by omega)
       have Ji:=gR s f (50+(q:Int)) 1 3 wr (by omega);rw[uh jL,<-hK]at Ji;have WR:=aa Ji;have jA:Hid (acc++Gn.fx d (q+1)=(acc++Gn.fx d q)++[(1+K,4,(q:Int),0)]):=by
        show acc++Gn.fx d (q+1)=_;rw[Gn.wJ,<-hK,List.append_assoc]
       have hwl:(acc++Gn.fx d q).length<=8:=by
        rw[List.length_append];unfold Gn.fx;rw[List.length_map,List.length_range];omega
       obtain⟨ID,zw⟩:∃ID,ID=acc++Gn.fx d q:=⟨_,rfl⟩;rw[<-zw]at kN jA hwl;clear hK Ji uc zw;go_wp2_with fail;refine aaR (uh WR) fun wd hgd=>?_;have eV:=aa ((uh kN).on hgd);have htd:=(uh eV).wD;clear hgd kN WR qu kx;go_wp2_with (at_builtin;refine wpList_append_own _ rfl _ _ 27 rfl bE 62 i0 (.agg #[.int .i64 0,.int .i64 0,.int .i64 0,.int .i64 0]) 4 32 underlying27 hi dJ dz ed rfl (by decide) _ _ _ rfl ((uh eV).ai.alloc _) ⟨wd.heap.size,0,none⟩ 1 1 [.int .i64 (1+K),.int .i64 4,.int .i64 (q:Int),.int .i64 0] rfl rfl ?_ ?_ ?_ ?_ ?_ ?_)
       ·exact po _ _ rfl _ _ _ _ _
       ·intro u hu;simp only[List.mem_cons,List.not_mem_nil,or_false]at hu;rcases hu with rfl|rfl|rfl|rfl <;> rfl
       ·unfold maxLen;omega
       ·omega
       ·simp;omega
       intro v5 w5 eW dw _;have qp:=aa (((uh eV).on (abE _ _ _)).add (p:=(1+K,4,(q:Int),0)) eW dw);rw[<-uh jA]at qp;clear eW dw eV;go_wp2;go_roundw
       case rel=>exact⟨q+1,vl,by omega,by go_num,uh qp⟩
       case measure=>simp[intOf];omega
      ·have hge:¬(q:Int)<3:=(by omega);obtain rfl:q=3:=(by omega);clear hq uc;go_wp2;go_ret;exact⟨_,rfl,by rw[uh IK];exact gp (uh kN).ai Jg,(uh kN).grown⟩
namespace Gn
variable{c:N1}
def up(d:aY):Nat:=(my d 0*24+mx d 0).toNat
def ar(d:aY):Nat->Int:=Gr.dj (ks d 5) (up d) 3
def fH(d:aY)(c F:N1):Prop:=∃far,MR (ar d) (up d) F/\ti F far/\c=bp d (ar d) F far
theorem fH.bo{d:aY}{c' F F':N1}(h:fH d c F)(h':fH d c' F'):c=c'/\F=F':=by
 obtain⟨far,h1,h2,rfl⟩:=h;obtain⟨aaY,ot,NL,rfl⟩:=h';obtain rfl:=h1.bo ot;obtain rfl:=h2.bo NL;exact⟨rfl,rfl⟩
def ai(d:aY)(f:Int)(c F:N1):List (Int × Nat):=mons d f (f+2).toNat 0 ((bi (fun i=>c i==1) 384).filter (eB F))
theorem PI{d:aY}(hd:gL d):my d 0*24+mx d 0=((up d:Nat):Int):=by
 have:=gz hd 0;unfold up;omega
theorem uM(d:aY)(i:Nat):0<=ar d i/\ar d i<=5:=wH (xQ d 5) (by omega) i
theorem ME(h:∀i,0<=c i/\c i<=5)(o:Option Nat)(i:Nat):0<=FH c o i/\FH c o i<=5:=by
 cases o with
 | none=>exact h i
 | some k=>exact wH h (by omega) i
theorem MI(d:aY)(h:∀i,0<=c i/\c i<=5)(F:N1)(far i:Nat):0<=bp d c F far i/\bp d c F far i<=5:=by
 have h4:∀i,0<=Gr.dj c far 4 i/\Gr.dj c far 4 i<=5:=wH h (by omega);unfold bp;split
 ·exact ME h4 _ i
 ·exact h4 i
theorem fH.ku{d:aY}{F:N1}(h:fH d c F)(i:Nat):0<=c i/\c i<=5:=by
 obtain⟨far,_,_,rfl⟩:=h;exact MI d (uM d) F far i
end Gn
theorem la{w:World}{b:Nat}{e:TypeId}{z n:Nat}{v:Value}{xs:List Value}(h:w.ownsRow b e z v n xs):∃a aG,v=.slice a n aG:=by
 rcases h.2 with⟨rfl,rfl⟩|⟨g,aG,cD,rfl,_⟩
 ·exact⟨_,_,rfl⟩
 ·exact⟨_,_,rfl⟩
def Qk(w:World)(d:Gn.aY)(f:Int)(e:Ending)(w':World):Prop :=
 ∃(c F:N1)(G nE nI cE cI:Nat)(aE aI:Option Addr),Gn.fH d c F/\e=.returned (.tuple #[.agg #[.slice (some ⟨G,0,none⟩) 384 384,.slice aE nE cE,.slice aI nI cI],.int .i64 0])/\w.heap.size<=G/\ax w' G 5 384 (aZ c) /\
  nE=(Gn.ai d f c F).length/\nI=(Gn.aj d c).length/\w'.ownsRow w.heap.size 54 11 (.slice aE nE cE) nE (Gn.aL (Gn.ai d f c F))/\w'.ownsRow w.heap.size 62 4 (.slice aI nI cI) nI (Gn.jc (Gn.aj d c))/\w.grownBy w' none
structure eT(w:World)(s f:Int)(wr:World):Prop where
 bl:ax wr w.heap.size 80 3 (fun _=>.slice none 0 0)
 ep:ax wr (w.heap.size+1) 116 2 (fun j=>.int .i64 (if j=0 then s else f))
 grown:w.grownBy wr none
theorem eT.on{w:World}{s f:Int}{wr wx:World}(h:eT w s f wr)(hg:wr.grownBy wx none):eT w s f wx :=
 ⟨h.bl.grown hg (by simp),h.ep.grown hg (by simp),cO h.grown hg⟩
theorem eT.own{w:World}{s f:Int}{wr wx:World}{G:Nat}(h:eT w s f wr)(hG:w.heap.size+2<=G)(hg:wr.grownBy wx (some G)):eT w s f wx :=
 ⟨h.bl.grown hg (by simp;omega),h.ep.grown hg (by simp;omega),gow h.grown hg (fun n e=>by cases e;omega)⟩
theorem OV(s f:Int)(d:Gn.aY)(hd:∀a b n,Gn.D s f a b n=d a b n)(hF:Gn.gL d)(h1:1<=f)(h3:f<=3)(w:World):Calls prog 53 #[.int .i64 s,.int .i64 f] w (Qk w d f):=by
  obtain⟨i0,hi,dJ,dz,ed⟩:=info_parts kX;have jL:=aa hd;have iU:=aa hF;have hn1:¬f<1:=by omega
  have UE:¬3<f:=by omega
  clear hd hF;go_enter func53,ntmps53;go_wp2_with (at_make;refine wpList_make_full _ rfl _ _ 25 rfl (w.heap.size+1+1) 5 i0 (.int .u8 0) 1 underlying25 hi dJ dz .i64 .i64 _ _ 384 rfl rfl rfl rfl ?q3 ?q4 ?q5 ?_)
  case q4=>decide
  intro w2 aH az;have dF:=aa (ax.zero aH);have kN:Hid (eT w s f w2):=by
    have h0:eT w s f ((w.alloc (.cells #[.slice none 0 0,.slice none 0 0,.slice none 0 0] 80)).alloc (.cells #[.int .i64 s,.int .i64 f] 116)):=by
      refine⟨ax.alloc ⟨_,abH _ _,rfl,fun j hj=>?_⟩ _,?_,gal (abE _ _ _) _⟩
      · have SN:j<3:=hj
        rcases(show j=0\/j=1\/j=2 by omega)with rfl|rfl|rfl <;> rfl
      · have h:=ax.iY (w.alloc (.cells #[.slice none 0 0,.slice none 0 0,.slice none 0 0] 80)) s f 116
        simpa using h
    exact h0.on az
  obtain⟨G,hG⟩:∃G,G=w.heap.size+1+1:=⟨_,rfl⟩;rw[<-hG]at dF|-;have vh:w.heap.size+2<=G:=by omega
  have p0:=(uh kN).ep.cell (i:=0) (by omega);have p1:=(uh kN).ep.cell (i:=1) (by omega);simp only[ite_true,Nat.one_ne_zero,ite_false]at p0 p1;clear aH az hG hi dJ dz ed;go_wp2_with fail;clear p0 p1;refine(MB s f d (uh jL) (uh iU) G w2 (uh dF)).mono ?_;rintro e w3 ⟨rfl,fa,dl⟩;have eV:=aa ((uh kN).own vh dl);obtain⟨w4,OA⟩:∃w4,w4=w3.alloc (.cells (Gn.ud d) 119):=⟨_,rfl⟩;have jN:Hid (ax w4 G 5 384 (aZ (Gn.ks d 0))):=by rw[OA];exact fa.alloc _
  have iH:Hid (eT w s f w4):=by rw[OA];exact(uh eV).on (abE _ _ _)
  have ZP:Hid (ax w4 w3.heap.size 119 12 (fun j=>(Gn.ud d)[j]?.getD undef)):=by
    rw[OA];exact ax.lit (abH _ _)
  have p0:=(uh iH).ep.cell (i:=0) (by omega);have p1:=(uh iH).ep.cell (i:=1) (by omega);simp only[ite_true,Nat.one_ne_zero,ite_false]at p0 p1;obtain⟨m0,m1,m2,m3,m4,m5,m6,m7,m8,m9,YX,YY⟩:=(uh ZP).wG;simp only[Gn.ud,List.getElem?_toArray,List.getElem?_cons_zero,List.getElem?_cons_succ,Option.getD_some]at m0 m1 m2 m3 m4 m5 m6 m7 m8 m9 YX YY;have UX:=OA.symm;unfold Gn.ud at UX;have vB:Hid (Gn.ud d=#[.int .i64 (Gn.fO d 0),.int .i64 (Gn.fO d 1),.int .i64 (Gn.fO d 2),.int .i64 (Gn.fO d 3),.int .i64 (Gn.fO d 4),.int .i64 (Gn.fO d 5),.int .i64 (Gn.fO d 6),.int .i64 (Gn.fO d 7),.int .i64 (Gn.fO d 8),.int .i64 (Gn.fO d 9),.int .i64 (Gn.fO d 10),.int .i64 (Gn.fO d 11)]):=rfl;have hGm:G≠w3.heap.size:=by have:=fa.lt;omega
  rw[uh vB];clear dF kN fa dl eV OA;go_wp2_with fail;clear UX m2 m3 m4 m5 m6 m7 m8 m9 YX YY;have Uk:=xe s f d (uh jL) (uh iU) G w4 (uh jN);rw[uh vB]at Uk;refine Uk.mono ?_;rintro e w5 ⟨rfl,TR,hg5⟩;have qp:=aa ((uh iH).own vh hg5);have ZQ:=(uh ZP).grown hg5 (by simpa using hGm);have p0:=(uh qp).ep.cell (i:=0) (by omega);have p1:=(uh qp).ep.cell (i:=1) (by omega);simp only[ite_true,Nat.one_ne_zero,ite_false]at p0 p1;have n0:w5.cell? ⟨w3.heap.size,0,none⟩=some (.int .i64 (Gn.mx d 0)):=by
    have h:=ZQ.cell (i:=0) (by omega);rw[uh vB]at h;exact h
  have n1:w5.cell? ⟨w3.heap.size,1,none⟩=some (.int .i64 (Gn.my d 0)):=by
    have h:=ZQ.cell (i:=1) (by omega);rw[uh vB]at h;exact h
  have We:=aa TR;clear Uk jN iH hg5 ZQ ZP TR m0 m1;go_wp2_with fail;clear n0 n1 p0 p1;have hb:=Gn.gz (uh iU) 0;refine(Kb s f d (uh jL) G (Gn.ks d 5) (Gn.mx d 0) (Gn.my d 0) (Gn.up d) w5 (uh We) (Gn.xQ d 5) (by omega) (Gn.PI (uh iU))).mono ?_;rintro e w6 ⟨F,far,gF,Wn,Wm,rfl,hgF,Sn,hAc,qJ⟩;obtain⟨c,hc⟩:∃c,c=Gn.bp d (Gn.ar d) F far:=⟨_,rfl⟩;have iW:Hid (Gn.fH d c F):=⟨far,Wn,Wm,hc⟩;have Wf:Hid (ax w6 G 5 384 (aZ c)):=by rw[hc];exact hAc
  have zp:=aa Sn;have I9:=aa ((uh qp).own vh qJ);have abu:=(uh I9).ep.lt;clear Wn Wm hgF Sn hAc qJ hc qp We hb;go_wp2_with fail;have xm:=gd1 (abF w6 none);obtain⟨nE,Jr⟩:∃n,n=(Gn.ai d f c F).length:=⟨_,rfl⟩;obtain⟨nI,rK⟩:∃n,n=(Gn.aj d c).length:=⟨_,rfl⟩
  have V5 : Hid (Calls prog 100 #[.agg #[.int .i64 s,.int .i64 f],.slice (some ⟨G,0,none⟩) 384 384,.slice (some ⟨gF,0,none⟩) 384 384] w6.drew
      fun e w'=>∃a aG,e=.returned (.slice a nE aG)/\Hid (w'.ownsRow w6.heap.size 54 11 (.slice a nE aG) nE (Gn.aL (Gn.ai d f c F)))/\Hid (eT w s f w')/\Hid (ax w' G 5 384 (aZ c))/\w6.heap.size<=w'.heap.size) :=
    (At s f d (uh jL) (uh iU) h1 h3 G gF c F w6.drew ((uh Wf).grown xm (by simp)) ((uh zp).grown xm (by simp))).mono fun e w' ⟨v,he,ho,hg⟩=>by
      have Rd:w'.ownsRow w6.heap.size 54 11 v nE (Gn.aL (Gn.ai d f c F)):=by rw[Jr];exact ho
      obtain⟨a,aG,rfl⟩:=la Rd;exact⟨a,aG,he,Rd,((uh I9).on xm).on hg,((uh Wf).grown xm (by simp)).grown hg (by simp),hg.size⟩
  have V4 : Hid (∀ x v,Hid (x.ownsRow w6.heap.size 54 11 v nE (Gn.aL (Gn.ai d f c F))) -> Hid (eT w s f x) -> Hid (ax x G 5 384 (aZ c)) -> w6.heap.size <= x.heap.size -> Calls prog 101 #[.agg #[.int .i64 s,.int .i64 f],.slice (some ⟨G,0,none⟩) 384 384] x
      fun e w'=>∃a aG,e=.returned (.slice a nI aG)/\Hid (w'.ownsRow w6.heap.size 62 4 (.slice a nI aG) nI (Gn.jc (Gn.aj d c)))/\Hid (w'.ownsRow w6.heap.size 54 11 v nE (Gn.aL (Gn.ai d f c F)))/\Hid (eT w s f w')/\Hid (ax w' G 5 384 (aZ c))):=fun x v hv hm hx hs =>
    (Me s f d (uh jL) (uh iU) G c x (uh hx) (uh iW).ku).mono fun e w' ⟨u,he,ho,hg⟩=>by
      have Rd:w'.ownsRow w6.heap.size 62 4 u nI (Gn.jc (Gn.aj d c)):=by rw[rK];exact gp ho hs
      obtain⟨a,aG,rfl⟩:=la Rd;exact⟨a,aG,he,Rd,(uh hv).kept hg (by cases v.ownBlock <;> simp),(uh hm).on hg,(uh hx).grown hg (by simp)⟩
  have dc:Hid (∀x,Hid (eT w s f x)->(x.cell? ⟨w.heap.size+1,0,none⟩=some (.int .i64 s)/\x.cell? ⟨w.heap.size+1,1,none⟩=some (.int .i64 f))):=fun x h=>⟨(uh h).ep.cell (by omega),(uh h).ep.cell (by omega)⟩;have S1:Hid (∀x,Hid (eT w s f x)->(x.cell? ⟨w.heap.size,0,none⟩=some (.slice none 0 0)/\x.cell? ⟨w.heap.size,1,none⟩=some (.slice none 0 0)/\x.cell? ⟨w.heap.size,2,none⟩=some (.slice none 0 0)/\x.frozen? ⟨w.heap.size,0,none⟩=false/\x.frozen? ⟨w.heap.size,1,none⟩=false/\x.frozen? ⟨w.heap.size,2,none⟩=false)):=fun x h=>⟨(uh h).bl.cell (by omega),(uh h).bl.cell (by omega),(uh h).bl.cell (by omega),(uh h).bl.free 0,(uh h).bl.free 1,(uh h).bl.free 2⟩;obtain⟨p0,p1⟩:=uh dc _ I9;have UF:=aa Jr;have vD:=aa rK;clear xm Jr rK
  go_region_held3 (fun x=>x.cell? ⟨w.heap.size+1,0,none⟩=some (.int .i64 s)/\x.cell? ⟨w.heap.size+1,1,none⟩=some (.int .i64 f)) (go_keep) (first| (go_at_call 100;refine(uh V5).mono ?_;rintro e w7 ⟨aE,cE,rfl,hE7,Vx,TS,hs7⟩;obtain⟨z1,z2⟩:=uh dc w7 Vx)|(go_at_call 101;refine(uh V4 _ _ hE7 Vx TS hs7).mono ?_;rintro e w8 ⟨aI,cI,rfl,hI8,hE8,ZC,hA8⟩;obtain⟨z1,z2⟩:=uh dc w8 ZC;obtain⟨r0,r1,r2,f0,f1,f2⟩:=uh S1 w8 ZC))
  have ur:=gst (gst (gst (abF w8 (some w.heap.size)) 0 (.slice (some ⟨G,0,none⟩) 384 384)) 1 (.slice aE nE cE)) 2 (.slice aI nI cI);have Zw:=aa ((uh hE8).kept ur (by cases aE with|none=>exact .inl rfl|some x=>exact .inr (fun e=>by have:=((uh hE8).lt x.block rfl).1;simp[Value.ownBlock]at e;omega)));have ZF:=aa ((uh hI8).kept ur (by cases aI with|none=>exact .inl rfl|some x=>exact .inr (fun e=>by have:=((uh hI8).lt x.block rfl).1;simp[Value.ownBlock]at e;omega)));have Zp:=aa ((uh hA8).grown ur (by simp;omega));have hw9:=aa (gow (uh ZC).grown ur (fun n e=>by cases e;exact abL _));clear ur V5 V4 dc S1;go_wp2;refine abN (v:=.tuple #[.agg #[.slice (some ⟨G,0,none⟩) 384 384,.slice aE nE cE,.slice aI nI cI],.int .i64 0]) (by simp[results,results53,go_sem,r0,r1,r2]) rfl ?_;exact⟨c,F,G,nE,nI,cE,cI,aE,aI,uh iW,rfl,by omega,uh Zp,uh UF,uh vD,gp (uh Zw) (by omega),gp (uh ZF) (by omega),uh hw9⟩
variable{E:N2}{g n:Nat}{w:World}
theorem aA{a:World}{g:Nat}(hg:a.heap.size<=g):∀(vs:List Value)(o:Nat)(b:World),a.grownBy b none->a.grownBy (b.setCells g o vs) none
 | [],_,_,h=>h
 | v :: vs,o,b,h=>aA hg vs (o+1) (b.setCell ⟨g,o,none⟩ v) (gsr h ⟨g,o,none⟩ hg v)
theorem lU{a b:World}(h:a.grownBy b none):Below a.heap.size a b :=
 ⟨h.os,h.tape,h.output,h.size,fun i hi=>h.block i hi (fun e=>by cases e)⟩
theorem nL(w:World)(v:Value)(T:TypeId)(B:Nat)(hB:B=w.heap.size):(w.alloc (.cells #[v] T)).cell? ⟨B,0,none⟩=some v:=by
 subst hB;exact(ax.lit (abH w (.cells #[v] T))).cell (i:=0) (by simp)
theorem sx{B i:Nat}{v:Value}(o:Obj)(hB:B<w.heap.size)(h:w.cell? ⟨B,i,none⟩=some v):(w.alloc o).cell? ⟨B,i,none⟩=some v :=
 (gce (abE w o none) B i hB (by simp)).trans h
def En.cells(e:N1):Array Value:=#[.int .i64 (e 0),.int .i64 (e 1),.int .i64 (e 2),.int .i64 (e 3),.int .i64 (e 4),.int .i64 (e 5),.int .i64 (e 6),.int .i64 (e 7),.int .i64 (e 8),.int .i64 (e 9),.int .i64 (e 10)]
def En.aL(E:N2):Nat->Value:=fun c=>.int .i64 (E (c/11) (c%11))
theorem En.qY(E:N2)(i j:Nat)(hj:j<11):En.aL E (i*11+j)=.int .i64 (E i j):=by
 unfold En.aL;rw[show(i*11+j)/11=i by omega,show(i*11+j)%11=j by omega]
def fG(w:World)(b n:Nat)(E:N2):Prop :=
 n<=32/\b<w.heap.size/\∀i j,i<n->j<11->w.cell? ⟨b,i*11+j,none⟩=some (.int .i64 (E i j))
theorem fG.on{w':World}{b:Nat}(h:fG w b n E)(hg:w.grownBy w' none):fG w' b n E :=
 ⟨h.1,abR h.2.1 hg.size,fun i j hi hj=>(gce hg b _ h.2.1 (by simp)).trans (h.2.2 i j hi hj)⟩
def fg(w:World)(g n:Nat)(E:N2):Prop :=
 n<=32/\∃m F,ax w g 54 m F/\n*11<=m/\∀c,c<n*11->F c=En.aL E c
theorem fg.ai(h:fg w g n E):fG w g n E:=by
 obtain⟨hn,m,F,hA,hm,hF⟩:=h;exact⟨hn,hA.lt,fun i j hi hj=>by rw[hA.cell (i:=i*11+j) (by omega),hF _ (by omega),En.qY E i j hj]⟩
theorem fg.on{w':World}(h:fg w g n E)(hg:w.grownBy w' none):fg w' g n E:=by
 obtain⟨hn,m,F,hA,hm,hF⟩:=h;exact⟨hn,m,F,hA.grown hg (by simp),hm,hF⟩
theorem fg.free(h:fg w g n E)(i:Nat):w.frozen? ⟨g,i,none⟩=false:=by
 obtain⟨hn,m,F,hA,hm,hF⟩:=h;exact hA.free i
theorem fg.lt(h:fg w g n E):g<w.heap.size:=h.ai.2.1
theorem fg.congr{E':N2}(h:fg w g n E)(he:∀i j,i<n->j<11->E i j=E' i j):fg w g n E':=by
 obtain⟨hn,m,F,hA,hm,hF⟩:=h;refine⟨hn,m,F,hA,hm,fun c hc=>?_⟩;rw[hF c hc];unfold En.aL;rw[he _ _ (by omega) (by omega)]
def En.put(E:N2)(k:Nat)(e:N1):Nat->Nat->Int:=fun i=>if i=k then e else E i
theorem En.aB(E:N2)(k:Nat)(e:N1):En.put E k e k=e:=abP rfl
theorem En.ak {E:N2} {k i:Nat} {e:N1} (h:i≠k):En.put E k e i=E i:=abO h
theorem En.uS(e:N1)(j:Nat)(hj:j<11):(En.cells e).toList[j]?.getD undef=.int .i64 (e j):=by
 rcases(show j=0\/j=1\/j=2\/j=3\/j=4\/j=5\/j=6\/j=7\/j=8\/j=9\/j=10 by omega)with rfl|rfl|rfl|rfl|rfl|rfl|rfl|rfl|rfl|rfl|rfl <;> rfl
theorem fg.store(h:fg w g n E)(k:Nat)(e:N1):fg (w.setCells g (k*11) (En.cells e).toList) g n (En.put E k e):=by
 obtain⟨hn,m,F,hA,hm,hF⟩:=h;refine⟨hn,m,_,hA.kl (En.cells e).toList (k*11),hm,fun c hc=>?_⟩;show(if k*11<=c/\c<k*11+11 then(En.cells e).toList[c-k*11]?.getD undef else F c)=En.aL (En.put E k e) c;unfold En.aL;by_cases hk:k*11<=c/\c<k*11+11
 ·rw[abP hk,En.uS e _ (by omega),show c/11=k by omega,En.aB,show c-k*11=c%11 by omega]
 ·rw[abO hk,hF c hc,En.ak (by omega)];rfl
theorem fg.Lh{ar aG:Nat}{xs:List Value}(h:w.ownsRow ar 54 11 (.slice (some ⟨g,0,none⟩) n aG) n xs)(hn:n<=32)(hx:∀c,c<n*11->xs[c]?=some (En.aL E c)):fg w g n E:=by
 rcases h.2 with⟨h',_⟩|⟨g',oN,cD,h',_,hg,jP,_,fp,ye⟩
 ·simp at h'
 ·simp only[Value.slice.injEq,Option.some.injEq,Addr.mk.injEq,and_true,true_and]at h';obtain⟨rfl,rfl⟩:=h';refine⟨hn,cD.size,fun j=>cD[j]?.getD undef,ax.lit hg,by rw[fp];omega,fun c hc=>?_⟩;show cD[c]?.getD undef=_;have e:=hx c hc;rw[<-ye,List.getElem?_take,abP hc,Array.getElem?_toList]at e;rw[e];rfl
def av(w:World)(n:Nat)(E:N2)(e:Ending)(w':World):Prop :=
 ∃g aG,e=.returned (.slice (some ⟨g,0,none⟩) n aG)/\w.heap.size<=g/\n<=aG/\aG<=maxLen/\fg w' g n E/\w.grownBy w' none
theorem xz{P:Program}(w:World)(dT sT ty elem:TypeId)(z g o TE QC:Nat)(a:Addr)(Vg RS:Nat)(cD:Array Value)(t:TypeId)(cs:List Value)(hu:P.underlying dT=some (.slice elem))(hs:(P.info? elem).map (·.size)=some z)(hg:w.heap[g]?=some (.cells cD t (0,0)))(hn:cs.length=Nat.min Vg TE*z)(Ow:∀j v,cs[j]?=some v->w.cell? (a.add j)=some v)(kQ:o+cs.length<=cD.size)(h1:∀v∈cs,v.oneCell'=true):(Builtin.copy_ #[dT,sT] ty #[.slice (some ⟨g,o,none⟩) TE QC,.slice (some a) Vg RS]).run P w =
   .ok (goInt (Nat.min Vg TE)) (w.setRow g (cD.toList.take o++cs++cD.toList.drop (o+cs.length)).toArray):=by
 have hl:=run_loadCells_list (P:=P) w a cs Ow;have aK:=run_storeCells_at P g o t cs 0 cD w hg (by simpa using kQ) h1;cases hq:P.info? elem with
 | none=>simp[hq]at hs
 | some i =>
  have hi:i.size=z:=by simpa [hq] using hs
  simp[Builtin.copy_,run_underlying hu,Builtin.lenOf,Builtin.firstCells,sizeOf,typeInfo,hq,hi,<-hn,hl,aK]
theorem cX{P:Program}(dT sT ty elem:TypeId)(hu:P.underlying dT=some (.slice elem))(z:Nat)(eC:(P.info? elem).map (·.size)=some z)(g n QC:Nat)(ad:Addr)(RS:Nat)(cD:Array Value)(t:TypeId)(hg:w.heap[g]?=some (.cells cD t (0,0)))(cs:List Value)(hn:cs.length=n*z)(Ow:∀j v,cs[j]?=some v->w.cell? (ad.add j)=some v)(kQ:cs.length=cD.size)(h1:∀v∈cs,v.oneCell'=true):∃w',(Builtin.copy_ #[dT,sT] ty #[.slice (some ⟨g,0,none⟩) n QC,.slice (some ad) n RS]).run P w=.ok (goInt n) w'/\w'.heap[g]?=some (.cells cs.toArray t (0,0))/\w.grownBy w' (some g):=by
 have nS:=xz (P:=P) w dT sT ty elem z g 0 n QC ad n RS cD t cs hu eC hg (by rw[hn];simp) Ow (by omega) h1;have UB:Nat.min n n=n:=by simp
 rw[UB]at nS;refine⟨_,nS,?_,⟨rfl,rfl,rfl,by simp[World.setRow],fun k _ hr=>setRow_other w g k _ (fun e=>hr (by rw[e]))⟩⟩;have e:cs++List.drop cs.length cD.toList=cs:=by
  rw[List.drop_eq_nil_of_le (by simp;omega),List.append_nil]
 have:=setRow_heap w g cD cs.toArray t _ hg
 simpa [e] using this
theorem xu(n c:Nat)(hc:c<n*11):(madeCells (Value.agg #[.int .i64 0,.int .i64 0,.int .i64 0,.int .i64 0,.int .i64 0,.int .i64 0,.int .i64 0,.int .i64 0,.int .i64 0,.int .i64 0,.int .i64 0]).cells (n*11))[c]?=some (.int .i64 0):=by
 have hm:c%11<11:=by omega
 obtain⟨m,zN⟩:∃m,m=c%11:=⟨_,rfl⟩;unfold madeCells;simp[hc,Value.cells];rw[<-zN]at hm|-;rcases(show m=0\/m=1\/m=2\/m=3\/m=4\/m=5\/m=6\/m=7\/m=8\/m=9\/m=10 by omega)with rfl|rfl|rfl|rfl|rfl|rfl|rfl|rfl|rfl|rfl|rfl <;> rfl
theorem OT:∃Z:Array Value,(∀w:World,(Instr.makeSlice 26 (.int .i64 32) (.int .i64 32)).run prog w=.ok (.slice (some ⟨w.heap.size,0,none⟩) 32 32) (w.alloc (.cells Z 54))) /\
  ∀w:World,fg (w.alloc (.cells Z 54)) w.heap.size 32 (fun _ _=>0):=by
 obtain⟨i0,hi,dJ,dz,ed⟩:=info_parts gl;refine⟨madeCells (Value.agg #[.int .i64 0,.int .i64 0,.int .i64 0,.int .i64 0,.int .i64 0,.int .i64 0,.int .i64 0,.int .i64 0,.int .i64 0,.int .i64 0,.int .i64 0]).cells (32*11),fun w=>?_,fun w=>?_⟩
 ·have hr:=run_make (P:=prog) w 26 54 i0 _ underlying26 hi dJ .i64 .i64 (32:Nat) (32:Nat) (by omega) (by omega) (by rw[ed];decide) (by decide);rw[dz]at hr;exact hr
 ·refine⟨by omega,_,_,ax.lit (abH w _),by rw[size_madeCells];omega,fun c hc=>?_⟩;show(madeCells _ _)[c]?.getD undef=_;rw[xu 32 c hc];rfl
