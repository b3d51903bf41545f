import Derived.Test.YtbanjoflgoiegaaGreatPart03
import Derived.Test.YtbanjoflgoiegaaGreatPart05
set_option maxHeartbeats 4000000
set_option maxRecDepth 8000
namespace Go.Proofs.YtbanjoflgoiegaaGreat
open Go.Proofs.Tryz
open Go.RowKit
namespace Gn
def bD(d:aY)(f:Int)(k:Nat):Int:=2+d (16+(k:Int)) 1 (if 3<f+1 then 3 else f+1)
def mons(d:aY)(f:Int):Nat->Nat->List Nat->List (Int × Nat)
 | 0,_,_=>[]
 | m+1,k,l=>if l.length=0 then[]else(bD d f k,l[(d (7+(k:Int)) 0 (l.length:Int)).toNat]?.getD 0) :: mons d f m (k+1) (l.eraseIdx (d (7+(k:Int)) 0 (l.length:Int)).toNat)
def eF(p:Int × Nat):List Value:=(Gn.kt p.1 ((p.2:Int)%24) ((p.2:Int)/24)).toList
def aL(acc:List (Int × Nat)):List Value:=acc.flatMap eF
theorem xR(acc:List (Int × Nat))(p:Int × Nat):aL (acc++[p])=aL acc++eF p:=by
 unfold aL;rw[List.flatMap_append];simp
end Gn
theorem gl:(prog.info? 54).map (fun i=>(i.zero,i.size,i.bytes))=some (some (.agg #[.int .i64 0,.int .i64 0,.int .i64 0,.int .i64 0,.int .i64 0,.int .i64 0,.int .i64 0,.int .i64 0,.int .i64 0,.int .i64 0,.int .i64 0]),11,88):=by kernel_rfl
structure d9(w:World)(bL bE:Nat)(s f:Int)(vL vE:Value)(l:List Nat)(acc:List (Int × Nat))(wr:World):Prop where
 ep:ax wr w.heap.size 116 2 (fun j=>.int .i64 (if j=0 then s else f))
 left:qM wr bL vL l
 F1:∀n,vL.ownBlock=some n->n<bE
 ai:wr.ownsRow bE 54 11 vE acc.length (Gn.aL acc)
 grown:w.grownBy wr none
 lo:w.heap.size<bL
 hi:bL<=bE
 wD:bE<=wr.heap.size
 FF:∀c,c∈l->c<384
 len:l.length<=384
theorem d9.on{w:World}{bL bE:Nat}{s f:Int}{vL vE:Value}{l:List Nat}{acc:List (Int × Nat)}{wr wx:World}(h:d9 w bL bE s f vL vE l acc wr)(hg:wr.grownBy wx none):d9 w bL bE s f vL vE l acc wx :=
 ⟨h.ep.grown hg (by simp),h.left.kept hg (by cases vL.ownBlock <;> simp),h.F1,h.ai.kept hg (by cases vE.ownBlock <;> simp),cO h.grown hg,h.lo,h.hi,abM h.wD hg.size,h.FF,h.len⟩
theorem d9.Yh{w:World}{bL bE:Nat}{s f:Int}{vL vE vN:Value}{l:List Nat}{acc:List (Int × Nat)}{wr wx:World}{i:Nat}(h:d9 w bL bE s f vL vE l acc wr)(hN:qM wx bL vN (l.eraseIdx i))(ho:vN.ownBlock=vL.ownBlock)(hg:wr.grownBy wx vL.ownBlock):d9 w bL bE s f vN vE (l.eraseIdx i) acc wx:=by
 have iC:=h.lo;have Q7:=h.hi;have hlen:(l.eraseIdx i).length<=l.length:=by rw[List.length_eraseIdx];split <;> omega
 have SP:=h.len;refine⟨h.ep.grown hg ?_,hN,fun n hn=>h.F1 n (by rw[<-ho];exact hn),h.ai.kept hg ?_,gow h.grown hg ?_,h.lo,h.hi,abM h.wD hg.size,fun c hc=>h.FF c (List.mem_of_mem_eraseIdx hc),by omega⟩
 ·intro e;have:=(h.left.lt _ e).1;omega
 ·cases hv:vE.ownBlock with
  | none=>exact .inl rfl
  | some n =>
   right;intro e;have h1:=(h.ai.lt n hv).1;have h2:=h.F1 n e.symm;omega
 ·intro n e;have:=(h.left.lt n e).1;omega
theorem d9.add{w:World}{bL bE:Nat}{s f:Int}{vL vE vN:Value}{l:List Nat}{acc:List (Int × Nat)}{p:Int × Nat}{wr wx:World}(h:d9 w bL bE s f vL vE l acc wr)(hN:wx.ownsRow bE 54 11 vN (acc.length+1) (Gn.aL acc++Gn.eF p))(hg:wr.grownBy wx vE.ownBlock):d9 w bL bE s f vL vN l (acc++[p]) wx:=by
 have iC:=h.lo;have Q7:=h.hi;refine⟨h.ep.grown hg ?_,h.left.kept hg ?_,h.F1,?_,gow h.grown hg ?_,h.lo,h.hi,abM h.wD hg.size,h.FF,h.len⟩
 ·intro e;have:=(h.ai.lt _ e).1;omega
 ·cases hv:vL.ownBlock with
  | none=>exact .inl rfl
  | some n =>
   right;intro e;have h1:=(h.ai.lt n e.symm).1;have h2:=h.F1 n hv;omega
 ·rw[Gn.xR,List.length_append];exact hN
 ·intro n e;have:=(h.ai.lt n e).1;omega
theorem d9.at{w:World}{bL bE:Nat}{s f:Int}{vL vE:Value}{l:List Nat}{acc:List (Int × Nat)}{wr:World}(h:d9 w bL bE s f vL vE l acc wr){n:Nat}(hn:n<l.length):∃g aG,vL=.slice (some ⟨g,0,none⟩) l.length aG/\l.length<=aG/\wr.cell? ⟨g,n,none⟩=some (.int .i64 ((l[n]?.getD 0:Nat):Int)):=by
 rcases h.left.zm with⟨_,rfl⟩|⟨g,aG,H,rfl,_,hA,P3,_,hH⟩
 ·simp at hn
 ·exact⟨g,aG,rfl,P3,by rw[hA.cell (by omega),hH n hn]⟩
theorem d9.ez{w:World}{bL bE:Nat}{s f:Int}{vL vE:Value}{l:List Nat}{acc:List (Int × Nat)}{wr wx:World}{e:Nat}(h:d9 w bL bE s f vL vE l acc wr)(hg:wr.grownBy wx (some e))(h1:∀n,vL.ownBlock=some n->n≠e)(h2:∀n,vE.ownBlock=some n->n≠e)(h3:w.heap.size<e):d9 w bL bE s f vL vE l acc wx:=by
 refine⟨h.ep.grown hg (by simp;omega),h.left.kept hg ?_,h.F1,h.ai.kept hg ?_,gow h.grown hg (fun n hn=>by cases hn;omega),h.lo,h.hi,abM h.wD hg.size,h.FF,h.len⟩
 ·cases hv:vL.ownBlock with
  | none=>exact .inl rfl
  | some n=>exact .inr fun e'=>h1 n hv (by cases e';rfl)
 ·cases hv:vE.ownBlock with
  | none=>exact .inl rfl
  | some n=>exact .inr fun e'=>h2 n hv (by cases e';rfl)
theorem ax.lit{w:World}{g:Nat}{T:TypeId}{Vn:Array Value}(h:w.heap[g]?=some (.cells Vn T (0,0))):ax w g T Vn.size (fun j=>Vn[j]?.getD undef) :=
 ⟨Vn,h,rfl,fun i hi=>by
  show Vn[i]?=some (Vn[i]?.getD undef)
  rw[Array.getElem?_eq_getElem hi]
  rfl⟩
theorem oP(w:World)(B:Nat)(hB:B=w.heap.size)(a0 a1 a2 a3 a4 a5 a6 a7 a8 a9 Sh:Value)(T:TypeId):∀j u,[a0,a1,a2,a3,a4,a5,a6,a7,a8,a9,Sh][j]?=some u->(w.alloc (.cells #[a0,a1,a2,a3,a4,a5,a6,a7,a8,a9,Sh] T)).cell? ((⟨B,0,none⟩:Addr).add j)=some u:=by
 subst hB;intro j u hj;have hlt:j<11:=by
  have:=(List.getElem?_eq_some_iff.1 hj).1;exact this
 rcases(show j=0\/j=1\/j=2\/j=3\/j=4\/j=5\/j=6\/j=7\/j=8\/j=9\/j=10 by omega)with rfl|rfl|rfl|rfl|rfl|rfl|rfl|rfl|rfl|rfl|rfl
 all_goals
  simp at hj;subst hj;simp[Addr.add]
theorem gp{w:World}{b b':Nat}{e:TypeId}{z n:Nat}{v:Value}{xs:List Value}(h:w.ownsRow b e z v n xs)(hb:b'<=b):w.ownsRow b' e z v n xs:=by
 refine⟨h.1,?_⟩;rcases h.2 with h|⟨g,aG,cD,hv,hg,rest⟩
 ·exact .inl h
 ·exact .inr ⟨g,aG,cD,hv,by omega,rest⟩
theorem Gn.nm(d:Gn.aY)(f:Int):∀(m k:Nat)(l:List Nat),(Gn.mons d f m k l).length<=m
 | 0,_,_=>abL _
 | m+1,k,l=>by
  unfold Gn.mons
  split
  ·exact Nat.zero_le _
  ·have:=Gn.nm d f m (k+1) (l.eraseIdx (d (7+(k:Int)) 0 (l.length:Int)).toNat)
   simp only[List.length_cons]
   omega
theorem At(s f:Int)(d:Gn.aY)(hd:∀a b n,Gn.D s f a b n=d a b n)(qn:Gn.gL d)(QN:1<=f)(QO:f<=3)(G gF:Nat)(c F:N1)(w:World)(hA:ax w G 5 384 (aZ c))(hF:ax w gF 3 384 (bB F)):Calls prog 100 #[.agg #[.int .i64 s,.int .i64 f],.slice (some ⟨G,0,none⟩) 384 384,.slice (some ⟨gF,0,none⟩) 384 384] w
   fun e w'=>∃v,e=.returned v/\w'.ownsRow w.heap.size 54 11 v (Gn.mons d f (f+2).toNat 0 ((Gn.bi (fun i=>c i==1) 384).filter (Gn.eB F))).length (Gn.aL (Gn.mons d f (f+2).toNat 0 ((Gn.bi (fun i=>c i==1) 384).filter (Gn.eB F))))/\w.grownBy w' none:=by
 have jL:=aa hd;have kb:=aa qn;have jr:=aa hA;have iU:=aa hF;obtain⟨fin,ah⟩:∃fin,fin=Gn.mons d f (f+2).toNat 0 ((Gn.bi (fun i=>c i==1) 384).filter (Gn.eB F)):=⟨_,rfl⟩;rw[<-ah];have gh:=aa ah;have qH:fin.length<=5:=by
  rw[ah];have:=Gn.nm d f (f+2).toNat 0 ((Gn.bi (fun i=>c i==1) 384).filter (Gn.eB F));omega
 obtain⟨i0,hi,dJ,dz,ed⟩:=info_parts gl;clear hd qn hA hF ah;go_enter func100,ntmps100;go_wp2_with fail;obtain⟨w0,aD⟩:∃w0,w0=(w.alloc (.cells #[.int .i64 s,.int .i64 f] 116)).alloc (.cells #[.slice (some ⟨gF,0,none⟩) 384 384] 38):=⟨_,rfl⟩;have wT:w0.heap.size=w.heap.size+1+1:=by rw[aD];simp
 have aN:w.grownBy w0 none:=by rw[aD];exact gal (abE _ _ _) _
 have ub:ax w0 w.heap.size 116 2 (fun j=>.int .i64 (if j=0 then s else f)):=by rw[aD];exact(ax.iY _ _ _ _).alloc _
 have VC:w0.cell? ⟨w.heap.size+1,0,none⟩=some (.slice (some ⟨gF,0,none⟩) 384 384):=by rw[aD];simp
 have hA0:=(uh jr).grown aN (by simp);have sI:=(uh iU).grown aN (by simp);have Wr:=(uh jr).lt;have hgl:=(uh iU).lt;rw[<-aD];refine(oQ w0.heap.size _ _ c _ (hA0.lg _ hA0.lt (by decide)) (abL _)).mono ?_;rintro e w1 ⟨v1,rfl,hL1,hg1⟩;have P8:=hg1.size
 have P0:=aa (uT F gF (w.heap.size+1) w0.heap.size v1 (Gn.bi (fun i=>c i==1) 384) w1 ((gce hg1 _ _ (by omega) (by simp)).trans VC) (sI.grown hg1 (by simp)) hL1 (by omega) (by omega) (Gn.nA _ _) (fun i hi=>by
  rw[abQ hi];have:=List.getElem_mem hi
  exact List.mem_range.1 (List.mem_filter.1 this).1))
 have FZ:=aa hg1;have IM:=aa (ub.grown hg1 (by simp));have Jo:=aa (cO aN hg1);have XC:=aa wT;clear hL1 hg1 hA0 sI VC ub aN aD;go_wp2_with fail;refine(uh P0).mono ?_;rintro e w2 ⟨vL,rfl,hL2,vp⟩;have abv:=vp.size;have tp:Hid (d9 w w0.heap.size w2.heap.size s f vL (.slice none 0 0) ((Gn.bi (fun i=>c i==1) 384).filter (Gn.eB F)) [] w2):=by
  have hs:=uh XC;have h1l:=(uh Jo).size;refine⟨⟨(uh IM).choose,?_,(uh IM).choose_spec.2⟩,hL2,fun n hn=>(hL2.lt n hn).2,World.ownsRow_nil _ _ _ _,?_,by omega,by omega,abL _,fun x hx=>?_,?_⟩
  ·rw[vp.block _ (by omega)];exact(uh IM).choose_spec.1
  ·exact⟨vp.os.trans (uh Jo).os,vp.tape.trans (uh Jo).tape,vp.output.trans (uh Jo).output,by omega,fun k hk _=>(vp.block k (by omega)).trans ((uh Jo).block k hk (by simp))⟩
  ·exact List.mem_range.1 (List.mem_filter.1 (List.mem_filter.1 hx).1).1
  ·have h1:=List.length_filter_le (Gn.eB F) (Gn.bi (fun i=>c i==1) 384);have h2:=Gn.nA (fun i=>c i==1) 384;omega
 obtain⟨bL,WG⟩:∃b,b=w0.heap.size:=⟨_,rfl⟩;obtain⟨bE,NY⟩:∃b,b=w2.heap.size:=⟨_,rfl⟩;have Jg:w.heap.size<=bE:=by have:=(uh Jo).size;omega
 rw[<-WG,<-NY]at tp;clear hL2 vp P0 IM Jo XC FZ P8 wT WG NY;go_wp2_with fail;go_loopw [7,8,9] (fun vl ve vk wr=>∃(k:Nat) (l:List Nat) (acc:List (Int × Nat)),(k:Int)<=f+2/\vk=.int .i64 (k:Int)/\acc++Gn.mons d f ((f+2).toNat-k) k l=fin/\d9 w bL bE s f vl ve l acc wr) (fun _ _ vk _=>10-(intOf vk).toNat)
 case atStart=>exact⟨0,_,[],by omega,rfl,(uh gh).symm,uh tp⟩
 case round =>
  clear tp gh;obtain⟨k,l,acc,hk,rfl,vm,hH⟩:=hrel;have dp:=aa hH;have iA:=aa vm;clear hH vm;have kx:=(uh dp).ep.cell (i:=1) (by omega);have qu:=(uh dp).ep.cell (i:=0) (by omega);simp only[ite_true,Nat.one_ne_zero,ite_false]at qu kx;have SP:=(uh dp).len;by_cases hlt:(k:Int)<f+2
  ·by_cases Jp:l.length=0
   ·have KV:l=[]:=List.eq_nil_of_length_eq_zero Jp;have fh:Hid (acc=fin):=by
     have h:=uh iA;obtain⟨m,hm⟩:∃m,(f+2).toNat-k=m+1:=⟨(f+2).toNat-k-1,by omega⟩;rw[hm,Gn.mons,abP Jp,List.append_nil]at h;exact h
    have aag:∃a aG,u7=.slice a 0 aG:=by
     rcases(uh dp).left.zm with⟨h,_⟩|⟨g,aG,_,h,_⟩
     ·exact⟨_,_,h⟩
     ·exact⟨_,_,by rw[h,Jp]⟩
    obtain⟨a,aG,rfl⟩:=aag;clear Jp KV SP;go_wp2;go_ret;have hE:=(uh dp).ai;rw[uh fh]at hE;exact⟨_,rfl,gp hE Jg,(uh dp).grown⟩
   ·have hlp:(0:Int)<(l.length:Int):=(by omega);obtain⟨N,hN⟩:∃x,x=d (7+(k:Int)) 0 (l.length:Int):=⟨_,rfl⟩;obtain⟨n1,n2⟩:0<=N/\N<(l.length:Int):=by rw[hN];exact uh kb _ _ _ (by omega)
    obtain⟨n,hn⟩:∃n:Nat,N=(n:Int):=⟨N.toNat,by omega⟩;have sP:n<l.length:=(by omega);have Xk:(n:Int)<(l.length:Int):=(by omega);have UE:n<384:=(by omega);have VF:Hid (∀w',Calls prog 128 #[.agg #[.int .i64 s,.int .i64 f],.int .i64 (7+(k:Int)),.int .i64 0,.int .i64 (l.length:Int)] w' (aJ w' (.int .i64 (n:Int)))):=fun w'=>by
     have h:=gR s f (7+(k:Int)) 0 (l.length:Int) w' (by omega);rw[uh jL,<-hN,hn]at h;exact h
    obtain⟨M,hM⟩:∃M:Int,M=if 3<f+1 then 3 else f+1:=⟨_,rfl⟩;have hMb:1<=M/\M<=3:=by rw[hM];split <;> omega
    obtain⟨K,hK⟩:∃K,K=d (16+(k:Int)) 1 M:=⟨_,rfl⟩;obtain⟨k1,k2⟩:0<=K/\K<M:=by rw[hK];exact uh kb _ _ _ (by omega)
    have Ji:Hid (∀w',Calls prog 128 #[.agg #[.int .i64 s,.int .i64 f],.int .i64 (16+(k:Int)),.int .i64 1,.int .i64 M] w' (aJ w' (.int .i64 K))):=fun w'=>by
     have h:=gR s f (16+(k:Int)) 1 M w' (by omega);rw[uh jL,<-hK]at h;exact h
    have GV:Gn.bD d f k=2+K:=by unfold Gn.bD;rw[<-hM,<-hK]
    obtain⟨cl,iu⟩:∃cl,cl=l[n]?.getD 0:=⟨_,rfl⟩;have Jh:cl<384:=by
     rw[iu,abQ sP];exact(uh dp).FF _ (List.getElem_mem sP)
    have dm:Hid ((acc++[(2+K,cl)])++Gn.mons d f ((f+2).toNat-(k+1)) (k+1) (l.eraseIdx n)=fin):=by
     have h:=uh iA;obtain⟨m,hm⟩:∃m,(f+2).toNat-k=m+1:=⟨(f+2).toNat-k-1,by omega⟩;rw[hm,Gn.mons,abO Jp,<-hN,hn,abG,GV,<-iu]at h;show(acc++[(2+K,cl)])++Gn.mons d f ((f+2).toNat-(k+1)) (k+1) (l.eraseIdx n)=fin;rw[show(f+2).toNat-(k+1)=m by omega,List.append_assoc];exact h
    have VB:acc.length<=5:=by
     have h:=congrArg List.length (uh iA);rw[List.length_append]at h;omega
    obtain⟨hp,Uw⟩:∃x,x=Gn.hp (2+K):=⟨_,rfl⟩;obtain⟨jo,iG⟩:∃x,x=Gn.Y8 (2+K):=⟨_,rfl⟩;obtain⟨df,P0⟩:∃x,x=Gn.df (2+K):=⟨_,rfl⟩;have vK:Hid (∀w',Calls prog 137 #[.int .i64 (2+K)] w' (aJ w' (.agg #[.int .i64 (2+K),.int .i64 0,.int .i64 0,.int .i64 0,.int .i64 0,.int .i64 hp,.int .i64 hp,.int .i64 jo,.int .i64 df,.int .i64 0,.int .i64 0]))):=fun w'=>by
     have h:=MG (2+K) w' (by omega) (by omega);unfold Gn.kt at h;rw[<-Uw,<-iG,<-P0]at h;exact h
    have GL:Hid (Gn.eF (2+K,cl)=[.int .i64 (2+K),.int .i64 0,.int .i64 0,.int .i64 ((cl:Int)%24),.int .i64 ((cl:Int)/24),.int .i64 hp,.int .i64 hp,.int .i64 jo,.int .i64 df,.int .i64 0,.int .i64 0]):=by
     show Gn.eF (2+K,cl)=_;unfold Gn.eF Gn.kt;rw[<-Uw,<-iG,<-P0]
    have LP:=aa iu;obtain⟨g,aG,rfl,MY,_⟩:=(uh dp).at sP;have FT:=aa hM;clear hN hn hK GV iu Uw iG P0 Jp hM n1 n2;go_wp2_with fail;refine aaR (uh VF _) fun wa hga=>?_;have zr:=aa ((uh dp).on hga);have kx:=(uh zr).ep.cell (i:=1) (by omega);have qu:=(uh zr).ep.cell (i:=0) (by omega);simp only[ite_true,Nat.one_ne_zero,ite_false]at qu kx;clear hga dp;by_cases h3:3<f+1
    ·have Wx:M=3:=by rw[uh FT,abP h3]
     subst Wx;go_wp2_with fail;refine aaR (uh Ji _) fun wb tZ=>?_;have KK:=aa ((uh zr).on tZ);clear tZ zr qu kx;go_wp2_with fail;refine aaR (uh vK _) fun wc vw=>?_;have sg:=aa ((uh KK).on vw);clear vw KK;have hcell:∀o,(wc.alloc o).cell? ⟨g,n,none⟩=some (.int .i64 (cl:Int)):=by
      intro o;have h:=(uh sg).on (abE wc o none);obtain⟨g',oN,GM,_,hq⟩:=h.at sP;simp only[Value.slice.injEq,Option.some.injEq,Addr.mk.injEq,and_true,true_and]at GM;rw[GM.1,hq,uh LP]
     go_wp2_with fail;obtain⟨we,xq⟩:∃we,we=wc.alloc (.cells #[.int .i64 (2+K),.int .i64 0,.int .i64 0,.int .i64 0,.int .i64 0,.int .i64 hp,.int .i64 hp,.int .i64 jo,.int .i64 df,.int .i64 0,.int .i64 0] 54):=⟨_,rfl⟩;have tq:Hid (d9 w bL bE s f (.slice (some ⟨g,0,none⟩) l.length aG) u8 l acc we):=by rw[xq];exact(uh sg).on (abE _ _ _)
     have Wj:we.heap[wc.heap.size]?=some (.cells #[.int .i64 (2+K),.int .i64 0,.int .i64 0,.int .i64 0,.int .i64 0,.int .i64 hp,.int .i64 hp,.int .i64 jo,.int .i64 df,.int .i64 0,.int .i64 0] 54 (0,0)):=by rw[xq];exact abH _ _
     have hse:we.heap.size=wc.heap.size+1:=by rw[xq];simp
     rw[<-xq];refine aaR (pa (cl:Int) _ (by omega) (by omega)) fun wd hgd=>?_;have KL:=aa ((uh tq).on hgd);have QS:Hid (wd.heap[wc.heap.size]?=some (.cells #[.int .i64 (2+K),.int .i64 0,.int .i64 0,.int .i64 0,.int .i64 0,.int .i64 hp,.int .i64 hp,.int .i64 jo,.int .i64 df,.int .i64 0,.int .i64 0] 54 (0,0))):=(hgd.block _ (by omega) (by simp)).trans Wj;have XL:Hid (∀n,(Value.slice (some ⟨g,0,none⟩) l.length aG).ownBlock=some n->n≠wc.heap.size):=fun n hn=>Nat.ne_of_lt ((uh sg).left.lt n hn).2;have Qd:Hid (∀n,u8.ownBlock=some n->n≠wc.heap.size):=fun n hn=>Nat.ne_of_lt ((uh sg).ai.lt n hn).2;have Rk:Hid (w.heap.size<wc.heap.size):=(uh sg).ep.lt;have Uz:wc.heap.size<wd.heap.size:=by have:=hgd.size;omega
     have sK:∀j,wd.cell? ⟨wc.heap.size,j,none⟩=#[Value.int .i64 (2+K),.int .i64 0,.int .i64 0,.int .i64 0,.int .i64 0,.int .i64 hp,.int .i64 hp,.int .i64 jo,.int .i64 df,.int .i64 0,.int .i64 0][j]?:=fun j=>cell_of_row wd _ j _ _ _ (uh QS);have WX:∀j,wd.frozen? ⟨wc.heap.size,j,none⟩=false:=fun j=>frozen_of_row wd _ j _ _ (uh QS);clear hgd Wj hse xq tq sg hcell;go_wp2_with fail
     go_region
     obtain⟨W4,KQ⟩:∃W4,W4=(((wd.setCell ⟨wc.heap.size,3,none⟩ (.int .i64 ((cl:Int)%24))).setCell ⟨wc.heap.size,4,none⟩ (.int .i64 ((cl:Int)/24))).alloc (.cells #[.int .i64 ((cl:Int)%24),.int .i64 ((cl:Int)/24)] 118)).drew:=⟨_,rfl⟩;rw[<-KQ];have iH:Hid (d9 w bL bE s f (.slice (some ⟨g,0,none⟩) l.length aG) u8 l acc W4):=by
      rw[KQ];exact((uh KL).ez (gst (gst (abF wd (some wc.heap.size)) _ _) _ _) (uh XL) (uh Qd) (uh Rk)).on (gd1 (abE _ _ _))
     have sf:ax W4 wc.heap.size 54 11 (fun j=>#[Value.int .i64 (2+K),.int .i64 0,.int .i64 0,.int .i64 ((cl:Int)%24),.int .i64 ((cl:Int)/24),.int .i64 hp,.int .i64 hp,.int .i64 jo,.int .i64 df,.int .i64 0,.int .i64 0][j]?.getD undef):=by
      have h0:ax wd wc.heap.size 54 11 (fun j=>#[Value.int .i64 (2+K),.int .i64 0,.int .i64 0,.int .i64 0,.int .i64 0,.int .i64 hp,.int .i64 hp,.int .i64 jo,.int .i64 df,.int .i64 0,.int .i64 0][j]?.getD undef) :=
       ax.lit (uh QS)
      have h1:=((((h0.store 3 (.int .i64 ((cl:Int)%24))).store 4 (.int .i64 ((cl:Int)/24))).alloc (.cells #[.int .i64 ((cl:Int)%24),.int .i64 ((cl:Int)/24)] 118)).grown (gd1 (abF _ none)) (by simp));rw[KQ];refine ax.congr h1 fun j hj=>?_;rcases(show j=0\/j=1\/j=2\/j=3\/j=4\/j=5\/j=6\/j=7\/j=8\/j=9\/j=10 by omega)with rfl|rfl|rfl|rfl|rfl|rfl|rfl|rfl|rfl|rfl|rfl <;> rfl
     have z0:=sf.cell (i:=0) (by omega);have z1:=sf.cell (i:=1) (by omega);have z2:=sf.cell (i:=2) (by omega);have z3:=sf.cell (i:=3) (by omega);have z4:=sf.cell (i:=4) (by omega);have z5:=sf.cell (i:=5) (by omega);have z6:=sf.cell (i:=6) (by omega);have z7:=sf.cell (i:=7) (by omega);have z8:=sf.cell (i:=8) (by omega);have z9:=sf.cell (i:=9) (by omega);have bO:=sf.cell (i:=10) (by omega);simp only[List.getElem?_toArray,List.getElem?_cons_zero,List.getElem?_cons_succ,Option.getD_some]at z0 z1 z2 z3 z4 z5 z6 z7 z8 z9 bO;have ht4:=(uh iH).wD;clear KQ sf KL QS sK WX Uz XL Qd Rk;go_wp2_with (at_builtin;refine wpList_append_own _ rfl _ _ 26 rfl bE 54 i0 (.agg #[.int .i64 0,.int .i64 0,.int .i64 0,.int .i64 0,.int .i64 0,.int .i64 0,.int .i64 0,.int .i64 0,.int .i64 0,.int .i64 0,.int .i64 0]) 11 88 underlying26 hi dJ dz ed rfl (by decide) _ _ _ rfl ((uh iH).ai.alloc _) ⟨W4.heap.size,0,none⟩ 1 1 [.int .i64 (2+K),.int .i64 0,.int .i64 0,.int .i64 ((cl:Int)%24),.int .i64 ((cl:Int)/24),.int .i64 hp,.int .i64 hp,.int .i64 jo,.int .i64 df,.int .i64 0,.int .i64 0] rfl rfl ?_ ?_ ?_ ?_ ?_ ?_)
     ·exact oP _ _ rfl _ _ _ _ _ _ _ _ _ _ _ _
     ·intro u hu;simp only[List.mem_cons,List.not_mem_nil,or_false]at hu;rcases hu with rfl|rfl|rfl|rfl|rfl|rfl|rfl|rfl|rfl|rfl|rfl <;> rfl
     ·unfold maxLen;omega
     ·omega
     ·simp;omega
     intro v5 w5 eW dw _;rw[<-uh GL]at eW;have qp:=aa (((uh iH).on (abE _ _ _)).add eW dw);have qw:=qk bL n (n+1) (.slice (some ⟨g,0,none⟩) l.length aG) l w5 (uh qp).left SP sP rfl;rw[show((n+1:Nat):Int)=(n:Int)+1 by omega]at qw;have tv:=aa qw;clear eW dw iH qw z0 z1 z2 z3 z4 z5 z6 z7 z8 z9 bO;go_wp2_with fail;refine(uh tv).mono ?_;rintro e w6 ⟨vN,rfl,Sv,Oq,qJ⟩;have I9:=aa ((uh qp).Yh Sv Oq qJ);clear Sv Oq qJ tv qp;go_wp2;go_roundw
     case rel=>exact⟨k+1,l.eraseIdx n,acc++[(2+K,cl)],by omega,by go_num,uh dm,uh I9⟩
     case measure=>simp[intOf];omega
    ·have Wx:f+1=M:=by rw[uh FT,abO h3]
     go_wp2_with fail;refine aaR (uh Ji _) fun wb tZ=>?_;have KK:=aa ((uh zr).on tZ);clear tZ zr qu kx;go_wp2_with fail;refine aaR (uh vK _) fun wc vw=>?_;have sg:=aa ((uh KK).on vw);clear vw KK;have hcell:∀o,(wc.alloc o).cell? ⟨g,n,none⟩=some (.int .i64 (cl:Int)):=by
      intro o;have h:=(uh sg).on (abE wc o none);obtain⟨g',oN,GM,_,hq⟩:=h.at sP;simp only[Value.slice.injEq,Option.some.injEq,Addr.mk.injEq,and_true,true_and]at GM;rw[GM.1,hq,uh LP]
     go_wp2_with fail;obtain⟨we,xq⟩:∃we,we=wc.alloc (.cells #[.int .i64 (2+K),.int .i64 0,.int .i64 0,.int .i64 0,.int .i64 0,.int .i64 hp,.int .i64 hp,.int .i64 jo,.int .i64 df,.int .i64 0,.int .i64 0] 54):=⟨_,rfl⟩;have tq:Hid (d9 w bL bE s f (.slice (some ⟨g,0,none⟩) l.length aG) u8 l acc we):=by rw[xq];exact(uh sg).on (abE _ _ _)
     have Wj:we.heap[wc.heap.size]?=some (.cells #[.int .i64 (2+K),.int .i64 0,.int .i64 0,.int .i64 0,.int .i64 0,.int .i64 hp,.int .i64 hp,.int .i64 jo,.int .i64 df,.int .i64 0,.int .i64 0] 54 (0,0)):=by rw[xq];exact abH _ _
     have hse:we.heap.size=wc.heap.size+1:=by rw[xq];simp
     rw[<-xq];refine aaR (pa (cl:Int) _ (by omega) (by omega)) fun wd hgd=>?_;have KL:=aa ((uh tq).on hgd);have QS:Hid (wd.heap[wc.heap.size]?=some (.cells #[.int .i64 (2+K),.int .i64 0,.int .i64 0,.int .i64 0,.int .i64 0,.int .i64 hp,.int .i64 hp,.int .i64 jo,.int .i64 df,.int .i64 0,.int .i64 0] 54 (0,0))):=(hgd.block _ (by omega) (by simp)).trans Wj;have XL:Hid (∀n,(Value.slice (some ⟨g,0,none⟩) l.length aG).ownBlock=some n->n≠wc.heap.size):=fun n hn=>Nat.ne_of_lt ((uh sg).left.lt n hn).2;have Qd:Hid (∀n,u8.ownBlock=some n->n≠wc.heap.size):=fun n hn=>Nat.ne_of_lt ((uh sg).ai.lt n hn).2;have Rk:Hid (w.heap.size<wc.heap.size):=(uh sg).ep.lt;have Uz:wc.heap.size<wd.heap.size:=by have:=hgd.size;omega
     have sK:∀j,wd.cell? ⟨wc.heap.size,j,none⟩=#[Value.int .i64 (2+K),.int .i64 0,.int .i64 0,.int .i64 0,.int .i64 0,.int .i64 hp,.int .i64 hp,.int .i64 jo,.int .i64 df,.int .i64 0,.int .i64 0][j]?:=fun j=>cell_of_row wd _ j _ _ _ (uh QS);have WX:∀j,wd.frozen? ⟨wc.heap.size,j,none⟩=false:=fun j=>frozen_of_row wd _ j _ _ (uh QS);clear hgd Wj hse xq tq sg hcell;go_wp2_with fail
     go_region
     obtain⟨W4,KQ⟩:∃W4,W4=(((wd.setCell ⟨wc.heap.size,3,none⟩ (.int .i64 ((cl:Int)%24))).setCell ⟨wc.heap.size,4,none⟩ (.int .i64 ((cl:Int)/24))).alloc (.cells #[.int .i64 ((cl:Int)%24),.int .i64 ((cl:Int)/24)] 118)).drew:=⟨_,rfl⟩;rw[<-KQ];have iH:Hid (d9 w bL bE s f (.slice (some ⟨g,0,none⟩) l.length aG) u8 l acc W4):=by
      rw[KQ];exact((uh KL).ez (gst (gst (abF wd (some wc.heap.size)) _ _) _ _) (uh XL) (uh Qd) (uh Rk)).on (gd1 (abE _ _ _))
     have sf:ax W4 wc.heap.size 54 11 (fun j=>#[Value.int .i64 (2+K),.int .i64 0,.int .i64 0,.int .i64 ((cl:Int)%24),.int .i64 ((cl:Int)/24),.int .i64 hp,.int .i64 hp,.int .i64 jo,.int .i64 df,.int .i64 0,.int .i64 0][j]?.getD undef):=by
      have h0:ax wd wc.heap.size 54 11 (fun j=>#[Value.int .i64 (2+K),.int .i64 0,.int .i64 0,.int .i64 0,.int .i64 0,.int .i64 hp,.int .i64 hp,.int .i64 jo,.int .i64 df,.int .i64 0,.int .i64 0][j]?.getD undef) :=
       ax.lit (uh QS)
      have h1:=((((h0.store 3 (.int .i64 ((cl:Int)%24))).store 4 (.int .i64 ((cl:Int)/24))).alloc (.cells #[.int .i64 ((cl:Int)%24),.int .i64 ((cl:Int)/24)] 118)).grown (gd1 (abF _ none)) (by simp));rw[KQ];refine ax.congr h1 fun j hj=>?_;rcases(show j=0\/j=1\/j=2\/j=3\/j=4\/j=5\/j=6\/j=7\/j=8\/j=9\/j=10 by omega)with rfl|rfl|rfl|rfl|rfl|rfl|rfl|rfl|rfl|rfl|rfl <;> rfl
     have z0:=sf.cell (i:=0) (by omega);have z1:=sf.cell (i:=1) (by omega);have z2:=sf.cell (i:=2) (by omega);have z3:=sf.cell (i:=3) (by omega);have z4:=sf.cell (i:=4) (by omega);have z5:=sf.cell (i:=5) (by omega);have z6:=sf.cell (i:=6) (by omega);have z7:=sf.cell (i:=7) (by omega);have z8:=sf.cell (i:=8) (by omega);have z9:=sf.cell (i:=9) (by omega);have bO:=sf.cell (i:=10) (by omega);simp only[List.getElem?_toArray,List.getElem?_cons_zero,List.getElem?_cons_succ,Option.getD_some]at z0 z1 z2 z3 z4 z5 z6 z7 z8 z9 bO;have ht4:=(uh iH).wD;clear KQ sf KL QS sK WX Uz XL Qd Rk;go_wp2_with (at_builtin;refine wpList_append_own _ rfl _ _ 26 rfl bE 54 i0 (.agg #[.int .i64 0,.int .i64 0,.int .i64 0,.int .i64 0,.int .i64 0,.int .i64 0,.int .i64 0,.int .i64 0,.int .i64 0,.int .i64 0,.int .i64 0]) 11 88 underlying26 hi dJ dz ed rfl (by decide) _ _ _ rfl ((uh iH).ai.alloc _) ⟨W4.heap.size,0,none⟩ 1 1 [.int .i64 (2+K),.int .i64 0,.int .i64 0,.int .i64 ((cl:Int)%24),.int .i64 ((cl:Int)/24),.int .i64 hp,.int .i64 hp,.int .i64 jo,.int .i64 df,.int .i64 0,.int .i64 0] rfl rfl ?_ ?_ ?_ ?_ ?_ ?_)
     ·exact oP _ _ rfl _ _ _ _ _ _ _ _ _ _ _ _
     ·intro u hu;simp only[List.mem_cons,List.not_mem_nil,or_false]at hu;rcases hu with rfl|rfl|rfl|rfl|rfl|rfl|rfl|rfl|rfl|rfl|rfl <;> rfl
     ·unfold maxLen;omega
     ·omega
     ·simp;omega
     intro v5 w5 eW dw _;rw[<-uh GL]at eW;have qp:=aa (((uh iH).on (abE _ _ _)).add eW dw);have qw:=qk bL n (n+1) (.slice (some ⟨g,0,none⟩) l.length aG) l w5 (uh qp).left SP sP rfl;rw[show((n+1:Nat):Int)=(n:Int)+1 by omega]at qw;have tv:=aa qw;clear eW dw iH qw z0 z1 z2 z3 z4 z5 z6 z7 z8 z9 bO;go_wp2_with fail;refine(uh tv).mono ?_;rintro e w6 ⟨vN,rfl,Sv,Oq,qJ⟩;have I9:=aa ((uh qp).Yh Sv Oq qJ);clear Sv Oq qJ tv qp;go_wp2;go_roundw
     case rel=>exact⟨k+1,l.eraseIdx n,acc++[(2+K,cl)],by omega,by go_num,uh dm,uh I9⟩
     case measure=>simp[intOf];omega
  ·have hge:¬(k:Int)<f+2:=hlt;have fh:Hid (acc=fin):=by
    have h:=uh iA;rw[show(f+2).toNat-k=0 by omega,Gn.mons,List.append_nil]at h;exact h
   clear hlt;go_wp2;go_ret;have hE:=(uh dp).ai;rw[uh fh]at hE;exact⟨_,rfl,gp hE Jg,(uh dp).grown⟩
