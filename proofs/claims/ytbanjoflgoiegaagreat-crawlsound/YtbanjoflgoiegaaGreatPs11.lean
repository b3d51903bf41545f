import Derived.Test.YtbanjoflgoiegaaGreatPs09
import Derived.Deep.AppendLies
import Derived.Test.YtbanjoflgoiegaaGreatPs10
import Derived.Laws.CopyOwn
namespace Go.Proofs.YtbanjoflgoiegaaGreat
open Go.RowKit

namespace Gn

abbrev Itm:=Int × Int × Int × Int

def lie (d:Dice):Nat→Nat→List Nat→List Itm
 | 0,_,_=>[]
 | m+1,k,l=>if l.length=0 then [] else (1+d (40+(k:Int)) 1 4,1,((l[(d (40+(k:Int)) 0 (l.length:Int)).toNat]?.getD 0:Nat):Int) % 24,((l[(d (40+(k:Int)) 0 (l.length:Int)).toNat]?.getD 0:Nat):Int) / 24) :: lie d m (k+1) (l.eraseIdx (d (40+(k:Int)) 0 (l.length:Int)).toNat)

def wares (d:Dice) (k:Nat):List Itm:=(List.range k).map fun (j:Nat)=>(1+d (50+(j:Int)) 1 3,4,(j:Int),0)

def items (d:Dice) (c:Nat→Int):List Itm:=lie d 4 0 (those (fun i=>c i == 1) 384) ++ if Gr.find 384 c 5<0 then [] else wares d 3

def itemCells (p:Itm):List Value:=[.int .i64 p.1,.int .i64 p.2.1,.int .i64 p.2.2.1,.int .i64 p.2.2.2]

def flatI (acc:List Itm):List Value:=acc.flatMap itemCells

theorem flatI_more (acc:List Itm) (p:Itm):flatI (acc ++ [p])=flatI acc ++ itemCells p:=by
 unfold flatI
 rw [List.flatMap_append]
 simp

theorem wares_more (d:Dice) (k:Nat):wares d (k+1)=wares d k ++ [(1+d (50+(k:Int)) 1 3,4,(k:Int),0)]:=by
 unfold wares
 rw [List.range_succ,List.map_append]
 rfl

theorem lie_len (d:Dice):∀(m k:Nat) (l:List Nat),(lie d m k l).length≤m
 | 0,_,_=>Nat.le_refl _
 | m+1,k,l=>by
  unfold lie
  split
  ·exact Nat.zero_le _
  ·have:=lie_len d m (k+1) (l.eraseIdx (d (40+(k:Int)) 0 (l.length:Int)).toNat)
   simp only [List.length_cons]
   omega

end Gn

theorem info_item:(Tryz.prog.info? 62).map (fun i=>(i.zero,i.size,i.bytes))=some (some (.agg #[.int .i64 0,.int .i64 0,.int .i64 0,.int .i64 0]),4,32):=by kernel_rfl

structure ItmHold (w:World) (bL bE:Nat) (s f:Int) (vL vE:Value) (l:List Nat) (acc:List Gn.Itm) (wr:World):Prop where
 plan:Arr wr w.heap.size 116 2 (fun j=>.int .i64 (if j=0 then s else f))
 left:Lst wr bL vL l
 sep:∀n,vL.ownBlock=some n→n<bE
 ents:wr.ownsRow bE 62 4 vE acc.length (Gn.flatI acc)
 grown:w.grownBy wr none
 lo:w.heap.size<bL
 hi:bL≤bE
 top:bE≤wr.heap.size
 rng:∀c,c∈l→c<384
 len:l.length≤384

theorem ItmHold.on {w:World} {bL bE:Nat} {s f:Int} {vL vE:Value} {l:List Nat} {acc:List Gn.Itm} {wr wx:World} (h:ItmHold w bL bE s f vL vE l acc wr) (hg:wr.grownBy wx none):ItmHold w bL bE s f vL vE l acc wx :=
 ⟨h.plan.grown hg (by simp),h.left.kept hg (by cases vL.ownBlock <;> simp),h.sep,h.ents.kept hg (by cases vE.ownBlock <;> simp),grown_none h.grown hg,h.lo,h.hi,Nat.le_trans h.top hg.size,h.rng,h.len⟩

theorem ItmHold.del {w:World} {bL bE:Nat} {s f:Int} {vL vE vN:Value} {l:List Nat} {acc:List Gn.Itm} {wr wx:World} {i:Nat} (h:ItmHold w bL bE s f vL vE l acc wr) (hN:Lst wx bL vN (l.eraseIdx i)) (ho:vN.ownBlock=vL.ownBlock) (hg:wr.grownBy wx vL.ownBlock) :
  ItmHold w bL bE s f vN vE (l.eraseIdx i) acc wx:=by
 have hlo:=h.lo
 have hhi:=h.hi
 have hlen:(l.eraseIdx i).length≤l.length:=by rw [List.length_eraseIdx];split <;> omega
 have hll:=h.len
 refine ⟨h.plan.grown hg ?_,hN,fun n hn=>h.sep n (by rw [←ho];exact hn),h.ents.kept hg ?_,gow h.grown hg ?_,h.lo,h.hi,Nat.le_trans h.top hg.size,fun c hc=>h.rng c (List.mem_of_mem_eraseIdx hc),by omega⟩
 ·intro e
  have:=(h.left.lt _ e).1
  omega
 ·cases hv:vE.ownBlock with
  | none=>exact .inl rfl
  | some n =>
   right
   intro e
   have h1:=(h.ents.lt n hv).1
   have h2:=h.sep n e.symm
   omega
 ·intro n e
  have:=(h.left.lt n e).1
  omega

theorem ItmHold.add {w:World} {bL bE:Nat} {s f:Int} {vL vE vN:Value} {l:List Nat} {acc:List Gn.Itm} {p:Gn.Itm} {wr wx:World} (h:ItmHold w bL bE s f vL vE l acc wr) (hN:wx.ownsRow bE 62 4 vN (acc.length+1) (Gn.flatI acc ++ Gn.itemCells p)) (hg:wr.grownBy wx vE.ownBlock) :
  ItmHold w bL bE s f vL vN l (acc ++ [p]) wx:=by
 have hlo:=h.lo
 have hhi:=h.hi
 refine ⟨h.plan.grown hg ?_,h.left.kept hg ?_,h.sep,?_,gow h.grown hg ?_,h.lo,h.hi,Nat.le_trans h.top hg.size,h.rng,h.len⟩
 ·intro e
  have:=(h.ents.lt _ e).1
  omega
 ·cases hv:vL.ownBlock with
  | none=>exact .inl rfl
  | some n =>
   right
   intro e
   have h1:=(h.ents.lt n e.symm).1
   have h2:=h.sep n hv
   omega
 ·rw [Gn.flatI_more,List.length_append]
  exact hN
 ·intro n e
  have:=(h.ents.lt n e).1
  omega

theorem ItmHold.at {w:World} {bL bE:Nat} {s f:Int} {vL vE:Value} {l:List Nat} {acc:List Gn.Itm} {wr:World} (h:ItmHold w bL bE s f vL vE l acc wr) {n:Nat} (hn:n<l.length) :
  ∃g cap,vL=.slice (some ⟨g,0,none⟩) l.length cap∧l.length≤cap∧wr.cell? ⟨g,n,none⟩=some (.int .i64 ((l[n]?.getD 0:Nat):Int)):=by
 rcases h.left.form with ⟨_,rfl⟩ | ⟨g,cap,H,rfl,_,hA,hlc,_,hH⟩
 ·simp at hn
 ·exact ⟨g,cap,rfl,hlc,by rw [hA.cell (by omega),hH n hn]⟩

theorem item_news (w:World) (B:Nat) (hB:B=w.heap.size) (a0 a1 a2 a3:Value) (T:TypeId):∀j u,[a0,a1,a2,a3][j]?=some u→(w.alloc (.cells #[a0,a1,a2,a3] T)).cell? ((⟨B,0,none⟩:Addr).add j)=some u:=by
 subst hB
 intro j u hj
 have hlt:j<4:=(List.getElem?_eq_some_iff.1 hj).1
 rcases (show j=0∨j=1∨j=2∨j=3 by omega) with rfl | rfl | rfl | rfl
 all_goals
  simp at hj
  subst hj
  simp [Addr.add]

set_option maxRecDepth 8000 in
set_option maxHeartbeats 4000000 in
theorem items_any (s f:Int) (d:Gn.Dice) (hd:∀a b n,Gn.D s f a b n=d a b n) (hFr:Gn.Fair d) (G:Nat) (c:Nat→Int) (w:World) (hA:Arr w G 5 384 (Byts c)) (h5:∀i,0≤c i∧c i≤5) :
  Calls Tryz.prog 101 #[.agg #[.int .i64 s,.int .i64 f],.slice (some ⟨G,0,none⟩) 384 384] w
   fun e w'=>∃v,e=.returned v∧w'.ownsRow w.heap.size 62 4 v (Gn.items d c).length (Gn.flatI (Gn.items d c))∧w.grownBy w' none:=by
 have hd':=hide hd
 have hFr':=hide hFr
 have hA':=hide hA
 have h5':=hide h5
 obtain ⟨fin,hfin⟩:∃fin,fin=Gn.lie d 4 0 (Gn.those (fun i=>c i == 1) 384):=⟨_,rfl⟩
 have hfin':=hide hfin
 have hfl:fin.length≤4:=by rw [hfin];exact Gn.lie_len d 4 0 _
 obtain ⟨i0,hi,hz0,hz1,hz2⟩:=info_parts info_item
 clear hd hFr hA hfin h5
 go_enter Tryz.func101,Tryz.ntmps101
 go_wp2_with fail
 obtain ⟨w0,hw0⟩:∃w0,w0=w.alloc (.cells #[.int .i64 s,.int .i64 f] 116):=⟨_,rfl⟩
 have hs0:w0.heap.size=w.heap.size+1:=by rw [hw0];simp
 have hg0:w.grownBy w0 none:=by rw [hw0];exact World.grownBy_alloc _ _ _
 have hp0:Arr w0 w.heap.size 116 2 (fun j=>.int .i64 (if j=0 then s else f)):=by rw [hw0];exact Arr.pair _ _ _ _
 have hA0:=(uh hA').grown hg0 (by simp)
 have hGl:=(uh hA').lt
 rw [←hw0]
 refine (floorCells_any w0.heap.size _ _ c _ (hA0.vec _ hA0.lt (by decide)) (Nat.le_refl _)).mono ?_
 rintro e w2 ⟨vL,rfl,hL2,hg1⟩
 have hs1:=hg1.size
 have hH0:Hid (ItmHold w w0.heap.size w2.heap.size s f vL (.slice none 0 0) (Gn.those (fun i=>c i == 1) 384) [] w2) :=
  ⟨hp0.grown hg1 (by simp),hL2,fun n hn=>(hL2.lt n hn).2,World.ownsRow_nil _ _ _ _,grown_none hg0 hg1,by omega,by omega,Nat.le_refl _,fun x hx=>List.mem_range.1 (List.mem_filter.1 hx).1,Gn.those_len _ _⟩
 obtain ⟨bL,hbL⟩:∃b,b=w0.heap.size:=⟨_,rfl⟩
 obtain ⟨bE,hbE⟩:∃b,b=w2.heap.size:=⟨_,rfl⟩
 have hbw:w.heap.size≤bE:=by omega
 rw [←hbL,←hbE] at hH0
 clear hL2 hg1 hA0 hp0 hg0 hw0 hs0 hs1 hbL hbE
 go_wp2_with fail
 go_loopw [5,6,7] (fun vl ve vk wr=>∃(k:Nat) (l:List Nat) (acc:List Gn.Itm),k≤4∧vk=.int .i64 (k:Int)∧acc ++ Gn.lie d (4 - k) k l=fin∧ItmHold w bL bE s f vl ve l acc wr) (fun _ _ vk _=>10 - (intOf vk).toNat)
 case atStart=>exact ⟨0,_,[],by omega,rfl,(uh hfin').symm,uh hH0⟩
 case round =>
  clear hH0
  obtain ⟨k,l,acc,hk,rfl,hacc,hH⟩:=hrel
  have hH1:=hide hH
  have hacc':=hide hacc
  clear hH hacc
  have hc1:=(uh hH1).plan.cell (i:=1) (by omega)
  have hc0:=(uh hH1).plan.cell (i:=0) (by omega)
  simp only [ite_true,Nat.one_ne_zero,ite_false] at hc0 hc1
  have hll:=(uh hH1).len
  by_cases hgo:k<4∧l.length≠0
  ·obtain ⟨hlt,hl0⟩:=hgo
   have hlt':(k:Int)<4:=by omega
   have hlp:(0:Int)<(l.length:Int):=by omega
   obtain ⟨N,hN⟩:∃x,x=d (40+(k:Int)) 0 (l.length:Int):=⟨_,rfl⟩
   obtain ⟨n1,n2⟩:0≤N∧N<(l.length:Int):=by rw [hN];exact uh hFr' _ _ _ (by omega)
   obtain ⟨n,hn⟩:∃n:Nat,N=(n:Int):=⟨N.toNat,by omega⟩
   have hnl:n<l.length:=by omega
   have hnl':(n:Int)<(l.length:Int):=by omega
   have hn3:n<384:=by omega
   have hdN:Hid (∀w',Calls Tryz.prog 128 #[.agg #[.int .i64 s,.int .i64 f],.int .i64 (40+(k:Int)),.int .i64 0,.int .i64 (l.length:Int)] w' (Says w' (.int .i64 (n:Int)))):=fun w'=>by
    have h:=die3_any s f (40+(k:Int)) 0 (l.length:Int) w' (by omega)
    rw [uh hd',←hN,hn] at h
    exact h
   obtain ⟨K,hK⟩:∃K,K=d (40+(k:Int)) 1 4:=⟨_,rfl⟩
   obtain ⟨k1,k2⟩:0≤K∧K<4:=by rw [hK];exact uh hFr' _ _ _ (by omega)
   have hdK:Hid (∀w',Calls Tryz.prog 128 #[.agg #[.int .i64 s,.int .i64 f],.int .i64 (40+(k:Int)),.int .i64 1,.int .i64 4] w' (Says w' (.int .i64 K))):=fun w'=>by
    have h:=die3_any s f (40+(k:Int)) 1 4 w' (by omega)
    rw [uh hd',←hK] at h
    exact h
   obtain ⟨cl,hcl⟩:∃cl,cl=l[n]?.getD 0:=⟨_,rfl⟩
   have hcl3:cl<384:=by
    rw [hcl,List.getElem?_eq_getElem hnl]
    exact (uh hH1).rng _ (List.getElem_mem hnl)
   have hstep:Hid ((acc ++ [(1+K,1,(cl:Int) % 24,(cl:Int) / 24)]) ++ Gn.lie d (4 - (k+1)) (k+1) (l.eraseIdx n)=fin):=by
    have h:=uh hacc'
    obtain ⟨m,hm⟩:∃m,4 - k=m+1:=⟨4 - k - 1,by omega⟩
    rw [hm,Gn.lie,if_neg hl0,←hN,hn,Int.toNat_natCast,←hK,←hcl] at h
    show (acc ++ [(1+K,1,(cl:Int) % 24,(cl:Int) / 24)]) ++ Gn.lie d (4 - (k+1)) (k+1) (l.eraseIdx n)=fin
    rw [show 4 - (k+1)=m by omega,List.append_assoc]
    exact h
   have hal:acc.length≤4:=by
    have h:=congrArg List.length (uh hacc')
    rw [List.length_append] at h
    omega
   have hcl':=hide hcl
   obtain ⟨g,cap,rfl,hgc,_⟩:=(uh hH1).at hnl
   clear hN hn hK hcl hl0 n1 n2 hlt
   go_wp2_with fail
   refine (uh hdN _).mono ?_
   rintro e wa ⟨rfl,hga⟩
   have hHa:=hide ((uh hH1).on hga)
   have hcell:wa.cell? ⟨g,n,none⟩=some (.int .i64 (cl:Int)):=by
    obtain ⟨g',cap',heq,_,hq⟩:=(uh hHa).at hnl
    simp only [Value.slice.injEq,Option.some.injEq,Addr.mk.injEq,and_true,true_and] at heq
    rw [heq.1,hq,uh hcl']
   clear hga hH1 hc0 hc1
   go_wp2_with fail
   refine (placeOf_any (cl:Int) _ (by omega) (by omega)).mono ?_
   rintro e wd ⟨rfl,hgd⟩
   have hHd:=hide ((uh hHa).on hgd)
   clear hgd hHa hcell
   go_wp2_with fail
   obtain ⟨W4,hW4⟩:∃W4,W4=wd.alloc (.cells #[.int .i64 ((cl:Int) % 24),.int .i64 ((cl:Int) / 24)] 118):=⟨_,rfl⟩
   rw [←hW4]
   have hH4:Hid (ItmHold w bL bE s f (.slice (some ⟨g,0,none⟩) l.length cap) u6 l acc W4.drew):=by
    rw [hW4]
    exact (uh hHd).on (gd1 (World.grownBy_alloc _ _ _))
   have hP4:Hid (Arr W4.drew wd.heap.size 118 2 (fun j=>.int .i64 (if j=0 then (cl:Int) % 24 else (cl:Int) / 24))):=by
    rw [hW4]
    exact (Arr.pair _ _ _ _).grown (gd1 (World.grownBy.refl _ none)) (by simp)
   have hvE:Hid (∀n,u6.ownBlock=some n→n<wd.heap.size):=fun n hn=>((uh hHd).ents.lt n hn).2
   have keep:Hid (∀x,ItmHold w bL bE s f (.slice (some ⟨g,0,none⟩) l.length cap) u6 l acc x→Arr x wd.heap.size 118 2 (fun j=>.int .i64 (if j=0 then (cl:Int) % 24 else (cl:Int) / 24))→(x.cell? ⟨w.heap.size,0,none⟩=some (.int .i64 s)∧x.cell? ⟨w.heap.size,1,none⟩=some (.int .i64 f)∧x.cell? ⟨wd.heap.size,0,none⟩=some (.int .i64 ((cl:Int) % 24))∧x.cell? ⟨wd.heap.size,1,none⟩=some (.int .i64 ((cl:Int) / 24)))) :=
    fun x h1 h2=>⟨h1.plan.cell (by omega),h1.plan.cell (by omega),h2.cell (by omega),h2.cell (by omega)⟩
   have keep2:Hid (∀x y,Hid (ItmHold w bL bE s f (.slice (some ⟨g,0,none⟩) l.length cap) u6 l acc x)→Hid (Arr x wd.heap.size 118 2 (fun j=>.int .i64 (if j=0 then (cl:Int) % 24 else (cl:Int) / 24)))→(x.alloc (.cells #[.int .i64 (1+K),.int .i64 1,.int .i64 ((cl:Int) % 24),.int .i64 ((cl:Int) / 24)] 62)).grownBy y u6.ownBlock→(y.cell? ⟨w.heap.size,0,none⟩=some (.int .i64 s)∧y.cell? ⟨w.heap.size,1,none⟩=some (.int .i64 f)∧y.cell? ⟨wd.heap.size,0,none⟩=some (.int .i64 ((cl:Int) % 24))∧y.cell? ⟨wd.heap.size,1,none⟩=some (.int .i64 ((cl:Int) / 24)))):=by
    intro x y h1 h2 hg
    have hp:=((uh h1).plan.alloc (.cells #[.int .i64 (1+K),.int .i64 1,.int .i64 ((cl:Int) % 24),.int .i64 ((cl:Int) / 24)] 62)).grown hg (fun e=>by have:=((uh h1).ents.lt _ e).1;have:=(uh h1).lo;have:=(uh h1).hi;omega)
    have hq:=((uh h2).alloc (.cells #[.int .i64 (1+K),.int .i64 1,.int .i64 ((cl:Int) % 24),.int .i64 ((cl:Int) / 24)] 62)).grown hg (fun e=>by have:=uh hvE _ e;omega)
    exact ⟨hp.cell (by omega),hp.cell (by omega),hq.cell (by omega),hq.cell (by omega)⟩
   have cdie:Hid (Calls Tryz.prog 128 #[.agg #[.int .i64 s,.int .i64 f],.int .i64 (40+(k:Int)),.int .i64 1,.int .i64 4] W4.drew (fun e w'=>e=.returned (.int .i64 K)∧Hid (ItmHold w bL bE s f (.slice (some ⟨g,0,none⟩) l.length cap) u6 l acc w')∧Hid (Arr w' wd.heap.size 118 2 (fun j=>.int .i64 (if j=0 then (cl:Int) % 24 else (cl:Int) / 24)))∧bE≤w'.heap.size)) :=
    (uh hdK W4.drew).mono fun e w' ⟨he,hg⟩=>⟨he,(uh hH4).on hg,(uh hP4).grown hg (by simp),((uh hH4).on hg).top⟩
   obtain ⟨p1,p2,p3,p4⟩:=uh keep _ (uh hH4) (uh hP4)
   have hwr:IntKind.i64.wrap (40+(k:Int))=40+(k:Int):=by rw [IntKind.wrap_i64];omega
   have hwr2:IntKind.i64.wrap (1+K)=1+K:=by rw [IntKind.wrap_i64];omega
   clear hW4 hHd
   go_region_held3 (fun x=>x.cell? ⟨w.heap.size,0,none⟩=some (.int .i64 s)∧x.cell? ⟨w.heap.size,1,none⟩=some (.int .i64 f)∧x.cell? ⟨wd.heap.size,0,none⟩=some (.int .i64 ((cl:Int) % 24))∧x.cell? ⟨wd.heap.size,1,none⟩=some (.int .i64 ((cl:Int) / 24))) (go_keep) (first | (go_at_call 128;refine (uh cdie).mono ?_;rintro e we ⟨rfl,hHe,hPe,hte⟩;obtain ⟨z1,z2,z3,z4⟩:=uh keep we (uh hHe) (uh hPe)) | (refine step_append_lies _ (by rfl) _ _ _ (by rfl) bE 62 i0 _ 4 32 Tryz.underlying27 hi hz0 hz1 hz2 rfl (by omega) u6 acc.length (Gn.flatI acc) (by rfl) ((uh hHe).ents.alloc _) ⟨we.heap.size,0,none⟩ 1 1 [.int .i64 (1+K),.int .i64 1,.int .i64 ((cl:Int) % 24),.int .i64 ((cl:Int) / 24)] (by rfl) (by rfl) (item_news we _ rfl _ _ _ _ _) (by simp [Value.oneCell']) (by omega) (by unfold maxLen;omega) (by omega) (by simp;omega) (we.heap.size+1) (by simp) ?_;intro gg cap5 w5 hown5 hgrow5 hat5 hlt5;obtain ⟨z1,z2,z3,z4⟩:=uh keep2 _ _ hHe hPe hgrow5))
   have hH5:=hide (((uh hHe).on (World.grownBy_alloc _ _ _)).add (p:=(1+K,1,(cl:Int) % 24,(cl:Int) / 24)) hown5 hgrow5)
   have hdel:=delete_any bL n (n+1) (.slice (some ⟨g,0,none⟩) l.length cap) l w5 (uh hH5).left hll hnl rfl
   rw [show ((n+1:Nat):Int)=(n:Int)+1 by omega] at hdel
   have hdel':=hide hdel
   clear hown5 hgrow5 hat5 hlt5 hdel z1 z2 z3 z4 p1 p2 p3 p4 keep keep2 cdie hH4 hP4 hHe hPe hwr hwr2
   go_wp2_with fail
   refine (uh hdel').mono ?_
   rintro e w6 ⟨vN,rfl,hLN,hob,hg6⟩
   have hH6:=hide ((uh hH5).del hLN hob hg6)
   clear hLN hob hg6 hdel' hH5
   go_wp2
   go_roundw
   case rel=>exact ⟨k+1,l.eraseIdx n,acc ++ [(1+K,1,(cl:Int) % 24,(cl:Int) / 24)],by omega,by go_num,uh hstep,uh hH6⟩
   case measure=>simp [intOf];omega
  ·have hend:acc=fin:=by
    have h:=uh hacc'
    by_cases hk4:k<4
    ·obtain ⟨m,hm⟩:∃m,4 - k=m+1:=⟨4 - k - 1,by omega⟩
     rw [hm,Gn.lie,if_pos (by by_cases h0:l.length=0;exact h0;exact absurd ⟨hk4,h0⟩ hgo),List.append_nil] at h
     exact h
    ·rw [show 4 - k=0 by omega,Gn.lie,List.append_nil] at h
     exact h
   subst hend
   have hAr:=hide ((uh hA').grown (uh hH1).grown (by simp))
   have hfind:=hide (find_any wr.heap.size (some ⟨G,0,none⟩) 384 384 c 5 wr ((uh hAr).vec _ (uh hAr).lt (by decide)) (fun i=>by have:=uh h5' i;omega) (Nat.le_refl _))
   obtain ⟨S,hS⟩:∃x,x=Gr.find 384 c 5:=⟨_,rfl⟩
   rw [←hS] at hfind
   have hS':=hide hS
   have hguard:((k:Int)<4∧∃a cap,u5=.slice a 0 cap)∨¬(k:Int)<4:=by
    by_cases hk4:k<4
    ·left
     refine ⟨by omega,?_⟩
     have h0:l.length=0:=by by_cases h0:l.length=0;exact h0;exact absurd ⟨hk4,h0⟩ hgo
     rcases (uh hH1).left.form with ⟨h,_⟩ | ⟨g,cap,_,h,_⟩
     ·exact ⟨_,_,h⟩
     ·exact ⟨_,_,by rw [h,h0]⟩
    ·right
     omega
   have hfinA:Hid (acc=Gn.lie d 4 0 (Gn.those (fun i=>c i == 1) 384)):=hfin'
   clear hgo hll hacc' hS hfin' hk hA'
   rcases hguard with ⟨hk4,a,cap,rfl⟩ | hk4
   all_goals
    go_wp2_with fail
    refine (uh hfind).mono ?_
    rintro e w' ⟨rfl,hw⟩
    subst w'
    by_cases hneg:S<0
    ·have hit:Hid (Gn.items d c=acc):=by
      show Gn.items d c=acc
      unfold Gn.items
      rw [←uh hS',if_pos hneg,List.append_nil]
      exact (uh hfinA).symm
     clear hfind
     go_wp2
     go_ret
     exact ⟨_,rfl,by rw [uh hit];exact owns_mono (uh hH1).ents hbw,(uh hH1).grown⟩
    ·have hit:Hid (Gn.items d c=acc ++ Gn.wares d 3):=by
      show Gn.items d c=acc ++ Gn.wares d 3
      unfold Gn.items
      rw [←uh hS',if_neg hneg,←uh hfinA]
     clear hfind
     go_wp2_with fail
     go_loopw [6,55] (fun ve vk wr2=>∃(q:Nat) (vl:Value),q≤3∧vk=.int .i64 (q:Int)∧ItmHold w bL bE s f vl ve l (acc ++ Gn.wares d q) wr2) (fun _ vk _=>10 - (intOf vk).toNat)
     case atStart=>exact ⟨0,_,by omega,rfl,by rw [show Gn.wares d 0=[] from rfl,List.append_nil];exact uh hH1⟩
     case round =>
      clear hH1 hAr
      obtain ⟨q,vl,hq,rfl,hHq⟩:=hrel
      have hH2:=hide hHq
      clear hHq
      have hc1:=(uh hH2).plan.cell (i:=1) (by omega)
      have hc0:=(uh hH2).plan.cell (i:=0) (by omega)
      simp only [ite_true,Nat.one_ne_zero,ite_false] at hc0 hc1
      by_cases hq3:q<3
      ·have hq3':(q:Int)<3:=by omega
       obtain ⟨K,hK⟩:∃K,K=d (50+(q:Int)) 1 3:=⟨_,rfl⟩
       obtain ⟨k1,k2⟩:0≤K∧K<3:=by rw [hK];exact uh hFr' _ _ _ (by omega)
       have hdK:=die3_any s f (50+(q:Int)) 1 3 wr (by omega)
       rw [uh hd',←hK] at hdK
       have hdK':=hide hdK
       have hmore:Hid (acc ++ Gn.wares d (q+1)=(acc ++ Gn.wares d q) ++ [(1+K,4,(q:Int),0)]):=by
        show acc ++ Gn.wares d (q+1)=_
        rw [Gn.wares_more,←hK,List.append_assoc]
       have hwl:(acc ++ Gn.wares d q).length≤8:=by
        rw [List.length_append]
        unfold Gn.wares
        rw [List.length_map,List.length_range]
        omega
       obtain ⟨ac2,hac2⟩:∃ac2,ac2=acc ++ Gn.wares d q:=⟨_,rfl⟩
       rw [←hac2] at hH2 hmore hwl
       clear hK hdK hq3 hac2
       go_wp2_with fail
       refine (uh hdK').mono ?_
       rintro e wd ⟨rfl,hgd⟩
       have hH3:=hide ((uh hH2).on hgd)
       have htd:=(uh hH3).top
       clear hgd hH2 hdK' hc0 hc1
       go_wp2_with (at_builtin;refine wpList_append_own _ rfl _ _ 27 rfl bE 62 i0 (.agg #[.int .i64 0,.int .i64 0,.int .i64 0,.int .i64 0]) 4 32 Tryz.underlying27 hi hz0 hz1 hz2 rfl (by decide) _ _ _ rfl ((uh hH3).ents.alloc _) ⟨wd.heap.size,0,none⟩ 1 1 [.int .i64 (1+K),.int .i64 4,.int .i64 (q:Int),.int .i64 0] rfl rfl ?_ ?_ ?_ ?_ ?_ ?_)
       ·exact item_news _ _ rfl _ _ _ _ _
       ·intro u hu
        simp only [List.mem_cons,List.not_mem_nil,or_false] at hu
        rcases hu with rfl | rfl | rfl | rfl <;> rfl
       ·unfold maxLen;omega
       ·omega
       ·simp;omega
       intro v5 w5 hown5 hgrow5 _
       have hH5:=hide (((uh hH3).on (World.grownBy_alloc _ _ _)).add (p:=(1+K,4,(q:Int),0)) hown5 hgrow5)
       rw [←uh hmore] at hH5
       clear hown5 hgrow5 hH3
       go_wp2
       go_roundw
       case rel=>exact ⟨q+1,vl,by omega,by go_num,uh hH5⟩
       case measure=>simp [intOf];omega
      ·have hge:¬(q:Int)<3:=by omega
       obtain rfl:q=3:=by omega
       clear hq hq3
       go_wp2
       go_ret
       exact ⟨_,rfl,by rw [uh hit];exact owns_mono (uh hH2).ents hbw,(uh hH2).grown⟩


open Go.RowKit

namespace Gn

def up (d:Dice):Nat:=(my d 0*24+mx d 0).toNat

def base (d:Dice):Nat→Int:=Gr.upd (dug d 5) (up d) 3

def IsLevel (d:Dice) (c F:Nat→Int):Prop:=∃far,Fld (base d) (up d) F∧IsFar F far∧c=stocked d (base d) F far

def ents (d:Dice) (f:Int) (c F:Nat→Int):List (Int × Nat):=mons d f (f+2).toNat 0 ((those (fun i=>c i == 1) 384).filter (afar F))

theorem up_eq {d:Dice} (hd:Fair d):my d 0*24+mx d 0=((up d:Nat):Int):=by
 have:=mid_bd hd 0
 unfold up
 omega

theorem base_5 (d:Dice) (i:Nat):0≤base d i∧base d i≤5:=upd_5 (dug_5 d 5) (by omega) i

theorem shopped_5 {c:Nat→Int} (h:∀i,0≤c i∧c i≤5) (o:Option Nat) (i:Nat):0≤shopped c o i∧shopped c o i≤5:=by
 cases o with
 | none=>exact h i
 | some k=>exact upd_5 h (by omega) i

theorem stocked_5 (d:Dice) {c:Nat→Int} (h:∀i,0≤c i∧c i≤5) (F:Nat→Int) (far i:Nat):0≤stocked d c F far i∧stocked d c F far i≤5:=by
 have h4:∀i,0≤Gr.upd c far 4 i∧Gr.upd c far 4 i≤5:=upd_5 h (by omega)
 unfold stocked
 split
 ·exact shopped_5 h4 _ i
 ·exact h4 i

theorem IsLevel.five {d:Dice} {c F:Nat→Int} (h:IsLevel d c F) (i:Nat):0≤c i∧c i≤5:=by
 obtain ⟨far,_,_,rfl⟩:=h
 exact stocked_5 d (base_5 d) F far i

end Gn

theorem owns_form {w:World} {b:Nat} {e:TypeId} {z n:Nat} {v:Value} {xs:List Value} (h:w.ownsRow b e z v n xs):∃a cap,v=.slice a n cap:=by
 rcases h.2 with ⟨rfl,rfl⟩ | ⟨g,cap,cur,rfl,_⟩
 ·exact ⟨_,_,rfl⟩
 ·exact ⟨_,_,rfl⟩

def LevDone (w:World) (d:Gn.Dice) (f:Int) (e:Ending) (w':World):Prop :=
 ∃(c F:Nat→Int) (G nE nI cE cI:Nat) (aE aI:Option Addr),Gn.IsLevel d c F∧e=.returned (.tuple #[.agg #[.slice (some ⟨G,0,none⟩) 384 384,.slice aE nE cE,.slice aI nI cI],.int .i64 0])∧w.heap.size≤G∧Arr w' G 5 384 (Byts c) ∧
  nE=(Gn.ents d f c F).length∧nI=(Gn.items d c).length∧w'.ownsRow w.heap.size 54 11 (.slice aE nE cE) nE (Gn.flat (Gn.ents d f c F))∧w'.ownsRow w.heap.size 62 4 (.slice aI nI cI) nI (Gn.flatI (Gn.items d c))∧w.grownBy w' none

structure MakeHold (w:World) (s f:Int) (wr:World):Prop where
 res:Arr wr w.heap.size 80 3 (fun _=>.slice none 0 0)
 plan:Arr wr (w.heap.size+1) 116 2 (fun j=>.int .i64 (if j=0 then s else f))
 grown:w.grownBy wr none

theorem MakeHold.on {w:World} {s f:Int} {wr wx:World} (h:MakeHold w s f wr) (hg:wr.grownBy wx none):MakeHold w s f wx :=
 ⟨h.res.grown hg (by simp),h.plan.grown hg (by simp),grown_none h.grown hg⟩

theorem MakeHold.own {w:World} {s f:Int} {wr wx:World} {G:Nat} (h:MakeHold w s f wr) (hG:w.heap.size+2≤G) (hg:wr.grownBy wx (some G)):MakeHold w s f wx :=
 ⟨h.res.grown hg (by simp;omega),h.plan.grown hg (by simp;omega),gow h.grown hg (fun n e=>by cases e;omega)⟩

set_option maxRecDepth 8000 in
set_option maxHeartbeats 4000000 in
theorem make_any (s f:Int) (d:Gn.Dice) (hd:∀a b n,Gn.D s f a b n=d a b n) (hF:Gn.Fair d) (h1:1≤f) (h3:f≤3) (w:World) :
    Calls Tryz.prog 53 #[.int .i64 s,.int .i64 f] w (LevDone w d f):=by
  obtain ⟨i0,hi,hz0,hz1,hz2⟩:=info_parts info_byte
  have hd':=hide hd
  have hF':=hide hF
  have hn1:¬f<1:=by omega
  have hn3:¬3<f:=by omega
  clear hd hF
  go_enter Tryz.func53,Tryz.ntmps53
  go_wp2_with (at_make;refine wpList_make_full _ rfl _ _ 25 rfl (w.heap.size+1+1) 5 i0 (.int .u8 0) 1 Tryz.underlying25 hi hz0 hz1 .i64 .i64 _ _ 384 rfl rfl rfl rfl ?q3 ?q4 ?q5 ?_)
  case q4=>decide
  intro w2 hown hgrow
  have hA2:=hide (Arr.zero hown)
  have hH2:Hid (MakeHold w s f w2):=by
    have h0:MakeHold w s f ((w.alloc (.cells #[.slice none 0 0,.slice none 0 0,.slice none 0 0] 80)).alloc (.cells #[.int .i64 s,.int .i64 f] 116)):=by
      refine ⟨Arr.alloc ⟨_,heap_alloc_new _ _,rfl,fun j hj=>?_⟩ _,?_,gal (World.grownBy_alloc _ _ _) _⟩
      · have hj3:j<3:=hj
        rcases (show j=0∨j=1∨j=2 by omega) with rfl | rfl | rfl <;> rfl
      · have h:=Arr.pair (w.alloc (.cells #[.slice none 0 0,.slice none 0 0,.slice none 0 0] 80)) s f 116
        simpa using h
    exact h0.on hgrow
  obtain ⟨G,hG⟩:∃G,G=w.heap.size+1+1:=⟨_,rfl⟩
  rw [←hG] at hA2 ⊢
  have hGw:w.heap.size+2≤G:=by omega
  have p0:=(uh hH2).plan.cell (i:=0) (by omega)
  have p1:=(uh hH2).plan.cell (i:=1) (by omega)
  simp only [ite_true,Nat.one_ne_zero,ite_false] at p0 p1
  clear hown hgrow hG hi hz0 hz1 hz2
  go_wp2_with fail
  clear p0 p1
  refine (rooms_any s f d (uh hd') (uh hF') G w2 (uh hA2)).mono ?_
  rintro e w3 ⟨rfl,hA3,hg3⟩
  have hH3:=hide ((uh hH2).own hGw hg3)
  obtain ⟨w4,hw4⟩:∃w4,w4=w3.alloc (.cells (Gn.mids d) 119):=⟨_,rfl⟩
  have hA4:Hid (Arr w4 G 5 384 (Byts (Gn.dug d 0))):=by rw [hw4];exact hA3.alloc _
  have hH4:Hid (MakeHold w s f w4):=by rw [hw4];exact (uh hH3).on (World.grownBy_alloc _ _ _)
  have hM4:Hid (Arr w4 w3.heap.size 119 12 (fun j=>(Gn.mids d)[j]?.getD undef)):=by
    rw [hw4]
    exact Arr.lit (heap_alloc_new _ _)
  have p0:=(uh hH4).plan.cell (i:=0) (by omega)
  have p1:=(uh hH4).plan.cell (i:=1) (by omega)
  simp only [ite_true,Nat.one_ne_zero,ite_false] at p0 p1
  obtain ⟨m0,m1,m2,m3,m4,m5,m6,m7,m8,m9,m10,m11⟩:=(uh hM4).twelve
  simp only [Gn.mids,List.getElem?_toArray,List.getElem?_cons_zero,List.getElem?_cons_succ,Option.getD_some] at m0 m1 m2 m3 m4 m5 m6 m7 m8 m9 m10 m11
  have hww:=hw4.symm
  unfold Gn.mids at hww
  have hmids:Hid (Gn.mids d=#[.int .i64 (Gn.mid d 0),.int .i64 (Gn.mid d 1),.int .i64 (Gn.mid d 2),.int .i64 (Gn.mid d 3),.int .i64 (Gn.mid d 4),.int .i64 (Gn.mid d 5),.int .i64 (Gn.mid d 6),.int .i64 (Gn.mid d 7),.int .i64 (Gn.mid d 8),.int .i64 (Gn.mid d 9),.int .i64 (Gn.mid d 10),.int .i64 (Gn.mid d 11)]):=rfl
  have hGm:G≠w3.heap.size:=by have:=hA3.lt;omega
  rw [uh hmids]
  clear hA2 hH2 hA3 hg3 hH3 hw4
  go_wp2_with fail
  clear hww m2 m3 m4 m5 m6 m7 m8 m9 m10 m11
  have hcor:=corridors_any s f d (uh hd') (uh hF') G w4 (uh hA4)
  rw [uh hmids] at hcor
  refine hcor.mono ?_
  rintro e w5 ⟨rfl,hA5,hg5⟩
  have hH5:=hide ((uh hH4).own hGw hg5)
  have hM5:=(uh hM4).grown hg5 (by simpa using hGm)
  have p0:=(uh hH5).plan.cell (i:=0) (by omega)
  have p1:=(uh hH5).plan.cell (i:=1) (by omega)
  simp only [ite_true,Nat.one_ne_zero,ite_false] at p0 p1
  have n0:w5.cell? ⟨w3.heap.size,0,none⟩=some (.int .i64 (Gn.mx d 0)):=by
    have h:=hM5.cell (i:=0) (by omega)
    rw [uh hmids] at h
    exact h
  have n1:w5.cell? ⟨w3.heap.size,1,none⟩=some (.int .i64 (Gn.my d 0)):=by
    have h:=hM5.cell (i:=1) (by omega)
    rw [uh hmids] at h
    exact h
  have hA5':=hide hA5
  clear hcor hA4 hH4 hg5 hM5 hM4 hA5 m0 m1
  go_wp2_with fail
  clear n0 n1 p0 p1
  have hb:=Gn.mid_bd (uh hF') 0
  refine (stairs_any s f d (uh hd') G (Gn.dug d 5) (Gn.mx d 0) (Gn.my d 0) (Gn.up d) w5 (uh hA5') (Gn.dug_5 d 5) (by omega) (Gn.up_eq (uh hF'))).mono ?_
  rintro e w6 ⟨F,far,gF,hFld,hFar,rfl,hgF,hAF,hAc,hg6⟩
  obtain ⟨c,hc⟩:∃c,c=Gn.stocked d (Gn.base d) F far:=⟨_,rfl⟩
  have hlev:Hid (Gn.IsLevel d c F):=⟨far,hFld,hFar,hc⟩
  have hAc2:Hid (Arr w6 G 5 384 (Byts c)):=by rw [hc];exact hAc
  have hAF2:=hide hAF
  have hH6:=hide ((uh hH5).own hGw hg6)
  have hsz6:=(uh hH6).plan.lt
  clear hFld hFar hgF hAF hAc hg6 hc hH5 hA5' hb
  go_wp2_with fail
  have hd0:=gd1 (World.grownBy.refl w6 none)
  obtain ⟨nE,hnE⟩:∃n,n=(Gn.ents d f c F).length:=⟨_,rfl⟩
  obtain ⟨nI,hnI⟩:∃n,n=(Gn.items d c).length:=⟨_,rfl⟩
  have cmon : Hid (Calls Tryz.prog 100 #[.agg #[.int .i64 s, .int .i64 f], .slice (some ⟨G, 0, none⟩) 384 384, .slice (some ⟨gF, 0, none⟩) 384 384] w6.drew
      fun e w'=>∃a cap,e=.returned (.slice a nE cap)∧Hid (w'.ownsRow w6.heap.size 54 11 (.slice a nE cap) nE (Gn.flat (Gn.ents d f c F)))∧Hid (MakeHold w s f w')∧Hid (Arr w' G 5 384 (Byts c))∧w6.heap.size≤w'.heap.size) :=
    (monsters_any s f d (uh hd') (uh hF') h1 h3 G gF c F w6.drew ((uh hAc2).grown hd0 (by simp)) ((uh hAF2).grown hd0 (by simp))).mono fun e w' ⟨v,he,ho,hg⟩=>by
      have ho':w'.ownsRow w6.heap.size 54 11 v nE (Gn.flat (Gn.ents d f c F)):=by rw [hnE];exact ho
      obtain ⟨a,cap,rfl⟩:=owns_form ho'
      exact ⟨a,cap,he,ho',((uh hH6).on hd0).on hg,((uh hAc2).grown hd0 (by simp)).grown hg (by simp),hg.size⟩
  have citm : Hid (∀ x v, Hid (x.ownsRow w6.heap.size 54 11 v nE (Gn.flat (Gn.ents d f c F))) → Hid (MakeHold w s f x) → Hid (Arr x G 5 384 (Byts c)) → w6.heap.size ≤ x.heap.size → Calls Tryz.prog 101 #[.agg #[.int .i64 s, .int .i64 f], .slice (some ⟨G, 0, none⟩) 384 384] x
      fun e w'=>∃a cap,e=.returned (.slice a nI cap)∧Hid (w'.ownsRow w6.heap.size 62 4 (.slice a nI cap) nI (Gn.flatI (Gn.items d c)))∧Hid (w'.ownsRow w6.heap.size 54 11 v nE (Gn.flat (Gn.ents d f c F)))∧Hid (MakeHold w s f w')∧Hid (Arr w' G 5 384 (Byts c))):=fun x v hv hm hx hs =>
    (items_any s f d (uh hd') (uh hF') G c x (uh hx) (uh hlev).five).mono fun e w' ⟨u,he,ho,hg⟩=>by
      have ho':w'.ownsRow w6.heap.size 62 4 u nI (Gn.flatI (Gn.items d c)):=by rw [hnI];exact owns_mono ho hs
      obtain ⟨a,cap,rfl⟩:=owns_form ho'
      exact ⟨a,cap,he,ho',(uh hv).kept hg (by cases v.ownBlock <;> simp),(uh hm).on hg,(uh hx).grown hg (by simp)⟩
  have keep:Hid (∀x,Hid (MakeHold w s f x)→(x.cell? ⟨w.heap.size+1,0,none⟩=some (.int .i64 s)∧x.cell? ⟨w.heap.size+1,1,none⟩=some (.int .i64 f))):=fun x h=>⟨(uh h).plan.cell (by omega),(uh h).plan.cell (by omega)⟩
  have keepR:Hid (∀x,Hid (MakeHold w s f x)→(x.cell? ⟨w.heap.size,0,none⟩=some (.slice none 0 0)∧x.cell? ⟨w.heap.size,1,none⟩=some (.slice none 0 0)∧x.cell? ⟨w.heap.size,2,none⟩=some (.slice none 0 0)∧x.frozen? ⟨w.heap.size,0,none⟩=false∧x.frozen? ⟨w.heap.size,1,none⟩=false∧x.frozen? ⟨w.heap.size,2,none⟩=false)):=fun x h=>⟨(uh h).res.cell (by omega),(uh h).res.cell (by omega),(uh h).res.cell (by omega),(uh h).res.free 0,(uh h).res.free 1,(uh h).res.free 2⟩
  obtain ⟨p0,p1⟩:=uh keep _ hH6
  have hnE':=hide hnE
  have hnI':=hide hnI
  clear hd0 hnE hnI
  go_region_held3 (fun x=>x.cell? ⟨w.heap.size+1,0,none⟩=some (.int .i64 s)∧x.cell? ⟨w.heap.size+1,1,none⟩=some (.int .i64 f)) (go_keep) (first | (go_at_call 100;refine (uh cmon).mono ?_;rintro e w7 ⟨aE,cE,rfl,hE7,hH7,hA7,hs7⟩;obtain ⟨z1,z2⟩:=uh keep w7 hH7) | (go_at_call 101;refine (uh citm _ _ hE7 hH7 hA7 hs7).mono ?_;rintro e w8 ⟨aI,cI,rfl,hI8,hE8,hH8,hA8⟩;obtain ⟨z1,z2⟩:=uh keep w8 hH8;obtain ⟨r0,r1,r2,f0,f1,f2⟩:=uh keepR w8 hH8))
  have hg9:=gst (gst (gst (World.grownBy.refl w8 (some w.heap.size)) 0 (.slice (some ⟨G,0,none⟩) 384 384)) 1 (.slice aE nE cE)) 2 (.slice aI nI cI)
  have hE9:=hide ((uh hE8).kept hg9 (by cases aE with | none=>exact .inl rfl | some x=>exact .inr (fun e=>by have:=((uh hE8).lt x.block rfl).1;simp [Value.ownBlock] at e;omega)))
  have hI9:=hide ((uh hI8).kept hg9 (by cases aI with | none=>exact .inl rfl | some x=>exact .inr (fun e=>by have:=((uh hI8).lt x.block rfl).1;simp [Value.ownBlock] at e;omega)))
  have hA9:=hide ((uh hA8).grown hg9 (by simp;omega))
  have hw9:=hide (gow (uh hH8).grown hg9 (fun n e=>by cases e;exact Nat.le_refl _))
  clear hg9 cmon citm keep keepR
  go_wp2
  refine bodyPost_ret (v:=.tuple #[.agg #[.slice (some ⟨G,0,none⟩) 384 384,.slice aE nE cE,.slice aI nI cI],.int .i64 0]) (by simp [results,Tryz.results53,go_sem,r0,r1,r2]) rfl ?_
  exact ⟨c,F,G,nE,nI,cE,cI,aE,aI,uh hlev,rfl,by omega,uh hA9,uh hnE',uh hnI',owns_mono (uh hE9) (by omega),owns_mono (uh hI9) (by omega),uh hw9⟩


open Go.RowKit

theorem own_sets {a:World} {g:Nat} (hg:a.heap.size≤g):∀(vs:List Value) (o:Nat) (b:World),a.grownBy b none→a.grownBy (b.setCells g o vs) none
 | [],_,_,h=>h
 | v :: vs,o,b,h=>own_sets hg vs (o+1) (b.setCell ⟨g,o,none⟩ v) (gsr h ⟨g,o,none⟩ hg v)

theorem none_below {a b:World} (h:a.grownBy b none):Below a.heap.size a b :=
 ⟨h.os,h.tape,h.output,h.size,fun i hi=>h.block i hi (fun e=>by cases e)⟩

theorem cell_boxed (w:World) (v:Value) (T:TypeId) (B:Nat) (hB:B=w.heap.size):(w.alloc (.cells #[v] T)).cell? ⟨B,0,none⟩=some v:=by
 subst hB
 exact (Arr.lit (heap_alloc_new w (.cells #[v] T))).cell (i:=0) (by simp)

theorem cell_past {w:World} {B i:Nat} {v:Value} (o:Obj) (hB:B<w.heap.size) (h:w.cell? ⟨B,i,none⟩=some v):(w.alloc o).cell? ⟨B,i,none⟩=some v :=
 (gce (World.grownBy_alloc w o none) B i hB (by simp)).trans h

def En.cells (e:Nat→Int):Array Value:=#[.int .i64 (e 0),.int .i64 (e 1),.int .i64 (e 2),.int .i64 (e 3),.int .i64 (e 4),.int .i64 (e 5),.int .i64 (e 6),.int .i64 (e 7),.int .i64 (e 8),.int .i64 (e 9),.int .i64 (e 10)]

def En.flat (E:Nat→Nat→Int):Nat→Value:=fun c=>.int .i64 (E (c / 11) (c % 11))

theorem En.flat_at (E:Nat→Nat→Int) (i j:Nat) (hj:j<11):En.flat E (i*11+j)=.int .i64 (E i j):=by
 unfold En.flat
 rw [show (i*11+j) / 11=i by omega,show (i*11+j) % 11=j by omega]

def Ents (w:World) (b n:Nat) (E:Nat→Nat→Int):Prop :=
 n≤32∧b<w.heap.size∧∀i j,i<n→j<11→w.cell? ⟨b,i*11+j,none⟩=some (.int .i64 (E i j))

theorem Ents.on {w w':World} {b n:Nat} {E:Nat→Nat→Int} (h:Ents w b n E) (hg:w.grownBy w' none):Ents w' b n E :=
 ⟨h.1,Nat.lt_of_lt_of_le h.2.1 hg.size,fun i j hi hj=>(gce hg b _ h.2.1 (by simp)).trans (h.2.2 i j hi hj)⟩

def Own (w:World) (g n:Nat) (E:Nat→Nat→Int):Prop :=
 n≤32∧∃m F,Arr w g 54 m F∧n*11≤m∧∀c,c<n*11→F c=En.flat E c

theorem Own.ents {w:World} {g n:Nat} {E:Nat→Nat→Int} (h:Own w g n E):Ents w g n E:=by
 obtain ⟨hn,m,F,hA,hm,hF⟩:=h
 exact ⟨hn,hA.lt,fun i j hi hj=>by rw [hA.cell (i:=i*11+j) (by omega),hF _ (by omega),En.flat_at E i j hj]⟩

theorem Own.on {w w':World} {g n:Nat} {E:Nat→Nat→Int} (h:Own w g n E) (hg:w.grownBy w' none):Own w' g n E:=by
 obtain ⟨hn,m,F,hA,hm,hF⟩:=h
 exact ⟨hn,m,F,hA.grown hg (by simp),hm,hF⟩

theorem Own.free {w:World} {g n:Nat} {E:Nat→Nat→Int} (h:Own w g n E) (i:Nat):w.frozen? ⟨g,i,none⟩=false:=by
 obtain ⟨hn,m,F,hA,hm,hF⟩:=h
 exact hA.free i

theorem Own.lt {w:World} {g n:Nat} {E:Nat→Nat→Int} (h:Own w g n E):g<w.heap.size:=h.ents.2.1

theorem Own.congr {w:World} {g n:Nat} {E E':Nat→Nat→Int} (h:Own w g n E) (he:∀i j,i<n→j<11→E i j=E' i j):Own w g n E':=by
 obtain ⟨hn,m,F,hA,hm,hF⟩:=h
 refine ⟨hn,m,F,hA,hm,fun c hc=>?_⟩
 rw [hF c hc]
 unfold En.flat
 rw [he _ _ (by omega) (by omega)]

def En.put (E:Nat→Nat→Int) (k:Nat) (e:Nat→Int):Nat→Nat→Int:=fun i=>if i=k then e else E i

theorem En.put_same (E:Nat→Nat→Int) (k:Nat) (e:Nat→Int):En.put E k e k=e:=if_pos rfl
theorem En.put_other {E:Nat→Nat→Int} {k i:Nat} {e:Nat→Int} (h:i≠k):En.put E k e i=E i:=if_neg h

theorem En.cells_at (e:Nat→Int) (j:Nat) (hj:j<11):(En.cells e).toList[j]?.getD undef=.int .i64 (e j):=by
 rcases (show j=0∨j=1∨j=2∨j=3∨j=4∨j=5∨j=6∨j=7∨j=8∨j=9∨j=10 by omega) with rfl | rfl | rfl | rfl | rfl | rfl | rfl | rfl | rfl | rfl | rfl <;> rfl

theorem Own.store {w:World} {g n:Nat} {E:Nat→Nat→Int} (h:Own w g n E) (k:Nat) (e:Nat→Int):Own (w.setCells g (k*11) (En.cells e).toList) g n (En.put E k e):=by
 obtain ⟨hn,m,F,hA,hm,hF⟩:=h
 refine ⟨hn,m,_,hA.stores (En.cells e).toList (k*11),hm,fun c hc=>?_⟩
 show (if k*11≤c∧c<k*11+11 then (En.cells e).toList[c - k*11]?.getD undef else F c)=En.flat (En.put E k e) c
 unfold En.flat
 by_cases hk:k*11≤c∧c<k*11+11
 ·rw [if_pos hk,En.cells_at e _ (by omega),show c / 11=k by omega,En.put_same,show c - k*11=c % 11 by omega]
 ·rw [if_neg hk,hF c hc,En.put_other (by omega)]
  rfl

theorem Own.of_owns {w:World} {base g n cap:Nat} {xs:List Value} {E:Nat→Nat→Int} (h:w.ownsRow base 54 11 (.slice (some ⟨g,0,none⟩) n cap) n xs) (hn:n≤32) (hx:∀c,c<n*11→xs[c]?=some (En.flat E c)):Own w g n E:=by
 rcases h.2 with ⟨h',_⟩ | ⟨g',cap',cur,h',_,hg,hnc,_,hcs,htake⟩
 ·simp at h'
 ·simp only [Value.slice.injEq,Option.some.injEq,Addr.mk.injEq,and_true,true_and] at h'
  obtain ⟨rfl,rfl⟩:=h'
  refine ⟨hn,cur.size,fun j=>cur[j]?.getD undef,Arr.lit hg,by rw [hcs];omega,fun c hc=>?_⟩
  show cur[c]?.getD undef=_
  have e:=hx c hc
  rw [←htake,List.getElem?_take,if_pos hc,Array.getElem?_toList] at e
  rw [e]
  rfl

def Lists (w:World) (n:Nat) (E:Nat→Nat→Int) (e:Ending) (w':World):Prop :=
 ∃g cap,e=.returned (.slice (some ⟨g,0,none⟩) n cap)∧w.heap.size≤g∧n≤cap∧cap≤maxLen∧Own w' g n E∧w.grownBy w' none

theorem run_copy_many {P:Program} (w:World) (dT sT ty elem:TypeId) (z g o dLen dCap:Nat) (a:Addr) (sLen sCap:Nat) (cur:Array Value) (t:TypeId) (cs:List Value)
  (hu:P.underlying dT=some (.slice elem)) (hs:(P.info? elem).map (·.size)=some z)
  (hg:w.heap[g]?=some (.cells cur t (0,0))) (hn:cs.length=Nat.min sLen dLen*z)
  (hsrc:∀j v,cs[j]?=some v→w.cell? (a.add j)=some v) (hfit:o+cs.length≤cur.size) (h1:∀v∈cs,v.oneCell'=true) :
  (Builtin.copy_ #[dT,sT] ty #[.slice (some ⟨g,o,none⟩) dLen dCap,.slice (some a) sLen sCap]).run P w =
   .ok (goInt (Nat.min sLen dLen)) (w.setRow g (cur.toList.take o ++ cs ++ cur.toList.drop (o+cs.length)).toArray):=by
 have hl:=run_loadCells_list (P:=P) w a cs hsrc
 have hst:=run_storeCells_at P g o t cs 0 cur w hg (by simpa using hfit) h1
 cases hq:P.info? elem with
 | none=>simp [hq] at hs
 | some i =>
  have hi:i.size=z:=by simpa [hq] using hs
  simp [Builtin.copy_,run_underlying hu,Builtin.lenOf,Builtin.firstCells,sizeOf,typeInfo,hq,hi,←hn,hl,hst]

theorem run_copy_whole {P:Program} {w:World} (dT sT ty elem:TypeId) (hu:P.underlying dT=some (.slice elem)) (z:Nat) (hsz:(P.info? elem).map (·.size)=some z)
  (g n dCap:Nat) (ad:Addr) (sCap:Nat) (cur:Array Value) (t:TypeId) (hg:w.heap[g]?=some (.cells cur t (0,0))) (cs:List Value) (hn:cs.length=n*z)
  (hsrc:∀j v,cs[j]?=some v→w.cell? (ad.add j)=some v) (hfit:cs.length=cur.size) (h1:∀v∈cs,v.oneCell'=true) :
  ∃w',(Builtin.copy_ #[dT,sT] ty #[.slice (some ⟨g,0,none⟩) n dCap,.slice (some ad) n sCap]).run P w=.ok (goInt n) w'∧w'.heap[g]?=some (.cells cs.toArray t (0,0))∧w.grownBy w' (some g):=by
 have hrun:=run_copy_many (P:=P) w dT sT ty elem z g 0 n dCap ad n sCap cur t cs hu hsz hg (by rw [hn];simp) hsrc (by omega) h1
 have hmin:Nat.min n n=n:=by simp
 rw [hmin] at hrun
 refine ⟨_,hrun,?_,⟨rfl,rfl,rfl,by simp [World.setRow],fun k _ hr=>setRow_other w g k _ (fun e=>hr (by rw [e]))⟩⟩
 have e:cs ++ List.drop cs.length cur.toList=cs:=by
  rw [List.drop_eq_nil_of_le (by simp;omega),List.append_nil]
 have:=setRow_heap w g cur cs.toArray t _ hg
 simpa [e] using this

theorem madeCells_ent (n c:Nat) (hc:c<n*11):(madeCells (Value.agg #[.int .i64 0,.int .i64 0,.int .i64 0,.int .i64 0,.int .i64 0,.int .i64 0,.int .i64 0,.int .i64 0,.int .i64 0,.int .i64 0,.int .i64 0]).cells (n*11))[c]?=some (.int .i64 0):=by
 have hm:c % 11<11:=by omega
 obtain ⟨m,hmm⟩:∃m,m=c % 11:=⟨_,rfl⟩
 unfold madeCells
 simp [hc,Value.cells]
 rw [←hmm] at hm ⊢
 rcases (show m=0∨m=1∨m=2∨m=3∨m=4∨m=5∨m=6∨m=7∨m=8∨m=9∨m=10 by omega) with rfl | rfl | rfl | rfl | rfl | rfl | rfl | rfl | rfl | rfl | rfl <;> rfl

theorem make32:∃Z:Array Value,(∀w:World,(Instr.makeSlice 26 (.int .i64 32) (.int .i64 32)).run Tryz.prog w=.ok (.slice (some ⟨w.heap.size,0,none⟩) 32 32) (w.alloc (.cells Z 54))) ∧
  ∀w:World,Own (w.alloc (.cells Z 54)) w.heap.size 32 (fun _ _=>0):=by
 obtain ⟨i0,hi,hz0,hz1,hz2⟩:=info_parts info_ent
 refine ⟨madeCells (Value.agg #[.int .i64 0,.int .i64 0,.int .i64 0,.int .i64 0,.int .i64 0,.int .i64 0,.int .i64 0,.int .i64 0,.int .i64 0,.int .i64 0,.int .i64 0]).cells (32*11),fun w=>?_,fun w=>?_⟩
 ·have hr:=run_make (P:=Tryz.prog) w 26 54 i0 _ Tryz.underlying26 hi hz0 .i64 .i64 (32:Nat) (32:Nat) (by omega) (by omega) (by rw [hz2];decide) (by decide)
  rw [hz1] at hr
  exact hr
 ·refine ⟨by omega,_,_,Arr.lit (heap_alloc_new w _),by rw [size_madeCells];omega,fun c hc=>?_⟩
  show (madeCells _ _)[c]?.getD undef=_
  rw [madeCells_ent 32 c hc]
  rfl

end Go.Proofs.YtbanjoflgoiegaaGreat
