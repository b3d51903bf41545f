import Derived.Test.YtbanjoflgoiegaaGreatPs06
import Derived.Test.YtbanjoflgoiegaaGreatPs08
namespace Go.Proofs.YtbanjoflgoiegaaGreat
open Go.RowKit

namespace Gn

def kind (d:Dice) (f:Int) (k:Nat):Int:=2+d (16+(k:Int)) 1 (if 3<f+1 then 3 else f+1)

def mons (d:Dice) (f:Int):Nat→Nat→List Nat→List (Int × Nat)
 | 0,_,_=>[]
 | m+1,k,l=>if l.length=0 then [] else (kind d f k,l[(d (7+(k:Int)) 0 (l.length:Int)).toNat]?.getD 0) :: mons d f m (k+1) (l.eraseIdx (d (7+(k:Int)) 0 (l.length:Int)).toNat)

def entCells (p:Int × Nat):List Value:=(Gn.ent p.1 ((p.2:Int) % 24) ((p.2:Int) / 24)).toList

def flat (acc:List (Int × Nat)):List Value:=acc.flatMap entCells

theorem flat_more (acc:List (Int × Nat)) (p:Int × Nat):flat (acc ++ [p])=flat acc ++ entCells p:=by
 unfold flat
 rw [List.flatMap_append]
 simp

end Gn

theorem info_ent:(Tryz.prog.info? 54).map (fun i=>(i.zero,i.size,i.bytes))=some (some (.agg #[.int .i64 0,.int .i64 0,.int .i64 0,.int .i64 0,.int .i64 0,.int .i64 0,.int .i64 0,.int .i64 0,.int .i64 0,.int .i64 0,.int .i64 0]),11,88):=by kernel_rfl

structure MonHold (w:World) (bL bE:Nat) (s f:Int) (vL vE:Value) (l:List Nat) (acc:List (Int × Nat)) (wr:World):Prop where
 plan:Arr wr w.heap.size 116 2 (fun j=>.int .i64 (if j=0 then s else f))
 left:Lst wr bL vL l
 sep:∀n,vL.ownBlock=some n→n<bE
 ents:wr.ownsRow bE 54 11 vE acc.length (Gn.flat acc)
 grown:w.grownBy wr none
 lo:w.heap.size<bL
 hi:bL≤bE
 top:bE≤wr.heap.size
 rng:∀c,c∈l→c<384
 len:l.length≤384

theorem MonHold.on {w:World} {bL bE:Nat} {s f:Int} {vL vE:Value} {l:List Nat} {acc:List (Int × Nat)} {wr wx:World} (h:MonHold w bL bE s f vL vE l acc wr) (hg:wr.grownBy wx none):MonHold w bL bE s f vL vE l acc wx :=
 ⟨h.plan.grown hg (by simp),h.left.kept hg (by cases vL.ownBlock <;> simp),h.sep,h.ents.kept hg (by cases vE.ownBlock <;> simp),grown_none h.grown hg,h.lo,h.hi,Nat.le_trans h.top hg.size,h.rng,h.len⟩

theorem MonHold.del {w:World} {bL bE:Nat} {s f:Int} {vL vE vN:Value} {l:List Nat} {acc:List (Int × Nat)} {wr wx:World} {i:Nat} (h:MonHold w bL bE s f vL vE l acc wr) (hN:Lst wx bL vN (l.eraseIdx i)) (ho:vN.ownBlock=vL.ownBlock) (hg:wr.grownBy wx vL.ownBlock) :
  MonHold w bL bE s f vN vE (l.eraseIdx i) acc wx:=by
 have hlo:=h.lo
 have hhi:=h.hi
 have hlen:(l.eraseIdx i).length≤l.length:=by rw [List.length_eraseIdx];split <;> omega
 have hll:=h.len
 refine ⟨h.plan.grown hg ?_,hN,fun n hn=>h.sep n (by rw [←ho];exact hn),h.ents.kept hg ?_,gow h.grown hg ?_,h.lo,h.hi,Nat.le_trans h.top hg.size,fun c hc=>h.rng c (List.mem_of_mem_eraseIdx hc),by omega⟩
 ·intro e
  have:=(h.left.lt _ e).1
  omega
 ·cases hv:vE.ownBlock with
  | none=>exact .inl rfl
  | some n =>
   right
   intro e
   have h1:=(h.ents.lt n hv).1
   have h2:=h.sep n e.symm
   omega
 ·intro n e
  have:=(h.left.lt n e).1
  omega

theorem MonHold.add {w:World} {bL bE:Nat} {s f:Int} {vL vE vN:Value} {l:List Nat} {acc:List (Int × Nat)} {p:Int × Nat} {wr wx:World} (h:MonHold w bL bE s f vL vE l acc wr) (hN:wx.ownsRow bE 54 11 vN (acc.length+1) (Gn.flat acc ++ Gn.entCells p)) (hg:wr.grownBy wx vE.ownBlock) :
  MonHold w bL bE s f vL vN l (acc ++ [p]) wx:=by
 have hlo:=h.lo
 have hhi:=h.hi
 refine ⟨h.plan.grown hg ?_,h.left.kept hg ?_,h.sep,?_,gow h.grown hg ?_,h.lo,h.hi,Nat.le_trans h.top hg.size,h.rng,h.len⟩
 ·intro e
  have:=(h.ents.lt _ e).1
  omega
 ·cases hv:vL.ownBlock with
  | none=>exact .inl rfl
  | some n =>
   right
   intro e
   have h1:=(h.ents.lt n e.symm).1
   have h2:=h.sep n hv
   omega
 ·rw [Gn.flat_more,List.length_append]
  exact hN
 ·intro n e
  have:=(h.ents.lt n e).1
  omega

theorem MonHold.at {w:World} {bL bE:Nat} {s f:Int} {vL vE:Value} {l:List Nat} {acc:List (Int × Nat)} {wr:World} (h:MonHold w bL bE s f vL vE l acc wr) {n:Nat} (hn:n<l.length) :
  ∃g cap,vL=.slice (some ⟨g,0,none⟩) l.length cap∧l.length≤cap∧wr.cell? ⟨g,n,none⟩=some (.int .i64 ((l[n]?.getD 0:Nat):Int)):=by
 rcases h.left.form with ⟨_,rfl⟩ | ⟨g,cap,H,rfl,_,hA,hlc,_,hH⟩
 ·simp at hn
 ·exact ⟨g,cap,rfl,hlc,by rw [hA.cell (by omega),hH n hn]⟩

theorem MonHold.beside {w:World} {bL bE:Nat} {s f:Int} {vL vE:Value} {l:List Nat} {acc:List (Int × Nat)} {wr wx:World} {e:Nat} (h:MonHold w bL bE s f vL vE l acc wr) (hg:wr.grownBy wx (some e)) (h1:∀n,vL.ownBlock=some n→n≠e) (h2:∀n,vE.ownBlock=some n→n≠e) (h3:w.heap.size<e):MonHold w bL bE s f vL vE l acc wx:=by
 refine ⟨h.plan.grown hg (by simp;omega),h.left.kept hg ?_,h.sep,h.ents.kept hg ?_,gow h.grown hg (fun n hn=>by cases hn;omega),h.lo,h.hi,Nat.le_trans h.top hg.size,h.rng,h.len⟩
 ·cases hv:vL.ownBlock with
  | none=>exact .inl rfl
  | some n=>exact .inr fun e'=>h1 n hv (by cases e';rfl)
 ·cases hv:vE.ownBlock with
  | none=>exact .inl rfl
  | some n=>exact .inr fun e'=>h2 n hv (by cases e';rfl)

theorem Arr.lit {w:World} {g:Nat} {T:TypeId} {arr:Array Value} (h:w.heap[g]?=some (.cells arr T (0,0))):Arr w g T arr.size (fun j=>arr[j]?.getD undef) :=
 ⟨arr,h,rfl,fun i hi=>by
  show arr[i]?=some (arr[i]?.getD undef)
  rw [Array.getElem?_eq_getElem hi]
  rfl⟩

theorem ent_news (w:World) (B:Nat) (hB:B=w.heap.size) (a0 a1 a2 a3 a4 a5 a6 a7 a8 a9 a10:Value) (T:TypeId):∀j u,[a0,a1,a2,a3,a4,a5,a6,a7,a8,a9,a10][j]?=some u→(w.alloc (.cells #[a0,a1,a2,a3,a4,a5,a6,a7,a8,a9,a10] T)).cell? ((⟨B,0,none⟩:Addr).add j)=some u:=by
 subst hB
 intro j u hj
 have hlt:j<11:=by
  have:=(List.getElem?_eq_some_iff.1 hj).1
  exact this
 rcases (show j=0∨j=1∨j=2∨j=3∨j=4∨j=5∨j=6∨j=7∨j=8∨j=9∨j=10 by omega) with rfl | rfl | rfl | rfl | rfl | rfl | rfl | rfl | rfl | rfl | rfl
 all_goals
  simp at hj
  subst hj
  simp [Addr.add]

theorem owns_mono {w:World} {b b':Nat} {e:TypeId} {z n:Nat} {v:Value} {xs:List Value} (h:w.ownsRow b e z v n xs) (hb:b'≤b):w.ownsRow b' e z v n xs:=by
 refine ⟨h.1,?_⟩
 rcases h.2 with h | ⟨g,cap,cur,hv,hg,rest⟩
 ·exact .inl h
 ·exact .inr ⟨g,cap,cur,hv,by omega,rest⟩

theorem Gn.mons_len (d:Gn.Dice) (f:Int):∀(m k:Nat) (l:List Nat),(Gn.mons d f m k l).length≤m
 | 0,_,_=>Nat.le_refl _
 | m+1,k,l=>by
  unfold Gn.mons
  split
  ·exact Nat.zero_le _
  ·have:=Gn.mons_len d f m (k+1) (l.eraseIdx (d (7+(k:Int)) 0 (l.length:Int)).toNat)
   simp only [List.length_cons]
   omega

set_option maxRecDepth 8000 in
set_option maxHeartbeats 4000000 in
theorem monsters_any (s f:Int) (d:Gn.Dice) (hd:∀a b n,Gn.D s f a b n=d a b n) (hFr:Gn.Fair d) (h1f:1≤f) (h3f:f≤3) (G gF:Nat) (c F:Nat→Int) (w:World) (hA:Arr w G 5 384 (Byts c)) (hF:Arr w gF 3 384 (Ints F)) :
  Calls Tryz.prog 100 #[.agg #[.int .i64 s,.int .i64 f],.slice (some ⟨G,0,none⟩) 384 384,.slice (some ⟨gF,0,none⟩) 384 384] w
   fun e w'=>∃v,e=.returned v∧w'.ownsRow w.heap.size 54 11 v (Gn.mons d f (f+2).toNat 0 ((Gn.those (fun i=>c i == 1) 384).filter (Gn.afar F))).length (Gn.flat (Gn.mons d f (f+2).toNat 0 ((Gn.those (fun i=>c i == 1) 384).filter (Gn.afar F))))∧w.grownBy w' none:=by
 have hd':=hide hd
 have hFr':=hide hFr
 have hA':=hide hA
 have hF':=hide hF
 obtain ⟨fin,hfin⟩:∃fin,fin=Gn.mons d f (f+2).toNat 0 ((Gn.those (fun i=>c i == 1) 384).filter (Gn.afar F)):=⟨_,rfl⟩
 rw [←hfin]
 have hfin':=hide hfin
 have hfl:fin.length≤5:=by
  rw [hfin]
  have:=Gn.mons_len d f (f+2).toNat 0 ((Gn.those (fun i=>c i == 1) 384).filter (Gn.afar F))
  omega
 obtain ⟨i0,hi,hz0,hz1,hz2⟩:=info_parts info_ent
 clear hd hFr hA hF hfin
 go_enter Tryz.func100,Tryz.ntmps100
 go_wp2_with fail
 obtain ⟨w0,hw0⟩:∃w0,w0=(w.alloc (.cells #[.int .i64 s,.int .i64 f] 116)).alloc (.cells #[.slice (some ⟨gF,0,none⟩) 384 384] 38):=⟨_,rfl⟩
 have hs0:w0.heap.size=w.heap.size+1+1:=by rw [hw0];simp
 have hg0:w.grownBy w0 none:=by rw [hw0];exact gal (World.grownBy_alloc _ _ _) _
 have hp0:Arr w0 w.heap.size 116 2 (fun j=>.int .i64 (if j=0 then s else f)):=by rw [hw0];exact (Arr.pair _ _ _ _).alloc _
 have hb0:w0.cell? ⟨w.heap.size+1,0,none⟩=some (.slice (some ⟨gF,0,none⟩) 384 384):=by rw [hw0];simp
 have hA0:=(uh hA').grown hg0 (by simp)
 have hF0:=(uh hF').grown hg0 (by simp)
 have hGl:=(uh hA').lt
 have hgl:=(uh hF').lt
 rw [←hw0]
 refine (floorCells_any w0.heap.size _ _ c _ (hA0.vec _ hA0.lt (by decide)) (Nat.le_refl _)).mono ?_
 rintro e w1 ⟨v1,rfl,hL1,hg1⟩
 have hs1:=hg1.size
 have hdf:=hide (deleteFunc_any F gF (w.heap.size+1) w0.heap.size v1 (Gn.those (fun i=>c i == 1) 384) w1 ((gce hg1 _ _ (by omega) (by simp)).trans hb0) (hF0.grown hg1 (by simp)) hL1 (by omega) (by omega) (Gn.those_len _ _) (fun i hi=>by
  rw [List.getElem?_eq_getElem hi]
  have:=List.getElem_mem hi
  exact List.mem_range.1 (List.mem_filter.1 this).1))
 have hw1:=hide hg1
 have hp1:=hide (hp0.grown hg1 (by simp))
 have hg01:=hide (grown_none hg0 hg1)
 have hs0':=hide hs0
 clear hL1 hg1 hA0 hF0 hb0 hp0 hg0 hw0
 go_wp2_with fail
 refine (uh hdf).mono ?_
 rintro e w2 ⟨vL,rfl,hL2,hbel2⟩
 have hw2s:=hbel2.size
 have hH0:Hid (MonHold w w0.heap.size w2.heap.size s f vL (.slice none 0 0) ((Gn.those (fun i=>c i == 1) 384).filter (Gn.afar F)) [] w2):=by
  have hs:=uh hs0'
  have h1l:=(uh hg01).size
  refine ⟨⟨(uh hp1).choose,?_,(uh hp1).choose_spec.2⟩,hL2,fun n hn=>(hL2.lt n hn).2,World.ownsRow_nil _ _ _ _,?_,by omega,by omega,Nat.le_refl _,fun x hx=>?_,?_⟩
  ·rw [hbel2.block _ (by omega)]
   exact (uh hp1).choose_spec.1
  ·exact ⟨hbel2.os.trans (uh hg01).os,hbel2.tape.trans (uh hg01).tape,hbel2.output.trans (uh hg01).output,by omega,fun k hk _=>(hbel2.block k (by omega)).trans ((uh hg01).block k hk (by simp))⟩
  ·exact List.mem_range.1 (List.mem_filter.1 (List.mem_filter.1 hx).1).1
  ·have h1:=List.length_filter_le (Gn.afar F) (Gn.those (fun i=>c i == 1) 384)
   have h2:=Gn.those_len (fun i=>c i == 1) 384
   omega
 obtain ⟨bL,hbL⟩:∃b,b=w0.heap.size:=⟨_,rfl⟩
 obtain ⟨bE,hbE⟩:∃b,b=w2.heap.size:=⟨_,rfl⟩
 have hbw:w.heap.size≤bE:=by have:=(uh hg01).size;omega
 rw [←hbL,←hbE] at hH0
 clear hL2 hbel2 hdf hp1 hg01 hs0' hw1 hs1 hs0 hbL hbE
 go_wp2_with fail
 go_loopw [7,8,9] (fun vl ve vk wr=>∃(k:Nat) (l:List Nat) (acc:List (Int × Nat)),(k:Int)≤f+2∧vk=.int .i64 (k:Int)∧acc ++ Gn.mons d f ((f+2).toNat - k) k l=fin∧MonHold w bL bE s f vl ve l acc wr) (fun _ _ vk _=>10 - (intOf vk).toNat)
 case atStart=>exact ⟨0,_,[],by omega,rfl,(uh hfin').symm,uh hH0⟩
 case round =>
  clear hH0 hfin'
  obtain ⟨k,l,acc,hk,rfl,hacc,hH⟩:=hrel
  have hH1:=hide hH
  have hacc':=hide hacc
  clear hH hacc
  have hc1:=(uh hH1).plan.cell (i:=1) (by omega)
  have hc0:=(uh hH1).plan.cell (i:=0) (by omega)
  simp only [ite_true,Nat.one_ne_zero,ite_false] at hc0 hc1
  have hll:=(uh hH1).len
  by_cases hlt:(k:Int)<f+2
  ·by_cases hl0:l.length=0
   ·have hl1:l=[]:=List.eq_nil_of_length_eq_zero hl0
    have hend:Hid (acc=fin):=by
     have h:=uh hacc'
     obtain ⟨m,hm⟩:∃m,(f+2).toNat - k=m+1:=⟨(f+2).toNat - k - 1,by omega⟩
     rw [hm,Gn.mons,if_pos hl0,List.append_nil] at h
     exact h
    have hfrm:∃a cap,u7=.slice a 0 cap:=by
     rcases (uh hH1).left.form with ⟨h,_⟩ | ⟨g,cap,_,h,_⟩
     ·exact ⟨_,_,h⟩
     ·exact ⟨_,_,by rw [h,hl0]⟩
    obtain ⟨a,cap,rfl⟩:=hfrm
    clear hl0 hl1 hll
    go_wp2
    go_ret
    have hE:=(uh hH1).ents
    rw [uh hend] at hE
    exact ⟨_,rfl,owns_mono hE hbw,(uh hH1).grown⟩
   ·have hlp:(0:Int)<(l.length:Int):=by omega
    obtain ⟨N,hN⟩:∃x,x=d (7+(k:Int)) 0 (l.length:Int):=⟨_,rfl⟩
    obtain ⟨n1,n2⟩:0≤N∧N<(l.length:Int):=by rw [hN];exact uh hFr' _ _ _ (by omega)
    obtain ⟨n,hn⟩:∃n:Nat,N=(n:Int):=⟨N.toNat,by omega⟩
    have hnl:n<l.length:=by omega
    have hnl':(n:Int)<(l.length:Int):=by omega
    have hn3:n<384:=by omega
    have hdN:Hid (∀w',Calls Tryz.prog 128 #[.agg #[.int .i64 s,.int .i64 f],.int .i64 (7+(k:Int)),.int .i64 0,.int .i64 (l.length:Int)] w' (Says w' (.int .i64 (n:Int)))):=fun w'=>by
     have h:=die3_any s f (7+(k:Int)) 0 (l.length:Int) w' (by omega)
     rw [uh hd',←hN,hn] at h
     exact h
    obtain ⟨M,hM⟩:∃M:Int,M=if 3<f+1 then 3 else f+1:=⟨_,rfl⟩
    have hMb:1≤M∧M≤3:=by rw [hM];split <;> omega
    obtain ⟨K,hK⟩:∃K,K=d (16+(k:Int)) 1 M:=⟨_,rfl⟩
    obtain ⟨k1,k2⟩:0≤K∧K<M:=by rw [hK];exact uh hFr' _ _ _ (by omega)
    have hdK:Hid (∀w',Calls Tryz.prog 128 #[.agg #[.int .i64 s,.int .i64 f],.int .i64 (16+(k:Int)),.int .i64 1,.int .i64 M] w' (Says w' (.int .i64 K))):=fun w'=>by
     have h:=die3_any s f (16+(k:Int)) 1 M w' (by omega)
     rw [uh hd',←hK] at h
     exact h
    have hkind:Gn.kind d f k=2+K:=by unfold Gn.kind;rw [←hM,←hK]
    obtain ⟨cl,hcl⟩:∃cl,cl=l[n]?.getD 0:=⟨_,rfl⟩
    have hcl3:cl<384:=by
     rw [hcl,List.getElem?_eq_getElem hnl]
     exact (uh hH1).rng _ (List.getElem_mem hnl)
    have hstep:Hid ((acc ++ [(2+K,cl)]) ++ Gn.mons d f ((f+2).toNat - (k+1)) (k+1) (l.eraseIdx n)=fin):=by
     have h:=uh hacc'
     obtain ⟨m,hm⟩:∃m,(f+2).toNat - k=m+1:=⟨(f+2).toNat - k - 1,by omega⟩
     rw [hm,Gn.mons,if_neg hl0,←hN,hn,Int.toNat_natCast,hkind,←hcl] at h
     show (acc ++ [(2+K,cl)]) ++ Gn.mons d f ((f+2).toNat - (k+1)) (k+1) (l.eraseIdx n)=fin
     rw [show (f+2).toNat - (k+1)=m by omega,List.append_assoc]
     exact h
    have hal:acc.length≤5:=by
     have h:=congrArg List.length (uh hacc')
     rw [List.length_append] at h
     omega
    obtain ⟨hp,hhp⟩:∃x,x=Gn.hp (2+K):=⟨_,rfl⟩
    obtain ⟨at_,hat⟩:∃x,x=Gn.atk (2+K):=⟨_,rfl⟩
    obtain ⟨df,hdf⟩:∃x,x=Gn.df (2+K):=⟨_,rfl⟩
    have hstats:Hid (∀w',Calls Tryz.prog 137 #[.int .i64 (2+K)] w' (Says w' (.agg #[.int .i64 (2+K),.int .i64 0,.int .i64 0,.int .i64 0,.int .i64 0,.int .i64 hp,.int .i64 hp,.int .i64 at_,.int .i64 df,.int .i64 0,.int .i64 0]))):=fun w'=>by
     have h:=stats_any (2+K) w' (by omega) (by omega)
     unfold Gn.ent at h
     rw [←hhp,←hat,←hdf] at h
     exact h
    have hentc:Hid (Gn.entCells (2+K,cl)=[.int .i64 (2+K),.int .i64 0,.int .i64 0,.int .i64 ((cl:Int) % 24),.int .i64 ((cl:Int) / 24),.int .i64 hp,.int .i64 hp,.int .i64 at_,.int .i64 df,.int .i64 0,.int .i64 0]):=by
     show Gn.entCells (2+K,cl)=_
     unfold Gn.entCells Gn.ent
     rw [←hhp,←hat,←hdf]
    have hcl':=hide hcl
    obtain ⟨g,cap,rfl,hgc,_⟩:=(uh hH1).at hnl
    have hM':=hide hM
    clear hN hn hK hkind hcl hhp hat hdf hl0 hM n1 n2
    go_wp2_with fail
    refine (uh hdN _).mono ?_
    rintro e wa ⟨rfl,hga⟩
    have hHa:=hide ((uh hH1).on hga)
    have hc1:=(uh hHa).plan.cell (i:=1) (by omega)
    have hc0:=(uh hHa).plan.cell (i:=0) (by omega)
    simp only [ite_true,Nat.one_ne_zero,ite_false] at hc0 hc1
    clear hga hH1
    by_cases h3:3<f+1
    ·have hMe:M=3:=by rw [uh hM',if_pos h3]
     subst hMe
     go_wp2_with fail
     refine (uh hdK _).mono ?_
     rintro e wb ⟨rfl,hgb⟩
     have hHb:=hide ((uh hHa).on hgb)
     clear hgb hHa hc0 hc1
     go_wp2_with fail
     refine (uh hstats _).mono ?_
     rintro e wc ⟨rfl,hgc2⟩
     have hHc:=hide ((uh hHb).on hgc2)
     clear hgc2 hHb
     have hcell:∀o,(wc.alloc o).cell? ⟨g,n,none⟩=some (.int .i64 (cl:Int)):=by
      intro o
      have h:=(uh hHc).on (World.grownBy_alloc wc o none)
      obtain ⟨g',cap',heq,_,hq⟩:=h.at hnl
      simp only [Value.slice.injEq,Option.some.injEq,Addr.mk.injEq,and_true,true_and] at heq
      rw [heq.1,hq,uh hcl']
     go_wp2_with fail
     obtain ⟨we,hwe⟩:∃we,we=wc.alloc (.cells #[.int .i64 (2+K),.int .i64 0,.int .i64 0,.int .i64 0,.int .i64 0,.int .i64 hp,.int .i64 hp,.int .i64 at_,.int .i64 df,.int .i64 0,.int .i64 0] 54):=⟨_,rfl⟩
     have hHe:Hid (MonHold w bL bE s f (.slice (some ⟨g,0,none⟩) l.length cap) u8 l acc we):=by rw [hwe];exact (uh hHc).on (World.grownBy_alloc _ _ _)
     have hEe:we.heap[wc.heap.size]?=some (.cells #[.int .i64 (2+K),.int .i64 0,.int .i64 0,.int .i64 0,.int .i64 0,.int .i64 hp,.int .i64 hp,.int .i64 at_,.int .i64 df,.int .i64 0,.int .i64 0] 54 (0,0)):=by rw [hwe];exact heap_alloc_new _ _
     have hse:we.heap.size=wc.heap.size+1:=by rw [hwe];simp
     rw [←hwe]
     refine (placeOf_any (cl:Int) _ (by omega) (by omega)).mono ?_
     rintro e wd ⟨rfl,hgd⟩
     have hHd:=hide ((uh hHe).on hgd)
     have hEd:Hid (wd.heap[wc.heap.size]?=some (.cells #[.int .i64 (2+K),.int .i64 0,.int .i64 0,.int .i64 0,.int .i64 0,.int .i64 hp,.int .i64 hp,.int .i64 at_,.int .i64 df,.int .i64 0,.int .i64 0] 54 (0,0))):=(hgd.block _ (by omega) (by simp)).trans hEe
     have hvL:Hid (∀n,(Value.slice (some ⟨g,0,none⟩) l.length cap).ownBlock=some n→n≠wc.heap.size):=fun n hn=>Nat.ne_of_lt ((uh hHc).left.lt n hn).2
     have hvE:Hid (∀n,u8.ownBlock=some n→n≠wc.heap.size):=fun n hn=>Nat.ne_of_lt ((uh hHc).ents.lt n hn).2
     have hvw:Hid (w.heap.size<wc.heap.size):=(uh hHc).plan.lt
     have hltd:wc.heap.size<wd.heap.size:=by have:=hgd.size;omega
     have hcw:∀j,wd.cell? ⟨wc.heap.size,j,none⟩=#[Value.int .i64 (2+K),.int .i64 0,.int .i64 0,.int .i64 0,.int .i64 0,.int .i64 hp,.int .i64 hp,.int .i64 at_,.int .i64 df,.int .i64 0,.int .i64 0][j]?:=fun j=>cell_of_row wd _ j _ _ _ (uh hEd)
     have hfw:∀j,wd.frozen? ⟨wc.heap.size,j,none⟩=false:=fun j=>frozen_of_row wd _ j _ _ (uh hEd)
     clear hgd hEe hse hwe hHe hHc hcell
     go_wp2_with fail
     go_region
     obtain ⟨W4,hW4⟩:∃W4,W4=(((wd.setCell ⟨wc.heap.size,3,none⟩ (.int .i64 ((cl:Int) % 24))).setCell ⟨wc.heap.size,4,none⟩ (.int .i64 ((cl:Int) / 24))).alloc (.cells #[.int .i64 ((cl:Int) % 24),.int .i64 ((cl:Int) / 24)] 118)).drew:=⟨_,rfl⟩
     rw [←hW4]
     have hH4:Hid (MonHold w bL bE s f (.slice (some ⟨g,0,none⟩) l.length cap) u8 l acc W4):=by
      rw [hW4]
      exact ((uh hHd).beside (gst (gst (World.grownBy.refl wd (some wc.heap.size)) _ _) _ _) (uh hvL) (uh hvE) (uh hvw)).on (gd1 (World.grownBy_alloc _ _ _))
     have hE4:Arr W4 wc.heap.size 54 11 (fun j=>#[Value.int .i64 (2+K),.int .i64 0,.int .i64 0,.int .i64 ((cl:Int) % 24),.int .i64 ((cl:Int) / 24),.int .i64 hp,.int .i64 hp,.int .i64 at_,.int .i64 df,.int .i64 0,.int .i64 0][j]?.getD undef):=by
      have h0:Arr wd wc.heap.size 54 11 (fun j=>#[Value.int .i64 (2+K),.int .i64 0,.int .i64 0,.int .i64 0,.int .i64 0,.int .i64 hp,.int .i64 hp,.int .i64 at_,.int .i64 df,.int .i64 0,.int .i64 0][j]?.getD undef) :=
       Arr.lit (uh hEd)
      have h1:=((((h0.store 3 (.int .i64 ((cl:Int) % 24))).store 4 (.int .i64 ((cl:Int) / 24))).alloc (.cells #[.int .i64 ((cl:Int) % 24),.int .i64 ((cl:Int) / 24)] 118)).grown (gd1 (World.grownBy.refl _ none)) (by simp))
      rw [hW4]
      refine Arr.congr h1 fun j hj=>?_
      rcases (show j=0∨j=1∨j=2∨j=3∨j=4∨j=5∨j=6∨j=7∨j=8∨j=9∨j=10 by omega) with rfl | rfl | rfl | rfl | rfl | rfl | rfl | rfl | rfl | rfl | rfl <;> rfl
     have z0:=hE4.cell (i:=0) (by omega)
     have z1:=hE4.cell (i:=1) (by omega)
     have z2:=hE4.cell (i:=2) (by omega)
     have z3:=hE4.cell (i:=3) (by omega)
     have z4:=hE4.cell (i:=4) (by omega)
     have z5:=hE4.cell (i:=5) (by omega)
     have z6:=hE4.cell (i:=6) (by omega)
     have z7:=hE4.cell (i:=7) (by omega)
     have z8:=hE4.cell (i:=8) (by omega)
     have z9:=hE4.cell (i:=9) (by omega)
     have z10:=hE4.cell (i:=10) (by omega)
     simp only [List.getElem?_toArray,List.getElem?_cons_zero,List.getElem?_cons_succ,Option.getD_some] at z0 z1 z2 z3 z4 z5 z6 z7 z8 z9 z10
     have ht4:=(uh hH4).top
     clear hW4 hE4 hHd hEd hcw hfw hltd hvL hvE hvw
     go_wp2_with (at_builtin;refine wpList_append_own _ rfl _ _ 26 rfl bE 54 i0 (.agg #[.int .i64 0,.int .i64 0,.int .i64 0,.int .i64 0,.int .i64 0,.int .i64 0,.int .i64 0,.int .i64 0,.int .i64 0,.int .i64 0,.int .i64 0]) 11 88 Tryz.underlying26 hi hz0 hz1 hz2 rfl (by decide) _ _ _ rfl ((uh hH4).ents.alloc _) ⟨W4.heap.size,0,none⟩ 1 1 [.int .i64 (2+K),.int .i64 0,.int .i64 0,.int .i64 ((cl:Int) % 24),.int .i64 ((cl:Int) / 24),.int .i64 hp,.int .i64 hp,.int .i64 at_,.int .i64 df,.int .i64 0,.int .i64 0] rfl rfl ?_ ?_ ?_ ?_ ?_ ?_)
     ·exact ent_news _ _ rfl _ _ _ _ _ _ _ _ _ _ _ _
     ·intro u hu
      simp only [List.mem_cons,List.not_mem_nil,or_false] at hu
      rcases hu with rfl | rfl | rfl | rfl | rfl | rfl | rfl | rfl | rfl | rfl | rfl <;> rfl
     ·unfold maxLen;omega
     ·omega
     ·simp;omega
     intro v5 w5 hown5 hgrow5 _
     rw [←uh hentc] at hown5
     have hH5:=hide (((uh hH4).on (World.grownBy_alloc _ _ _)).add hown5 hgrow5)
     have hdel:=delete_any bL n (n+1) (.slice (some ⟨g,0,none⟩) l.length cap) l w5 (uh hH5).left hll hnl rfl
     rw [show ((n+1:Nat):Int)=(n:Int)+1 by omega] at hdel
     have hdel':=hide hdel
     clear hown5 hgrow5 hH4 hdel z0 z1 z2 z3 z4 z5 z6 z7 z8 z9 z10
     go_wp2_with fail
     refine (uh hdel').mono ?_
     rintro e w6 ⟨vN,rfl,hLN,hob,hg6⟩
     have hH6:=hide ((uh hH5).del hLN hob hg6)
     clear hLN hob hg6 hdel' hH5
     go_wp2
     go_roundw
     case rel=>exact ⟨k+1,l.eraseIdx n,acc ++ [(2+K,cl)],by omega,by go_num,uh hstep,uh hH6⟩
     case measure=>simp [intOf];omega
    ·have hMe:f+1=M:=by rw [uh hM',if_neg h3]
     go_wp2_with fail
     refine (uh hdK _).mono ?_
     rintro e wb ⟨rfl,hgb⟩
     have hHb:=hide ((uh hHa).on hgb)
     clear hgb hHa hc0 hc1
     go_wp2_with fail
     refine (uh hstats _).mono ?_
     rintro e wc ⟨rfl,hgc2⟩
     have hHc:=hide ((uh hHb).on hgc2)
     clear hgc2 hHb
     have hcell:∀o,(wc.alloc o).cell? ⟨g,n,none⟩=some (.int .i64 (cl:Int)):=by
      intro o
      have h:=(uh hHc).on (World.grownBy_alloc wc o none)
      obtain ⟨g',cap',heq,_,hq⟩:=h.at hnl
      simp only [Value.slice.injEq,Option.some.injEq,Addr.mk.injEq,and_true,true_and] at heq
      rw [heq.1,hq,uh hcl']
     go_wp2_with fail
     obtain ⟨we,hwe⟩:∃we,we=wc.alloc (.cells #[.int .i64 (2+K),.int .i64 0,.int .i64 0,.int .i64 0,.int .i64 0,.int .i64 hp,.int .i64 hp,.int .i64 at_,.int .i64 df,.int .i64 0,.int .i64 0] 54):=⟨_,rfl⟩
     have hHe:Hid (MonHold w bL bE s f (.slice (some ⟨g,0,none⟩) l.length cap) u8 l acc we):=by rw [hwe];exact (uh hHc).on (World.grownBy_alloc _ _ _)
     have hEe:we.heap[wc.heap.size]?=some (.cells #[.int .i64 (2+K),.int .i64 0,.int .i64 0,.int .i64 0,.int .i64 0,.int .i64 hp,.int .i64 hp,.int .i64 at_,.int .i64 df,.int .i64 0,.int .i64 0] 54 (0,0)):=by rw [hwe];exact heap_alloc_new _ _
     have hse:we.heap.size=wc.heap.size+1:=by rw [hwe];simp
     rw [←hwe]
     refine (placeOf_any (cl:Int) _ (by omega) (by omega)).mono ?_
     rintro e wd ⟨rfl,hgd⟩
     have hHd:=hide ((uh hHe).on hgd)
     have hEd:Hid (wd.heap[wc.heap.size]?=some (.cells #[.int .i64 (2+K),.int .i64 0,.int .i64 0,.int .i64 0,.int .i64 0,.int .i64 hp,.int .i64 hp,.int .i64 at_,.int .i64 df,.int .i64 0,.int .i64 0] 54 (0,0))):=(hgd.block _ (by omega) (by simp)).trans hEe
     have hvL:Hid (∀n,(Value.slice (some ⟨g,0,none⟩) l.length cap).ownBlock=some n→n≠wc.heap.size):=fun n hn=>Nat.ne_of_lt ((uh hHc).left.lt n hn).2
     have hvE:Hid (∀n,u8.ownBlock=some n→n≠wc.heap.size):=fun n hn=>Nat.ne_of_lt ((uh hHc).ents.lt n hn).2
     have hvw:Hid (w.heap.size<wc.heap.size):=(uh hHc).plan.lt
     have hltd:wc.heap.size<wd.heap.size:=by have:=hgd.size;omega
     have hcw:∀j,wd.cell? ⟨wc.heap.size,j,none⟩=#[Value.int .i64 (2+K),.int .i64 0,.int .i64 0,.int .i64 0,.int .i64 0,.int .i64 hp,.int .i64 hp,.int .i64 at_,.int .i64 df,.int .i64 0,.int .i64 0][j]?:=fun j=>cell_of_row wd _ j _ _ _ (uh hEd)
     have hfw:∀j,wd.frozen? ⟨wc.heap.size,j,none⟩=false:=fun j=>frozen_of_row wd _ j _ _ (uh hEd)
     clear hgd hEe hse hwe hHe hHc hcell
     go_wp2_with fail
     go_region
     obtain ⟨W4,hW4⟩:∃W4,W4=(((wd.setCell ⟨wc.heap.size,3,none⟩ (.int .i64 ((cl:Int) % 24))).setCell ⟨wc.heap.size,4,none⟩ (.int .i64 ((cl:Int) / 24))).alloc (.cells #[.int .i64 ((cl:Int) % 24),.int .i64 ((cl:Int) / 24)] 118)).drew:=⟨_,rfl⟩
     rw [←hW4]
     have hH4:Hid (MonHold w bL bE s f (.slice (some ⟨g,0,none⟩) l.length cap) u8 l acc W4):=by
      rw [hW4]
      exact ((uh hHd).beside (gst (gst (World.grownBy.refl wd (some wc.heap.size)) _ _) _ _) (uh hvL) (uh hvE) (uh hvw)).on (gd1 (World.grownBy_alloc _ _ _))
     have hE4:Arr W4 wc.heap.size 54 11 (fun j=>#[Value.int .i64 (2+K),.int .i64 0,.int .i64 0,.int .i64 ((cl:Int) % 24),.int .i64 ((cl:Int) / 24),.int .i64 hp,.int .i64 hp,.int .i64 at_,.int .i64 df,.int .i64 0,.int .i64 0][j]?.getD undef):=by
      have h0:Arr wd wc.heap.size 54 11 (fun j=>#[Value.int .i64 (2+K),.int .i64 0,.int .i64 0,.int .i64 0,.int .i64 0,.int .i64 hp,.int .i64 hp,.int .i64 at_,.int .i64 df,.int .i64 0,.int .i64 0][j]?.getD undef) :=
       Arr.lit (uh hEd)
      have h1:=((((h0.store 3 (.int .i64 ((cl:Int) % 24))).store 4 (.int .i64 ((cl:Int) / 24))).alloc (.cells #[.int .i64 ((cl:Int) % 24),.int .i64 ((cl:Int) / 24)] 118)).grown (gd1 (World.grownBy.refl _ none)) (by simp))
      rw [hW4]
      refine Arr.congr h1 fun j hj=>?_
      rcases (show j=0∨j=1∨j=2∨j=3∨j=4∨j=5∨j=6∨j=7∨j=8∨j=9∨j=10 by omega) with rfl | rfl | rfl | rfl | rfl | rfl | rfl | rfl | rfl | rfl | rfl <;> rfl
     have z0:=hE4.cell (i:=0) (by omega)
     have z1:=hE4.cell (i:=1) (by omega)
     have z2:=hE4.cell (i:=2) (by omega)
     have z3:=hE4.cell (i:=3) (by omega)
     have z4:=hE4.cell (i:=4) (by omega)
     have z5:=hE4.cell (i:=5) (by omega)
     have z6:=hE4.cell (i:=6) (by omega)
     have z7:=hE4.cell (i:=7) (by omega)
     have z8:=hE4.cell (i:=8) (by omega)
     have z9:=hE4.cell (i:=9) (by omega)
     have z10:=hE4.cell (i:=10) (by omega)
     simp only [List.getElem?_toArray,List.getElem?_cons_zero,List.getElem?_cons_succ,Option.getD_some] at z0 z1 z2 z3 z4 z5 z6 z7 z8 z9 z10
     have ht4:=(uh hH4).top
     clear hW4 hE4 hHd hEd hcw hfw hltd hvL hvE hvw
     go_wp2_with (at_builtin;refine wpList_append_own _ rfl _ _ 26 rfl bE 54 i0 (.agg #[.int .i64 0,.int .i64 0,.int .i64 0,.int .i64 0,.int .i64 0,.int .i64 0,.int .i64 0,.int .i64 0,.int .i64 0,.int .i64 0,.int .i64 0]) 11 88 Tryz.underlying26 hi hz0 hz1 hz2 rfl (by decide) _ _ _ rfl ((uh hH4).ents.alloc _) ⟨W4.heap.size,0,none⟩ 1 1 [.int .i64 (2+K),.int .i64 0,.int .i64 0,.int .i64 ((cl:Int) % 24),.int .i64 ((cl:Int) / 24),.int .i64 hp,.int .i64 hp,.int .i64 at_,.int .i64 df,.int .i64 0,.int .i64 0] rfl rfl ?_ ?_ ?_ ?_ ?_ ?_)
     ·exact ent_news _ _ rfl _ _ _ _ _ _ _ _ _ _ _ _
     ·intro u hu
      simp only [List.mem_cons,List.not_mem_nil,or_false] at hu
      rcases hu with rfl | rfl | rfl | rfl | rfl | rfl | rfl | rfl | rfl | rfl | rfl <;> rfl
     ·unfold maxLen;omega
     ·omega
     ·simp;omega
     intro v5 w5 hown5 hgrow5 _
     rw [←uh hentc] at hown5
     have hH5:=hide (((uh hH4).on (World.grownBy_alloc _ _ _)).add hown5 hgrow5)
     have hdel:=delete_any bL n (n+1) (.slice (some ⟨g,0,none⟩) l.length cap) l w5 (uh hH5).left hll hnl rfl
     rw [show ((n+1:Nat):Int)=(n:Int)+1 by omega] at hdel
     have hdel':=hide hdel
     clear hown5 hgrow5 hH4 hdel z0 z1 z2 z3 z4 z5 z6 z7 z8 z9 z10
     go_wp2_with fail
     refine (uh hdel').mono ?_
     rintro e w6 ⟨vN,rfl,hLN,hob,hg6⟩
     have hH6:=hide ((uh hH5).del hLN hob hg6)
     clear hLN hob hg6 hdel' hH5
     go_wp2
     go_roundw
     case rel=>exact ⟨k+1,l.eraseIdx n,acc ++ [(2+K,cl)],by omega,by go_num,uh hstep,uh hH6⟩
     case measure=>simp [intOf];omega
  ·have hge:¬(k:Int)<f+2:=hlt
   have hend:Hid (acc=fin):=by
    have h:=uh hacc'
    rw [show (f+2).toNat - k=0 by omega,Gn.mons,List.append_nil] at h
    exact h
   clear hlt
   go_wp2
   go_ret
   have hE:=(uh hH1).ents
   rw [uh hend] at hE
   exact ⟨_,rfl,owns_mono hE hbw,(uh hH1).grown⟩

end Go.Proofs.YtbanjoflgoiegaaGreat
