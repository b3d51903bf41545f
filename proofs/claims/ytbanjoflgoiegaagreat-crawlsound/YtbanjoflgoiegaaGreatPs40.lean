import Derived.Test.YtbanjoflgoiegaaGreatPs35
import Derived.Test.YtbanjoflgoiegaaGreatPs31
namespace Go.Proofs.YtbanjoflgoiegaaGreat
open Go.RowKit

def Cr.OneOf (w:World) (gE:Nat) (E:Nat→Nat→Int) (e:Ending) (w':World):Prop :=
 ∃j cap,e=.returned (.slice (some ⟨j,0,none⟩) 32 cap)∧32≤cap∧(j=gE∨w.heap.size≤j)∧Own w' j 32 E∧w.grownBy w' none

def Cr.kingQ (E:Nat→Nat→Int):Nat→Bool:=fun i=>decide (E i 0=1)

theorem Cr.king_manned {E:Nat→Nat→Int} (h:Cr.Seats E):decide (0≤En.first (Cr.kingQ E) 32)=Cr.manned E:=by
 unfold Cr.manned
 rcases En.first_cases (Cr.kingQ E) 32 with ⟨he,hno⟩ | ⟨k,hk,he,hq,_⟩
 ·rw [he]
  refine (decide_eq_false (by omega)).trans (decide_eq_false ?_).symm
  rintro ⟨t,_,h0⟩
  obtain ⟨k,hk,_,_,k1⟩:=Gd.hero_pos h0
  have:=hno k hk
  simp [Cr.kingQ,k1] at this
 ·rw [he]
  refine (decide_eq_true (by omega)).trans (decide_eq_true ?_).symm
  have k1:E k 0=1:=by simpa [Cr.kingQ] using hq
  have hs:=h.seat k hk k1
  refine ⟨(E k 2).toNat,by omega,?_⟩
  unfold Gd.hero
  rcases En.first_cases (En.heroQ E ((E k 2).toNat:Int)) 32 with ⟨_,hno⟩ | ⟨j,_,hj,_⟩
  ·have:=hno k hk
   rw [Int.toNat_of_nonneg hs.1] at this
   simp [En.heroQ,k1] at this
  ·omega

set_option maxHeartbeats 1600000 in
theorem cIndexFunc_any (gE cE:Nat) (E:Nat→Nat→Int) (w:World) (hE:Own w gE 32 E) :
  Calls Tryz.prog 110 #[.slice (some ⟨gE,0,none⟩) 32 cE,.func (.func 71) #[] #[]] w (Says w (.int .i64 (En.first (Cr.kingQ E) 32))):=by
 have hit:Hid (∀k:Nat,(∀j,j<k→Cr.kingQ E j=false)→Cr.kingQ E k=true→k<32→En.first (Cr.kingQ E) 32=(k:Int)):=fun k h1 h2 h3=>En.first_hit h1 h2 h3
 have hnone:Hid ((∀j,j<32→Cr.kingQ E j=false)→En.first (Cr.kingQ E) 32=-1):=fun h=>En.first_none h
 obtain ⟨r,hr⟩:∃r,En.first (Cr.kingQ E) 32=r:=⟨_,rfl⟩
 rw [hr] at hit hnone ⊢
 have hE':=hide hE
 clear hr hE
 go_enter Tryz.func110,Tryz.ntmps110
 go_wp2_with fail
 go_loopw [8] (fun v8 wr=>∃k:Nat,k≤32∧v8=.int .i64 (k:Int)∧Hid (∀j,j<k→Cr.kingQ E j=false)∧Hid (w.grownBy wr none)) (fun v8 _=>40 - (intOf v8).toNat)
 case atStart=>exact ⟨0,by omega,rfl,fun j hj=>by omega,World.grownBy.refl _ _⟩
 case round =>
  obtain ⟨k,hk,rfl,hno,hg⟩:=hrel
  by_cases hlt:k<32
  ·have hlt':(k:Int)<32:=by omega
   have HL:=hide hlt
   obtain ⟨u0,u1,u2,u3,u4,u5,u6,u7,u8,u9,u10⟩:=((uh hE').on (uh hg)).ents.row hlt
   have ch:=hide (cIsHero_any (E k) wr)
   have hq:Hid (Cr.kingQ E k=decide (E k 0=1)):=rfl
   obtain ⟨d,hd⟩:∃d,decide (E k 0=1)=d:=⟨_,rfl⟩
   rw [hd] at ch hq
   unfold En.cells at ch
   clear hd hlt hk
   go_wp2_with fail
   refine (uh ch).mono ?_
   rintro e w1 ⟨rfl,hg1⟩
   have hg2:=hide (gtr (uh hg) hg1)
   clear hg1 ch u0 u1 u2 u3 u4 u5 u6 u7 u8 u9 u10
   cases d
   ·have hno2:Hid (∀j,j<k+1→Cr.kingQ E j=false):=fun j hj=>by
     by_cases e:j=k
     ·rw [e];exact uh hq
     ·exact uh hno j (by omega)
    go_wp2
    go_roundw
    case rel=>exact ⟨k+1,by have:=uh HL;omega,by go_num,hno2,hg2⟩
    case measure=>simp [intOf];have:=uh HL;omega
   ·obtain rfl:=uh hit k (uh hno) (uh hq) (uh HL)
    go_wp2
    go_ret
    exact ⟨rfl,uh hg2⟩
  ·obtain rfl:k=32:=by omega
   have hge:¬((32:Nat):Int)<32:=by omega
   obtain rfl:=uh hnone (uh hno)
   clear hlt hk
   go_wp2
   go_ret
   exact ⟨rfl,uh hg⟩

set_option maxHeartbeats 800000 in
theorem cContains_any (gE cE:Nat) (E:Nat→Nat→Int) (w:World) (hE:Own w gE 32 E) (hs:Cr.Seats E) :
  Calls Tryz.prog 70 #[.slice (some ⟨gE,0,none⟩) 32 cE,.func (.func 71) #[] #[]] w (Says w (.bool (Cr.manned E))):=by
 have ci:=hide (cIndexFunc_any gE cE E w hE)
 have hm:=Cr.king_manned hs
 obtain ⟨r,hr⟩:∃r,En.first (Cr.kingQ E) 32=r:=⟨_,rfl⟩
 rw [hr] at ci hm
 rw [←hm]
 clear hm hr hE hs
 go_enter Tryz.func70,Tryz.ntmps70
 go_wp2_with fail
 refine (uh ci).mono ?_
 rintro e w1 ⟨rfl,hg⟩
 have hg':=hide hg
 clear hg ci
 go_wp2
 go_ret
 exact ⟨rfl,uh hg'⟩

def Cr.More (w:World) (a:Option Addr) (n:Nat) (es:List (Nat→Int)):Prop:=n=es.length∧n≤40∧∀i e,es[i]?=some e→(1≤e 0∧e 0≤4)∧∃b,a=some ⟨b,0,none⟩∧b<w.heap.size∧∀j,j<11→w.cell? ⟨b,i*11+j,none⟩=some (.int .i64 (e j))

theorem Cr.More.on {w w':World} {a:Option Addr} {n:Nat} {es:List (Nat→Int)} (h:Cr.More w a n es) (hg:w.grownBy w' none):Cr.More w' a n es :=
 ⟨h.1,h.2.1,fun i p hp=>by
  obtain ⟨hk,b,ha,hb,hc⟩:=h.2.2 i p hp
  exact ⟨hk,b,ha,Nat.lt_of_lt_of_le hb hg.size,fun j hj=>(gce hg b _ hb (by simp)).trans (hc j hj)⟩⟩

def Cr.joinAll (E:Nat→Nat→Int) (es:List (Nat→Int)):Nat→Nat→Int:=es.foldl (fun E e=>if En.first (En.atQ E (e 3) (e 4)) 32<0 then Cr.join E e else E) E

theorem Cr.join_more (E:Nat→Nat→Int) {es:List (Nat→Int)} {i:Nat} {p:Nat→Int} (h:es[i]?=some p):Cr.joinAll E (es.take (i+1))=if En.first (En.atQ (Cr.joinAll E (es.take i)) (p 3) (p 4)) 32<0 then Cr.join (Cr.joinAll E (es.take i)) p else Cr.joinAll E (es.take i):=by
 unfold Cr.joinAll
 rw [List.take_add_one,h,List.foldl_append]
 rfl

theorem Cr.gens_join {E:Nat→Nat→Int} (h:En.Gens 32 E) (e:Nat→Int):En.Gens 32 (Cr.join E e):=by
 unfold Cr.join
 split
 ·intro i hi
  by_cases x:i=(En.first (En.freeQ E) 32).toNat
  ·rw [x,En.put_same]
   unfold En.gen
   rw [if_pos rfl]
   omega
  ·rw [En.put_other x]
   exact h i hi
 ·exact h

theorem Cr.gens_all:∀(es:List (Nat→Int)) {E:Nat→Nat→Int},En.Gens 32 E→En.Gens 32 (Cr.joinAll E es)
 | [],_,h=>h
 | e :: es,E,h=>by
  refine Cr.gens_all es (E:=if En.first (En.atQ E (e 3) (e 4)) 32<0 then Cr.join E e else E) ?_
  split
  ·exact Cr.gens_join h e
  ·exact h

theorem Cr.spawn_key (gE cE:Nat) (E:Nat→Nat→Int) (e:Nat→Int) (w:World) (hE:Own w gE 32 E) (hcE:32≤cE) (hG:En.Gens 32 E) (hk:1≤e 0∧e 0≤4) :
  (Cr.join E e=E∧Calls Tryz.prog 103 #[.slice (some ⟨gE,0,none⟩) 32 cE,.agg (En.cells e)] w (Says w (.tuple #[.slice none 0 0,.int .i64 0,.int .i64 5])))∨∃f:Nat,Calls Tryz.prog 103 #[.slice (some ⟨gE,0,none⟩) 32 cE,.agg (En.cells e)] w (Spawns w 32 (Cr.join E e) f):=by
 rcases En.first_cases (En.freeQ E) 32 with ⟨he,_⟩ | ⟨f,hf,he,_,_⟩
 ·refine .inl ⟨?_,spawn_full gE 32 cE E e w hE.ents hcE hk he⟩
  unfold Cr.join
  rw [he,if_neg (by omega)]
 ·refine .inr ⟨f,?_⟩
  have hj:Cr.join E e=En.put E f (En.gen e ((E f 1+1) % 256)):=by
   unfold Cr.join
   rw [he,if_pos (by omega),Int.toNat_natCast]
  rw [hj]
  exact spawn_some gE 32 cE f E e w hE.ents hcE hk he hf hG

set_option maxRecDepth 8000 in
set_option maxHeartbeats 6400000 in
theorem cJoined_any (gE cE n k:Nat) (a:Option Addr) (E:Nat→Nat→Int) (es:List (Nat→Int)) (w:World) (hE:Own w gE 32 E) (hcE:32≤cE) (hG:En.Gens 32 E) (hM:Cr.More w a n es) :
  Calls Tryz.prog 54 #[.slice (some ⟨gE,0,none⟩) 32 cE,.slice a n k] w (Cr.OneOf w gE (Cr.joinAll E es)):=by
 have hM':=hide hM
 have hG':=hide hG
 have hH:Hid (Own w gE 32 (Cr.joinAll E (es.take 0))):=hE
 have hcE':=hide hcE
 have hn':=hide hM.1
 have hn40:=hM.2.1
 clear hE hcE hG hM
 go_enter Tryz.func54,Tryz.ntmps54
 go_wp2_with fail
 go_loopw [0,12] (fun v0 v12 wr=>∃(i j d:Nat),i≤n∧v12=.int .i64 (i:Int)∧v0=.slice (some ⟨j,0,none⟩) 32 d∧Hid (32≤d)∧Hid (j=gE∨w.heap.size≤j)∧Hid (Own wr j 32 (Cr.joinAll E (es.take i)))∧Hid (w.grownBy wr none)) (fun _ v12 _=>50 - (intOf v12).toNat)
 case atStart=>exact ⟨0,gE,cE,by omega,rfl,rfl,hcE',.inl rfl,hH,World.grownBy.refl _ _⟩
 case round =>
  clear hH hcE'
  obtain ⟨i,j,d,hi,rfl,rfl,hd,hj,hH,hg⟩:=hrel
  by_cases hlt:i<n
  ·have hlt':(i:Int)<(n:Int):=by omega
   have HL:=hide hlt
   obtain ⟨p,hp⟩:∃p,es[i]?=some p:=⟨es[i]'(by have:=uh hn';omega),List.getElem?_eq_getElem _⟩
   obtain ⟨hk,b,rfl,hb,hcl⟩:=((uh hM').on (uh hg)).2.2 i p hp
   have hmore:=hide (Cr.join_more E hp)
   have hgs:=hide (Cr.gens_all (es.take i) (uh hG'))
   obtain ⟨F,hF⟩:∃F,Cr.joinAll E (es.take i)=F:=⟨_,rfl⟩
   rw [hF] at hH hmore hgs
   have HK:=hide hk
   have r0:=hcl 0 (by omega)
   have r1:=hcl 1 (by omega)
   have r2:=hcl 2 (by omega)
   have r3:=hcl 3 (by omega)
   have r4:=hcl 4 (by omega)
   have r5:=hcl 5 (by omega)
   have r6:=hcl 6 (by omega)
   have r7:=hcl 7 (by omega)
   have r8:=hcl 8 (by omega)
   have r9:=hcl 9 (by omega)
   have r10:=hcl 10 (by omega)
   rw [Nat.add_zero] at r0
   obtain ⟨w0,hw0⟩:∃w0,w0=wr.alloc (.cells (En.cells p) 54):=⟨_,rfl⟩
   have hg0:Hid (wr.grownBy w0 none):=by rw [hw0];exact World.grownBy_alloc _ _ _
   have hQ:Hid (Lie w0 wr.heap.size 54 11 (Ints p)):=by rw [hw0];exact Lie.copied _ _ _
   have hH0:=hide ((uh hH).on (uh hg0))
   have ca:=hide (entAt_any j 32 d F (p 3) (p 4) w0 (uh hH0).ents (uh hd))
   unfold En.cells at hw0
   clear hlt hi hk hb hcl hp hF hH
   go_upto_region 4 with fail
   rw [←hw0]
   clear hw0 r0 r1 r2 r3 r4 r5 r6 r7 r8 r9 r10
   obtain ⟨B,hB⟩:∃B,wr.heap.size=B:=⟨_,rfl⟩
   rw [hB] at hQ ⊢
   clear hB
   obtain ⟨z,hz⟩:∃z,En.first (En.atQ F (p 3) (p 4)) 32=z:=⟨_,rfl⟩
   rw [hz] at ca hmore
   clear hz
   have e3:=(uh hQ).ent.2.2.2.1
   have e4:=(uh hQ).ent.2.2.2.2.1
   go_wp2_with fail
   refine (uh ca).mono ?_
   rintro e w1 ⟨rfl,hg1⟩
   have hH1:=hide ((uh hH0).on hg1)
   have hQ1:=hide ((uh hQ).on hg1)
   have hg2:=hide (gtr (uh hg) (gtr (uh hg0) hg1))
   clear hg1 ca e3 e4 hH0 hQ hg0 hg
   by_cases hneg:z<0
   ·have hnge:¬z≥0:=by omega
    have hnx:Hid (Cr.joinAll E (es.take (i+1))=Cr.join F p):=(uh hmore).trans (if_pos hneg)
    obtain ⟨e0,e1,e2,e3,e4,e5,e6,e7,e8,e9,e10⟩:=(uh hQ1).ent
    have key:=hide (Cr.spawn_key j d F p w1 (uh hH1) (uh hd) (uh hgs) (uh HK))
    clear hneg hmore
    unfold En.cells at key
    rcases uh key with ⟨hsame,cs⟩ | ⟨f,cs⟩
    ·have cs':=hide cs
     have hH2:Hid (Own w1 j 32 (Cr.joinAll E (es.take (i+1)))):=by
      show Own w1 j 32 (Cr.joinAll E (es.take (i+1)))
      rw [uh hnx,hsame]
      exact uh hH1
     clear cs key hsame
     go_wp2_with fail
     refine (uh cs').mono ?_
     rintro e w2 ⟨rfl,hg3⟩
     have hH3:=hide ((uh hH2).on hg3)
     have hg4:=hide (gtr (uh hg2) hg3)
     clear hg3 cs' e0 e1 e2 e3 e4 e5 e6 e7 e8 e9 e10
     go_wp2
     go_roundw
     case rel=>exact ⟨i+1,j,d,by have:=uh HL;omega,by go_num,rfl,hd,hj,hH3,hg4⟩
     case measure=>simp [intOf];have:=uh HL;omega
    ·have cs':=hide cs
     clear cs key
     go_wp2_with fail
     refine (uh cs').mono ?_
     rintro e w2 ⟨j2,d2,rfl,hlo,hnc,hcm,hown,hg3⟩
     have hH3:Hid (Own w2 j2 32 (Cr.joinAll E (es.take (i+1)))):=by
      show Own w2 j2 32 (Cr.joinAll E (es.take (i+1)))
      rw [uh hnx]
      exact hown
     have hg4:=hide (gtr (uh hg2) hg3)
     have hd2:=hide hnc
     have hj2:Hid (j2=gE∨w.heap.size≤j2):=.inr (Nat.le_trans (uh hg2).size hlo)
     clear hlo hnc hcm hown hg3 cs' e0 e1 e2 e3 e4 e5 e6 e7 e8 e9 e10
     go_wp2
     go_roundw
     case rel=>exact ⟨i+1,j2,d2,by have:=uh HL;omega,by go_num,rfl,hd2,hj2,hH3,hg4⟩
     case measure=>simp [intOf];have:=uh HL;omega
   ·have hge:z≥0:=by omega
    have hH2:Hid (Own w1 j 32 (Cr.joinAll E (es.take (i+1)))):=by
     show Own w1 j 32 (Cr.joinAll E (es.take (i+1)))
     rw [uh hmore,if_neg hneg]
     exact uh hH1
    clear hneg hmore
    go_wp2
    go_roundw
    case rel=>exact ⟨i+1,j,d,by have:=uh HL;omega,by go_num,rfl,hd,hj,hH2,hg2⟩
    case measure=>simp [intOf];have:=uh HL;omega
  ·obtain rfl:i=n:=by omega
   have hge:¬(i:Int)<(i:Int):=by omega
   have hfin:Hid (Cr.OneOf w gE (Cr.joinAll E es) (.returned (.slice (some ⟨j,0,none⟩) 32 d)) wr):=by
    refine ⟨j,d,rfl,uh hd,uh hj,?_,uh hg⟩
    have h:=uh hH
    rwa [List.take_of_length_le (by have:=uh hn';omega)] at h
   clear hlt hi
   go_wp2
   go_ret
   exact uh hfin

def Cr.kingsTo (E:Nat→Nat→Int) (k:Nat):Nat→Nat→Int:=fun i=>if i<k∧E i 0≠0∧E i 0≠1 then En.hole (E i 1) else E i

theorem Cr.kings_yes {E:Nat→Nat→Int} {k:Nat} (h:E k 0≠0∧E k 0≠1):En.put (Cr.kingsTo E k) k (En.hole (Cr.kingsTo E k k 1))=Cr.kingsTo E (k+1):=by
 have hk:Cr.kingsTo E k k=E k:=if_neg (by omega)
 funext i
 by_cases e:i=k
 ·rw [e,En.put_same,hk]
  exact (if_pos ⟨by omega,h⟩).symm
 ·rw [En.put_other e]
  unfold Cr.kingsTo
  by_cases c:E i 0≠0∧E i 0≠1
  ·by_cases l:i<k
   ·rw [if_pos ⟨l,c⟩,if_pos ⟨by omega,c⟩]
   ·rw [if_neg (by omega),if_neg (by omega)]
  ·rw [if_neg (fun h=>c h.2),if_neg (fun h=>c h.2)]

theorem Cr.kings_no {E:Nat→Nat→Int} {k:Nat} (h:¬(E k 0≠0∧E k 0≠1)):Cr.kingsTo E k=Cr.kingsTo E (k+1):=by
 funext i
 unfold Cr.kingsTo
 by_cases c:E i 0≠0∧E i 0≠1
 ·by_cases l:i<k
  ·rw [if_pos ⟨l,c⟩,if_pos ⟨by omega,c⟩]
  ·have:i≠k:=fun e=>h (e ▸ c)
   rw [if_neg (by omega),if_neg (by omega)]
 ·rw [if_neg (fun h=>c h.2),if_neg (fun h=>c h.2)]

set_option maxRecDepth 8000 in
set_option maxHeartbeats 3200000 in
theorem cOnlyHeroes_any (gE cE:Nat) (E:Nat→Nat→Int) (w:World) (hE:Own w gE 32 E) (hcE:32≤cE) :
  Calls Tryz.prog 56 #[.slice (some ⟨gE,0,none⟩) 32 cE] w (Cr.OneOf w gE (Cr.kingsTo E 32)):=by
 have hE':=hide hE
 have hcE':=hide hcE
 have hH:Hid (Own w gE 32 (Cr.kingsTo E 0)):=hE.congr fun i j _ _=>by unfold Cr.kingsTo;rw [if_neg (by omega)]
 clear hE hcE
 go_enter Tryz.func56,Tryz.ntmps56
 go_wp2_with fail
 go_loopw [0,7] (fun v0 v7 wr=>∃(i j d:Nat),i≤32∧v7=.int .i64 (i:Int)∧v0=.slice (some ⟨j,0,none⟩) 32 d∧Hid (32≤d)∧Hid (j=gE∨w.heap.size≤j)∧Hid (Own wr j 32 (Cr.kingsTo E i))∧Hid (w.grownBy wr none)) (fun _ v7 _=>50 - (intOf v7).toNat)
 case atStart=>exact ⟨0,gE,cE,by omega,rfl,rfl,hcE',.inl rfl,hH,World.grownBy.refl _ _⟩
 case round =>
  clear hH hcE'
  obtain ⟨i,j,d,hi,rfl,rfl,hd,hj,hH,hg⟩:=hrel
  by_cases hlt:i<32
  ·have hlt':(i:Int)<32:=by omega
   have HL:=hide hlt
   obtain ⟨r0,r1,r2,r3,r4,r5,r6,r7,r8,r9,r10⟩:=((uh hE').on (uh hg)).ents.row hlt
   obtain ⟨w0,hw0⟩:∃w0,w0=wr.alloc (.cells (En.cells (E i)) 54):=⟨_,rfl⟩
   have hg0:Hid (wr.grownBy w0 none):=by rw [hw0];exact World.grownBy_alloc _ _ _
   have hQ:Hid (Lie w0 wr.heap.size 54 11 (Ints (E i))):=by rw [hw0];exact Lie.copied _ _ _
   have hH0:=hide ((uh hH).on (uh hg0))
   have cm:=hide (cIsMonster_any (E i) w0)
   have hyes:=hide (Cr.kings_yes (E:=E) (k:=i))
   have hno:=hide (Cr.kings_no (E:=E) (k:=i))
   unfold En.cells at hw0 cm
   clear hlt hi hH
   go_upto_region 4 with fail
   rw [←hw0]
   clear hw0 r0 r1 r2 r3 r4 r5 r6 r7 r8 r9 r10
   obtain ⟨B,hB⟩:∃B,wr.heap.size=B:=⟨_,rfl⟩
   rw [hB] at hQ ⊢
   clear hB
   obtain ⟨e0,e1,e2,e3,e4,e5,e6,e7,e8,e9,e10⟩:=(uh hQ).ent
   by_cases hc:E i 0≠0∧E i 0≠1
   ·have hb:decide (E i 0≠0∧E i 0≠1)=true:=decide_eq_true hc
    rw [hb] at cm
    have he:=hide (uh hyes hc)
    clear hc hb hyes hno
    go_wp2_with fail
    refine (uh cm).mono ?_
    rintro e w1 ⟨rfl,hg1⟩
    have cf:=hide (free_in j 32 d i (Cr.kingsTo E i) w1 ((uh hH0).on hg1).ents (uh hd) (uh HL))
    have hg2:=hide (gtr (uh hg) (gtr (uh hg0) hg1))
    rw [uh he] at cf
    clear hg1 cm e0 e1 e2 e3 e4 e5 e6 e7 e8 e9 e10 hH0 hQ hg0 hg he
    go_wp2_with fail
    refine (uh cf).mono ?_
    rintro e w2 ⟨j2,d2,rfl,hlo,hnc,hcm,hown,hg3⟩
    have hH3:=hide hown
    have hg4:=hide (gtr (uh hg2) hg3)
    have hd2:=hide hnc
    have hj2:Hid (j2=gE∨w.heap.size≤j2):=.inr (Nat.le_trans (uh hg2).size hlo)
    clear hlo hnc hcm hown hg3 cf
    go_wp2
    go_roundw
    case rel=>exact ⟨i+1,j2,d2,by have:=uh HL;omega,by go_num,rfl,hd2,hj2,hH3,hg4⟩
    case measure=>simp [intOf];have:=uh HL;omega
   ·have hb:decide (E i 0≠0∧E i 0≠1)=false:=decide_eq_false hc
    rw [hb] at cm
    have he:=hide (uh hno hc)
    clear hc hb hyes hno
    go_wp2_with fail
    refine (uh cm).mono ?_
    rintro e w1 ⟨rfl,hg1⟩
    have hg2:=hide (gtr (uh hg) (gtr (uh hg0) hg1))
    have hH2:Hid (Own w1 j 32 (Cr.kingsTo E (i+1))):=by
     show Own w1 j 32 (Cr.kingsTo E (i+1))
     rw [←uh he]
     exact (uh hH0).on hg1
    clear hg1 cm e0 e1 e2 e3 e4 e5 e6 e7 e8 e9 e10 hH0 hQ hg0 hg he
    go_wp2
    go_roundw
    case rel=>exact ⟨i+1,j,d,by have:=uh HL;omega,by go_num,rfl,hd,hj,hH2,hg2⟩
    case measure=>simp [intOf];have:=uh HL;omega
  ·obtain rfl:i=32:=by omega
   have hge:¬((32:Nat):Int)<32:=by omega
   have hfin:Hid (Cr.OneOf w gE (Cr.kingsTo E 32) (.returned (.slice (some ⟨j,0,none⟩) 32 d)) wr):=⟨j,d,rfl,uh hd,uh hj,uh hH,uh hg⟩
   clear hlt hi
   go_wp2
   go_ret
   exact uh hfin

end Go.Proofs.YtbanjoflgoiegaaGreat
