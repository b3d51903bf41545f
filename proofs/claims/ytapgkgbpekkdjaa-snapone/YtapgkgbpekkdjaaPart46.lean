import Derived.Test.YtapgkgbpekkdjaaPart45
namespace Go.Proofs.Ytapgkgbpekkdjaa
open Go.RowKit

def Sn.Tells (v:Value) (p:Int × Int):Prop :=
 (∃s g,v=Sn.hdV s g∧p=(0,0))∨(∃G,v=Sn.clV G∧p=(1,0))∨(∃n e,v=Sn.enV n e∧p=(2,(n:Int)))∨∃n e,v=Sn.itV n e∧p=(3,(n:Int))

theorem told_any {v:Value} {p:Int × Int} (h:Sn.Tells v p) (w:World):Calls Try.prog 38 #[v] w (Says w (.agg #[.int .i64 p.1,.int .i64 p.2])):=by
 rcases h with ⟨s,g,rfl,rfl⟩ | ⟨G,rfl,rfl⟩ | ⟨n,e,rfl,rfl⟩ | ⟨n,e,rfl,rfl⟩
 ·exact told_hd s g w
 ·exact told_cl G w
 ·exact told_en n e w
 ·exact told_it n e w

def Sn.rwH (b:Bool):List (Int × Int):=if b=true then [] else [(0,0)]
def Sn.rwC (b:Bool):List (Int × Int):=if b=true then [] else [(1,0)]
def Sn.rwE (q:Nat→Bool):Nat→List (Int × Int)
 | 0=>[]
 | k+1=>Sn.rwE q k ++ if q k=true then [] else [(2,(k:Int))]
def Sn.rwI (q:Nat→Bool):Nat→List (Int × Int)
 | 0=>[]
 | k+1=>Sn.rwI q k ++ if q k=true then [] else [(3,(k:Int))]

def Sn.rw (s t g h c d:Nat→Int) (E F I J:Nat→Nat→Int):List (Int × Int) :=
 Sn.rwH (Sn.sameH s t g h) ++ Sn.rwC (Sn.allB (fun i=>c i == d i) 384) ++ Sn.rwE (fun i=>Sn.sameE (E i) (F i)) 32 ++ Sn.rwI (fun i=>Sn.sameI (I i) (J i)) 40

def Sn.Both (l:List Value) (P:List (Int × Int)):Prop:=l.length=P.length∧∀(k:Nat) (v:Value),l[k]?=some v→∃p,P[k]?=some p∧Sn.Tells v p

theorem Sn.Both.append {l m:List Value} {P Q:List (Int × Int)} (h:Sn.Both l P) (k:Sn.Both m Q):Sn.Both (l ++ m) (P ++ Q):=by
 refine ⟨by rw [List.length_append,List.length_append,h.1,k.1],fun i v hv=>?_⟩
 by_cases hi:i<l.length
 ·rw [List.getElem?_append_left hi] at hv
  rw [List.getElem?_append_left (by rw [←h.1];exact hi)]
  exact h.2 i v hv
 ·rw [List.getElem?_append_right (by omega)] at hv
  rw [List.getElem?_append_right (by rw [←h.1];omega),←h.1]
  exact k.2 _ v hv

theorem Sn.both_nil:Sn.Both [] []:=⟨rfl,fun k v hv=>by simp at hv⟩

theorem Sn.both_one {v:Value} {p:Int × Int} (h:Sn.Tells v p):Sn.Both [v] [p]:=by
 refine ⟨rfl,fun k u hu=>?_⟩
 have hk:k=0:=by
  have:=(List.getElem?_eq_some_iff.1 hu).1
  simpa using this
 subst hk
 simp at hu
 subst hu
 exact ⟨p,rfl,h⟩

theorem Sn.both_all (s t g h c d:Nat→Int) (E F I J:Nat→Nat→Int) (G:Nat):Sn.Both (Sn.chH s t g h ++ Sn.chC (Sn.allB (fun i=>c i == d i) 384) G ++ Sn.chE E F 32 ++ Sn.chI I J 40) (Sn.rw s t g h c d E F I J):=by
 have hE:∀k,Sn.Both (Sn.chE E F k) (Sn.rwE (fun i=>Sn.sameE (E i) (F i)) k):=by
  intro k
  induction k with
  | zero=>exact Sn.both_nil
  | succ k ih =>
   refine ih.append ?_
   by_cases q:Sn.sameE (E k) (F k)=true
   ·rw [if_pos q,if_pos q]
    exact Sn.both_nil
   ·rw [if_neg q,if_neg q]
    exact Sn.both_one (.inr (.inr (.inl ⟨k,E k,rfl,rfl⟩)))
 have hI:∀k,Sn.Both (Sn.chI I J k) (Sn.rwI (fun i=>Sn.sameI (I i) (J i)) k):=by
  intro k
  induction k with
  | zero=>exact Sn.both_nil
  | succ k ih =>
   refine ih.append ?_
   by_cases q:Sn.sameI (I k) (J k)=true
   ·rw [if_pos q,if_pos q]
    exact Sn.both_nil
   ·rw [if_neg q,if_neg q]
    exact Sn.both_one (.inr (.inr (.inr ⟨k,I k,rfl,rfl⟩)))
 refine ((Sn.Both.append ?_ ?_).append (hE 32)).append (hI 40)
 ·unfold Sn.chH Sn.rwH
  split
  ·exact Sn.both_nil
  ·exact Sn.both_one (.inl ⟨s,g,rfl,rfl⟩)
 ·unfold Sn.chC Sn.rwC
  split
  ·exact Sn.both_nil
  ·exact Sn.both_one (.inr (.inl ⟨G,rfl,rfl⟩))

def Sn.prs (P:List (Int × Int)) (k:Nat):Nat→Value:=fun j=>if j<2*k then .int .i64 (if j % 2=0 then (P.getD (j / 2) (0,0)).1 else (P.getD (j / 2) (0,0)).2) else .int .i64 0

def Sn.Gives (w:World) (P:List (Int × Int)) (e:Ending) (w':World):Prop :=
 ∃R,e=.returned (.slice (some ⟨R,0,none⟩) P.length P.length)∧w.heap.size≤R∧Lie w' R 42 (P.length*2) (Sn.prs P P.length)∧w.grownBy w' none

theorem Sn.prs_more {P:List (Int × Int)} {k:Nat} {p:Int × Int} (hp:P[k]?=some p) (j:Nat):(if j=k*2+1 then Value.int .i64 p.2 else if j=k*2 then .int .i64 p.1 else Sn.prs P k j)=Sn.prs P (k+1) j:=by
 have hd:P.getD k (0,0)=p:=by rw [List.getD,hp];rfl
 unfold Sn.prs
 by_cases h1:j=k*2+1
 ·rw [if_pos h1,if_pos (show j<2*(k+1) by omega),if_neg (show ¬j % 2=0 by omega),show j / 2=k by omega,hd]
 ·rw [if_neg h1]
  by_cases h0:j=k*2
  ·rw [if_pos h0,if_pos (show j<2*(k+1) by omega),if_pos (show j % 2=0 by omega),show j / 2=k by omega,hd]
  ·rw [if_neg h0]
   by_cases h2:j<2*k
   ·rw [if_pos h2,if_pos (show j<2*(k+1) by omega)]
   ·rw [if_neg h2,if_neg (show ¬j<2*(k+1) by omega)]

theorem Sn.made2 (n c:Nat) (hc:c<n*2):(madeCells (#[Value.int .i64 0,Value.int .i64 0]:Array Value) (n*2))[c]?=some (.int .i64 0):=by
 have hm:c % 2<2:=by omega
 obtain ⟨m,hmm⟩:∃m,m=c % 2:=⟨_,rfl⟩
 unfold madeCells
 simp [hc]
 rw [←hmm] at hm ⊢
 rcases (show m=0∨m=1 by omega) with rfl | rfl <;> rfl

theorem info_row:(Try.prog.info? 42).map (fun i=>(i.zero,i.size,i.bytes))=some (some (.agg #[.int .i64 0,.int .i64 0]),2,16):=by kernel_rfl

set_option maxRecDepth 8000 in
set_option maxHeartbeats 6400000 in
theorem snRows_any (s t g h c d:Nat→Int) (E F I J:Nat→Nat→Int) (gC gE gI cC cE cI jC jE jI dC dE dI:Nat) (w:World) (hL:Gd.Lists w gC gE gI c E I) (hL2:Gd.Lists w jC jE jI d F J) :
  Calls Try.prog 14 #[.agg (Gd.world s gC gE gI cC cE cI g),.agg (Gd.world t jC jE jI dC dE dI h)] w (Sn.Gives w (Sn.rw s t g h c d E F I J)):=by
 obtain ⟨W0,hW⟩:∃W,W=(w.alloc (.cells (Gd.world s gC gE gI cC cE cI g) 29)).alloc (.cells (Gd.world t jC jE jI dC dE dI h) 29):=⟨_,rfl⟩
 have hg:w.grownBy W0 none:=by rw [hW];exact gal (World.grownBy_alloc _ _ _) _
 have x1:Lie W0 w.heap.size 29 11 (Gd.box s gC gE gI cC cE cI g):=by
  rw [hW]
  exact ((Arr.world (heap_alloc_new w _)).alloc _).lie
 have x2:Lie W0 (w.heap.size+1) 29 11 (Gd.box t jC jE jI dC dE dI h):=by
  rw [hW]
  have hh:=heap_alloc_new (w.alloc (.cells (Gd.world s gC gE gI cC cE cI g) 29)) (.cells (Gd.world t jC jE jI dC dE dI h) 29)
  rw [show (w.alloc (.cells (Gd.world s gC gE gI cC cE cI g) 29)).heap.size=w.heap.size+1 by simp] at hh
  exact (Arr.world hh).lie
 obtain ⟨B,hB⟩:∃B,w.heap.size=B:=⟨_,rfl⟩
 rw [hB] at x1 x2
 have cc:=hide (changed_any s t g h c d E F I J gC gE gI cC cE cI jC jE jI dC dE dI W0 (hL.on hg) (hL2.on hg))
 have hg':=hide hg
 have hall:=hide (fun G=>Sn.both_all s t g h c d E F I J G)
 obtain ⟨P,hP⟩:∃P,Sn.rw s t g h c d E F I J=P:=⟨_,rfl⟩
 rw [hP] at hall ⊢
 have hPl:Hid (P.length≤74):=by
  have hb:=(uh hall 0).1
  have q1:=Sn.chH_len s t g h
  have q2:=Sn.chC_len (Sn.allB (fun i=>c i == d i) 384) 0
  have q3:=Sn.chE_len E F 32
  have q4:=Sn.chI_len I J 40
  simp only [List.length_append] at hb
  show P.length≤74
  omega
 obtain ⟨a0,a1,a2,a3,a4,a5,a6,a7,a8,a9,a10⟩:=x1.eleven
 obtain ⟨b0,b1,b2,b3,b4,b5,b6,b7,b8,b9,b10⟩:=x2.eleven
 clear hL hL2 hg x1 x2 hP
 unfold Gd.world at hW cc ⊢
 go_enter Try.func14,Try.ntmps14
 go_upto_region 1 with fail
 rw [←hW]
 clear hW hB
 go_wp2_with fail
 refine (uh cc).mono ?_
 rintro e w1 ⟨G,v,base,rfl,hbase,hown,-,hg1⟩
 have hbo:=uh hall G
 obtain ⟨l,hl⟩:∃l,Sn.chH s t g h ++ Sn.chC (Sn.allB (fun i=>c i == d i) 384) G ++ Sn.chE E F 32 ++ Sn.chI I J 40=l:=⟨_,rfl⟩
 rw [hl] at hown hbo
 have hbo':=hide hbo
 have hown':=hide hown
 have hn:=hbo.1
 have hG1:=hide (gtr (uh hg') hg1)
 clear hl hown hbo hg1 cc hall a0 a1 a2 a3 a4 a5 a6 a7 a8 a9 a10 b0 b1 b2 b3 b4 b5 b6 b7 b8 b9 b10 hbase hg'
 obtain ⟨n,hne⟩:∃n,l.length=n:=⟨_,rfl⟩
 rw [hne] at hown' hn
 have HN:=hide hn
 have hn74:n≤74:=by rw [hn];exact uh hPl
 have hfm:∃a cap,v=.slice a n cap∧∀k,k<n→∃b,a=some ⟨b,0,none⟩∧b<w1.heap.size∧w1.cell? ⟨b,k,none⟩=l[k]?:=by
  rcases (uh hown').2 with ⟨rfl,h0⟩ | ⟨gg,cap,cur,rfl,_,hgg,_,_,_,_⟩
  ·exact ⟨none,0,by rw [h0],fun k hk=>by omega⟩
  ·exact ⟨_,cap,rfl,fun k hk=>⟨gg,rfl,lt_of_block hgg,by rw [(uh hown').cellAt k (by omega)]⟩⟩
 obtain ⟨a,cap,rfl,hcel⟩:=hfm
 have hcel':=hide hcel
 clear hcel hne hown' hn
 obtain ⟨i0,hi,hz0,hz1,hz2⟩:=info_parts info_row
 go_wp2_with (at_make;refine wpList_make_full _ rfl _ _ 48 rfl w1.heap.size 42 i0 (.agg #[.int .i64 0,.int .i64 0]) 2 Try.underlying48 hi hz0 hz1 .i64 .i64 _ _ n rfl rfl rfl rfl ?q3 ?q4 ?q5 ?_)
 any_goals (first | (rw [hz2];omega) | (unfold maxLen;omega) | exact Nat.le_refl _)
 intro w2 hown2 hgrow2
 obtain ⟨R,hR⟩:∃R,w1.heap.size=R:=⟨_,rfl⟩
 rw [hR] at hown2 ⊢
 have hX0:Hid (Lie w2 R 42 (n*2) (Sn.prs P 0)∧w1.grownBy w2 none):=by
  refine ⟨?_,hgrow2⟩
  rcases hown2.2 with ⟨h',_⟩ | ⟨g',cap',cur,h',_,hgg,_,_,hcs,htake⟩
  ·simp at h'
  ·simp only [Value.slice.injEq,Option.some.injEq,Addr.mk.injEq,and_true,true_and] at h'
   obtain ⟨rfl,rfl⟩:=h'
   refine ⟨cur.size,fun j=>cur[j]?.getD undef,Arr.lit hgg,by rw [hcs];omega,fun j hj=>?_⟩
   have e:=Sn.made2 n j hj
   rw [←Array.getElem?_toList,←htake,List.getElem?_take,if_pos hj,Array.getElem?_toList] at e
   show cur[j]?.getD undef=_
   rw [e]
   unfold Sn.prs
   rw [if_neg (by omega)]
   rfl
 have HR:=hide hR
 have hnR:Hid (w.heap.size≤R):=(show w.heap.size≤R by have:=(uh hG1).size;omega)
 have hn63:(n:Int)≤74:=by omega
 clear hown2 hgrow2 hi hz0 hz1 hz2 hR hn74
 go_wp2_with fail
 go_loopw [7,8,17] (fun v7 v8 v17 wr=>∃k:Nat,k≤n∧v17=.int .i64 (k:Int)∧Hid (Lie wr R 42 (n*2) (Sn.prs P k)∧w1.grownBy wr none)) (fun _ _ v17 _=>100 - (intOf v17).toNat)
 case atStart=>exact ⟨0,by omega,rfl,hX0⟩
 case round =>
  clear hX0
  obtain ⟨k,hk,rfl,hX⟩:=hrel
  by_cases hlt:k<n
  ·have hlt':(k:Int)<(n:Int):=by omega
   have HL:=hide hlt
   obtain ⟨b,rfl,hb,hc⟩:=uh hcel' k hlt
   have hlk:k<l.length:=by rw [(uh hbo').1,←uh HN];exact hlt
   obtain ⟨u,hu⟩:∃u,l[k]?=some u:=⟨_,List.getElem?_eq_getElem hlk⟩
   obtain ⟨p,hp,hT⟩:=(uh hbo').2 k u hu
   have u0:wr.cell? ⟨b,k,none⟩=some u:=by
    rw [gce (uh hX).2 b k hb (by simp),hc,hu]
   have ct:=hide (fun z=>told_any hT z)
   have HP:=hide hp
   clear hlt hk hb hc hlk hu hp hT
   go_wp2_with fail
   refine (uh ct _).mono ?_
   rintro e w3 ⟨rfl,hg3⟩
   have hX3:=hide (And.intro ((uh hX).1.on hg3) (gtr (uh hX).2 hg3))
   clear hg3 hX ct u0
   have fR:=(uh hX3).1.free
   have z0:=(uh hX3).1.cell (c:=k*2) (by have:=uh HL;omega)
   have z1:=(uh hX3).1.cell (c:=k*2+1) (by have:=uh HL;omega)
   have hX4:Hid (Lie ((w3.setCell ⟨R,k*2,none⟩ (.int .i64 p.1)).setCell ⟨R,k*2+1,none⟩ (.int .i64 p.2)) R 42 (n*2) (Sn.prs P (k+1))∧w1.grownBy ((w3.setCell ⟨R,k*2,none⟩ (.int .i64 p.1)).setCell ⟨R,k*2+1,none⟩ (.int .i64 p.2)) none):=by
    refine ⟨(((uh hX3).1.store (k*2) (.int .i64 p.1)).store (k*2+1) (.int .i64 p.2)).congr fun j _=>Sn.prs_more (uh HP) j,?_⟩
    exact gsr (gsr (uh hX3).2 ⟨R,k*2,none⟩ (by rw [uh HR];exact Nat.le_refl _) _) ⟨R,k*2+1,none⟩ (by rw [uh HR];exact Nat.le_refl _) _
   clear hX3
   go_wp2
   go_roundw
   case rel=>exact ⟨k+1,by have:=uh HL;omega,by go_num,hX4⟩
   case measure=>simp [intOf];have:=uh HL;omega
  ·obtain rfl:k=n:=by omega
   have hge:¬(k:Int)<(k:Int):=by omega
   have hfin:Hid (Sn.Gives w P (.returned (.slice (some ⟨R,0,none⟩) k k)) wr):=by
    have h:=uh hX
    have e:=uh HN
    show Sn.Gives w P (.returned (.slice (some ⟨R,0,none⟩) k k)) wr
    rw [e] at h ⊢
    exact ⟨R,rfl,uh hnR,h.1,gtr (uh hG1) h.2⟩
   clear hlt hk hX
   go_wp2
   go_ret
   exact uh hfin


open Go.RowKit

theorem Sn.bool_iff {a b:Bool} (h:a=true↔b=true):a=b:=by
 cases a <;> cases b <;> simp_all

theorem Sn.sameE_comm (e f:Nat→Int):Sn.sameE e f=Sn.sameE f e :=
 Sn.bool_iff (by rw [Sn.sameE_iff,Sn.sameE_iff];exact ⟨fun h j hj=>(h j hj).symm,fun h j hj=>(h j hj).symm⟩)

theorem Sn.sameI_comm (e f:Nat→Int):Sn.sameI e f=Sn.sameI f e :=
 Sn.bool_iff (by rw [Sn.sameI_iff,Sn.sameI_iff];exact ⟨fun h j hj=>(h j hj).symm,fun h j hj=>(h j hj).symm⟩)

theorem Sn.sameH_comm (s t g h:Nat→Int):Sn.sameH s t g h=Sn.sameH t s h g :=
 Sn.bool_iff (by rw [Sn.sameH_iff,Sn.sameH_iff];exact ⟨fun h=>⟨fun j hj=>(h.1 j hj).symm,fun j hj=>(h.2 j hj).symm⟩,fun h=>⟨fun j hj=>(h.1 j hj).symm,fun j hj=>(h.2 j hj).symm⟩⟩)

theorem Sn.rw_comm (s t g h c d:Nat→Int) (E F I J:Nat→Nat→Int):Sn.rw t s h g d c F E J I=Sn.rw s t g h c d E F I J:=by
 unfold Sn.rw
 rw [Sn.sameH_comm t s h g,show (fun i=>d i == c i)=(fun i=>c i == d i) from funext fun i=>Sn.bool_iff (by simp only [beq_iff_eq];exact eq_comm),show (fun i=>Sn.sameE (F i) (E i))=(fun i=>Sn.sameE (E i) (F i)) from funext fun i=>Sn.sameE_comm _ _,show (fun i=>Sn.sameI (J i) (I i))=(fun i=>Sn.sameI (I i) (J i)) from funext fun i=>Sn.sameI_comm _ _]

theorem Sn.rwE_none {q:Nat→Bool}:∀{n:Nat},(∀k,k<n→q k=true)→Sn.rwE q n=[]
 | 0,_=>rfl
 | n+1,h=>by
  show (Sn.rwE q n ++ if q n=true then [] else [(2,(n:Int))])=[]
  rw [Sn.rwE_none fun k hk=>h k (by omega),if_pos (h n (by omega))]
  rfl

theorem Sn.rwE_one {q:Nat→Bool} {k:Nat} (hq:q k=false):∀{n:Nat},k<n→(∀i,i<n→i≠k→q i=true)→Sn.rwE q n=[(2,(k:Int))]
 | 0,h,_=>absurd h (by omega)
 | n+1,h,ho=>by
  show (Sn.rwE q n ++ if q n=true then [] else [(2,(n:Int))])=_
  by_cases e:k=n
  ·subst e
   rw [Sn.rwE_none fun i hi=>ho i (by omega) (by omega),if_neg (by rw [hq];simp)]
   rfl
  ·rw [Sn.rwE_one hq (n:=n) (by omega) fun i hi hn=>ho i (by omega) hn,if_pos (ho n (by omega) (fun h=>e h.symm))]
   rfl

theorem Sn.rwI_none {q:Nat→Bool}:∀{n:Nat},(∀k,k<n→q k=true)→Sn.rwI q n=[]
 | 0,_=>rfl
 | n+1,h=>by
  show (Sn.rwI q n ++ if q n=true then [] else [(3,(n:Int))])=[]
  rw [Sn.rwI_none fun k hk=>h k (by omega),if_pos (h n (by omega))]
  rfl

theorem Sn.rwI_one {q:Nat→Bool} {k:Nat} (hq:q k=false):∀{n:Nat},k<n→(∀i,i<n→i≠k→q i=true)→Sn.rwI q n=[(3,(k:Int))]
 | 0,h,_=>absurd h (by omega)
 | n+1,h,ho=>by
  show (Sn.rwI q n ++ if q n=true then [] else [(3,(n:Int))])=_
  by_cases e:k=n
  ·subst e
   rw [Sn.rwI_none fun i hi=>ho i (by omega) (by omega),if_neg (by rw [hq];simp)]
   rfl
  ·rw [Sn.rwI_one hq (n:=n) (by omega) fun i hi hn=>ho i (by omega) hn,if_pos (ho n (by omega) (fun h=>e h.symm))]
   rfl

def Sn.One (s t g h c d:Nat→Int) (E F I J:Nat→Nat→Int) (p:Int × Int):Prop :=
 Sn.rw s t g h c d E F I J=[p]∧Sn.sameW s t g h c d E F I J=false

theorem Sn.One.back {s t g h c d:Nat→Int} {E F I J:Nat→Nat→Int} {p:Int × Int} (H:Sn.One s t g h c d E F I J p):Sn.rw t s h g d c F E J I=[p]:=by
 rw [Sn.rw_comm]
 exact H.1

theorem Sn.sameE_self (e:Nat→Int):Sn.sameE e e=true:=(Sn.sameE_iff e e).2 fun _ _=>rfl
theorem Sn.sameI_self (e:Nat→Int):Sn.sameI e e=true:=(Sn.sameI_iff e e).2 fun _ _=>rfl
theorem Sn.sameH_self (s g:Nat→Int):Sn.sameH s s g g=true:=(Sn.sameH_iff s s g g).2 ⟨fun _ _=>rfl,fun _ _=>rfl⟩
theorem Sn.cells_self (c:Nat→Int):Sn.allB (fun i=>c i == c i) 384=true:=Sn.allB_yes fun k _=>by simp

theorem Sn.one_head {s t g h:Nat→Int} (c:Nat→Int) (E I:Nat→Nat→Int) (hne:Sn.sameH s t g h=false):Sn.One s t g h c c E E I I (0,0):=by
 unfold Sn.One Sn.rw Sn.sameW
 rw [hne,Sn.cells_self,Sn.rwE_none fun k _=>Sn.sameE_self (E k),Sn.rwI_none fun k _=>Sn.sameI_self (I k)]
 exact ⟨rfl,rfl⟩

theorem Sn.one_cells {c d:Nat→Int} {k:Nat} (s g:Nat→Int) (E I:Nat→Nat→Int) (hk:k<384) (hne:c k≠d k):Sn.One s s g g c d E E I I (1,0):=by
 have hb:Sn.allB (fun i=>c i == d i) 384=false:=Sn.allB_no (k:=k) (by simp [hne]) hk
 unfold Sn.One Sn.rw Sn.sameW
 rw [hb,Sn.sameH_self,Sn.rwE_none fun k _=>Sn.sameE_self (E k),Sn.rwI_none fun k _=>Sn.sameI_self (I k)]
 exact ⟨rfl,rfl⟩

theorem Sn.one_ent {E F:Nat→Nat→Int} {k j:Nat} (s g c:Nat→Int) (I:Nat→Nat→Int) (hk:k<32) (hj:j<11) (hne:E k j≠F k j) (ho:∀i,i≠k→E i=F i):Sn.One s s g g c c E F I I (2,(k:Int)):=by
 have hq:Sn.sameE (E k) (F k)=false:=by
  cases e:Sn.sameE (E k) (F k) with
  | false=>rfl
  | true=>exact absurd ((Sn.sameE_iff _ _).1 e j hj) hne
 have hb:Sn.allB (fun i=>Sn.sameE (E i) (F i)) 32=false:=Sn.allB_no (k:=k) hq hk
 unfold Sn.One Sn.rw Sn.sameW
 rw [hb,Sn.cells_self,Sn.sameH_self,Sn.rwE_one (q:=fun i=>Sn.sameE (E i) (F i)) hq hk fun i _ hi=>by show Sn.sameE (E i) (F i)=true;rw [ho i hi];exact Sn.sameE_self _,Sn.rwI_none fun k _=>Sn.sameI_self (I k)]
 exact ⟨rfl,rfl⟩

theorem Sn.one_item {I J:Nat→Nat→Int} {k j:Nat} (s g c:Nat→Int) (E:Nat→Nat→Int) (hk:k<40) (hj:j<4) (hne:I k j≠J k j) (ho:∀i,i≠k→I i=J i):Sn.One s s g g c c E E I J (3,(k:Int)):=by
 have hq:Sn.sameI (I k) (J k)=false:=by
  cases e:Sn.sameI (I k) (J k) with
  | false=>rfl
  | true=>exact absurd ((Sn.sameI_iff _ _).1 e j hj) hne
 have hb:Sn.allB (fun i=>Sn.sameI (I i) (J i)) 40=false:=Sn.allB_no (k:=k) hq hk
 unfold Sn.One Sn.rw Sn.sameW
 rw [hb,Sn.cells_self,Sn.sameH_self,Sn.rwE_none fun k _=>Sn.sameE_self (E k),Sn.rwI_one (q:=fun i=>Sn.sameI (I i) (J i)) hq hk fun i _ hi=>by show Sn.sameI (I i) (J i)=true;rw [ho i hi];exact Sn.sameI_self _,Sn.allB_yes (q:=fun i=>Sn.sameE (E i) (E i)) fun k _=>Sn.sameE_self (E k)]
 exact ⟨rfl,rfl⟩

end Go.Proofs.Ytapgkgbpekkdjaa
