import Derived.Test.YtkcooekhigmioaaGreatPart29
import Derived.Test.YtkcooekhigmioaaGreatPart36
namespace Go.Proofs.YtkcooekhigmioaaGreat
open Go.RowKit

theorem Sn.rwE_most (q:Nat→Bool):∀k,(Sn.rwE q k).length≤k
 | 0=>Nat.le_refl _
 | k+1=>by
  have:=Sn.rwE_most q k
  unfold Sn.rwE
  rw [List.length_append]
  split <;> simp <;> omega

theorem Sn.rwI_most (q:Nat→Bool):∀k,(Sn.rwI q k).length≤k
 | 0=>Nat.le_refl _
 | k+1=>by
  have:=Sn.rwI_most q k
  unfold Sn.rwI
  rw [List.length_append]
  split <;> simp <;> omega

theorem Sn.rw_most (s t g h c d:Nat→Int) (E F I J:Nat→Nat→Int):(Sn.rw s t g h c d E F I J).length≤74:=by
 unfold Sn.rw
 have h1:(Sn.rwH (Sn.sameH s t g h)).length≤1:=by unfold Sn.rwH;split <;> simp
 have h2:(Sn.rwC (Sn.allB (fun i=>c i == d i) 384)).length≤1:=by unfold Sn.rwC;split <;> simp
 have h3:=Sn.rwE_most (fun i=>Sn.sameE (E i) (F i)) 32
 have h4:=Sn.rwI_most (fun i=>Sn.sameI (I i) (J i)) 40
 rw [List.length_append,List.length_append,List.length_append]
 omega


open Go.RowKit

def Sn.Eqw (A B:Cr.W):Prop:=(∀j,j<4→A.s j=B.s j)∧(∀j,j<4→A.g j=B.g j)∧(∀i,i<384→A.c i=B.c i)∧(∀k,k<32→∀j,j<11→A.E k j=B.E k j)∧∀k,k<40→∀j,j<4→A.I k j=B.I k j

theorem Sn.Eqw.refl (A:Cr.W):Sn.Eqw A A:=⟨fun _ _=>rfl,fun _ _=>rfl,fun _ _=>rfl,fun _ _ _ _=>rfl,fun _ _ _ _=>rfl⟩

theorem Sn.eqw_same {A B:Cr.W} (h:Sn.Eqw A B):Sn.sameW A.s B.s A.g B.g A.c B.c A.E B.E A.I B.I=true:=by
 obtain ⟨h1,h2,h3,h4,h5⟩:=h
 unfold Sn.sameW
 rw [(Sn.sameH_iff _ _ _ _).2 ⟨h1,h2⟩,Sn.allB_yes (fun k hk=>by simp [h3 k hk]),Sn.allB_yes (fun k hk=>(Sn.sameE_iff _ _).2 (h4 k hk)),Sn.allB_yes (fun k hk=>(Sn.sameI_iff _ _).2 (h5 k hk))]
 rfl

def Sn.Acts (x:World) (base:Nat) (v:Value) (f:Cr.W→Cr.W):Prop :=
 (∃s g,v=Sn.hdV s g∧f=fun S=>⟨s,g,S.c,S.E,S.I⟩) ∨
 (∃G c,v=Sn.clV G∧base≤G∧Lie x G 5 384 (Byts c)∧f=fun S=>⟨S.s,S.g,c,S.E,S.I⟩) ∨
 (∃n e,n<32∧v=Sn.enV n e∧f=fun S=>⟨S.s,S.g,S.c,En.put S.E n e,S.I⟩) ∨
 (∃n e,n<40∧v=Sn.itV n e∧f=fun S=>⟨S.s,S.g,S.c,S.E,En.put S.I n e⟩)

theorem Sn.Acts.on {x y:World} {base:Nat} {v:Value} {f:Cr.W→Cr.W} (h:Sn.Acts x base v f) (hk:∀G c,base≤G→Lie x G 5 384 (Byts c)→Lie y G 5 384 (Byts c)):Sn.Acts y base v f:=by
 rcases h with h | ⟨G,c,h1,h2,h3,h4⟩ | h | h
 ·exact .inl h
 ·exact .inr (.inl ⟨G,c,h1,h2,hk G c h2 h3,h4⟩)
 ·exact .inr (.inr (.inl h))
 ·exact .inr (.inr (.inr h))

def Sn.Pairs (x:World) (base:Nat) (l:List Value) (fs:List (Cr.W→Cr.W)):Prop:=l.length=fs.length∧∀(k:Nat) (v:Value),l[k]?=some v→∃f,fs[k]?=some f∧Sn.Acts x base v f

theorem Sn.Pairs.append {x:World} {base:Nat} {l m:List Value} {P Q:List (Cr.W→Cr.W)} (h:Sn.Pairs x base l P) (k:Sn.Pairs x base m Q):Sn.Pairs x base (l ++ m) (P ++ Q):=by
 refine ⟨by rw [List.length_append,List.length_append,h.1,k.1],fun i v hv=>?_⟩
 by_cases hi:i<l.length
 ·rw [List.getElem?_append_left hi] at hv
  rw [List.getElem?_append_left (by rw [←h.1];exact hi)]
  exact h.2 i v hv
 ·rw [List.getElem?_append_right (by omega)] at hv
  rw [List.getElem?_append_right (by rw [←h.1];omega),←h.1]
  exact k.2 _ v hv

theorem Sn.pairs_nil (x:World) (base:Nat):Sn.Pairs x base [] []:=⟨rfl,fun k v hv=>by simp at hv⟩

theorem Sn.pairs_one {x:World} {base:Nat} {v:Value} {f:Cr.W→Cr.W} (h:Sn.Acts x base v f):Sn.Pairs x base [v] [f] :=
 ⟨rfl,fun k u hu=>by
  cases k with
  | zero=>simp at hu;subst hu;exact ⟨f,rfl,h⟩
  | succ k=>simp at hu⟩

def Sn.fH (A B:Cr.W):List (Cr.W→Cr.W):=if Sn.sameH A.s B.s A.g B.g=true then [] else [fun S=>⟨A.s,A.g,S.c,S.E,S.I⟩]
def Sn.fC (A B:Cr.W):List (Cr.W→Cr.W):=if Sn.allB (fun i=>A.c i == B.c i) 384=true then [] else [fun S=>⟨S.s,S.g,A.c,S.E,S.I⟩]
def Sn.fE (E F:Nat→Nat→Int):Nat→List (Cr.W→Cr.W)
 | 0=>[]
 | k+1=>Sn.fE E F k ++ if Sn.sameE (E k) (F k)=true then [] else [fun S=>⟨S.s,S.g,S.c,En.put S.E k (E k),S.I⟩]
def Sn.fI (E F:Nat→Nat→Int):Nat→List (Cr.W→Cr.W)
 | 0=>[]
 | k+1=>Sn.fI E F k ++ if Sn.sameI (E k) (F k)=true then [] else [fun S=>⟨S.s,S.g,S.c,S.E,En.put S.I k (E k)⟩]

def Sn.fs (A B:Cr.W):List (Cr.W→Cr.W):=Sn.fH A B ++ Sn.fC A B ++ Sn.fE A.E B.E 32 ++ Sn.fI A.I B.I 40

def Sn.run (fs:List (Cr.W→Cr.W)) (S:Cr.W):Cr.W:=fs.foldl (fun S f=>f S) S

theorem Sn.run_append (fs gs:List (Cr.W→Cr.W)) (S:Cr.W):Sn.run (fs ++ gs) S=Sn.run gs (Sn.run fs S):=List.foldl_append

theorem Sn.run_E (E F:Nat→Nat→Int) (S:Cr.W):∀k,Sn.run (Sn.fE E F k) S=⟨S.s,S.g,S.c,fun i=>if i<k∧Sn.sameE (E i) (F i)=false then E i else S.E i,S.I⟩
 | 0=>by
  show S=_
  have:(fun i=>if i<0∧Sn.sameE (E i) (F i)=false then E i else S.E i)=S.E:=funext fun i=>if_neg (by omega)
  rw [this]
 | k+1=>by
  show Sn.run (Sn.fE E F k ++ _) S=_
  rw [Sn.run_append,Sn.run_E E F S k]
  by_cases h:Sn.sameE (E k) (F k)=true
  ·rw [if_pos h]
   show (⟨S.s,S.g,S.c,_,S.I⟩:Cr.W)=⟨S.s,S.g,S.c,_,S.I⟩
   congr 1
   funext i
   by_cases e:i=k
   ·subst e
    rw [if_neg (by omega),if_neg (by rw [h];simp)]
   ·by_cases q:i<k∧Sn.sameE (E i) (F i)=false
    ·rw [if_pos q,if_pos ⟨by omega,q.2⟩]
    ·rw [if_neg q,if_neg (fun r=>q ⟨by omega,r.2⟩)]
  ·rw [if_neg h]
   have h':Sn.sameE (E k) (F k)=false:=by simpa using h
   show (⟨S.s,S.g,S.c,En.put _ k (E k),S.I⟩:Cr.W)=⟨S.s,S.g,S.c,_,S.I⟩
   congr 1
   funext i
   by_cases e:i=k
   ·subst e
    rw [if_pos ⟨by omega,h'⟩]
    funext j
    rw [En.put_same]
   ·funext j
    rw [En.put_other (by omega)]
    dsimp only
    by_cases q:i<k∧Sn.sameE (E i) (F i)=false
    ·rw [if_pos q,if_pos ⟨by omega,q.2⟩]
    ·rw [if_neg q,if_neg (fun r=>q ⟨by omega,r.2⟩)]

theorem Sn.run_I (E F:Nat→Nat→Int) (S:Cr.W):∀k,Sn.run (Sn.fI E F k) S=⟨S.s,S.g,S.c,S.E,fun i=>if i<k∧Sn.sameI (E i) (F i)=false then E i else S.I i⟩
 | 0=>by
  show S=_
  have:(fun i=>if i<0∧Sn.sameI (E i) (F i)=false then E i else S.I i)=S.I:=funext fun i=>if_neg (by omega)
  rw [this]
 | k+1=>by
  show Sn.run (Sn.fI E F k ++ _) S=_
  rw [Sn.run_append,Sn.run_I E F S k]
  by_cases h:Sn.sameI (E k) (F k)=true
  ·rw [if_pos h]
   show (⟨S.s,S.g,S.c,S.E,_⟩:Cr.W)=⟨S.s,S.g,S.c,S.E,_⟩
   congr 1
   funext i
   by_cases e:i=k
   ·subst e
    rw [if_neg (by omega),if_neg (by rw [h];simp)]
   ·by_cases q:i<k∧Sn.sameI (E i) (F i)=false
    ·rw [if_pos q,if_pos ⟨by omega,q.2⟩]
    ·rw [if_neg q,if_neg (fun r=>q ⟨by omega,r.2⟩)]
  ·rw [if_neg h]
   have h':Sn.sameI (E k) (F k)=false:=by simpa using h
   show (⟨S.s,S.g,S.c,S.E,En.put _ k (E k)⟩:Cr.W)=⟨S.s,S.g,S.c,S.E,_⟩
   congr 1
   funext i
   by_cases e:i=k
   ·subst e
    rw [if_pos ⟨by omega,h'⟩]
    funext j
    rw [En.put_same]
   ·funext j
    rw [En.put_other (by omega)]
    dsimp only
    by_cases q:i<k∧Sn.sameI (E i) (F i)=false
    ·rw [if_pos q,if_pos ⟨by omega,q.2⟩]
    ·rw [if_neg q,if_neg (fun r=>q ⟨by omega,r.2⟩)]

theorem Sn.undo {A B S:Cr.W} (h:Sn.Eqw S B):Sn.Eqw (Sn.run (Sn.fs A B) S) A:=by
 obtain ⟨h1,h2,h3,h4,h5⟩:=h
 have hH:∀T,(Sn.run (Sn.fH A B) T).c=T.c∧(Sn.run (Sn.fH A B) T).E=T.E∧(Sn.run (Sn.fH A B) T).I=T.I:=fun T=>by unfold Sn.fH;split <;> exact ⟨rfl,rfl,rfl⟩
 have hC:∀T,(Sn.run (Sn.fC A B) T).s=T.s∧(Sn.run (Sn.fC A B) T).g=T.g∧(Sn.run (Sn.fC A B) T).E=T.E∧(Sn.run (Sn.fC A B) T).I=T.I:=fun T=>by unfold Sn.fC;split <;> exact ⟨rfl,rfl,rfl,rfl⟩
 have hs:(∀j,j<4→(Sn.run (Sn.fH A B) S).s j=A.s j)∧∀j,j<4→(Sn.run (Sn.fH A B) S).g j=A.g j:=by
  unfold Sn.fH
  by_cases e:Sn.sameH A.s B.s A.g B.g=true
  ·rw [if_pos e]
   obtain ⟨e1,e2⟩:=(Sn.sameH_iff _ _ _ _).1 e
   exact ⟨fun j hj=>(h1 j hj).trans (e1 j hj).symm,fun j hj=>(h2 j hj).trans (e2 j hj).symm⟩
  ·rw [if_neg e]
   exact ⟨fun _ _=>rfl,fun _ _=>rfl⟩
 have hc:∀T:Cr.W,(∀i,i<384→T.c i=B.c i)→∀i,i<384→(Sn.run (Sn.fC A B) T).c i=A.c i:=fun T hT i hi=>by
  unfold Sn.fC
  by_cases e:Sn.allB (fun i=>A.c i == B.c i) 384=true
  ·rw [if_pos e]
   have:=Sn.allB_iff.1 e i hi
   have e2:A.c i=B.c i:=by simpa using this
   exact (hT i hi).trans e2.symm
  ·rw [if_neg e]
   rfl
 obtain ⟨T,hT⟩:∃T,Sn.run (Sn.fC A B) (Sn.run (Sn.fH A B) S)=T:=⟨_,rfl⟩
 have t1:∀j,j<4→T.s j=A.s j:=fun j hj=>by rw [←hT,(hC _).1];exact hs.1 j hj
 have t2:∀j,j<4→T.g j=A.g j:=fun j hj=>by rw [←hT,(hC _).2.1];exact hs.2 j hj
 have t3:∀i,i<384→T.c i=A.c i:=fun i hi=>by rw [←hT];exact hc _ (fun i hi=>by rw [(hH S).1];exact h3 i hi) i hi
 have t4:T.E=S.E:=by rw [←hT,(hC _).2.2.1,(hH S).2.1]
 have t5:T.I=S.I:=by rw [←hT,(hC _).2.2.2,(hH S).2.2]
 have key:Sn.run (Sn.fs A B) S=⟨T.s,T.g,T.c,fun i=>if i<32∧Sn.sameE (A.E i) (B.E i)=false then A.E i else T.E i,fun i=>if i<40∧Sn.sameI (A.I i) (B.I i)=false then A.I i else T.I i⟩:=by
  unfold Sn.fs
  rw [Sn.run_append,Sn.run_append,Sn.run_append,hT,Sn.run_I,Sn.run_E]
 rw [key]
 clear key hT hc hs hC hH
 refine ⟨t1,t2,t3,fun k hk j hj=>?_,fun k hk j hj=>?_⟩
 ·show (if k<32∧Sn.sameE (A.E k) (B.E k)=false then A.E k else T.E k) j=_
  by_cases q:k<32∧Sn.sameE (A.E k) (B.E k)=false
  ·rw [if_pos q]
  ·rw [if_neg q,t4,h4 k hk j hj]
   have e:Sn.sameE (A.E k) (B.E k)=true:=by
    cases r:Sn.sameE (A.E k) (B.E k) with
    | true=>rfl
    | false=>exact absurd ⟨hk,r⟩ q
   exact ((Sn.sameE_iff _ _).1 e j hj).symm
 ·show (if k<40∧Sn.sameI (A.I k) (B.I k)=false then A.I k else T.I k) j=_
  by_cases q:k<40∧Sn.sameI (A.I k) (B.I k)=false
  ·rw [if_pos q]
  ·rw [if_neg q,t5,h5 k hk j hj]
   have e:Sn.sameI (A.I k) (B.I k)=true:=by
    cases r:Sn.sameI (A.I k) (B.I k) with
    | true=>rfl
    | false=>exact absurd ⟨hk,r⟩ q
   exact ((Sn.sameI_iff _ _).1 e j hj).symm

theorem Sn.pairs_E (x:World) (base:Nat) (E F:Nat→Nat→Int):∀k,k≤32→Sn.Pairs x base (Sn.chE E F k) (Sn.fE E F k)
 | 0,_=>Sn.pairs_nil _ _
 | k+1,hk=>by
  refine (Sn.pairs_E x base E F k (by omega)).append ?_
  split
  ·exact Sn.pairs_nil _ _
  ·exact Sn.pairs_one (.inr (.inr (.inl ⟨k,E k,by omega,rfl,rfl⟩)))

theorem Sn.pairs_I (x:World) (base:Nat) (E F:Nat→Nat→Int):∀k,k≤40→Sn.Pairs x base (Sn.chI E F k) (Sn.fI E F k)
 | 0,_=>Sn.pairs_nil _ _
 | k+1,hk=>by
  refine (Sn.pairs_I x base E F k (by omega)).append ?_
  split
  ·exact Sn.pairs_nil _ _
  ·exact Sn.pairs_one (.inr (.inr (.inr ⟨k,E k,by omega,rfl,rfl⟩)))

theorem Sn.pairs_all (x:World) (base G:Nat) (A B:Cr.W) (hG:Sn.allB (fun i=>A.c i == B.c i) 384=false→base≤G∧Lie x G 5 384 (Byts A.c)) :
  Sn.Pairs x base (Sn.chH A.s B.s A.g B.g ++ Sn.chC (Sn.allB (fun i=>A.c i == B.c i) 384) G ++ Sn.chE A.E B.E 32 ++ Sn.chI A.I B.I 40) (Sn.fs A B):=by
 refine (((?_:Sn.Pairs x base (Sn.chH A.s B.s A.g B.g) (Sn.fH A B)).append (?_:Sn.Pairs x base (Sn.chC (Sn.allB (fun i=>A.c i == B.c i) 384) G) (Sn.fC A B))).append (Sn.pairs_E x base A.E B.E 32 (by omega))).append (Sn.pairs_I x base A.I B.I 40 (by omega))
 ·unfold Sn.chH Sn.fH
  split
  ·exact Sn.pairs_nil _ _
  ·exact Sn.pairs_one (.inl ⟨_,_,rfl,rfl⟩)
 ·unfold Sn.chC Sn.fC
  cases h:Sn.allB (fun i=>A.c i == B.c i) 384 with
  | true=>exact Sn.pairs_nil _ _
  | false=>exact Sn.pairs_one (.inr (.inl ⟨G,A.c,rfl,(hG h).1,(hG h).2,rfl⟩))


open Go.RowKit

theorem Sn.own_form {w:World} {base n:Nat} {T:TypeId} {v:Value} {Us:List Value} (h:w.ownsRow base T 1 v n Us) :
  (v=.slice none 0 0∧Us=[]∧n=0)∨∃g cap H,v=.slice (some ⟨g,0,none⟩) n cap∧base≤g∧Arr w g T cap H∧n≤cap∧cap≤maxLen∧Us.length=n∧∀i,i<n→Us[i]?=some (H i):=by
 obtain ⟨hl,h⟩:=h
 rcases h with ⟨rfl,h0⟩ | ⟨g,cap,cur,rfl,hb,hg,hn,hm,hs,ht⟩
 ·exact .inl ⟨rfl,List.eq_nil_of_length_eq_zero (by omega),h0⟩
 ·refine .inr ⟨g,cap,fun i=>cur[i]?.getD undef,rfl,hb,⟨cur,hg,by omega,fun i hi=>?_⟩,hn,hm,by omega,fun i hi=>?_⟩
  ·show cur[i]?=some (cur[i]?.getD undef)
   rw [Array.getElem?_eq_getElem (by omega)]
   rfl
  ·show _=some (cur[i]?.getD undef)
   rw [←ht,List.getElem?_take,if_pos (by omega),Array.getElem?_toList,Array.getElem?_eq_getElem (by omega)]
   rfl

theorem Sn.own_back {w:World} {base g cap n:Nat} {T:TypeId} {Us:List Value} {H:Nat→Value} (hb:base≤g) (hA:Arr w g T cap H) (hn:n≤cap) (hm:cap≤maxLen) (hl:Us.length=n) (hH:∀i,i<n→Us[i]?=some (H i)) :
  w.ownsRow base T 1 (.slice (some ⟨g,0,none⟩) n cap) n Us:=by
 obtain ⟨cur,hg,hs,hc⟩:=hA
 refine ⟨by omega,.inr ⟨g,cap,cur,rfl,hb,hg,hn,hm,by omega,?_⟩⟩
 apply List.ext_getElem?
 intro i
 rw [List.getElem?_take,Array.getElem?_toList]
 by_cases hi:i<n
 ·rw [if_pos (by omega),hc i (by omega),hH i hi]
 ·rw [if_neg (by omega),List.getElem?_eq_none (by omega)]

theorem info_frow:(Tryz.prog.info? 93).map (fun i=>(i.zero,i.size,i.bytes))=some (some (.slice none 0 0),1,24):=by kernel_rfl

theorem zero_frow:∀w,(zeroValue 93).run Tryz.prog w=.ok (.slice none 0 0) w:=by
 intro w
 kernel_rfl

theorem frDelete_none (v:Value) (i n cap:Nat) (a:Option Addr) (w:World) (hv:v=.slice a n cap) (hn:n≤cap) (hc:cap≤maxLen) (hi:i≤n) :
  Calls Tryz.prog 82 #[v,.int .i64 (i:Int),.int .i64 (i:Int)] w fun e w'=>e=.returned v∧w'=w:=by
 subst hv
 unfold maxLen at hc
 have h1:(i:Int)≤(n:Int):=by omega
 have h2:(n:Int)≤(cap:Int):=by omega
 have h3:(cap:Int)≤9223372036854775807:=by omega
 go_enter Tryz.func82,Tryz.ntmps82
 go_wp2
 all_goals
  go_ret
  exact ⟨rfl,rfl⟩

set_option maxRecDepth 8000 in
set_option maxHeartbeats 4000000 in
theorem frDelete_any (base i j g cap n:Nat) (Us:List Value) (w:World) (hO:w.ownsRow base 93 1 (.slice (some ⟨g,0,none⟩) n cap) n Us) (hU:∀u∈Us,u.oneCell'=true) (hij:i<j) (hj:j≤n) :
  Calls Tryz.prog 82 #[.slice (some ⟨g,0,none⟩) n cap,.int .i64 (i:Int),.int .i64 (j:Int)] w
   fun e w'=>e=.returned (.slice (some ⟨g,0,none⟩) (i+(n - j)) cap)∧w'.ownsRow base 93 1 (.slice (some ⟨g,0,none⟩) (i+(n - j)) cap) (i+(n - j)) (Us.take i ++ Us.drop j)∧w.grownBy w' (some g):=by
 rcases Sn.own_form hO with ⟨e,_⟩ | ⟨g',cap',H,e,hb,hA,hlc,hm,hUl,hH⟩
 ·cases e
 ·simp at e
  obtain ⟨rfl,rfl⟩:=e
  obtain ⟨i0,hi0,hz0,hz1,hz2⟩:=info_parts info_frow
  have hm':cap≤9223372036854775807:=hm
  obtain ⟨news,hnews⟩:∃news:List Value,news=(List.range (n - j)).map (fun t=>H (j+t)):=⟨_,rfl⟩
  have hlen:news.length=n - j:=by rw [hnews];simp
  have hget:∀t,t<n - j→news[t]?=some (H (j+t)):=by
   intro t ht
   rw [hnews,List.getElem?_map,List.getElem?_range ht]
   rfl
  have hone:∀t,t<n→(H t).oneCell'=true:=fun t ht=>hU _ (List.mem_of_getElem? (hH t ht))
  obtain ⟨A,hAd,hsrc⟩:∃A:Addr,(if cap=j then some (⟨g,0,none⟩:Addr) else some ⟨g,j,none⟩)=some A∧Hid (∀t u,news[t]?=some u→w.drew.cell? (A.add t)=some u):=by
   by_cases h:cap=j
   ·refine ⟨⟨g,0,none⟩,by simp [h],fun t u hu=>?_⟩
    have h0:news.length=0:=by rw [hlen];omega
    rw [List.length_eq_zero_iff.1 h0] at hu
    simp at hu
   ·refine ⟨⟨g,j,none⟩,by simp [h],fun t u hu=>?_⟩
    have ht:t<n - j:=by
     have:=(List.getElem?_eq_some_iff.1 hu).1
     rwa [hlen] at this
    rw [hget t ht] at hu
    rw [Addr.add_lit]
    exact (hA.cell (i:=j+t) (by omega)).trans hu
  have s1:Hid (news.length=(n - j)*1):=by rw [Nat.mul_one];exact hlen
  have s2:Hid (∀u∈news,u.oneCell'=true):=by
   intro u hu
   rw [hnews] at hu
   obtain ⟨x,hx,rfl⟩:=List.mem_map.1 hu
   have hxl:=List.mem_range.1 hx
   exact hone (j+x) (by omega)
  have s3:Hid (∀t,t<news.length→(w.drew.cell? ⟨g,0+i*1+t,none⟩).isSome=true∧w.drew.frozen? ⟨g,0+i*1+t,none⟩=false):=by
   intro t ht
   rw [hlen] at ht
   rw [Nat.mul_one,Nat.zero_add]
   exact ⟨by show (w.cell? _).isSome=true;rw [hA.cell (i:=i+t) (by omega)];rfl,hA.free (i+t)⟩
  obtain ⟨W1,hW1⟩:∃W1,W1=w.drew.setCells g (0+i*1) news:=⟨_,rfl⟩
  have hAd1:Arr w.drew g 93 cap H:=hA.grown (gd1 (World.grownBy.refl w none)) (by simp)
  have hA1:Arr W1 g 93 cap (fun x=>if i≤x∧x<i+news.length then news[x - i]?.getD undef else H x):=by
   have h:=Arr.stores news (0+i*1) w.drew H hAd1
   rw [←hW1,Nat.zero_add,Nat.mul_one] at h
   exact h
  have hbel1:w.grownBy W1 (some g):=by
   rw [hW1]
   exact gss news (0+i*1) w.drew (gd1 (World.grownBy.refl w (some g)))
  have hcl:∀ty,(Builtin.clear_ #[90] ty #[.slice (some ⟨g,i+(n - j),none⟩) (n - (i+(n - j))) (cap - (i+(n - j)))]).run Tryz.prog W1=.ok (.tuple #[]) (W1.setCells g (i+(n - j)) (List.replicate (n - (i+(n - j))) (.slice none 0 0))) :=
   fun ty=>Lib.run_clear_slice W1 _ _ ty _ Tryz.underlying90 zero_frow rfl rfl g (i+(n - j)) _ _ (by omega) (fun t ht=>by rw [hA1.cell (by omega)];rfl) (fun t ht=>hA1.free _)
  have hel:(Us.take i ++ Us.drop j).length=i+(n - j):=by rw [List.length_append,List.length_take,List.length_drop];omega
  have hfin:Hid ((W1.setCells g (i+(n - j)) (List.replicate (n - (i+(n - j))) (.slice none 0 0))).ownsRow base 93 1 (.slice (some ⟨g,0,none⟩) (i+(n - j)) cap) (i+(n - j)) (Us.take i ++ Us.drop j)):=by
   have hA2:=Arr.stores (List.replicate (n - (i+(n - j))) (Value.slice none 0 0)) (i+(n - j)) W1 _ hA1
   refine Sn.own_back hb hA2 (by omega) hm hel (fun x hx=>?_)
   show _=some (if i+(n - j)≤x∧x < _ then _ else if i≤x∧x<i+news.length then news[x - i]?.getD undef else H x)
   rw [if_neg (by omega)]
   by_cases hxi:x<i
   ·rw [if_neg (by omega),List.getElem?_append_left (by rw [List.length_take];omega),List.getElem?_take,if_pos hxi]
    exact hH x (by omega)
   ·rw [if_pos (by omega),List.getElem?_append_right (by rw [List.length_take];omega),List.length_take,List.getElem?_drop,show j+(x - min i Us.length)=j+(x - i) by omega,hget (x - i) (by omega),hH (j+(x - i)) (by omega)]
    rfl
  have hbel:Hid (w.grownBy (W1.setCells g (i+(n - j)) (List.replicate (n - (i+(n - j))) (.slice none 0 0))) (some g)) :=
   gss (List.replicate (n - (i+(n - j))) (Value.slice none 0 0)) (i+(n - j)) W1 hbel1
  have hW:Hid (W1=w.drew.setCells g (0+i*1) news):=hW1
  have hic:i≤cap:=by omega
  have hjc:j≤cap:=by omega
  have hnc:n≤cap:=by omega
  have hjn:j≤n:=hj
  clear hO hA hH hnews hlen hget hW1 hAd1 hA1 hbel1 hel hlc hU hone hUl
  go_enter Tryz.func82,Tryz.ntmps82
  go_wp2_with fail
  go_region_law (refine step_append_room rfl (.tmp 22) (.tmp 25) 90 rfl 93 i0 1 Tryz.underlying90 hi0 hz1 g 0 i cap (by simp [Act.eval,Act.put]) A (n - j) (cap - j) news (by simp [Act.eval,Act.put]) s1.out hsrc.out s2.out (by omega) s3.out ?_;rw [←hW.out])
  go_wp2
  go_ret
  exact ⟨rfl,uh hfin,uh hbel⟩


open Go.RowKit

theorem Sn.owns_turned {B:Nat→Prop} {x y:World} {base:Nat} {T:TypeId} {z:Nat} {v:Value} {n:Nat} {xs:List Value} (h:x.ownsRow base T z v n xs) (ht:Turn B x y) (hb:∀k,v.ownBlock=some k→¬B k):y.ownsRow base T z v n xs:=by
 obtain ⟨h1,h2⟩:=h
 refine ⟨h1,?_⟩
 rcases h2 with h2 | ⟨g,cap,cur,rfl,hg,hc,hr⟩
 ·exact .inl h2
 ·refine .inr ⟨g,cap,cur,rfl,hg,?_,hr⟩
  exact (ht.block g (Array.getElem?_eq_some_iff.1 hc).1 (hb g rfl)).trans hc

theorem Sn.own_block {x:World} {base n z:Nat} {T:TypeId} {v:Value} {xs:List Value} (h:x.ownsRow base T z v n xs) {k:Nat} (e:v.ownBlock=some k):∃cs,x.heap[k]?=some (.cells cs T (0,0)):=by
 rcases h.2 with ⟨rfl,_⟩ | ⟨g,cap,cur,rfl,_,hc,_⟩
 ·cases e
 ·simp [Value.ownBlock] at e
  subst e
  exact ⟨cur,hc⟩

theorem Lie.turn {B:Nat→Prop} {x y:World} {g m:Nat} {T:TypeId} {F:Nat→Value} (h:Lie x g T m F) (ht:Turn B x y) (hb:¬B g):Lie y g T m F:=by
 obtain ⟨M,G,hA,h1,h2⟩:=h
 exact ⟨M,G,hA.turn ht hb,h1,h2⟩

theorem Lie.block {x:World} {g m:Nat} {T:TypeId} {F:Nat→Value} (h:Lie x g T m F):∃cs,x.heap[g]?=some (.cells cs T (0,0)):=by
 obtain ⟨M,G,⟨cur,hc,_⟩,_⟩:=h
 exact ⟨cur,hc⟩

def Sn.Frm (x:World) (base:Nat) (u:Value) (n:Nat) (A B:Cr.W):Prop :=
 ∃a cp l fs,u=.slice a n cp∧x.ownsRow base 99 1 u n l∧l.length=n∧Sn.Pairs x base l fs∧n≤74∧∀S,Sn.Eqw S B→Sn.Eqw (Sn.run fs S) A

theorem Sn.Frm.turn {P:Nat→Prop} {x y:World} {base n:Nat} {u:Value} {A B:Cr.W} (H:Sn.Frm x base u n A B) (ht:Turn P x y) (hP:∀k cs T,P k→x.heap[k]?=some (.cells cs T (0,0))→T≠99∧T≠5):Sn.Frm y base u n A B:=by
 obtain ⟨a,cp,l,fs,h1,h2,h3,⟨h4,h5⟩,h6⟩:=H
 refine ⟨a,cp,l,fs,h1,Sn.owns_turned h2 ht (fun k e q=>?_),h3,⟨h4,fun k v hv=>?_⟩,h6⟩
 ·obtain ⟨cs,hc⟩:=Sn.own_block h2 e
  exact (hP k cs _ q hc).1 rfl
 ·obtain ⟨f,f1,f2⟩:=h5 k v hv
  exact ⟨f,f1,f2.on fun G c _ hG=>hG.turn ht (fun q=>by
   obtain ⟨cs,hc⟩:=hG.block
   exact (hP G cs _ q hc).2 rfl)⟩

theorem Sn.Frm.on {x y:World} {base n:Nat} {u:Value} {A B:Cr.W} (H:Sn.Frm x base u n A B) (hg:x.grownBy y none):Sn.Frm y base u n A B :=
 H.turn (P:=fun _=>False) (Turn.new hg) (fun _ _ _ q=>q.elim)

structure Sn.Rng (x:World) (base p n:Nat) (v:Value) (Us:List Value) (m:Nat):Prop where
 box:Lie x p 92 2 (fun j=>if j=0 then .int .i64 (n:Int) else v)
 own:x.ownsRow base 93 1 v m Us
 low:base≤p
 ones:∀u∈Us,u.oneCell'=true

theorem Sn.Rng.turn {P:Nat→Prop} {x y:World} {base p n m:Nat} {v:Value} {Us:List Value} (H:Sn.Rng x base p n v Us m) (ht:Turn P x y) (hP:∀k cs T,P k→x.heap[k]?=some (.cells cs T (0,0))→T≠92∧T≠93):Sn.Rng y base p n v Us m :=
 { H with
  box:=H.box.turn ht (fun q=>by
   obtain ⟨cs,hc⟩:=H.box.block
   exact (hP p cs _ q hc).1 rfl)
  own:=Sn.owns_turned H.own ht (fun k e q=>by
   obtain ⟨cs,hc⟩:=Sn.own_block H.own e
   exact (hP k cs _ q hc).2 rfl) }

theorem Sn.Rng.on {x y:World} {base p n m:Nat} {v:Value} {Us:List Value} (H:Sn.Rng x base p n v Us m) (hg:x.grownBy y none):Sn.Rng y base p n v Us m :=
 H.turn (P:=fun _=>False) (Turn.new hg) (fun _ _ _ q=>q.elim)

theorem Sn.Rng.apart {x:World} {base p n m:Nat} {v:Value} {Us:List Value} (H:Sn.Rng x base p n v Us m):v.ownBlock≠some p:=fun e=>by
 obtain ⟨cs,hc⟩:=H.box.block
 obtain ⟨cs2,hc2⟩:=Sn.own_block H.own e
 rw [hc] at hc2
 simp only [Option.some.injEq,Obj.cells.injEq] at hc2
 exact absurd hc2.2.1 (by decide)

theorem Sn.Rng.types {x:World} {base p n m:Nat} {v:Value} {Us:List Value} (H:Sn.Rng x base p n v Us m):∀k cs T,(k=p∨v.ownBlock=some k)→x.heap[k]?=some (.cells cs T (0,0))→T=92∨T=93:=by
 rintro k cs T (rfl | e) hc
 ·obtain ⟨cs2,hc2⟩:=H.box.block
  rw [hc2] at hc
  simp only [Option.some.injEq,Obj.cells.injEq] at hc
  exact .inl hc.2.1.symm
 ·obtain ⟨cs2,hc2⟩:=Sn.own_block H.own e
  rw [hc2] at hc
  simp only [Option.some.injEq,Obj.cells.injEq] at hc
  exact .inr hc.2.1.symm

theorem Sn.Rng.lay {x y:World} {base p n m m':Nat} {v v':Value} {Us Us':List Value} {r:Option Nat} (H:Sn.Rng x base p n v Us m) (hg:x.grownBy y r) (hr:r=none∨r=v.ownBlock) (hown:y.ownsRow base 93 1 v' m' Us') (h1:∀u∈Us',u.oneCell'=true) :
  Sn.Rng (y.setCell ⟨p,1,none⟩ v') base p n v' Us' m'∧Turn (fun k=>k=p∨v.ownBlock=some k) x (y.setCell ⟨p,1,none⟩ v'):=by
 have hrp:r≠some p:=by
  rcases hr with h | h
  ·rw [h];simp
  ·rw [h];exact H.apart
 have hB:=H.box.grown hg hrp
 have t1:Turn (fun k=>k=p∨v.ownBlock=some k) x y:=Turn.grown hg (fun k e=>.inr (by
  rcases hr with h | h
  ·rw [h] at e;cases e
  ·rw [←h];exact e))
 refine ⟨⟨(hB.store 1 v').congr fun j hj=>?_,Sn.owns_turned hown ((Turn.refl (fun k=>k=p) y).store p 1 v' rfl) (fun k e q=>?_),H.low,h1⟩,t1.store p 1 v' (.inl rfl)⟩
 ·rcases (show j=0∨j=1 by omega) with rfl | rfl <;> rfl
 ·subst q
  obtain ⟨cs,hc⟩:=hB.block
  obtain ⟨cs2,hc2⟩:=Sn.own_block hown e
  rw [hc] at hc2
  simp only [Option.some.injEq,Obj.cells.injEq] at hc2
  exact absurd hc2.2.1 (by decide)

theorem letGo_any (base p n i j m:Nat) (v:Value) (Us:List Value) (x:World) (H:Sn.Rng x base p n v Us m) (hij:i≤j) (hj:j≤m) :
  Calls Tryz.prog 51 #[.pointer (some ⟨p,0,none⟩),.int .i64 (i:Int),.int .i64 (j:Int)] x fun e y=>e=.returned (.tuple #[])∧∃v',Sn.Rng y base p n v' (Us.take i ++ Us.drop j) (i+(m - j))∧Turn (fun k=>k=p∨v.ownBlock=some k) x y:=by
 have c1:x.cell? ⟨p,1,none⟩=some v:=H.box.cell (c:=1) (by omega)
 have f1:=fun i=>H.box.free i
 have hUl:Us.length=m:=by have:=H.own.1;omega
 obtain ⟨a,cap,rfl,hcm,hmc⟩:∃a cap,v=.slice a m cap∧m≤cap∧cap≤maxLen:=by
  rcases H.own.2 with ⟨rfl,h0⟩ | ⟨g,cap,cur,rfl,_,_,h1,h2,_⟩
  ·exact ⟨none,0,by rw [h0],by omega,Nat.zero_le _⟩
  ·exact ⟨_,cap,rfl,h1,h2⟩
 by_cases e:i=j
 ·subst e
  have cD:=hide (frDelete_none (.slice a m cap) i m cap a x rfl hcm hmc (by omega))
  have hfin:Hid (∃v',Sn.Rng (x.setCell ⟨p,1,none⟩ (.slice a m cap)) base p n v' (Us.take i ++ Us.drop i) (i+(m - i))∧Turn (fun k=>k=p∨(Value.slice a m cap).ownBlock=some k) x (x.setCell ⟨p,1,none⟩ (.slice a m cap))):=by
   rw [List.take_append_drop,show i+(m - i)=m by omega]
   obtain ⟨h1,h2⟩:=H.lay (World.grownBy.refl x none) (.inl rfl) H.own H.ones
   exact ⟨_,h1,h2⟩
  clear H hcm hmc hUl hj hij
  go_enter Tryz.func51,Tryz.ntmps51
  go_wp2_with fail
  refine (uh cD).mono ?_
  rintro e wq ⟨rfl,hq⟩
  obtain rfl:x=wq:=hq.symm
  go_wp2
  go_end0
  exact ⟨rfl,uh hfin⟩
 ·obtain ⟨g,rfl⟩:∃g,a=some ⟨g,0,none⟩:=by
   rcases H.own.2 with ⟨q,h0⟩ | ⟨g,cap',cur,q,_⟩
   ·omega
   ·simp at q
    exact ⟨g,q.1⟩
  have cD:=hide (frDelete_any base i j g cap m Us x H.own H.ones (by omega) hj)
  have hfin:Hid (∀y,y.ownsRow base 93 1 (.slice (some ⟨g,0,none⟩) (i+(m - j)) cap) (i+(m - j)) (Us.take i ++ Us.drop j)→x.grownBy y (some g)→(∃v',Sn.Rng (y.setCell ⟨p,1,none⟩ (.slice (some ⟨g,0,none⟩) (i+(m - j)) cap)) base p n v' (Us.take i ++ Us.drop j) (i+(m - j))∧Turn (fun k=>k=p∨(Value.slice (some ⟨g,0,none⟩) m cap).ownBlock=some k) x (y.setCell ⟨p,1,none⟩ (.slice (some ⟨g,0,none⟩) (i+(m - j)) cap)))∧(∃u,y.cell? ⟨p,1,none⟩=some u)∧∀i,y.frozen? ⟨p,i,none⟩=false):=fun y h1 h2=>by
   obtain ⟨q1,q2⟩:=H.lay h2 (.inr rfl) h1 (fun u hu=>by
    rcases List.mem_append.1 hu with h | h
    ·exact H.ones u (List.mem_of_mem_take h)
    ·exact H.ones u (List.mem_of_mem_drop h))
   have hB:=H.box.grown h2 (fun e=>H.apart e)
   exact ⟨⟨_,q1,q2⟩,⟨_,hB.cell (c:=1) (by omega)⟩,fun i=>hB.free i⟩
  clear H hcm hmc hUl hj hij e
  go_enter Tryz.func51,Tryz.ntmps51
  go_wp2_with fail
  refine (uh cD).mono ?_
  rintro e y ⟨rfl,h1,h2⟩
  obtain ⟨h3,⟨u,h4⟩,h5⟩:=uh hfin y h1 h2
  have h6:=hide h3
  clear h1 h2 h3 hfin cD
  go_wp2
  go_end0
  exact ⟨rfl,uh h6⟩


open Go.RowKit

theorem newRing_bad (n:Int) (x:World) (h:Sn.inB n 1 64=false):Calls Tryz.prog 22 #[.int .i64 n] x fun e y=>e=.returned (.tuple #[.pointer none,.int .i64 1])∧y=x:=by
 have c1:=hide (snWithin_any n 1 64 x)
 rw [h] at c1
 clear h
 go_enter Tryz.func22,Tryz.ntmps22
 go_wp2_with fail
 refine (uh c1).mono ?_
 rintro e wq ⟨rfl,hq⟩
 obtain rfl:x=wq:=hq.symm
 go_wp2
 go_ret2
 exact ⟨rfl,rfl⟩

theorem newRing_any (n:Nat) (x:World) (h:Sn.inB (n:Int) 1 64=true):Calls Tryz.prog 22 #[.int .i64 (n:Int)] x fun e y=>∃p,e=.returned (.tuple #[.pointer (some ⟨p,0,none⟩),.int .i64 0])∧Sn.Rng y x.heap.size p n (.slice none 0 0) [] 0∧x.grownBy y none:=by
 have c1:=hide (snWithin_any (n:Int) 1 64 x)
 rw [h] at c1
 have hfin:Hid (∃p,Ending.returned (.tuple #[.pointer (some ⟨x.heap.size,0,none⟩),.int .i64 0])=.returned (.tuple #[.pointer (some ⟨p,0,none⟩),.int .i64 0])∧Sn.Rng (x.alloc (.cells #[.int .i64 (n:Int),.slice none 0 0] 92)) x.heap.size p n (.slice none 0 0) [] 0∧x.grownBy (x.alloc (.cells #[.int .i64 (n:Int),.slice none 0 0] 92)) none):=by
  refine ⟨x.heap.size,rfl,⟨((Arr.lit (heap_alloc_new x _)).congr (G:=fun j=>if j=0 then .int .i64 (n:Int) else .slice none 0 0) fun j hj=>?_).lie,World.ownsRow_nil _ _ _ _,Nat.le_refl _,fun u hu=>by simp at hu⟩,World.grownBy_alloc _ _ _⟩
  have hj2:j<2:=hj
  rcases (show j=0∨j=1 by omega) with rfl | rfl <;> rfl
 clear h
 go_enter Tryz.func22,Tryz.ntmps22
 go_wp2_with fail
 refine (uh c1).mono ?_
 rintro e wq ⟨rfl,hq⟩
 obtain rfl:x=wq:=hq.symm
 go_wp2
 go_ret2
 exact uh hfin

theorem lenRing_any (p m cap:Nat) (a:Option Addr) (x:World) (h:x.cell? ⟨p,1,none⟩=some (.slice a m cap)):Calls Tryz.prog 25 #[.pointer (some ⟨p,0,none⟩)] x fun e y=>e=.returned (.int .i64 (m:Int))∧y=x:=by
 go_enter Tryz.func25,Tryz.ntmps25
 go_wp2
 go_ret
 exact ⟨rfl,rfl⟩

def Sn.rb (x:World) (base p k:Nat):Prop:=k=p∨(base≤k∧∃cs,x.heap[k]?=some (.cells cs 93 (0,0)))

theorem Sn.rb_own {x y:World} {base p n m:Nat} {v:Value} {Us:List Value} (H:Sn.Rng x base p n v Us m) (h:Turn (fun k=>k=p∨v.ownBlock=some k) x y):Turn (Sn.rb x base p) x y :=
 h.mono fun k e=>e.imp id fun e=>⟨(H.own.lt k e).1,Sn.own_block H.own e⟩

theorem Sn.rb_trans {x y z:World} {base p:Nat} (h:Turn (Sn.rb x base p) x y) (k:Turn (Sn.rb y base p) y z):Turn (Sn.rb x base p) x z :=
 h.trans k fun i hi q=>by
  by_cases e:Sn.rb x base p i
  ·exact e
  ·rcases q with q | ⟨q0,cs,q⟩
   ·exact .inl q
   ·exact .inr ⟨q0,cs,(h.block i hi e).symm.trans q⟩

theorem Sn.rb_frm {x y:World} {base p n:Nat} {u:Value} {A B:Cr.W} {m F} (H:Sn.Frm x base u n A B) (hB:Lie x p 92 m F) {b:Nat} (ht:Turn (Sn.rb x b p) x y):Sn.Frm y base u n A B :=
 H.turn ht fun k cs T q hc=>by
  rcases q with rfl | ⟨_,cs2,q⟩
  ·obtain ⟨cs2,hc2⟩:=hB.block
   rw [hc2] at hc
   simp only [Option.some.injEq,Obj.cells.injEq] at hc
   rw [←hc.2.1]
   exact ⟨by decide,by decide⟩
  ·rw [q] at hc
   simp only [Option.some.injEq,Obj.cells.injEq] at hc
   rw [←hc.2.1]
   exact ⟨by decide,by decide⟩

theorem Sn.owns_less {x:World} {base base':Nat} {T:TypeId} {z:Nat} {v:Value} {n:Nat} {xs:List Value} (h:x.ownsRow base T z v n xs) (hb:base'≤base):x.ownsRow base' T z v n xs:=by
 obtain ⟨h1,h2⟩:=h
 refine ⟨h1,?_⟩
 rcases h2 with h2 | ⟨g,cap,cur,rfl,hg,hr⟩
 ·exact .inl h2
 ·exact .inr ⟨g,cap,cur,rfl,Nat.le_trans hb hg,hr⟩

def Sn.Pushes (x:World) (base p n:Nat) (Us:List Value) (m:Nat) (A B:Cr.W) (e:Ending) (y:World):Prop :=
 ∃u v',e=.returned (.int .i64 ((Sn.rw A.s B.s A.g B.g A.c B.c A.E B.E A.I B.I).length:Int))∧Sn.Frm y base u (Sn.rw A.s B.s A.g B.g A.c B.c A.E B.E A.I B.I).length A B∧Turn (Sn.rb x base p) x y ∧
  ((m<n∧Sn.Rng y base p n v' (Us ++ [u]) (m+1))∨(m=n∧Sn.Rng y base p n v' ((Us ++ [u]).drop 1) n))

theorem Sn.news1 (w:World) (v:Value) (T:TypeId):∀j u,[v][j]?=some u→(w.alloc (.cells #[v] T)).cell? ((⟨w.heap.size,0,none⟩:Addr).add j)=some u:=by
 intro j u hj
 cases j with
 | zero =>
  simp at hj
  subst hj
  rw [Go.WideShapes.add_plain]
  exact (Arr.lit (heap_alloc_new w (.cells #[v] T))).cell (i:=0) (by show 0<1;omega)
 | succ j=>simp at hj

set_option maxRecDepth 8000 in
set_option maxHeartbeats 6400000 in
theorem push_any (base p n m:Nat) (v:Value) (Us:List Value) (A B:Cr.W) (gC gE gI cC cE cI jC jE jI dC dE dI:Nat) (x:World) (H:Sn.Rng x base p n v Us m) (hb:base≤x.heap.size) (h1:1≤n) (hn:n≤64) (hm:m≤n) (hL:Gd.Lists x gC gE gI A.c A.E A.I) (hL2:Gd.Lists x jC jE jI B.c B.E B.I) :
  Calls Tryz.prog 23 #[.pointer (some ⟨p,0,none⟩),.agg (Gd.world A.s gC gE gI cC cE cI A.g),.agg (Gd.world B.s jC jE jI dC dE dI B.g)] x (Sn.Pushes x base p n Us m A B):=by
 obtain ⟨D,hD⟩:∃D,Sn.Pushes x base p n Us m A B=D:=⟨_,rfl⟩
 rw [hD]
 obtain ⟨x1,hx1⟩:∃y,(x.alloc (.cells (Gd.world A.s gC gE gI cC cE cI A.g) 31)).alloc (.cells (Gd.world B.s jC jE jI dC dE dI B.g) 31)=y:=⟨_,rfl⟩
 have hg1:x.grownBy x1 none:=by rw [←hx1];exact gal (World.grownBy_alloc _ _ _) _
 have cC1:=hide (changed_any A.s B.s A.g B.g A.c B.c A.E B.E A.I B.I gC gE gI cC cE cI jC jE jI dC dE dI x1 (hL.on hg1) (hL2.on hg1))
 have y1:Lie x1 x.heap.size 31 11 (Gd.box A.s gC gE gI cC cE cI A.g):=by
  rw [←hx1]
  exact ((Arr.world (heap_alloc_new x _)).alloc _).lie
 have y2:Lie x1 (x.heap.size+1) 31 11 (Gd.box B.s jC jE jI dC dE dI B.g):=by
  rw [←hx1]
  have hh:=heap_alloc_new (x.alloc (.cells (Gd.world A.s gC gE gI cC cE cI A.g) 31)) (.cells (Gd.world B.s jC jE jI dC dE dI B.g) 31)
  rw [show (x.alloc (.cells (Gd.world A.s gC gE gI cC cE cI A.g) 31)).heap.size=x.heap.size+1 by simp] at hh
  exact (Arr.world hh).lie
 obtain ⟨a0,a1,a2,a3,a4,a5,a6,a7,a8,a9,a10⟩:=y1.eleven
 obtain ⟨b0,b1,b2,b3,b4,b5,b6,b7,b8,b9,b10⟩:=y2.eleven
 have HG1:=hide hg1
 have HH:=hide H
 have HB:=hide hb
 have HM:=hide (And.intro h1 (And.intro hn hm))
 obtain ⟨av,cv,rfl,hcv⟩:∃a cap,v=.slice a m cap∧cap≤maxLen:=by
  rcases H.own.2 with ⟨rfl,h0⟩ | ⟨g,cap,cur,rfl,_,_,q1,q2,_⟩
  ·exact ⟨none,0,by rw [h0],Nat.zero_le _⟩
  ·exact ⟨_,cap,rfl,q2⟩
 have hDD:Hid (Sn.Pushes x base p n Us m A B=D):=hD
 clear y1 y2 hb h1 hn hm H hL hL2 hg1 hD hcv
 go_enter Tryz.func23,Tryz.ntmps23
 go_wp2_with fail
 refine (uh cC1).mono ?_
 rintro e x2 ⟨G,u,base',rfl,hb',hown,hcel,hg2⟩
 obtain ⟨l,hl⟩:∃l,Sn.chH A.s B.s A.g B.g ++ Sn.chC (Sn.allB (fun i=>A.c i == B.c i) 384) G ++ Sn.chE A.E B.E 32 ++ Sn.chI A.I B.I 40=l:=⟨_,rfl⟩
 have hlen:l.length=(Sn.rw A.s B.s A.g B.g A.c B.c A.E B.E A.I B.I).length:=by
  rw [←hl]
  exact (Sn.both_all A.s B.s A.g B.g A.c B.c A.E B.E A.I B.I G).1
 obtain ⟨L,hLL⟩:∃L,(Sn.rw A.s B.s A.g B.g A.c B.c A.E B.E A.I B.I).length=L:=⟨_,rfl⟩
 have hL74:L≤74:=by rw [←hLL];exact Sn.rw_most _ _ _ _ _ _ _ _ _ _
 rw [hl] at hown
 rw [hlen,hLL] at hown
 have hbb:base≤base':=Nat.le_trans (uh HB) (Nat.le_trans (uh HG1).size hb')
 have hF2:Sn.Frm x2 base u L A B:=by
  obtain ⟨a,cp,e⟩:∃a cp,u=.slice a L cp:=by
   rcases hown.2 with ⟨e,h0⟩ | ⟨g,cap,cur,e,_⟩
   ·exact ⟨none,0,by rw [e,h0]⟩
   ·exact ⟨_,cap,e⟩
  refine ⟨a,cp,l,Sn.fs A B,e,Sn.owns_less hown hbb,by rw [hlen,hLL],?_,hL74,fun S hS=>Sn.undo hS⟩
  rw [←hl]
  exact Sn.pairs_all x2 base G A B (fun q=>⟨Nat.le_trans (Nat.le_trans (uh HB) (uh HG1).size) (hcel q).1,(hcel q).2⟩)
 obtain ⟨au,cu,rfl⟩:∃a cp,u=.slice a L cp:=by
  obtain ⟨a,cp,_,_,e,_⟩:=hF2
  exact ⟨a,cp,e⟩
 have HF2:=hide hF2
 have hg12:=hide (gtr (uh HG1) hg2)
 have c1:x2.cell? ⟨p,1,none⟩=some (.slice av m cv):=((uh HH).box.on (uh hg12)).cell (c:=1) (by omega)
 have HLL:=hide hLL
 obtain ⟨i1,ki,kz0,kz1,kz2⟩:=info_parts info_frow
 obtain ⟨x3,hx3⟩:∃y,x2.alloc (.cells #[.slice au L cu] 93)=y:=⟨_,rfl⟩
 have hg3:=hide (gtr (uh hg12) (show x2.grownBy x3 none by rw [←hx3];exact World.grownBy_alloc _ _ _))
 have hR3:=hide ((uh HH).on (uh hg3))
 have hn3:Hid (∀j w,[Value.slice au L cu][j]?=some w→x3.cell? ((⟨x2.heap.size,0,none⟩:Addr).add j)=some w):=by rw [←hx3];exact Sn.news1 x2 _ _
 have hz3:Hid (base≤x3.heap.size):=Nat.le_trans (uh HB) (uh hg3).size
 have hone:Hid (∀w∈[Value.slice au L cu],w.oneCell'=true):=fun w hw=>by
  simp only [List.mem_cons,List.not_mem_nil,or_false] at hw
  rw [hw]
  rfl
 have hm64:Hid (m≤64):=by have:=uh HM;exact Nat.le_trans this.2.2 this.2.1
 have hown3:=hide (uh hR3).own
 clear hown hcel hg2 hb' hl hlen hLL hbb hF2 cC1 a0 a1 a2 a3 a4 a5 a6 a7 a8 a9 a10 b0 b1 b2 b3 b4 b5 b6 b7 b8 b9 b10
 go_wp2_with (at_builtin;refine wpList_append_own _ rfl _ _ 90 rfl base 93 i1 (.slice none 0 0) 1 24 Tryz.underlying90 ki kz0 kz1 kz2 rfl (by decide) _ _ _ rfl (uh hown3) ⟨x2.heap.size,0,none⟩ 1 1 [.slice au L cu] rfl rfl (uh hn3) (uh hone) ?_ ?_ (uh hz3) ?_)
 ·have:=uh hm64;unfold maxLen;omega
 ·have:=uh hm64;omega
 intro v6 w6 hown6 hgrow6 hnil6
 obtain ⟨g6,c6,rfl⟩:∃g c,v6=.slice (some ⟨g,0,none⟩) (m+1) c:=by
  rcases hown6.2 with ⟨e,h0⟩ | ⟨g,cap,cur,e,_⟩
  ·omega
  ·exact ⟨g,cap,e⟩
 obtain ⟨hR4,hT4⟩:=(uh hR3).lay hgrow6 (.inr rfl) hown6 (fun w hw=>by
  rcases List.mem_append.1 hw with h | h
  ·exact (uh HH).ones w h
  ·exact uh hone w h)
 have hT4':=Sn.rb_own (uh hR3) hT4
 have hB6:=(uh hR3).box.grown hgrow6 (uh hR3).apart
 have d6:=hB6.cell (c:=1) (by omega)
 have f6:=fun i=>hB6.free i
 obtain ⟨mm,hmm⟩:∃mm,m+1=mm:=⟨_,rfl⟩
 rw [hmm] at hR4 hT4' ⊢
 obtain ⟨x4,hx4⟩:∃y,w6.setCell ⟨p,1,none⟩ (.slice (some ⟨g6,0,none⟩) mm c6)=y:=⟨_,rfl⟩
 rw [hx4] at hR4 hT4'
 have hF4:=Sn.rb_frm ((uh HF2).on (show x2.grownBy x3 none by rw [←hx3];exact World.grownBy_alloc _ _ _)) (uh hR3).box hT4'
 have hrx:Turn (Sn.rb x base p) x x4:=Sn.rb_trans (Turn.new (uh hg3)) hT4'
 have HX4:=hide (And.intro hR4 (And.intro hF4 hrx))
 have Hmm:=hide hmm
 clear hown6 hgrow6 hnil6 hR4 hT4 hT4' hF4 hrx hB6 hmm hn3 hz3 hown3 c1 hR3 hg3 hg12 HF2 HG1 hx1
 go_upto_region 3 with fail
 clear hx3 hx4 d6 f6 ki kz0 kz1 kz2
 obtain ⟨q,hq⟩:∃q:Nat,q=mm - n:=⟨_,rfl⟩
 have hq1:Hid (q≤mm∧(q:Int)=max 0 ((mm:Int) - (n:Int))):=by
  have h1:=uh HM
  have h2:=uh Hmm
  exact ⟨by omega,by omega⟩
 have n64:(n:Int)≤64:=by have:=uh HM;omega
 have m65:(mm:Int)≤65:=by have h1:=uh HM;have h2:=uh Hmm;omega
 have hw:Hid (IntKind.i64.wrap ((mm:Int) - (n:Int))=(mm:Int) - (n:Int)):=by
  have h1:=uh HM
  have h2:=uh Hmm
  unfold Hid
  rw [IntKind.wrap_i64]
  omega
 obtain ⟨x5,hx5⟩:∃y,x4.drew=y:=⟨_,rfl⟩
 have hg5:x4.grownBy x5 none:=by rw [←hx5];exact gdw (World.grownBy.refl x4 none) 1
 have hR5:=(uh HX4).1.on hg5
 have hS0:Hid (x5.cell? ⟨p,0,none⟩=some (.int .i64 (n:Int))):=hR5.box.cell (c:=0) (by omega)
 have cL:=hide (lenRing_any p mm c6 (some ⟨g6,0,none⟩) x5 (hR5.box.cell (c:=1) (by omega)))
 have cG:Hid (∀V,V=max 0 ((mm:Int) - (n:Int))→Calls Tryz.prog 51 #[.pointer (some ⟨p,0,none⟩),.int .i64 0,.int .i64 V] x5 fun e y=>e=.returned (.tuple #[])∧D (.returned (.int .i64 (L:Int))) y):=fun V hV=>by
  have h:=letGo_any base p n 0 q mm (.slice (some ⟨g6,0,none⟩) mm c6) (Us ++ [.slice au L cu]) x5 hR5 (Nat.zero_le _) (uh hq1).1
  rw [hV,←(uh hq1).2]
  refine h.mono ?_
  rintro e y ⟨rfl,v',hR,hT⟩
  refine ⟨rfl,?_⟩
  rw [←uh hDD]
  have hTb:=Sn.rb_own hR5 hT
  refine ⟨.slice au L cu,v',by rw [uh HLL],by rw [uh HLL];exact Sn.rb_frm ((uh HX4).2.1.on hg5) hR5.box hTb,Sn.rb_trans (Sn.rb_trans (uh HX4).2.2 (Turn.new hg5)) hTb,?_⟩
  have h1:=uh HM
  have h2:=uh Hmm
  by_cases e:m<n
  ·left
   refine ⟨e,?_⟩
   obtain rfl:q=0:=by omega
   rw [List.take_zero,List.nil_append,List.drop_zero,show 0+(mm - 0)=m+1 by omega] at hR
   exact hR
  ·right
   refine ⟨by omega,?_⟩
   obtain rfl:q=1:=by omega
   rw [List.take_zero,List.nil_append,show 0+(mm - 1)=n by omega] at hR
   exact hR
 refine wp_region_till (h:=9) (S:=fun x=>Hid (x.cell? ⟨p,0,none⟩=some (.int .i64 (n:Int)))) (by kernel_rfl) ?_
 rw [hx5]
 clear hx5 hg5 hR5 HX4 hq1 HH
 refine wtk (i:=0) (v:=?_) [9] rfl (by kernel_rfl) (by kernel_rfl) (by kernel_rfl) (by kernel_rfl) (fun _ _ _ h=>h) hS0 (Or.inl ⟨by rfl,?_⟩) ?_
 rotate_left
 ·intro x hSx
  clear hSx
  go_simp
  try with_reducible rfl
 simp only [Act.put,List.getElem_toArray,List.getElem_cons_zero,List.setIfInBounds_toArray,List.set_cons_succ,List.set_cons_zero]
 refine wtk (i:=1) (v:=?_) [2,9] rfl (by kernel_rfl) (by kernel_rfl) (by kernel_rfl) (by kernel_rfl) (fun _ _ _ h=>h) hS0 (Or.inl ⟨by rfl,?_⟩) ?_
 rotate_left
 ·intro x hSx
  clear hSx
  go_simp
  try with_reducible rfl
 simp only [Act.put,List.getElem_toArray,List.getElem_cons_zero,List.getElem_cons_succ,List.setIfInBounds_toArray,List.set_cons_succ,List.set_cons_zero]
 refine wtk (i:=3) (v:=?_) [4,5,6,7,8,9] rfl (by kernel_rfl) (by kernel_rfl) (by kernel_rfl) (by kernel_rfl) (fun _ _ _ h=>h) hS0 (Or.inl ⟨by rfl,?_⟩) ?_
 rotate_left
 ·intro x hSx
  clear hSx
  go_simp
  try with_reducible rfl
 simp only [Act.put,List.getElem_toArray,List.getElem_cons_zero,List.getElem_cons_succ,List.setIfInBounds_toArray,List.set_cons_succ,List.set_cons_zero]
 refine wtk (i:=4) (v:=?_) [5,6,7,8,9] rfl (by kernel_rfl) (by kernel_rfl) (by kernel_rfl) (by kernel_rfl) (fun _ _ _ h=>h) hS0 (Or.inl ⟨by rfl,?_⟩) ?_
 rotate_left
 ·intro x hSx
  clear hSx
  go_simp
  try with_reducible rfl
 simp only [Act.put,List.getElem_toArray,List.getElem_cons_zero,List.getElem_cons_succ,List.setIfInBounds_toArray,List.set_cons_succ,List.set_cons_zero]
 refine wtk (i:=5) (v:=?_) [6,7,8,9] rfl (by kernel_rfl) (by kernel_rfl) (by kernel_rfl) (by kernel_rfl) (fun _ _ _ h=>h) hS0 (Or.inl ⟨by rfl,?_⟩) ?_
 rotate_left
 ·intro x hSx
  clear hSx
  go_simp
  try with_reducible rfl
 simp only [Act.put,List.getElem_toArray,List.getElem_cons_zero,List.getElem_cons_succ,List.setIfInBounds_toArray,List.set_cons_succ,List.set_cons_zero]
 refine wtk (i:=6) (v:=?_) [7,8,9] rfl (by kernel_rfl) (by kernel_rfl) (by kernel_rfl) (by kernel_rfl) (fun _ _ _ h=>h) hS0 (Or.inl ⟨by rfl,?_⟩) ?_
 rotate_left
 ·intro x hSx
  have e1:=(uh hSx)
  clear hSx
  go_simp
  try with_reducible rfl
 simp only [Act.put,List.getElem_toArray,List.getElem_cons_zero,List.getElem_cons_succ,List.setIfInBounds_toArray,List.set_cons_succ,List.set_cons_zero]
 refine wto (j:=2) (by kernel_rfl) rfl (fun K hK=>?_)
 go_simp
 refine (uh cL).mono ?_
 rintro e wq ⟨rfl,hq⟩
 obtain rfl:x5=wq:=hq.symm
 try go_simp
 refine hK.out _ _ (fun _=>hS0) ?_
 clear hK K
 refine wtk (i:=7) (v:=?_) [8,9] rfl (by kernel_rfl) (by kernel_rfl) (by kernel_rfl) (by kernel_rfl) (fun _ _ _ h=>h) hS0 (Or.inl ⟨by rfl,?_⟩) ?_
 rotate_left
 ·intro x hSx
  clear hSx
  go_simp
  try with_reducible rfl
 simp only [Act.put,List.getElem_toArray,List.getElem_cons_zero,List.getElem_cons_succ,List.setIfInBounds_toArray,List.set_cons_succ,List.set_cons_zero]
 refine wtk (i:=8) (v:=?_) [9] rfl (by kernel_rfl) (by kernel_rfl) (by kernel_rfl) (by kernel_rfl) (fun _ _ _ h=>h) hS0 (Or.inl ⟨by rfl,?_⟩) ?_
 rotate_left
 ·intro x hSx
  clear hSx
  go_simp
  try with_reducible rfl
 simp only [Act.put,List.getElem_toArray,List.getElem_cons_zero,List.getElem_cons_succ,List.setIfInBounds_toArray,List.set_cons_succ,List.set_cons_zero]
 refine wto (j:=9) (by kernel_rfl) rfl (fun K hK=>?_)
 go_simp
 refine (uh cG _ ?hv).mono ?_
 case hv=>rw [uh hw];split <;> omega
 rintro e y ⟨rfl,hY⟩
 have HY:=hide hY
 clear cG cL hY
 try go_simp
 refine hK.out _ _ (fun hx=>absurd (hx.symm.trans (by kernel_rfl)) Bool.false_ne_true) ?_
 clear hK K
 refine wpTill_done (by kernel_rfl) ?_ _
 clear hw hS0
 go_wp2
 first | exact uh HY | (go_ret;exact uh HY)


open Go.RowKit

def Sn.sum (f:Nat→Nat):Nat→Nat
 | 0=>0
 | k+1=>Sn.sum f k+f k

theorem Sn.sum_le {f:Nat→Nat} {b:Nat}:∀{k:Nat},(∀i,i<k→f i≤b)→Sn.sum f k≤k*b
 | 0,_=>by simp [Sn.sum]
 | k+1,h=>by
  have ih:=Sn.sum_le (f:=f) (b:=b) (k:=k) (fun i hi=>h i (by omega))
  have:=h k (by omega)
  show Sn.sum f k+f k≤(k+1)*b
  rw [Nat.succ_mul]
  omega

set_option maxRecDepth 8000 in
set_option maxHeartbeats 3200000 in
theorem stored_any (base p n m:Nat) (v:Value) (Us:List Value) (Lc:Nat→Nat) (x:World) (H:Sn.Rng x base p n v Us m) (hm:m≤64) (hU:∀k u,Us[k]?=some u→∃a cp,u=.slice a (Lc k) cp∧Lc k≤74) :
  Calls Tryz.prog 26 #[.pointer (some ⟨p,0,none⟩)] x fun e y=>e=.returned (.int .i64 (Sn.sum Lc m:Int))∧y=x:=by
 have hUl:Us.length=m:=by have:=H.own.1;omega
 have hs:Hid (∀k,k<m→Lc k≤74):=fun k hk=>by
  obtain ⟨_,_,_,h⟩:=hU k _ (List.getElem?_eq_getElem (by omega))
  exact h
 have c1:x.cell? ⟨p,1,none⟩=some v:=H.box.cell (c:=1) (by omega)
 obtain ⟨av,cv,rfl,hcells⟩:∃a cap,v=.slice a m cap∧Hid (0<m→∃g,a=some ⟨g,0,none⟩∧∀k,k<m→∃b cp,x.cell? ⟨g,k,none⟩=some (.slice b (Lc k) cp)):=by
  rcases H.own.2 with ⟨rfl,h0⟩ | ⟨g,cap,cur,rfl,_⟩
  ·exact ⟨none,0,by rw [h0],fun q=>by omega⟩
  ·refine ⟨_,cap,rfl,fun _=>⟨g,rfl,fun k hk=>?_⟩⟩
   have hc:=H.own.cellAt k (by omega)
   obtain ⟨b,cp,e,_⟩:=hU k _ (List.getElem?_eq_getElem (by omega))
   rw [List.getElem?_eq_getElem (by omega),e] at hc
   exact ⟨b,cp,hc⟩
 have HM:=hide hm
 have m64:(m:Int)≤64:=by omega
 clear H hU hUl hm
 go_enter Tryz.func26,Tryz.ntmps26
 go_wp2_with fail
 go_loopw [3,5,11] (fun v3 _ v11 wr=>∃k:Nat,k≤m∧v11=.int .i64 (k:Int)∧v3=.int .i64 (Sn.sum Lc k:Int)∧wr=x) (fun _ _ v11 _=>m - (intOf v11).toNat)
 case atStart=>exact ⟨0,Nat.zero_le _,rfl,rfl,rfl⟩
 case round =>
  obtain ⟨k,hk,rfl,rfl,hw⟩:=hrel
  obtain rfl:x=wr:=hw.symm
  by_cases hlt:k<m
  ·have hlt':(k:Int)<(m:Int):=by omega
   obtain ⟨g,rfl,hc⟩:=uh hcells (by omega)
   obtain ⟨b,cp,hb⟩:=hc k hlt
   have hs1:=Sn.sum_le (f:=Lc) (b:=74) (k:=k) (fun i hi=>uh hs i (by omega))
   have hs2:=uh hs k hlt
   have hs3:Sn.sum Lc (k+1)=Sn.sum Lc k+Lc k:=rfl
   have hm:=uh HM
   have hs4:(Sn.sum Lc k:Int)≤10000:=by omega
   have hs5:(Lc k:Int)≤74:=by omega
   obtain ⟨S,hS⟩:∃S,Sn.sum Lc k=S:=⟨_,rfl⟩
   obtain ⟨l,hl⟩:∃l,Lc k=l:=⟨_,rfl⟩
   rw [hS] at hs3 hs4 ⊢
   rw [hl] at hb hs3 hs5
   have HS3:=hide hs3
   have HK:=hide hlt
   clear hs1 hs2 hs3 hm hS hl hc hk hlt
   go_wp2_with fail
   go_roundw
   case rel=>exact ⟨k+1,by have:=uh HK;omega,by go_num,by rw [uh HS3];go_num,by first | rfl | trivial⟩
   case measure=>simp [intOf];have:=uh HK;omega
  ·have hge:¬(k:Int)<(m:Int):=by omega
   obtain rfl:m=k:=by omega
   clear hlt hk hcells
   go_wp2
   go_ret
   exact ⟨rfl,rfl⟩

end Go.Proofs.YtkcooekhigmioaaGreat
