import Derived.Test.YtkcooekhigmioaaGreatPart20
namespace Go.Proofs.YtkcooekhigmioaaGreat
open Go.RowKit

def Nv.blk (E:Nat→Nat→Int) (n m:Nat) (c:Nat):Bool:=if c=m then false else Nv.st E n c

def Nv.wayFrom (q:Nat→Bool):Nat→Nat→Int
 | 0,_=>0
 | m+1,k=>if q k=true then (k:Int) else Nv.wayFrom q m (k+1)

theorem Nv.way_hit {q:Nat→Bool}:∀(m k i:Nat),(∀j,i≤j→j<k→q j=false)→q k=true→i≤k→k<i+m→Nv.wayFrom q m i=(k:Int)
  | 0,k,i,_,_,h1,h2=>by omega
  | m + 1, k, i, hno, hk, h1, h2 => by
      unfold Nv.wayFrom
      by_cases e:i=k
      · rw [e,if_pos hk]
      · rw [if_neg (by rw [hno i (Nat.le_refl _) (by omega)];simp),Nv.way_hit m k (i+1) (fun j hj1 hj2=>hno j (by omega) hj2) hk (by omega) (by omega)]

theorem Nv.way_none {q:Nat→Bool}:∀(m i:Nat),(∀j,i≤j→j<i+m→q j=false)→Nv.wayFrom q m i=0
  | 0,_,_=>rfl
  | m + 1, i, hno => by
      unfold Nv.wayFrom
      rw [if_neg (by rw [hno i (Nat.le_refl _) (by omega)];simp),Nv.way_none m (i+1) (fun j hj1 hj2=>hno j (by omega) (by omega))]

def Nv.next (m k:Nat):Int:=Nv.num (((m % 24:Nat):Int)+(Fx.way (k:Int)).1) (((m / 24:Nat):Int)+(Fx.way (k:Int)).2)

def Nv.may (F:Nat→Int) (st:Nat→Bool) (m k:Nat):Bool:=decide (0≤Nv.next m k) && (decide (F (Nv.next m k).toNat=F m - 1) && !(st (Nv.next m k).toNat))

def Nv.step (F:Nat→Int) (st:Nat→Bool) (m:Nat):Int:=if F m<1 then 0 else Nv.wayFrom (Nv.may F st m) 4 1

theorem Nv.may_out {F:Nat→Int} {st:Nat→Bool} {m k:Nat} (h:Nv.next m k=-1):Nv.may F st m k=false:=by
 unfold Nv.may
 rw [h]
 rfl

theorem Nv.may_in {F:Nat→Int} {st:Nat→Bool} {m k p:Nat} (h:Nv.next m k=(p:Int)):Nv.may F st m k=(decide (F p=F m - 1) && !(st p)):=by
 unfold Nv.may
 rw [h,Int.toNat_natCast,decide_eq_true (by omega),Bool.true_and]

def Nv.IsToward (f t:Nat→Int) (tlen:Nat) (E:Nat→Nat→Int) (n:Nat) (x y v:Int):Prop :=
 (Nv.num x y=-1∧v=0)∨∃(m:Nat) (F:Nat→Int),Nv.num x y=(m:Int)∧Gr.IsField (fun i=>Gr.openB f 384 (Nv.blk E n m) i=true) (Gr.tgt f t tlen) F∧v=Nv.step F (Nv.st E n) m

def Nv.SaysToward (w:World) (f t:Nat→Int) (tlen:Nat) (E:Nat→Nat→Int) (n:Nat) (x y:Int) (e:Ending) (w':World):Prop:=∃v,Nv.IsToward f t tlen E n x y v∧e=.returned (.int .i64 v)∧w.grownBy w' none


open Go.RowKit

def Nv.best (F:Nat→Int) (st:Nat→Bool):Nat→Int
 | 0=>-1
 | k+1=>if 0≤F k∧st k=false∧(Nv.best F st k<0∨F k<F (Nv.best F st k).toNat) then (k:Int) else Nv.best F st k

theorem Nv.best_cases (F:Nat→Int) (st:Nat→Bool):∀k,Nv.best F st k=-1∨∃p:Nat,p<k∧Nv.best F st k=(p:Int)
  | 0=>.inl rfl
  | k + 1 => by
      unfold Nv.best
      split
      · exact .inr ⟨k,by omega,rfl⟩
      · rcases Nv.best_cases F st k with h | ⟨p,hp,h⟩
        · exact .inl h
        · exact .inr ⟨p,by omega,h⟩

theorem Nv.best_none {F:Nat→Int} {st:Nat→Bool}:∀k,(∀i,i<k→F i<0)→Nv.best F st k=-1
  | 0,_=>rfl
  | k + 1, h => by
      unfold Nv.best
      rw [if_neg (by rintro ⟨h1,_⟩;have:=h k (by omega);omega)]
      exact Nv.best_none k fun i hi=>h i (by omega)

theorem Nv.best_skip {F:Nat→Int} {st:Nat→Bool} {k:Nat} (h:F k<0∨st k=true):Nv.best F st (k+1)=Nv.best F st k:=by
 show (if _ then _ else _)=_
 rw [if_neg]
 rintro ⟨h1,h2,_⟩
 rcases h with h | h
 ·omega
 ·rw [h] at h2;cases h2

theorem Nv.best_first {F:Nat→Int} {st:Nat→Bool} {k:Nat} (h1:0≤F k) (h2:st k=false) (h:Nv.best F st k=-1):Nv.best F st (k+1)=(k:Int):=by
 show (if _ then _ else _)=_
 rw [if_pos ⟨h1,h2,.inl (by omega)⟩]

theorem Nv.best_less {F:Nat→Int} {st:Nat→Bool} {k p:Nat} (h1:0≤F k) (h2:st k=false) (h:Nv.best F st k=(p:Int)) (hlt:F k<F p):Nv.best F st (k+1)=(k:Int):=by
 show (if _ then _ else _)=_
 rw [if_pos ⟨h1,h2,.inr (by rw [h,Int.toNat_natCast];exact hlt)⟩]

theorem Nv.best_more {F:Nat→Int} {st:Nat→Bool} {k p:Nat} (h:Nv.best F st k=(p:Int)) (hlt:¬F k<F p):Nv.best F st (k+1)=Nv.best F st k:=by
 show (if _ then _ else _)=_
 rw [if_neg]
 rintro ⟨_,_,h3 | h3⟩
 ·omega
 ·rw [h,Int.toNat_natCast] at h3;exact hlt h3

def Nv.IsSpot (f:Nat→Int) (E:Nat→Nat→Int) (n:Nat) (x y v:Int):Prop :=
 ∃F:Nat→Int,Gr.IsField (fun i=>Gr.openB f 0 (fun _=>false) i=true) (Gr.tgt f (fun _=>Nv.num x y) 1) F∧v=Nv.best F (Nv.st E n) 384

theorem Nv.spot_out {f:Nat→Int} {E:Nat→Nat→Int} {n:Nat} {x y:Int} (h:Nv.num x y=-1):Nv.IsSpot f E n x y (-1) :=
 ⟨fun _=>-1,
  { lo:=fun _ _=>(by omega),zero:=fun i _=>⟨fun e=>(by omega),fun ⟨_,j,_,e⟩=>(by simp only [h] at e;omega)⟩,back:=fun _ _ e=>(by omega),fwd:=fun _ _ e=>(by omega) },
  (Nv.best_none 384 fun _ _=>by omega).symm⟩

def Nv.SaysSpot (w:World) (f:Nat→Int) (E:Nat→Nat→Int) (n:Nat) (x y:Int) (e:Ending) (w':World):Prop:=∃v,Nv.IsSpot f E n x y v∧e=.returned (.int .i64 v)∧w.grownBy w' none

theorem Nv.one_row (w:World) (v:Int) (T:TypeId):Vec (w.alloc (.cells #[.int .i64 v] T)).heap.size (w.alloc (.cells #[.int .i64 v] T)) (some ⟨w.heap.size,0,none⟩) 1 (Ints fun _=>v) :=
 ⟨by unfold maxLen;omega,.inr ⟨_,0,rfl,by simp,fun i hi=>by
  obtain rfl:i=0:=by omega
  exact cell_boxed w _ T _ rfl⟩⟩


open Go.RowKit

def Nv.blTo (E:Nat→Nat→Int) (m:Nat):Nat→Nat→Bool
 | 0,_=>false
 | k+1,c=>if ¬E k 0=0∧Nv.num (E k 3) (E k 4)=(c:Int)∧c≠m then true else Nv.blTo E m k c

theorem Nv.blTo_iff (E:Nat→Nat→Int) (m c:Nat):∀k,Nv.blTo E m k c=true↔c≠m∧∃j,j<k∧¬E j 0=0∧Nv.num (E j 3) (E j 4)=(c:Int)
  | 0=>⟨fun h=>by simp [Nv.blTo] at h,fun ⟨_,j,h,_⟩=>by omega⟩
  | k + 1 => by
      have ih:=Nv.blTo_iff E m c k
      unfold Nv.blTo
      by_cases e:¬E k 0=0∧Nv.num (E k 3) (E k 4)=(c:Int)∧c≠m
      · rw [if_pos e]
        exact ⟨fun _=>⟨e.2.2,k,by omega,e.1,e.2.1⟩,fun _=>rfl⟩
      · rw [if_neg e,ih]
        constructor
        · rintro ⟨h1,j,hj,h2⟩
          exact ⟨h1,j,by omega,h2⟩
        · rintro ⟨h1,j,hj,h2,h3⟩
          refine ⟨h1,j,?_,h2,h3⟩
          by_cases ej:j=k
          · subst ej;exact absurd ⟨h2,h3,h1⟩ e
          · omega

theorem Nv.blTo_all (E:Nat→Nat→Int) (n m c:Nat) (hc:c<384):Nv.blTo E m n c=Nv.blk E n m c:=by
 have h:=Nv.blTo_iff E m c n
 have hs:Nv.st E n c=true↔∃j,j<n∧¬E j 0=0∧Nv.num (E j 3) (E j 4)=(c:Int):=by
  unfold Nv.st
  rw [decide_eq_true_eq]
  rcases En.first_cases (En.atQ E ((c % 24:Nat):Int) ((c / 24:Nat):Int)) n with ⟨h0,hno⟩ | ⟨k,hk,h0,hq,_⟩
  ·rw [h0]
   refine ⟨fun h=>by omega,fun ⟨j,hj,h1,h2⟩=>?_⟩
   obtain ⟨e1,e2,_⟩:=Nv.num_at h2
   have:=hno j hj
   simp [En.atQ,h1,e1,e2] at this
  ·refine ⟨fun _=>⟨k,hk,?_⟩,fun _=>by rw [h0];omega⟩
   simp only [En.atQ,Bool.and_eq_true,decide_eq_true_eq,Bool.not_eq_true',decide_eq_false_iff_not] at hq
   rw [hq.2.1,hq.2.2]
   exact ⟨hq.1,Nv.num_of hc⟩
 unfold Nv.blk
 by_cases e:c=m
 ·rw [if_pos e]
  have hn:¬Nv.blTo E m n c=true:=fun h'=>(h.1 h').1 e
  rwa [Bool.not_eq_true] at hn
 ·rw [if_neg e]
  by_cases hst:Nv.st E n c=true
  ·rw [hst];exact h.2 ⟨e,hs.1 hst⟩
  ·have hn:¬Nv.blTo E m n c=true:=fun h'=>hst (hs.2 (h.1 h').2)
   rw [Bool.not_eq_true] at hst hn
   rw [hst,hn]

theorem Nv.bl_same {E:Nat→Nat→Int} {m k:Nat} (h:¬(¬E k 0=0∧Gr.inB (E k 3) (E k 4)=true∧Nv.num (E k 3) (E k 4)≠(m:Int))) (j:Nat):Nv.blTo E m k j=Nv.blTo E m (k+1) j:=by
 show _=if _ then _ else _
 rw [if_neg]
 rintro ⟨h1,h2,h3⟩
 obtain ⟨e1,e2,e3⟩:=Nv.num_at h2
 refine h ⟨h1,?_,by rw [h2];omega⟩
 rw [Gr.inB_iff]
 omega

theorem Nv.bl_more {E:Nat→Nat→Int} {m k p:Nat} (h0:¬E k 0=0) (hp:Nv.num (E k 3) (E k 4)=(p:Int)) (hm:p≠m) (j:Nat):(if j=p then Value.bool true else .bool (Nv.blTo E m k j))=.bool (Nv.blTo E m (k+1) j):=by
 show _=Value.bool (if ¬E k 0=0∧Nv.num (E k 3) (E k 4)=(j:Int)∧j≠m then true else Nv.blTo E m k j)
 rw [hp]
 by_cases e:j=p
 ·rw [if_pos e,if_pos ⟨h0,by omega,by omega⟩]
 ·rw [if_neg e,if_neg (by rintro ⟨_,h,_⟩;omega)]

set_option maxRecDepth 8000 in
set_option maxHeartbeats 3200000 in
theorem refBlocked_any (a:Option Addr) (n c:Nat) (E:Nat→Nat→Int) (x y:Int) (m:Nat) (w:World) (hL:Nv.Lst w a n c E) (hm:Nv.num x y=(m:Int)) :
  Calls Tryz.prog 114 #[.slice a n c,.int .i64 x,.int .i64 y] w (Made w 4 384 (Bols (Nv.blk E n m))):=by
 have hn:=hL.1
 have hL':=hide hL
 have hm':=hide hm
 obtain ⟨i0,hi,hz0,hz1,hz2⟩:=info_parts info_bools
 clear hL hm
 go_enter Tryz.func114,Tryz.ntmps114
 obtain ⟨G,hG⟩:∃G,G=w.heap.size:=⟨_,rfl⟩
 have hG':=hide hG
 clear hG
 go_wp2_with (at_make;refine wpList_make_full _ rfl _ _ 144 rfl G 4 i0 (.bool false) 1 Tryz.underlying144 hi hz0 hz1 .i64 .i64 _ _ 384 rfl rfl rfl rfl ?q3 ?q4 (Nat.le_of_eq (uh hG')) ?_)
 case q3=>rw [hz2];omega
 case q4=>unfold maxLen;omega
 intro w2 hown hgrow
 rw [←uh hG'] at hown ⊢
 have hA:=hide (Arr.zero hown)
 have hB0:Below G w w2:=(Below.refl _ _).grown hgrow (Nat.le_of_eq (uh hG')) (by intro k hk;cases hk)
 clear hown hgrow hi hz0 hz1 hz2
 go_wp2_with fail
 go_loopw [8] (fun i wr=>∃k:Nat,k≤n∧i=.int .i64 (k:Int)∧Arr wr G 4 384 (Bols (Nv.blTo E m k))∧Below G w wr) (fun i _=>40 - (intOf i).toNat)
 case atStart=>exact ⟨0,Nat.zero_le _,rfl,uh hA,hB0⟩
 case round =>
  obtain ⟨k,hk,rfl,hA1,hB1⟩:=hrel
  have hA2:=hide hA1
  have hB2:=hide hB1
  clear hA1 hA hB0 hB1
  by_cases hlt:k<n
  ·obtain ⟨_,hnc,h0 | ⟨b,rfl,hE⟩⟩:=uh hL'
   ·omega
   have hgr:w.grownBy wr none:=below_grown (by rw [←uh hG'];exact uh hB2)
   obtain ⟨u0,u1,u2,u3,u4,u5,u6,u7,u8,u9,u10⟩:=(hE.on hgr).row hlt
   have hlt':(k:Int)<(n:Int):=by omega
   have HL:=hide hlt
   have dA:Hid (∀q,Arr (wr.drewN q) G 4 384 (Bols (Nv.blTo E m k))):=fun q=>(uh hA2).grown (gdw (World.grownBy.refl _ none) q) (by simp)
   have dB:Hid (∀q,Below G w (wr.drewN q)):=fun q=>below_drewN (uh hB2) q
   clear hE hgr hlt u1 u2 u5 u6 u7 u8 u9 u10
   have cI:=fun wq=>refIn_any (E k 3) (E k 4) wq
   by_cases h0:E k 0=0
   ·have h0':(E k 0 != 0)=false:=by simp [h0]
    have hs:Hid (∀j,Nv.blTo E m k j=Nv.blTo E m (k+1) j):=fun j=>Nv.bl_same (fun h=>h.1 h0) j
    clear h0
    go_wp2_with fail
    go_quiet ((go_at_call 97;exact Calls.quiet_of_same (cI _)))
    go_wp2
    go_roundw
    case rel=>exact ⟨k+1,by have:=uh HL;omega,by go_num,(uh dA _).congr fun j _=>by show Value.bool _=Value.bool _;rw [uh hs j],uh dB _⟩
    case measure=>have:=uh HL;simp [intOf];omega
   have h0':(E k 0 != 0)=true:=by simp [h0]
   by_cases hin:Gr.inB (E k 3) (E k 4)=true
   ·rw [hin] at cI
    obtain ⟨b1,b2,b3,b4⟩:=(Gr.inB_iff _ _).1 hin
    obtain ⟨p,hpv⟩:∃p:Nat,(p:Int)=E k 4*24+E k 3:=⟨(E k 4*24+E k 3).toNat,by omega⟩
    have hnp:Nv.num (E k 3) (E k 4)=(p:Int):=by unfold Nv.num;rw [if_pos hin,hpv]
    have hp:p<384:=by omega
    by_cases hpm:p=m
    ·obtain ⟨e1,e2,_⟩:=Nv.num_at hnp
     obtain ⟨f1,f2,_⟩:=Nv.num_at (uh hm')
     have g1:(E k 3 != x)=false:=by rw [bne_eq_false_iff_eq,e1,f1,hpm]
     have g2:(E k 4 != y)=false:=by rw [bne_eq_false_iff_eq,e2,f2,hpm]
     have hs:Hid (∀j,Nv.blTo E m k j=Nv.blTo E m (k+1) j):=fun j=>Nv.bl_same (fun h=>h.2.2 (by rw [hnp,hpm])) j
     clear h0 hin b1 b2 b3 b4 hpv hnp hp hpm e1 e2 f1 f2
     go_wp2_with fail
     go_quiet ((go_at_call 97;exact Calls.quiet_of_same (cI _)))
     go_wp2
     go_roundw
     case rel=>exact ⟨k+1,by have:=uh HL;omega,by go_num,(uh dA _).congr fun j _=>by show Value.bool _=Value.bool _;rw [uh hs j],uh dB _⟩
     case measure=>have:=uh HL;simp [intOf];omega
    ·have hs:Hid (∀j,(if j=p then Value.bool true else .bool (Nv.blTo E m k j))=.bool (Nv.blTo E m (k+1) j)):=fun j=>Nv.bl_more h0 hnp hpm j
     obtain ⟨X,hX⟩:∃X:Nat,E k 3=(X:Int):=⟨(E k 3).toNat,by omega⟩
     obtain ⟨Y,hY⟩:∃Y:Nat,E k 4=(Y:Int):=⟨(E k 4).toNat,by omega⟩
     obtain rfl:p=Y*24+X:=by omega
     rw [hX,hY] at cI
     rw [hX] at u3
     rw [hY] at u4
     have hX':X<24:=by omega
     have hY':Y<16:=by omega
     by_cases hx:(X:Int)=x
     ·have hy:¬(Y:Int)=y:=fun hy=>hpm (by
       have:((Y*24+X:Nat):Int)=(m:Int):=by rw [←hnp,←uh hm',hX,hY,hx,hy]
       omega)
      have g1:((X:Int) != x)=false:=by rw [bne_eq_false_iff_eq];exact hx
      have g2:((Y:Int) != y)=true:=by rw [bne_iff_ne];exact hy
      clear h0 hin hnp hpm hx hy hX hY b1 b2 b3 b4 hpv
      go_wp2_with fail
      go_quiet ((go_at_call 97;exact Calls.quiet_of_same (cI _)))
      go_wp2_with fail
      have hA3:=hide (uh dA nq)
      have hB3:=hide (uh dB nq)
      have v3:(wr.drewN nq).cell? ⟨b,k*11+3,none⟩=some (.int .i64 (X:Int)):=u3
      have v4:(wr.drewN nq).cell? ⟨b,k*11+4,none⟩=some (.int .i64 (Y:Int)):=u4
      generalize wr.drewN nq=wd at hA3 hB3 v3 v4 ⊢
      have hcc:wd.cell? ⟨G,Y*24+X,none⟩=some (.bool (Nv.blTo E m k (Y*24+X))):=(uh hA3).cell hp
      have hff:=(uh hA3).free (Y*24+X)
      clear u0 u3 u4 dA dB g1 g2 cI h0' hA2 hB2
      go_region
      all_goals
       go_wp2
       go_roundw
       case rel=>exact ⟨k+1,by have:=uh HL;omega,by go_num,((Arr.store (uh hA3) _ _).congr fun j _=>uh hs j).grown (gdw (World.grownBy.refl _ none) _) (by simp),((uh hB3).setCell (p:=⟨G,_,none⟩) (Nat.le_refl _) _).drew⟩
       case measure=>have:=uh HL;simp [intOf];omega
     ·have g1:((X:Int) != x)=true:=by rw [bne_iff_ne];exact hx
      clear h0 hin hnp hpm hx hX hY b1 b2 b3 b4 hpv
      go_wp2_with fail
      go_quiet ((go_at_call 97;exact Calls.quiet_of_same (cI _)))
      go_wp2_with fail
      have hA3:=hide (uh dA nq)
      have hB3:=hide (uh dB nq)
      have v3:(wr.drewN nq).cell? ⟨b,k*11+3,none⟩=some (.int .i64 (X:Int)):=u3
      have v4:(wr.drewN nq).cell? ⟨b,k*11+4,none⟩=some (.int .i64 (Y:Int)):=u4
      generalize wr.drewN nq=wd at hA3 hB3 v3 v4 ⊢
      have hcc:wd.cell? ⟨G,Y*24+X,none⟩=some (.bool (Nv.blTo E m k (Y*24+X))):=(uh hA3).cell hp
      have hff:=(uh hA3).free (Y*24+X)
      clear u0 u3 u4 dA dB g1 cI h0' hA2 hB2
      go_region
      all_goals
       go_wp2
       go_roundw
       case rel=>exact ⟨k+1,by have:=uh HL;omega,by go_num,((Arr.store (uh hA3) _ _).congr fun j _=>uh hs j).grown (gdw (World.grownBy.refl _ none) _) (by simp),((uh hB3).setCell (p:=⟨G,_,none⟩) (Nat.le_refl _) _).drew⟩
       case measure=>have:=uh HL;simp [intOf];omega
   ·rw [Bool.not_eq_true] at hin
    rw [hin] at cI
    have hs:Hid (∀j,Nv.blTo E m k j=Nv.blTo E m (k+1) j):=fun j=>Nv.bl_same (fun h=>by rw [hin] at h;cases h.2.1) j
    clear h0 hin
    go_wp2_with fail
    go_quiet ((go_at_call 97;exact Calls.quiet_of_same (cI _)))
    go_wp2
    go_roundw
    case rel=>exact ⟨k+1,by have:=uh HL;omega,by go_num,(uh dA _).congr fun j _=>by show Value.bool _=Value.bool _;rw [uh hs j],uh dB _⟩
    case measure=>have:=uh HL;simp [intOf];omega
  ·have hge:¬(k:Int)<(n:Int):=by omega
   obtain rfl:k=n:=by omega
   have hA3:=hide ((uh hA2).congr (G:=Bols (Nv.blk E k m)) fun j hj=>by show Value.bool _=Value.bool _;rw [Nv.blTo_all E k m j hj])
   clear hA2 hk hlt
   go_wp2
   go_ret
   exact ⟨G,rfl,Nat.le_of_eq (uh hG').symm,uh hA3,by rw [←uh hG'];exact uh hB2⟩


open Go.RowKit

set_option maxRecDepth 8000 in
set_option maxHeartbeats 3200000 in
theorem refToward_any (ca ta:Option Addr) (cc b n c tlen tc:Nat) (f t:Nat→Int) (E:Nat→Nat→Int) (x y:Int) (w:World)
  (hc:Vec w.heap.size w ca 384 (Byts f)) (hf:∀i,0≤f i∧f i≤255) (hE:Ents w b n E) (hnc:n≤c) (ht:Vec w.heap.size w ta tlen (Ints t)) (htb:∀i,-9223372036854775808≤t i∧t i≤9223372036854775807) :
  Calls Tryz.prog 95 #[.slice ca 384 cc,.slice (some ⟨b,0,none⟩) n c,.int .i64 x,.int .i64 y,.slice ta tlen tc] w (Nv.SaysToward w f t tlen E n x y):=by
 have hc':=hide hc
 have hf':=hide hf
 have hE':=hide hE
 have ht':=hide ht
 have htb':=hide htb
 have hL':Hid (Nv.Lst w (some ⟨b,0,none⟩) n c E):=⟨hE.1,hnc,.inr ⟨b,rfl,hE⟩⟩
 clear hc hf hE ht htb hnc
 by_cases hin:Gr.inB x y=true
 case neg =>
  rw [Bool.not_eq_true] at hin
  have he:Hid (Nv.IsToward f t tlen E n x y 0):=.inl ⟨if_neg (by rw [hin];simp),rfl⟩
  have cI:=hide (fun wq=>refIn_any x y wq)
  rw [hin] at cI
  clear hin
  go_enter Tryz.func95,Tryz.ntmps95
  go_wp2_with fail
  refine (uh cI _).mono ?_
  rintro e w1 ⟨rfl,rfl⟩
  go_wp2
  go_ret
  exact ⟨0,uh he,rfl,World.grownBy.refl _ _⟩
 obtain ⟨b1,b2,b3,b4⟩:=(Gr.inB_iff _ _).1 hin
 obtain ⟨X,rfl⟩:∃X:Nat,x=(X:Int):=⟨x.toNat,by omega⟩
 obtain ⟨Y,rfl⟩:∃Y:Nat,y=(Y:Int):=⟨y.toNat,by omega⟩
 have hX:X<24:=by omega
 have hY:Y<16:=by omega
 have hme:Nv.num (X:Int) (Y:Int)=((Y*24+X:Nat):Int):=by unfold Nv.num;rw [if_pos hin];omega
 have cI:=hide (fun wq=>refIn_any (X:Int) (Y:Int) wq)
 rw [hin] at cI
 have hme':=hide hme
 clear hin b1 b2 b3 b4 hme
 go_enter Tryz.func95,Tryz.ntmps95
 go_wp2_with fail
 refine (uh cI _).mono ?_
 rintro e w1 ⟨rfl,rfl⟩
 go_wp2_with fail
 refine (refBlocked_any _ n c E _ _ (Y*24+X) _ (uh hL') (uh hme')).mono ?_
 rintro e w2 ⟨g,rfl,hg,hA,hB⟩
 have cF:=hide (refField_any ca (some ⟨g,0,none⟩) ta 384 tlen cc 384 tc f t (Nv.blk E n (Y*24+X)) w2 (((uh hc').kept hB).mono hB.size) (uh hf') (hA.vec _ hA.lt (by unfold maxLen;omega)) (((uh ht').kept hB).mono hB.size) (uh htb'))
 have hB':=hide hB
 clear hA hB hg
 go_wp2_with fail
 refine (uh cF).mono ?_
 rintro e w4 ⟨F,⟨g2,rfl,hg2,hA4,hB4⟩,hF⟩
 have hstep:Nv.IsToward f t tlen E n X Y (Nv.step F (Nv.st E n) (Y*24+X)):=.inr ⟨_,F,uh hme',hF,rfl⟩
 have hgw:w1.grownBy w4 none:=below_grown ((uh hB').trans (hB4.mono (uh hB').size))
 have hhi:F (Y*24+X)≤400:=by
  by_cases h0:0≤F (Y*24+X)
  ·have:=fieldHigh hF (F (Y*24+X)).toNat (Y*24+X) (by omega) (by omega)
   omega
  ·omega
 have hA4':=hide hA4
 have hgw':=hide hgw
 have hst':=hide hstep
 have hEw:=hide ((uh hE').on hgw)
 have hc4:w4.cell? ⟨g2,Y*24+X,none⟩=some (.int .i64 (F (Y*24+X))):=hA4.cell (by omega)
 obtain ⟨V,hV⟩:∃V,V=F (Y*24+X):=⟨_,rfl⟩
 rw [←hV] at hc4 hhi
 have hV':=hide hV
 clear hA4 hgw hstep hg2 hB4 cF hF cI hE' hL' hc' ht' hB' hV
 by_cases hlo:V<1
 ·have hr:Hid (Nv.IsToward f t tlen E n X Y 0):=by
   have h:=uh hst'
   rwa [show Nv.step F (Nv.st E n) (Y*24+X)=0 from if_pos (by rw [←uh hV'];exact hlo)] at h
  go_wp2
  go_ret
  exact ⟨0,uh hr,rfl,uh hgw'⟩
 have hr:Hid (Nv.IsToward f t tlen E n X Y (Nv.wayFrom (Nv.may F (Nv.st E n) (Y*24+X)) 4 1)):=by
  have h:=uh hst'
  rwa [show Nv.step F (Nv.st E n) (Y*24+X)=Nv.wayFrom (Nv.may F (Nv.st E n) (Y*24+X)) 4 1 from if_neg (by rw [←uh hV'];exact hlo)] at h
 clear hst'
 go_wp2_with fail
 go_loopw [13] (fun i wr=>∃k:Nat,1≤k∧k≤5∧i=.int .i64 (k:Int)∧(∀j:Nat,1≤j→j<k→Nv.may F (Nv.st E n) (Y*24+X) j=false)∧w4.grownBy wr none) (fun i _=>5 - (intOf i).toNat)
 case atStart=>exact ⟨1,by omega,by omega,rfl,fun j h1 h2=>by omega,World.grownBy.refl _ _⟩
 case round =>
  obtain ⟨k,h1,h5,rfl,hno,hgr⟩:=hrel
  have hno':=hide hno
  have hgr':=hide hgr
  clear hno hgr hc4
  by_cases hlt:k≤4
  ·have hlt':(k:Int)≤4:=by omega
   have HL:=hide hlt
   have H1:=hide h1
   have wb:=Fx.way_bd (k:Int)
   have hnx:Nv.next (Y*24+X) k=Nv.num ((X:Int)+(Fx.way (k:Int)).1) ((Y:Int)+(Fx.way (k:Int)).2):=by
    unfold Nv.next
    rw [show (Y*24+X) % 24=X by omega,show (Y*24+X) / 24=Y by omega]
   have cw:=hide (fun wq=>refWay_any (k:Int) wq)
   have hup:Hid (Nv.may F (Nv.st E n) (Y*24+X) k=false→∀j:Nat,1≤j→j<k+1→Nv.may F (Nv.st E n) (Y*24+X) j=false):=fun h j h1 h2=>by
    by_cases e:j=k
    ·rw [e];exact h
    ·exact uh hno' j h1 (by omega)
   generalize (Fx.way (k:Int)).1=dx at *
   generalize (Fx.way (k:Int)).2=dy at *
   obtain ⟨d1,d2,d3,d4⟩:=wb
   clear hlt h1 h5
   by_cases hin:Gr.inB ((X:Int)+dx) ((Y:Int)+dy)=true
   ·obtain ⟨b1,b2,b3,b4⟩:=(Gr.inB_iff _ _).1 hin
    obtain ⟨PX,hPX⟩:∃PX:Nat,(X:Int)+dx=(PX:Int):=⟨((X:Int)+dx).toNat,by omega⟩
    obtain ⟨PY,hPY⟩:∃PY:Nat,(Y:Int)+dy=(PY:Int):=⟨((Y:Int)+dy).toNat,by omega⟩
    have hn:Nv.next (Y*24+X) k=((PY*24+PX:Nat):Int):=by rw [hnx];unfold Nv.num;rw [if_pos hin,hPX,hPY];omega
    have hmay:=Nv.may_in (F:=F) (st:=Nv.st E n) hn
    have hp:PY*24+PX<384:=by omega
    have hc6:wr.cell? ⟨g2,PY*24+PX,none⟩=some (.int .i64 (F (PY*24+PX))):=((uh hA4').grown (uh hgr') (by simp)).cell hp
    have hst:Nv.st E n (PY*24+PX)=decide (0≤En.first (En.atQ E (PX:Int) (PY:Int)) n):=by
     unfold Nv.st
     rw [show (PY*24+PX) % 24=PX by omega,show (PY*24+PX) / 24=PY by omega]
    have hPX':PX<24:=by omega
    have hPY':PY<16:=by omega
    have cI:=hide (fun wq=>refIn_any ((X:Int)+dx) ((Y:Int)+dy) wq)
    rw [hin,hPX,hPY] at cI
    clear hin b1 b2 b3 b4 hnx hn
    go_wp2_with fail
    refine (uh cw _).mono ?_
    rintro e wx ⟨rfl,rfl⟩
    go_wp2_with fail
    refine (uh cI _).mono ?_
    rintro e wy ⟨rfl,rfl⟩
    have hz:(PY:Int)*24+X+dx=((PY*24+PX:Nat):Int):=by omega
    have cA:=hide (entRefAt_any b n c E (PX:Int) (PY:Int) wy ((uh hEw).on (uh hgr')))
    clear cI cw
    rw [hst,←uh hV'] at hmay
    by_cases hq:F (PY*24+PX)=V - 1
    ·have hq':(F (PY*24+PX) == V - 1)=true:=by rw [beq_iff_eq];exact hq
     rw [decide_eq_true hq,Bool.true_and] at hmay
     generalize En.first (En.atQ E (PX:Int) (PY:Int)) n=r at hmay cA
     clear hq hst
     by_cases hs:0≤r
     ·rw [decide_eq_true hs] at hmay
      have hno2:=hide (uh hup hmay)
      have hs':¬r<0:=by omega
      clear hmay hs
      go_wp2_with fail
      refine (uh cA).mono ?_
      rintro e wz ⟨rfl,hgz⟩
      have hgz':=hide (gtr (uh hgr') hgz)
      clear hgz hc6
      go_wp2
      go_roundw
      case rel=>exact ⟨k+1,by have:=uh H1;omega,by have:=uh HL;omega,by go_num,uh hno2,uh hgz'⟩
      case measure=>have:=uh HL;simp [intOf];omega
     ·rw [decide_eq_false hs] at hmay
      have hr2:Hid (Nv.IsToward f t tlen E n X Y (k:Int)):=by
       have h:=uh hr
       rwa [Nv.way_hit 4 k 1 (uh hno') hmay (uh H1) (by have:=uh HL;omega)] at h
      have hs':r<0:=by omega
      clear hmay hs
      go_wp2_with fail
      refine (uh cA).mono ?_
      rintro e wz ⟨rfl,hgz⟩
      have hgz':=hide (gtr (uh hgr') hgz)
      clear hgz hc6
      go_wp2
      go_ret
      exact ⟨_,uh hr2,rfl,gtr (uh hgw') (uh hgz')⟩
    ·have hq':(F (PY*24+PX) == V - 1)=false:=by rw [beq_eq_false_iff_ne];exact hq
     rw [decide_eq_false hq,Bool.false_and] at hmay
     have hno2:=hide (uh hup hmay)
     clear hq hmay cA hst
     go_wp2
     go_roundw
     case rel=>exact ⟨k+1,by have:=uh H1;omega,by have:=uh HL;omega,by go_num,uh hno2,uh hgr'⟩
     case measure=>have:=uh HL;simp [intOf];omega
   ·rw [Bool.not_eq_true] at hin
    have hno2:=hide (uh hup (Nv.may_out (hnx.trans (if_neg (by rw [hin];simp)))))
    have cI:=hide (fun wq=>refIn_any ((X:Int)+dx) ((Y:Int)+dy) wq)
    rw [hin] at cI
    clear hin hnx
    go_wp2_with fail
    refine (uh cw _).mono ?_
    rintro e wx ⟨rfl,rfl⟩
    go_wp2_with fail
    refine (uh cI _).mono ?_
    rintro e wx ⟨rfl,rfl⟩
    go_wp2
    go_roundw
    case rel=>exact ⟨k+1,by have:=uh H1;omega,by have:=uh HL;omega,by go_num,uh hno2,uh hgr'⟩
    case measure=>have:=uh HL;simp [intOf];omega
  ·have hge:¬(k:Int)≤4:=by omega
   have hr2:Hid (Nv.IsToward f t tlen E n X Y 0):=by
    have h:=uh hr
    rwa [Nv.way_none 4 1 fun j h1 h2=>uh hno' j h1 (by omega)] at h
   go_wp2
   go_ret
   exact ⟨0,uh hr2,rfl,gtr (uh hgw') (uh hgr')⟩


open Go.RowKit

def Md.Fine (E:Nat→Nat→Int):Prop:=∀k,k<32→E k 0≠0→0≤E k 3∧E k 3<24∧0≤E k 4∧E k 4<16∧0≤E k 6∧E k 6≤20

def Md.who (E:Nat→Nat→Int) (x y:Int) (d:Nat):Int:=En.first (En.atQ E (x+(Fx.way (d:Int)).1) (y+(Fx.way (d:Int)).2)) 32

def Md.foe (E:Nat→Nat→Int) (x y:Int) (d:Nat):Bool:=decide (0≤Md.who E x y d) && !(decide (E (Md.who E x y d).toNat 0=1))

def Md.robotAt (c:Nat→Int) (E I:Nat→Nat→Int) (seat:Int) (k:Nat) (v:Int):Prop :=
 if E k 5≤E k 6 / 3∧0≤Gd.has I 40 seat 1 1 then v=6
 else if Nv.wayFrom (Md.foe E (E k 3) (E k 4)) 4 1≠0 then v=Nv.wayFrom (Md.foe E (E k 3) (E k 4)) 4 1
 else if 0≤Gd.find I 40 1 (E k 3) (E k 4)∧(I (Gd.find I 40 1 (E k 3) (E k 4)).toNat 0=4∨0≤Gd.slot I 40 seat) then v=5
 else if Gr.at 384 c (E k 3) (E k 4)=4 then v=9
 else Nv.IsToward c (fun _=>Gr.find 384 c 4) 1 E 32 (E k 3) (E k 4) v

def Md.IsRobot (c:Nat→Int) (E I:Nat→Nat→Int) (seat v:Int):Prop :=
 if Gd.hero E seat<0 then v=0 else Md.robotAt c E I seat (Gd.hero E seat).toNat v

theorem Md.hero_row {E:Nat→Nat→Int} {seat:Int} (h:¬Gd.hero E seat<0):∃k:Nat,k<32∧Gd.hero E seat=(k:Int)∧E k 0=1∧E k 2=seat:=by
 unfold Gd.hero at h ⊢
 rcases En.first_cases (En.heroQ E seat) 32 with ⟨he,_⟩ | ⟨k,hk,he,hq,_⟩
 ·omega
 ·simp only [En.heroQ,Bool.and_eq_true,decide_eq_true_eq] at hq
  exact ⟨k,hk,he,hq.1,hq.2⟩

theorem Md.who_row {E:Nat→Nat→Int} {x y:Int} {d:Nat}:Md.who E x y d=-1∨∃j:Nat,j<32∧Md.who E x y d=(j:Int):=by
 unfold Md.who
 rcases En.first_cases (En.atQ E (x+(Fx.way (d:Int)).1) (y+(Fx.way (d:Int)).2)) 32 with ⟨he,_⟩ | ⟨j,hj,he,_⟩
 ·exact .inl he
 ·exact .inr ⟨j,hj,he⟩

theorem Md.way_small (d:Nat):-1≤(Fx.way (d:Int)).1∧(Fx.way (d:Int)).1≤1∧-1≤(Fx.way (d:Int)).2∧(Fx.way (d:Int)).2≤1:=by
 unfold Fx.way
 split
 ·simp
 ·split
  ·simp
  ·split
   ·simp
   ·split <;> simp


open Go.RowKit

theorem Own.of_append {w:World} {base n:Nat} {v:Value} {E:Nat→Nat→Int} (h:w.ownsRow base 70 11 v n (En.list n E)) (hv:v≠.slice none 0 0) (hn:n≤32) :
  ∃g cap,v=.slice (some ⟨g,0,none⟩) n cap∧base≤g∧n≤cap∧cap≤maxLen∧Own w g n E:=by
 rcases h.2 with ⟨h',_⟩ | ⟨g,cap,cur,rfl,hb,hg,hnc,hcm,hcs,htake⟩
 ·exact absurd h' hv
 ·exact ⟨g,cap,rfl,hb,hnc,hcm,Own.of_owns h hn (fun c hc=>En.list_at hc)⟩

theorem En.flat_src {w w':World} {b n:Nat} {E:Nat→Nat→Int} (h:Ents w b n E) (hg:w.grownBy w' none):∀j v,(En.list n E)[j]?=some v→w'.cell? ((⟨b,0,none⟩:Addr).add j)=some v:=(h.on hg).src

set_option maxHeartbeats 1600000 in
theorem refFree_in (b n c k:Nat) (E:Nat→Nat→Int) (w:World) (hE:Ents w b n E) (hk:k<n) :
  Calls Tryz.prog 105 #[.slice (some ⟨b,0,none⟩) n c,.int .i64 (k:Int)] w (Lists w n (En.put E k (En.hole (E k 1)))):=by
 have hn:=hE.1
 have hk':(k:Int)<(n:Int):=by omega
 have hE':=hide hE
 have HK:=hide hk
 obtain ⟨i0,hi,hz0,hz1,hz2⟩:=info_parts info_ent
 have hst:Hid (∀(x:World) (g:Nat),Own x g n E→Own (x.setCells g (k*11) (En.cells (En.hole (E k 1))).toList) g n (En.put E k (En.hole (E k 1)))):=fun x g h=>h.store k _
 have hgs:Hid (∀(x:World) (g:Nat),w.grownBy x none→w.heap.size≤g→w.grownBy (x.setCells g (k*11) (En.cells (En.hole (E k 1))).toList) none):=fun x g h hg=>own_sets hg _ _ x h
 clear hE
 go_enter Tryz.func105,Tryz.ntmps105
 go_wp2_with (at_builtin;refine wpList_append_own _ rfl _ _ 27 rfl w.heap.size 70 i0 (.agg #[.int .i64 0,.int .i64 0,.int .i64 0,.int .i64 0,.int .i64 0,.int .i64 0,.int .i64 0,.int .i64 0,.int .i64 0,.int .i64 0,.int .i64 0]) 11 88 Tryz.underlying27 hi hz0 hz1 hz2 rfl (by decide) _ 0 [] rfl (World.ownsRow_made _ _ _ (Nat.le_refl _) (by decide) (by simp)) ⟨b,0,none⟩ n c (En.list n E) rfl (En.list_len n E) (En.flat_src (uh hE') (World.grownBy_alloc _ _ _)) En.list_one ?c4 ?c5 ?c6 ?_)
 case c4=>unfold maxLen;omega
 case c5=>omega
 case c6=>simp
 intro v' w1 hown hgrow hnil
 obtain ⟨g,cap,rfl,hlo,hnc,hcm,hown1⟩:=Own.of_append hown hnil hn
 have hgr1:=hide (gow (World.grownBy_alloc w (.cells #[] 70) none) hgrow (by intro m hm;simp [Value.ownBlock] at hm;omega))
 have hcapf:=hide (And.intro hlo (And.intro hnc hcm))
 obtain ⟨u0,u1,u2,u3,u4,u5,u6,u7,u8,u9,u10⟩:=hown1.ents.row hk
 have f:=fun i=>hown1.free i
 have s1:w1.cell? ⟨b,k*11+1,none⟩=some (.int .i64 (E k 1)):=((uh hE').on (uh hgr1)).2.2 k 1 hk (by omega)
 have hown1':=hide hown1
 clear hown hgrow hnil hlo hnc hcm hown1 hi hz0 hz1 hz2
 go_wp2
 go_ret
 exact ⟨g,cap,rfl,(uh hcapf).1,(uh hcapf).2.1,(uh hcapf).2.2,uh hst _ _ (uh hown1'),uh hgs _ _ (uh hgr1) (uh hcapf).1⟩

set_option maxHeartbeats 1600000 in
theorem refSpawn_full (b n c:Nat) (E:Nat→Nat→Int) (e:Nat→Int) (w:World) (hE:Ents w b n E) (hk:1≤e 0∧e 0≤4) (hf:∀j,j<n→En.freeQ E j=false) :
  Calls Tryz.prog 90 #[.slice (some ⟨b,0,none⟩) n c,.agg (En.cells e)] w (Says w (.tuple #[.slice none 0 0,.int .i64 0,.int .i64 5])):=by
 have hn:=hE.1
 have hg:=hide (World.grownBy_alloc w (.cells (En.cells e) 70) none)
 have hE':=hide (hE.on (uh hg))
 have hf':=hide hf
 obtain ⟨W,hW⟩:∃W,W=w.alloc (.cells (En.cells e) 70):=⟨_,rfl⟩
 rw [←hW] at hg hE'
 obtain ⟨k1,k2⟩:=hk
 have k3:¬e 0<1:=by omega
 have k4:¬4<e 0:=by omega
 have hW':=hide hW
 clear hE hf hW
 unfold En.cells at hW' ⊢
 go_enter Tryz.func90,Tryz.ntmps90
 go_wp2_with fail
 rw [←uh hW']
 clear hW' k1 k2 k3 k4
 go_loop [7] (fun i=>∃k:Nat,k≤n∧i=.int .i64 (k:Int)) (fun i=>40 - (intOf i).toNat)
 case atStart=>exact ⟨0,by omega,rfl⟩
 case round =>
  obtain ⟨k,hk,rfl⟩:=hrel
  by_cases hlt:k<n
  ·obtain ⟨u0,_⟩:=(uh hE').row hlt
   have hlt':(k:Int)<(n:Int):=by omega
   have h32:(k:Int)<32:=by omega
   have hz:(E k 0 == 0)=false:=by have:=uh hf' k hlt;simpa [En.freeQ] using this
   have HL:=hide hlt
   clear hlt
   go_wp2
   go_round
   case rel=>exact ⟨k+1,by have:=uh HL;omega,by go_num⟩
   case measure=>simp [intOf];omega
  ·have hge:¬(k:Int)<(n:Int):=by omega
   go_wp2
   go_ret3
   exact ⟨rfl,uh hg⟩

set_option maxRecDepth 8000 in
set_option maxHeartbeats 4000000 in
theorem refSpawn_some (b n c r:Nat) (E:Nat→Nat→Int) (e:Nat→Int) (w:World) (hE:Ents w b n E) (hk:1≤e 0∧e 0≤4) (hr:r<n) (hq:E r 0=0) (hf:∀j,j<r→En.freeQ E j=false) (hG:En.Gens n E) :
  Calls Tryz.prog 90 #[.slice (some ⟨b,0,none⟩) n c,.agg (En.cells e)] w (Spawns w n (En.put E r (En.gen e ((E r 1+1) % 256))) r):=by
 have hn:=hE.1
 have hg:=hide (World.grownBy_alloc w (.cells (En.cells e) 70) none)
 have hE':=hide (hE.on (uh hg))
 have hbox:=hide (Arr.lit (heap_alloc_new w (.cells (En.cells e) 70)))
 have hf':=hide hf
 obtain ⟨g0,g1⟩:=hG r hr
 obtain ⟨W,hW⟩:∃W,W=w.alloc (.cells (En.cells e) 70):=⟨_,rfl⟩
 have hWs:Hid (W.heap.size=w.heap.size+1):=by rw [hW];simp [Hid]
 rw [←hW] at hg hE' hbox
 obtain ⟨k1,k2⟩:=hk
 have k3:¬e 0<1:=by omega
 have k4:¬4<e 0:=by omega
 have hW':=hide hW
 have hbw:=hide hE.2.1
 obtain ⟨i0,hi,hz0,hz1,hz2⟩:=info_parts info_ent
 obtain ⟨G2,hG2⟩:∃G2,G2=(E r 1+1) % 256:=⟨_,rfl⟩
 have hst:Hid (∀(x:World) (g:Nat),Own x g n E→Own (x.setCells g (r*11) (En.cells (En.gen e G2)).toList) g n (En.put E r (En.gen e G2))):=fun x g h=>h.store r _
 have hgs:Hid (∀(x:World) (g:Nat),w.grownBy x none→w.heap.size≤g→w.grownBy (x.setCells g (r*11) (En.cells (En.gen e G2)).toList) none):=fun x g h hg=>own_sets hg _ _ x h
 obtain ⟨F,hF⟩:∃F,F=En.put E r (En.gen e G2):=⟨_,rfl⟩
 rw [←hF] at hst
 rw [←hG2,←hF]
 have hG2':=hide hG2
 have hq':=hide hq
 clear hE hf hW hG hF hG2 hq
 unfold En.cells at hW' hbox ⊢
 go_enter Tryz.func90,Tryz.ntmps90
 go_wp2_with fail
 rw [←uh hW']
 clear hW' k1 k2 k3 k4
 go_loop [7] (fun i=>∃k:Nat,k≤r∧i=.int .i64 (k:Int)) (fun i=>40 - (intOf i).toNat)
 case atStart=>exact ⟨0,by omega,rfl⟩
 case round =>
  obtain ⟨k,hk,rfl⟩:=hrel
  by_cases hlt:k<r
  ·obtain ⟨u0,_⟩:=(uh hE').row (k:=k) (by omega)
   have hlt':(k:Int)<(n:Int):=by omega
   have h32:(k:Int)<32:=by omega
   have hz:(E k 0 == 0)=false:=by have:=uh hf' k hlt;simpa [En.freeQ] using this
   have HL:=hide hlt
   clear hlt
   go_wp2
   go_round
   case rel=>exact ⟨k+1,by have:=uh HL;omega,by go_num⟩
   case measure=>simp [intOf];omega
  ·obtain rfl:k=r:=by omega
   obtain ⟨u0,u1,_⟩:=(uh hE').row hr
   rw [uh hq'] at u0
   have hlt':(k:Int)<(n:Int):=by omega
   have h32:(k:Int)<32:=by omega
   go_wp2_with (at_builtin;refine wpList_append_own _ rfl _ _ 27 rfl W.heap.size 70 i0 (.agg #[.int .i64 0,.int .i64 0,.int .i64 0,.int .i64 0,.int .i64 0,.int .i64 0,.int .i64 0,.int .i64 0,.int .i64 0,.int .i64 0,.int .i64 0]) 11 88 Tryz.underlying27 hi hz0 hz1 hz2 rfl (by decide) _ 0 [] rfl (World.ownsRow_made _ _ _ (Nat.le_refl _) (by decide) (by simp)) ⟨b,0,none⟩ n c (En.list n E) rfl (En.list_len n E) (En.flat_src (uh hE') (World.grownBy_alloc _ _ _)) En.list_one ?c4 ?c5 ?c6 ?_)
   case c4=>unfold maxLen;omega
   case c5=>omega
   try (case c6=>simp)
   intro v' w1 hown hgrow hnil
   obtain ⟨g,cap,rfl,hlo,hnc,hcm,hown1⟩:=Own.of_append hown hnil hn
   have hgW:=gow (World.grownBy_alloc W (.cells #[] 70) none) hgrow (by intro m hm;simp [Value.ownBlock] at hm;omega)
   have hgr1:=hide (gtr (uh hg) hgW)
   have hbox1:=hide ((uh hbox).grown hgW (by simp))
   have hlo':w.heap.size<g:=by have:=uh hWs;omega
   have hcapf:=hide (And.intro hlo' (And.intro hnc hcm))
   have hs1:w1.cell? ⟨b,k*11+1,none⟩=some (.int .i64 (E k 1)):=((uh hE').on hgW).2.2 k 1 hr (by omega)
   have hz:=fun j (hj:j<11)=>(uh hbox1).cell (i:=j) hj
   have z0:=hz 0 (by omega)
   have z1:=hz 1 (by omega)
   have z2:=hz 2 (by omega)
   have z3:=hz 3 (by omega)
   have z4:=hz 4 (by omega)
   have z5:=hz 5 (by omega)
   have z6:=hz 6 (by omega)
   have z7:=hz 7 (by omega)
   have z8:=hz 8 (by omega)
   have z9:=hz 9 (by omega)
   have z10:=hz 10 (by omega)
   simp only [List.getElem?_toArray,List.getElem?_cons_zero,List.getElem?_cons_succ,Option.getD_some] at z0 z1 z2 z3 z4 z5 z6 z7 z8 z9 z10
   have zf:=(uh hbox1).free 1
   have hown1':=hide hown1
   clear hown hgrow hnil hlo hnc hcm hown1 hi hz0 hz1 hz2 hgW hz u0 u1
   obtain ⟨w2,hw2⟩:∃w2,w2=w1.setCell ⟨w.heap.size,1,none⟩ (.int .i64 G2):=⟨_,rfl⟩
   have hown2:Hid (Own w2 g n E):=by
    have hne:w.heap.size≠g:=by omega
    obtain ⟨hn',m,F',hA,hm,hF'⟩:=uh hown1'
    obtain ⟨cur,q1,q2,q3⟩:=hA
    rw [hw2]
    exact ⟨hn',m,F',⟨cur,(heap_setCell_other w1 ⟨w.heap.size,1,none⟩ g _ hne.symm).trans q1,q2,q3⟩,hm,hF'⟩
   have hgr2:Hid (w.grownBy w2 none):=by rw [hw2];exact gsr (uh hgr1) ⟨w.heap.size,1,none⟩ (Nat.le_refl _) _
   obtain ⟨t0,t1,t2,t3,t4,t5,t6,t7,t8,t9,t10⟩:=(uh hown2).ents.row hr
   have f:=fun i=>(uh hown2).free i
   have hb2:=(uh hbox1).store 1 (.int .i64 G2)
   rw [←hw2] at hb2
   have y0:w2.cell? ⟨w.heap.size,0,none⟩=some (.int .i64 (e 0)):=hb2.cell (i:=0) (by show 0<11;omega)
   have y1:w2.cell? ⟨w.heap.size,1,none⟩=some (.int .i64 G2):=hb2.cell (i:=1) (by show 1<11;omega)
   have y2:w2.cell? ⟨w.heap.size,2,none⟩=some (.int .i64 (e 2)):=hb2.cell (i:=2) (by show 2<11;omega)
   have y3:w2.cell? ⟨w.heap.size,3,none⟩=some (.int .i64 (e 3)):=hb2.cell (i:=3) (by show 3<11;omega)
   have y4:w2.cell? ⟨w.heap.size,4,none⟩=some (.int .i64 (e 4)):=hb2.cell (i:=4) (by show 4<11;omega)
   have y5:w2.cell? ⟨w.heap.size,5,none⟩=some (.int .i64 (e 5)):=hb2.cell (i:=5) (by show 5<11;omega)
   have y6:w2.cell? ⟨w.heap.size,6,none⟩=some (.int .i64 (e 6)):=hb2.cell (i:=6) (by show 6<11;omega)
   have y7:w2.cell? ⟨w.heap.size,7,none⟩=some (.int .i64 (e 7)):=hb2.cell (i:=7) (by show 7<11;omega)
   have y8:w2.cell? ⟨w.heap.size,8,none⟩=some (.int .i64 (e 8)):=hb2.cell (i:=8) (by show 8<11;omega)
   have y9:w2.cell? ⟨w.heap.size,9,none⟩=some (.int .i64 (e 9)):=hb2.cell (i:=9) (by show 9<11;omega)
   have y10:w2.cell? ⟨w.heap.size,10,none⟩=some (.int .i64 (e 10)):=hb2.cell (i:=10) (by show 10<11;omega)
   have hw2':=hide hw2
   clear hb2
   clear hw2
   go_upto_region 9 with fail
   rw [←uh hG2',←uh hw2']
   clear hs1 z0 z1 z2 z3 z4 z5 z6 z7 z8 z9 z10 zf hw2'
   go_wp2
   go_ret3
   exact ⟨g,cap,rfl,Nat.le_of_lt (uh hcapf).1,(uh hcapf).2.1,(uh hcapf).2.2,uh hst _ _ (uh hown2),uh hgs _ _ (uh hgr2) (Nat.le_of_lt (uh hcapf).1)⟩


open Go.RowKit

structure Md.Good (c:Nat→Int) (E I:Nat→Nat→Int):Prop where
 fine:Md.Fine E
 gens:En.Gens 32 E
 words:Nv.Words 32 E
 ok:Gd.Ok c 40 I

theorem Md.good_of {c:Nat→Int} {E I:Nat→Nat→Int} (hE:Md.Fine E) (hz:∀k,k<32→(0≤E k 1∧E k 1≤255)∧(E k 0=0→E k 3=0∧E k 4=0)) (hok:Gd.Ok c 40 I):Md.Good c E I :=
 ⟨hE,fun k hk=>(hz k hk).1,fun k hk=>by
  by_cases k0:E k 0=0
  ·have:=(hz k hk).2 k0
   omega
  ·have:=hE k hk k0
   omega,hok⟩

end Go.Proofs.YtkcooekhigmioaaGreat
